import PyProof.Rows.All
import Wide.All
import Wide.FinOn
import Lean
import PyProof.EqAt
import PyProof.EqKinds
import PyProof.TupleCall
import KE.KDictList
import KE.KDictOf
import KE.KIntText
import KE.KItemsList
import KE.KNest
import KE.KSortKey
import KE.KSortTup
import KE.KTryMore
import PyProof.AttrMissHeap
import PyProof.AutoSeq1
import PyProof.ExcAttrAll.ValueError
import PyProof.FitsBits
import PyProof.MeetsStr2
import PyProof.MinMaxWalk
import PyProof.P3Eq
import PyProof.P3In
import PyProof.ReprLen
import PyProof.Rows.DictRows
import PyProof.Rows.Own
import PyProof.Rows.RuleB_bool
import PyProof.Rows.TupIter
import PyProof.SeqI3
import PyProof.StrBlockG
import PyProof.StrOps2
import PyProof.StrWalks
import PyProof.SumWalkG
import PyProof.TupleOfSeq
import PyProof.WalkInts
import KE.KNest
import KE.KDictList
import KE.KSortAsk
import KE.KSortKey
import KE.KTryMore
import PySem.Challenge.RW_allsome_k35_whole_picks_of_papers_are_go
set_option Elab.async false
set_option compiler.extract_closed false
set_option bootstrap.genMatcherCode false
set_option linter.all false
set_option maxRecDepth 100000
open PySem.Str renaming ofString → Ua
open PySem.Builtin.SmallTypes renaming ownedTupleIsFree → Ub, ownedTupleHandOut → Ud
open PySem.PyData renaming eqv → Uc, canLay0 → Tac, eqvAll → Tai, depth → Tan, canLayAll0 → Tbp, depthAll → Tbz, strOk → Tcl
open PySem.NameKind renaming free → Ue, cell → Taa
open PyProof.Rows renaming slot_tuple_getitem → Uf, callWith_type1 → Ug
open PySem renaming mem_of_lookup → Uh, sizeLine_eq → Uw, Spec → Tad, seqSlot_of → Tcm, call → Tcs
open PySem.F renaming slot_enumerate_next → Ui, slot_dict_keyiterator_next → Uk, slot_dict_setdefault → Uo, slot_tuple_iterator_next → Ur, slot_list_append → Ux, type_list_append → Uy, args_enumerate_next_1 → Tab, entry_enumerate_next → Tae, called_enumerate → Taf, type_dict_setdefault → Tag, slot_tuple_mul → Tak, args_tuple_add_2 → Tal, entry_tuple_add → Tao, slot_tuple_add → Taq, entry_enumerate_new → Tar, args_dict_keyiterator_next_1 → Tas, slot_bool_hash → Tat, entry_dict_keyiterator_next → Tau, args_tuple_iterator_next_1 → Taw, slot_int_rmul → Tba, entry_tuple_iterator_next → Tbc, slot_zip_next → Tbd, args_tuple_mul_2 → Tbk, entry_tuple_mul → Tbo, typeCall_enumerate_1 → Tbu, newCall_enumerate_1 → Tbw, slot_dict_len → Tbx, args_object_init_2 → Tcd, args_int_rmul_2 → Tci, args_zip_next_1 → Tck
open False renaming elim → Uj
open Ne renaming symm → Ul
open PySem.Value renaming none → Um, ref → Uu, type → Tbn, bool → Tca
open PySem.Builtin.List renaming listExtendWith → Uq, listTooLong → Tam
open PySem.Builtin.Slice renaming slicePlaces → Us, sliceAdjust → Taj, sliceApplied → Tbg
open Decidable renaming byContradiction → Ut
open PySem.Builtin.Tuple renaming tupleExact → Uv, tupleItemsOf → Tbh, tupleTooMany → Tbi, tupleIsExact → Tbj, tupleHashOf → Tbm
open PySem.Builtin.Range renaming rangeSize → Uz, small → Tcf
open ForInStep renaming yield → Tah
open PySem.Obj renaming data_mapFields → Tap, mapSeq → Tay, isFreed_of_fields → Tbv, data_mapDictKeys → Tce, cls_mapFields → Tcj
open Or renaming inr → Tav, inl → Tbb
open PySem.Builtin.Dict_items renaming ownsTuple → Tax
open True renaming intro → Taz
open PySem.PassesOwn renaming never → Tbe
open PySem.Calls renaming Name_function_global → Tbf, callWith_builtin → Tbt, evalArgs_plain → Tcc
open PySem.Code renaming quiet_builtin → Tbl
open PySem.Shared renaming heap → Tbq
open PySem.AutoSeq1 renaming idx_int → Tbr
open PyProof renaming noPylong_small → Tbs
open PySem.Builtin.Dict renaming showsAll → Tby
open PySem.Around renaming frames_deeper → Tcb
open Sum renaming inl → Tcg, inr → Tch
open PySem.W renaming OpenLaw → Tcn
open PySem.SeqAt.EqAt renaming bool_bool → Tco, int_bool → Tcp, bool_int → Tcq
open PySem.FuncBody renaming stmts → Tcr
open PySem.Paired renaming length → Tct
open PyProof.Rows.KskEnd renaming intro → Tcu
open PySem.IsRange renaming new → Tcv
open Lean in
local macro_rules (kind:=Lean.Parser.Command.declaration) | d=>do
 if d[0].getArgs.any (fun x=>x[0].isOfKind `Lean.Parser.Command.nonrec) then return d.setArg 0 (<- `(command| noncomputable def a:=1)).raw[0]
 else Macro.throwUnsupported
open PySem renaming wpAny_bind → Va, Value → Vb, wpAny_pure → Vc, Shared → Vd, Addr → Ve, wpAny → Vf, starEach → Vg, Program → Vh, wpAny_callSpecial?_slot → Vi, Paired → Vj, wpAny_setField_rec → Vk, mainGlobals → Vl, model → Vm, wpAny_field → Vn, wpAny_loadPart' → Vo, wpAny_call_entry → Vp, bootBuiltins → Vq, compareOp → Vr, wpAny_newObj_type → Vs, Around → Vt, World → Vu, Expr → Vv, wpAny_holding → Vw, foldedSetIterable → Vx, binaryOp → Vy, Heap → Vz, rawInt → Uaa, Stmt → Uab, wpAny_typeNameOfWhole_keyiter → Uac, lookup_relabel_local → Uad, sysModules → Uae, wpAny_truthy_bool → Uaf, wpAny_pyIter_tuple → Uag, wpAny_seqItems → Uah, wpAny_passesOwn → Uai, DictEntry → Uaj, wpAny_pyIter_list → Uak, backTo → Ual, PyData → Uam, wpAny_attempt → Uan, wpAny_mono → Uao, assignEach → Uap, wpAny_Call_Name_kw → Uaq, FuncData → Uar, wpAny_pyIter_enum → Uas, wpAny_dictEntries → Uat, IsEnum → Uau, IsPair → Uaw, codeAny_mono → Uax, wpAny_comprehension_free → Uay, tupleKind → Uaz, behindInMarks → Uba, NameKind → Ubb, codeAny_builtin → Ube, sizeLine_eq → Ubf, sliceBounds → Ubg, keywordEach → Ubh, wpAny_rule → Ubi, pyNext → Ubj, wpAny_isInstance → Ubk, wpAny_updateSeq_pair → Ubl, Scope → Ubm, wpAny_standAt → Ubn, call_meets → Ubo, wpAny_letGo → Ubp, wpAny_newFunctionEnv_cells → Ubq, wpAny_letOwnedTupleGo_enum → Ubr, compEnvC → Ubs, tupleKind_room_in1 → Ubt, wpAny_binaryOp_repeat_ref → Ubu, wpAny_setField → Ubv, firstArgMember → Ubw, isSubtype_stop → Ubx, bindArgs → Uby, Keyword → Ubz, wpAny_newList → Uca, wpAny_onRaise → Ucb, noFill_tuple_add → Ucc, wpAny_pyNext_range_end → Ucd, wpAny_pyIter_rangeiter → Uce, wpAny_Call_method_late → Ucg, codeAny_compStart_list → Uch, wpAny_execs_nil → Uck, swapsWith → Ucl, letOwnedTupleGo → Ucm, codeAny → Ucn, codeAny_call_function → Uco, wpAny_typeOf → Ucp, IsEnumOut → Ucq, wpAny_stack_any → Ucr, wpAny_notOrdered_dict → Ucs, wpAny_dictEpoch → Uct, wpAny_isOneOf_keyiter → Ucu, typeIs_int → Ucv, backToKw → Ucw, wpAny_loadName_local → Ucx, wpAny_newFunctionEnv → Ucy, wpAny_pyIter_keyiter → Ucz, codeAny_call_builtin → Uda, assign → Udd, wpAny_newTuple → Ude, dictSetDefault → Udg, wpAny_loadName_cell → Udh, holding → Udi, IsRangeIter → Udj, getItem → Udk, field → Udl, IsZip → Udn, seq_tuple_add → Udo, IsPart → Udp, attributeBase → Udq, setField → Udr, sub_enumerate → Uds, ZipApart → Udt, callerA → Udu, concat_meets → Udx, callType_new → Udy, Operator → Uea, callWith → Ueb, hashInt → Uec, storeName → Ued, PassesOwn → Uee, cellsFrom → Uef, Arguments → Ueg, wpAny_of_eq → Ueh, wpAny_mkInt → Uei, storedH → Uej, Meets → Uek, stored → Uel, newList → Uen
open PyProof.Rows renaming seqObj → Uav, envOfC → Ubc, IntsAre → Ubd, subscriptTail_builtinR → Ucf, call_function_entry_kw → Uci, AllBare → Ucj, entry_proto_collect' → Udb, callWith_builtin_kwB → Udc, boot_enumerate → Udf, wpAny_call_entry_kw → Udm, call_abs_int → Udw, evalArgs_kwB → Udz, IsTup → Uem
open PySem.W renaming tabIn → Udv
open PySem.Heap renaming get?_push_of_some → Xa, get?_push_size → Xd, lt_size → Xf, SameBut → Xy, size_push → Wan, get?_update_self → Wda, ExtBut → Wdo
open PySem.W renaming Frag → Xb, fnOf → Wav, kia_one → Wbv, keepIn → Wcc, codeIn → Wcj, nsIn → Wcn, cellsFrom_some → Wct, methodObj → Wdy, callWith_K → Wev, codeRec_of → Wew, mg_of → Wex, kitx_list → Wff, WalkO → Wfy
open List renaming getElem?_eq_some_iff → Xc, getElem?_append_left → Xg, mem_cons → Xj, getElem?_eq_getElem → Xk, mem_of_getElem? → Xl, size_toArray → Xm, getElem?_map → Xn, map_cons → Xo, length_append → Xp, replicate → Xq, getElem?_append_right → Xr, mem_append_right → Xs, length_map → Xu, all_eq_true → Xv, mem_append → Xx, append_assoc → Xz, mem_map → Waa, getElem_mem → Wab, append_nil → Wad, exists_cons_of_length_eq_add_one → Wae, lookup_cons → Wag, mem_filter → Wah, mem_cons_of_mem → Waj, getElem?_set_ne → Wak, drop_eq_getElem_cons → Wao, map_append → Wap, length_filter_le → Waq, any_eq_true → War, mem_append_left → Wat, getElem?_set_self → Waw, getLast?_eq_some_iff → Wax, nodup_append → Way, nodup_cons → Wba, mem_singleton → Wbb, filter_cons_of_neg → Wbc, length_take → Wbd, getD_eq_getElem?_getD → Wbe, replicate_succ → Wbf, filter_sublist → Wbh, length_singleton → Wbi, map_map → Wbj, length → Wbl, getElem?_replicate → Wbm, cons → Wbo, find?_cons_of_neg → Wbp, mem_iff_getElem? → Wbq, getElem?_eq_none → Wbr, flatten_cons → Wbs, any_eq_false → Wbt, find?_cons → Wbw, getElem?_cons_succ → Wby, filter_cons_of_pos → Wbz, not_mem_nil → Wcb, mem_cons_self → Wcd, zip_cons_cons → Wce, length_nil → Wcf, set_getElem_self → Wcg, getElem?_concat_length → Wch, mem_range → Wci, getElem?_take_of_lt → Wcm, mem_filterMap → Wco, of_mem_zip → Wcp, nil_append → Wcq, all_cons → Wcr, length_eq_zero_iff → Wcs, drop_eq_nil_of_le → Wcu, find?_cons_of_pos → Wcw, getElem?_set → Wcx, take_left → Wcy, map_nil → Wcz, length_cons → Wdb, cons_append → Wdc, take_append_of_le_length → Wdd, getElem_map → Wde, mem_flatMap → Wdf, mem_of_getLast? → Wdg, mem_iff_getElem → Wdh, getLast?_append → Wdi, any_cons → Wdk, range → Wdl, filterMap_cons → Wdm, map_congr_left → Wdp, filter_map → Wdq, exists_cons_of_ne_nil → Wdr, pairwise_cons → Wdt, lookup_append → Wdu, getLast?_cons → Wdv, getElem?_zip_eq_some → Wdw, mem_of_find?_eq_some → Wdx, foldl → Wdz, pairwise_map → Wea, reverse_cons → Web, length_drop → Wed, drop_of_length_le → Wef, range_succ_eq_map → Weg, length_replicate → Weh, forIn_cons → Wei, take_append_drop → Wen, lookup → Weq, getElem_of_mem → Wer, mem_map_of_mem → Wet, set → Wez, map_drop → Wfa, filter_append → Wfb, take_sublist → Wfd, getElem?_inj → Wfe, ext_getElem? → Wfg, getElem_take → Wfi, flatMap_cons → Wfj, any_map → Wfm, getElem_inj → Wfo, zipIdx_cons → Wfq, zipIdx_nil → Wfu, find?_some → Wfv, all_append → Wfw, forIn_nil → Wfx
open Nat renaming le_refl → Xe, ne_of_lt → Xh, lt_of_lt_of_le → Xi, le_trans → Wac, lt_irrefl → Was, zero_le → Wbg, ne_of_gt → Wbn, lt_succ_of_lt → Wbu, pow_le_pow_right → Wdj, le_of_lt → Wds, le_succ → Wec, succ_ne_self → Wee, pow_succ → Weo, mul_le_mul_left → Weu, one_le_two_pow → Wfc, mul_comm → Wfk, add_zero → Wfl, sub_self → Wfn, succ_le_succ → Wfr, not_lt_zero → Wft
open Option renaming some → Xw, isSome_iff_exists → Wai, map_some → Wej, isSome_map → Wfh, getD_none → Wfp, getD_some → Wfs
open Bool renaming and_eq_true → Waf, false_eq_true → Wam, false_ne_true → Waz, or_eq_true → Wek, eq_iff_iff → Wel, and_eq_true_iff → Wep
open Int renaming toNat_natCast → Wal, emod_lt_of_pos → Wbk, emod_nonneg → Wbx, toNat_of_nonneg → Wca, le_refl → Wcl
open Prod renaming mk → Wau
open Array renaming getElem?_eq_getElem → Wck, getElem?_eq_none → Wcv, length_toList → Wdn, getElem?_toList → Wem, toList_append → Wes, empty_append → Wey
theorem Zo {α β:Type} {x:Option α} {f:α->Option β} {b:β} (h:x.bind f=some b):∃ a,x=some a/\f a=some b:=Option.bind_eq_some_iff.1 h
theorem Zm {α β:Type} {x:Option α} {f:α->β} {b:β} (h:x.map f=some b):∃ a,x=some a/\f a=b:=Option.map_eq_some_iff.1 h
theorem Zb {α β:Type} (a:α) (f:α->Option β):(some a).bind f=f a:=rfl
namespace PySem.W
open PySem
/-! the top run on a tree -/
def treeOf:List Obj->Nat->BT->Option BT
  | [],_,t=>some t
  | o::r,i,t=>match ((t.ins i o).get i).isSome with
    | true=>treeOf r (i+1) (t.ins i o)
    | false=>none
theorem treeOf_abs {life}:∀ (l:List Obj) (i:Nat) (t T:BT),treeOf l i t=some T->absHeap T (i+l.length) life=⟨(absHeap t i life).objs++l.toArray,life⟩
  | [],i,t,T,h=>by cases h; simp[absHeap]
  | o::r,i,t,T,h=>by
    unfold treeOf at h
    cases e:((t.ins i o).get i).isSome with
    | false=>rw[e] at h; cases h
    | true =>
      rw[e] at h
      have a:=treeOf_abs (life:=life) r (i+1) (t.ins i o) T h
      rw[absHeap_ins e] at a
      rw[List.length_cons,show i+(r.length+1)=i+1+r.length by omega,a]
      simp[Heap.push]
def topRunT (tb:String->Option Builtin) (p:Program) (w:World) (n₀:Nat) (ann:Option Value):Nat->SharedT->Thread->Option SharedT
  | 0,_,_=>none
  | n+1,s,t=>match through t with
    | true=>some s
    | false=>match stepOk n₀ ann t with
      | false=>none
      | true=>match stepT (denote tb) p w s t with
        | some (s',t')=>topRunT tb p w n₀ ann n s' t'
        | none=>none
theorem topRun_of {tb:String->Option Builtin} {p:Program} {w:World} {n₀:Nat} {ann:Option Value}:∀ {n:Nat} {s s':SharedT} {t:Thread},topRunT tb p w n₀ ann n s t=some s'->topRun tb p w n₀ ann n s.abs t=some s'.abs
  | 0,_,_,_,h=>by cases h
  | n+1,s,s',t,h=>by
    unfold topRunT at h
    unfold topRun
    cases he:through t with
    | true=>rw[he] at h; cases h; rfl
    | false =>
      rw[he] at h
      cases hk:stepOk n₀ ann t with
      | false=>rw[hk] at h; cases h
      | true =>
        rw[hk] at h
        cases hs:stepT (denote tb) p w s t with
        | none=>rw[hs] at h; cases h
        | some r=>obtain⟨s₂,t₂⟩:=r; rw[hs] at h; rw[stepT_spec hs]; exact topRun_of h
def topT (tb:String->Option Builtin) (p:Program) (w:World) (N:Nat) (s₀:Shared):Option Shared :=
  match s₀.heap.isNs mainGlobals&&s₀.gens.size==0 with
  | true=>(treeOf s₀.heap.objs.toList 0 .nil).bind fun T=>(topRunT tb p w s₀.heap.objs.size (s₀.heap.nsMap mainGlobals "__annotations__") N ⟨T,s₀.heap.objs.size,s₀.heap.life,s₀.gens,s₀.drawn,s₀.toks,s₀.os⟩ (topStub p)).bind fun s₁ =>
    match staticsOk (importedModules p.main.body) s₀.heap s₁.abs.heap&&namesBound p s₁.abs.heap&&gensDone s₁.abs&&laidKept s₀.heap s₁.abs.heap with
    | true=>some s₁.abs
    | false=>none
  | false=>none
theorem topT_of {tb:String->Option Builtin} {p:Program} {w:World} {N:Nat} {s₀ r:Shared} (h:topT tb p w N s₀=some r):topFrom tb p w N s₀=some r:=by
  unfold topT at h
  unfold topFrom
  cases e:(s₀.heap.isNs mainGlobals&&s₀.gens.size==0) with
  | false=>rw[e] at h; cases h
  | true =>
    rw[e] at h
    obtain⟨T,h1,h⟩:=Option.bind_eq_some_iff.mp h
    obtain⟨s₁,h2,h⟩:=Option.bind_eq_some_iff.mp h
    have a:=treeOf_abs (life:=s₀.heap.life) _ _ _ _ h1
    have b:=topRun_of h2
    have c:(SharedT.mk T s₀.heap.objs.size s₀.heap.life s₀.gens s₀.drawn s₀.toks s₀.os).abs=s₀:=by
      unfold SharedT.abs
      have z:absHeap T s₀.heap.objs.size s₀.heap.life=s₀.heap:=by
        have a':=a
        rw[Nat.zero_add] at a'
        rw[show s₀.heap.objs.size=s₀.heap.objs.toList.length by simp,a']
        obtain⟨⟨objs,life⟩,g,d,t,o⟩:=s₀
        simp[absHeap,BT.list]
      show Shared.mk (absHeap T s₀.heap.objs.size s₀.heap.life) s₀.gens s₀.drawn s₀.toks s₀.os=s₀
      rw[z]
    rw[c] at b
    rw[b]
    exact h
end PySem.W
section
open PySem PySem.W PyProof.Rows
nonrec def PySem.Challenge.vwOf (p:Vh):Vh:={ p with main:={ p.main with body:=[1,2,3,4,5,7,8,9,11,12,13,14,15,16,17,19,20,21,22,23,25,26,27,28,29,30,31,32,33,34,35,36,37,38,40,41,43,44,45,46,47,48,50,51,52,54,55,56,57,58,59,60,61,62,63,64,65,66].filterMap fun i=>p.main.body[i]? } }
local macro_rules | `(tactic| o_head $_) => `(tactic| exact Uj (by assumption))
set_option maxRecDepth 100000 in
set_option maxHeartbeats 0 in
theorem PySem.Challenge.mk0:False->PySem.Challenge.rw_allsome_k35_whole_picks_of_papers_are_go.Holds:=by
 intro f; w_on; o_law; k_head
nonrec def PySem.Challenge.hk0:Hook:=kHook PySem.Challenge.mk0.heap_39 [2,3,15,16,18,19,21,22,23,25,26,28,29,30,32,33,35,36,37,39,40,42,43,44,51,52,53,54,57,64,66,67,69,70,71,72,73,76,83,84,85,88,90,91,93,94,95,97,98,100,101,102,104,105,107,108,109,111,112,114,115,116,118,119,121,122,123,125,126,128,129,130,133,134,135,138,139,140,142,143,145,146,147,149,150,152,153,154,156,157,159,160,161,163,164,166,167,168,170,171,173,174,175,177,178,180,181,182,184,185,187,188,189,192,193,194,196,197,199,200,201,203,204,206,207,208,210,211,213,214,215,217,218,220,221,222,224,225,227,228,229,231,232,234,235,236,238,239,241,242,243,245,246,248,249,250,252,253,255,256,257,260,261,262,264,265,267,268,269,271,272,274,275,276,279,280,281,283,284,286,287,288,290,291,293,294,295,297,298,300,301,302,304,305,307,308,309,311,312,314,315,316,319,320,321,324,325,326,328,329,331,332,333,335,336,338,339,340,342,343,345,346,347,349,350,352,353,354,356,357,359,360,361,363,364,366,367,368,371,372,373,375,376,378,379,380,382,383,385,386,387,390,391,392,394,395,397,398,399,401,402,404,405,406,408,409,411,412,413,415,416,418,419] (fun _=>by kernel_rfl)
nonrec def PySem.Challenge.xt0 (s:Vd):Bool:=xlAt (PySem.Challenge.vwOf PySem.Challenge.pw_allsome_k35_whole_picks_of_papers_are_go) [] s&&recOk (RowW.records (OpenRow.toRowW (OpenLaw.row PySem.Challenge.rw_allsome_k35_whole_picks_of_papers_are_go))) s
set_option maxRecDepth 100000 in
theorem PySem.Challenge.left123456789 (w:World) (os:OsState):(topT treeTable (OpenLaw.row PySem.Challenge.rw_allsome_k35_whole_picks_of_papers_are_go).prog w 4970 ⟨boot_heap w.params,Array.mk [],boot_drawn,boot_toks,os⟩).map (fun s=>openSeen (PySem.Challenge.vwOf PySem.Challenge.pw_allsome_k35_whole_picks_of_papers_are_go) [] (importedModules (OpenLaw.row PySem.Challenge.rw_allsome_k35_whole_picks_of_papers_are_go).prog.main.body) PySem.Challenge.xt0 true s)=some (openGood (PySem.Challenge.vwOf PySem.Challenge.pw_allsome_k35_whole_picks_of_papers_are_go) []):=by
 unfold PySem.Challenge.xt0
 try rewrite[PySem.W.Fast.te4187177175401517315]
 try rewrite[PySem.W.Fast.te5923862056798008813]
 try rewrite[PySem.W.Fast.te2368527892694137696]
 try rewrite[PySem.W.Fast.te2766577256082218832]
 try rewrite[PySem.W.Fast.te11587132186227859712]
 try rewrite[PySem.W.Fast.te14364793385576792824]
 kernel_rfl
set_option maxRecDepth 100000 in
theorem PySem.Challenge.leftc (w:World) (os:OsState):(topT treeTable (OpenLaw.row PySem.Challenge.rw_allsome_k35_whole_picks_of_papers_are_go).prog w 4970 ⟨boot_heap w.params,Array.mk [],boot_drawn,boot_toks,os⟩).map (fun s=>PySem.Challenge.hk0.obs s)=some (PySem.Challenge.hk0.val w):=by
 try rewrite[PySem.W.Fast.te4187177175401517315]
 try rewrite[PySem.W.Fast.te5923862056798008813]
 try rewrite[PySem.W.Fast.te2368527892694137696]
 try rewrite[PySem.W.Fast.te2766577256082218832]
 try rewrite[PySem.W.Fast.te11587132186227859712]
 try rewrite[PySem.W.Fast.te14364793385576792824]
 kernel_rfl
theorem PySem.Challenge.left0:LeftO (OpenLaw.row PySem.Challenge.rw_allsome_k35_whole_picks_of_papers_are_go).prog (PySem.Challenge.vwOf PySem.Challenge.pw_allsome_k35_whole_picks_of_papers_are_go) [] PySem.Challenge.xt0 PySem.Challenge.hk0.obs PySem.Challenge.hk0.val 4970:=fun w=>by
 obtain⟨⟨h,g,d,t,os⟩,hs,hv⟩:=Option.map_eq_some_iff.mp (boot_open (p:=(OpenLaw.row PySem.Challenge.rw_allsome_k35_whole_picks_of_papers_are_go).prog) (N:=4970) (by kernel_rfl) (by kernel_rfl) (fun s=>by kernel_rfl) w)
 obtain⟨e1,hv⟩:=Prod.mk.inj (show (h,g,d,t)=_ from hv)
 obtain⟨e2,hv⟩:=Prod.mk.inj hv
 obtain⟨e3,e4⟩:=Prod.mk.inj hv
 subst e1; subst e2; subst e3; subst e4
 obtain⟨r,h1,hc⟩:=Option.map_eq_some_iff.mp (PySem.Challenge.leftc w os)
 have h123456789:=PySem.Challenge.left123456789 w os
 rw[h1,Option.map_some] at h123456789
 replace h123456789:=Option.some.inj h123456789
 unfold openEnds
 rw[hs,Option.bind_some,topT_of h1]
 exact congrArg some (Prod.ext h123456789 hc)
end
namespace L2
open PySem PySem.Spec PyProof.Rows
nonrec abbrev Key:=Sum Int Str
nonrec def Ydh:Key->Vb->Bool
 | .inl k,v=>Value.isInt k v
 | .inr x,v=>Value.isStrOf x v
nonrec def keyH (w:Vu):Key->Int
 | .inl k=>Uec k
 | .inr x=>hashStr w x
theorem Zbq:∀ {k:Key} {v:Vb},Ydh k v=true->(∃ i t,k=Tcg i/\v=Value.int i t)\/(∃ x t,k=Tch x/\v=Value.str x t)
 | .inl i,v,h=>by
  obtain⟨t,e⟩:=Value.isInt_shape (k:=i) (v:=v) h
  exact .inl ⟨i,t,rfl,e⟩
 | .inr x,v,h=>by
  obtain⟨t,e⟩:=Value.isStrOf_shape (x:=x) (v:=v) h
  exact .inr ⟨x,t,rfl,e⟩
theorem Ybk (a b:Int):decide ((Tcg a:Key)=Tcg b)=(a==b):=by
 by_cases e:a=b
 ·subst e; simp
 ·have h:¬ (Tcg a:Key)=Tcg b:=fun q=>e (Sum.inl.inj q)
  rw[decide_eq_false h]
  exact(beq_eq_false_iff_ne.mpr e).symm
theorem Yc4 (a b:Str):decide ((Tch a:Key)=Tch b)=decide (a=b):=by
 by_cases e:a=b
 ·subst e; simp
 ·have h:¬ (Tch a:Key)=Tch b:=fun q=>e (Sum.inr.inj q)
  rw[decide_eq_false h,decide_eq_false e]
theorem Yed (a:Int) (b:Str):decide ((Tcg a:Key)=Tch b)=false:=decide_eq_false (fun q=>nomatch q)
theorem Ydr (a:Str) (b:Int):decide ((Tch a:Key)=Tcg b)=false:=decide_eq_false (fun q=>nomatch q)
nonrec def Zol (prog:Vh) (w:Vu):PySem.KeyKind prog w Key where
 is:=Ydh
 hash:=keyH w
 inj:=fun v a b ha hb=>by
  rcases Zbq ha with ⟨i,t,rfl,rfl⟩ | ⟨x,t,rfl,rfl⟩
  ·rcases Zbq hb with ⟨j,u,rfl,e⟩ | ⟨y,u,rfl,e⟩
   ·injection e with e1 _; rw[e1]
   ·exact nomatch e
  ·rcases Zbq hb with ⟨j,u,rfl,e⟩ | ⟨y,u,rfl,e⟩
   ·exact nomatch e
   ·injection e with e1 _; rw[e1]
 byValue:=fun k v h=>by
  rcases Zbq h with ⟨i,t,rfl,rfl⟩ | ⟨x,t,rfl,rfl⟩<;>rfl
 pyHash:=fun hv h=>by
  rcases Zbq hv with ⟨i,t,rfl,rfl⟩ | ⟨x,t,rfl,rfl⟩
  ·exact wpAny_pyHash_int h
  ·exact wpAny_pyHash_str h
 eqBool:=fun hu hv h=>by
  rcases Zbq hu with ⟨i,t,rfl,rfl⟩ | ⟨x,t,rfl,rfl⟩
  ·rcases Zbq hv with ⟨j,u,rfl,rfl⟩ | ⟨y,u,rfl,rfl⟩
   ·rw[Ybk] at h; exact wpAny_eqBool_int h
   ·rw[Yed] at h; exact SeqAt.EqAt.int_str i t y u _ _ _ _ h
  ·rcases Zbq hv with ⟨j,u,rfl,rfl⟩ | ⟨y,u,rfl,rfl⟩
   ·rw[Ydr] at h; exact SeqAt.EqAt.str_int x t j u _ _ _ _ h
   ·rw[Yc4] at h; exact wpAny_eqBool_str h
 «strs»:=fun k x t v h=>by
  rcases Zbq h with ⟨i,u,rfl,e⟩ | ⟨y,u,rfl,e⟩
  ·exact nomatch e
  ·injection e with e1 _
   subst e1
   cases v<;>rfl
inductive V where
 | non | bl (b:Bool) | int (i:Int) | str (x:Str) | byt (b:Array UInt8) | flt (b:UInt64) | ref (a:Ve) | ty (n:String)
nonrec def Zcg:V->Vb->Prop
 | .non,u=>u=Um
 | .bl b,u=>u=Tca b
 | .int i,u=>∃ t,u=Value.int i t
 | .str x,u=>∃ t,u=Value.str x t
 | .byt b,u=>∃ t,u=Value.bytes b t
 | .flt b,u=>∃ t,u=Value.float b t
 | .ref a,u=>u=Uu a
 | .ty n,u=>u=Tbn n
nonrec abbrev Zb7:List V->List Vb->Prop:=Vj Zcg
theorem Zb7.length {xs:List V} {us:List Vb} (r:Zb7 xs us):xs.length=us.length:=Tct r
theorem Zb7.get:∀ {xs:List V} {us:List Vb} {i:Nat} {x:V},Zb7 xs us->xs[i]? = some x->∃ u,us[i]? = some u/\Zcg x u
 | _,_,_,_,.nil,e=>by simp at e
 | _,_,0,_,.cons r _,e=>by simp at e; subst e; exact⟨_,rfl,r⟩
 | _,_,i+1,x,.cons _ t,e=>by
  obtain⟨u,h1,h2⟩:=Zb7.get (i:=i) (x:=x) t (by simpa using e)
  exact⟨u,by simpa using h1,h2⟩
theorem Zb7.append:∀ {xs ys:List V} {us ws:List Vb},Zb7 xs us->Zb7 ys ws->Zb7 (xs++ys) (us++ws)
 | _,_,_,_,.nil,s=>s
 | _,_,_,_,.cons r t,s=>.cons r (Zb7.append t s)
theorem Zb7.take:∀ {xs:List V} {us:List Vb} (n:Nat),Zb7 xs us->Zb7 (xs.take n) (us.take n)
 | _,_,0,_=>.nil
 | _,_,_+1,.nil=>.nil
 | _,_,n+1,.cons r t=>.cons r (Zb7.take n t)
theorem Zb7.drop:∀ {xs:List V} {us:List Vb} (n:Nat),Zb7 xs us->Zb7 (xs.drop n) (us.drop n)
 | _,_,0,r=>r
 | _,_,_+1,.nil=>.nil
 | _,_,n+1,.cons _ t=>Zb7.drop n t
nonrec def RelO:Option V->Option Vb->Prop
 | some v,some u=>Zcg v u
 | none,none=>True
 | _,_=>False
nonrec def KV {κ:Type}:List (κ×V)->List (κ×Vb)->Prop:=Vj fun(p:κ×V) (q:κ×Vb)=>p.1=q.1/\Zcg p.2 q.2
nonrec def kV:Key->V
 | .inl i=>.int i
 | .inr x=>.str x
inductive HO where
 | lst (xs:List V)
 | tup (xs:List V)
 | dK (kvs:List (Key×V)) | dT (kvs:List (List Key×V))
 | set (S:Int->Bool) (n:Nat)
 | ins (C dx:Ve) (fs:List (Str×V))
 | own (x:Ve)
 | xd (fs:List (Str×V))
 | met (f x:Ve)
 | rng (lo hi:Int)
 | frz (o:Obj) (u:HO)
 | tbl (ps:Array Vb)
 | ext (φ:Vz->Prop)
nonrec abbrev Hp:=Ve->Option HO
nonrec def upd (H:Hp) (a:Ve) (o:HO):Hp:=fun b=>if b=a then some o else H b
theorem Zaq {H:Hp} {a:Ve} {o:HO}:upd H a o a=some o:=by unfold upd; rw[if_pos rfl]
theorem Zag {H:Hp} {a b:Ve} {o:HO} (h:b≠a):upd H a o b=H b:=by unfold upd; rw[if_neg h]
theorem Zmk {H:Hp} {a b:Ve} {o u:HO} (h:H a=some o) (h':H b=some u) (d:o≠u):a≠b:=by
 intro e; subst e; rw[h] at h'; exact d (Xw.inj h')
theorem Zai {H:Hp} {a b:Ve} {o:HO} (h:H a=some o) (h':H b=none):a≠b:=by
 intro e; subst e; rw[h] at h'; cases h'
def Zkw (h:Vz) (a:Ve) (items:Array Vb):Prop:=∃ o,h.get? a=some o/\o.cls=.type "tuple" /\ (∃ n,o.data=.seq items n)/\o.dict=none
theorem Zkw.new (h:Vz) (items:Array Vb):Zkw (h.push { cls:=.type "tuple",data:=.seq items }) h.objs.size items:=⟨_,Xd _ rfl,rfl,⟨_,rfl⟩,rfl⟩
theorem Zkw.tup {h:Vz} {a:Ve} {items:Array Vb} (x:Zkw h a items):Uem h a items:=let ⟨o,e,c,d,_⟩:=x; ⟨o,e,c,d⟩
section
variable (P:Vh) (w:Vu)
nonrec def Zc5 (H:Hp) (h:Vz) (a:Ve):HO->Prop
 | .lst xs=>xs.length<=sizeLine/\∃ (its:List Vb) (n:Nat),Zb7 xs its/\h.get? a=some { cls:=.type "list",data:=.seq its.toArray n }
 | .tup xs=>xs.length<=sizeLine/\∃ its:List Vb,Zb7 xs its/\Zkw h a its.toArray
 | .dK kvs=>kvs.length<=sizeLine/\(a==Uae)=false/\∃ vs,KV kvs vs/\h.DictOf (Zol P w) a vs
 | .dT kvs=>kvs.length<=sizeLine/\(a==Uae)=false/\∃ xs:List (List Key×Ve×Vb),
   Vj (fun(p:List Key×V) (q:List Key×Ve×Vb)=>p.1=q.1/\H q.2.1=some (.tup (p.1.map kV))/\Zcg p.2 q.2.2) kvs xs /\
   ∃ o es ep,h.get? a=some o/\o.ExactDict/\o.data=.dict es ep/\es.toList=xs.map (entryOfKey (Uaz (Zol P w)))/\(xs.map (·.1)).Nodup
 | .set S n=>h.SetOf (intKind P w) a S n
 | .ins C dx fs=>H dx=some (.own a)/\fs.length<=1000/\dx≠a/\h.get? a=some (PySem.W.instObj C dx) /\
   ∃ mA,h.Ns1 dx mA/\(∀ f,RelO (fs.lookup f) (mA f))/\PySem.Within mA (fs.map (·.1))
 | .own _=>∃ o,h.get? a=some o
 | .xd fs=>∃ mA,h.Ns1 a mA/\∀ f,RelO (fs.lookup f) (mA f)
 | .rng lo hi=>∃ t u v,h.get? a=some { cls:=.type "range",data:=.fields #[.int lo t,.int hi u,.int 1 v] }
 | .frz o u=>h.get? a=some o/\Zc5 H h a u
 | .tbl ps=>h.get? a=some { cls:=.none,data:=.fields ps }
 | .met f x=>h.get? a=some (Wdy (.ref f) (.ref x))
 | .ext φ=>φ h/\(∃ o,h.get? a=some o)/\∀ h1 h2:Vz,φ h1->(∀ o,h1.get? a=some o->h2.get? a=some o)->φ h2
def HOk (H:Hp) (h:Vz):Prop:=∀ a o,H a=some o->Zc5 P w H h a o
end
section
variable {P:Vh} {w:Vu} {H H':Hp} {h h':Vz} {a:Ve} {o:HO}
theorem Zc5.lt (x:Zc5 P w H h a o):a<h.objs.size:=by
 cases o with
 | lst xs=>obtain⟨_,_,_,_,e⟩:=x; exact Xf e
 | tup xs=>obtain⟨_,_,_,p⟩:=x; exact p.tup.lt
 | dK kvs=>obtain⟨_,_,_,_,o,_,_,e,_⟩:=x; exact Xf e
 | dT kvs=>obtain⟨_,_,_,_,o,_,_,e,_⟩:=x; exact Xf e
 | set S n=>obtain⟨o,_,_,_,e,_⟩:=x; exact Xf e
 | ins C dx fs=>obtain⟨_,_,_,e,_⟩:=x; exact Xf e
 | own y=>obtain⟨_,e⟩:=x; exact Xf e
 | xd fs=>obtain⟨_,⟨_,_,_,e,_⟩,_⟩:=x; exact Xf e
 | rng lo hi=>obtain⟨_,_,_,e⟩:=x; exact Xf e
 | frz ob u=>obtain⟨e,_⟩:=x; exact Xf e
 | tbl ps=>exact Xf (show h.get? a=some _ from x)
 | met f y=>exact Xf (show h.get? a=some _ from x)
 | ext φ=>obtain⟨_,⟨_,e⟩,_⟩:=x; exact Xf e
theorem Paired.mapP {α β:Type} {F G:α->β->Prop}:∀ {l₁:List α} {l₂:List β},Vj F l₁ l₂->(∀ a b,F a b->G a b)->Vj G l₁ l₂
 | _,_,.nil,_=>.nil
 | _,_,.cons r t,f=>.cons (f _ _ r) (Paired.mapP t f)
theorem Zc5.stay (x:Zc5 P w H h a o) (k:∀ b u,(b=a\/H b=some (.own a))->h.get? b=some u->h'.get? b=some u)
  (ho:∀ b,H b=some (.own a)->H' b=some (.own a)) (ht:∀ b xs,H b=some (.tup xs)->H' b=some (.tup xs)):Zc5 P w H' h' a o:=by
 induction o with
 | lst xs=>obtain⟨z,its,n,r,e⟩:=x; exact⟨z,its,n,r,k _ _ (.inl rfl) e⟩
 | tup xs=>obtain⟨z,its,r,ob,e,c⟩:=x; exact⟨z,its,r,ob,k _ _ (.inl rfl) e,c⟩
 | dK kvs=>obtain⟨z,y,vs,r,ob,es,ep,e,c⟩:=x; exact⟨z,y,vs,r,ob,es,ep,k _ _ (.inl rfl) e,c⟩
 | dT kvs =>
  obtain⟨z,y,xs,r,ob,es,ep,e,c⟩:=x
  exact⟨z,y,xs,Paired.mapP r fun p q z=>⟨z.1,ht _ _ z.2.1,z.2.2⟩,ob,es,ep,k _ _ (.inl rfl) e,c⟩
 | set S n=>obtain⟨ob,es,ep,t,e,c⟩:=x; exact⟨ob,es,ep,t,k _ _ (.inl rfl) e,c⟩
 | ins C dx fs =>
  obtain⟨d,z,ne,e,mA,⟨od,es,ep,e2,c⟩,r⟩:=x
  exact⟨ho _ d,z,ne,k _ _ (.inl rfl) e,mA,⟨od,es,ep,k _ _ (.inr d) e2,c⟩,r⟩
 | own y=>obtain⟨ob,e⟩:=x; exact⟨ob,k _ _ (.inl rfl) e⟩
 | xd fs=>obtain⟨mA,⟨od,es,ep,e,c⟩,r⟩:=x; exact⟨mA,⟨od,es,ep,k _ _ (.inl rfl) e,c⟩,r⟩
 | rng lo hi=>obtain⟨t,u,v,e⟩:=x; exact⟨t,u,v,k _ _ (.inl rfl) e⟩
 | frz ob u ih=>obtain⟨e,q⟩:=x; exact⟨k _ _ (.inl rfl) e,ih q⟩
 | tbl ps =>
  have e:h.get? a=some { cls:=.none,data:=.fields ps }:=x
  show h'.get? a=some { cls:=.none,data:=.fields ps }
  exact k a _ (.inl rfl) e
 | met f y =>
  have e:h.get? a=some (Wdy (.ref f) (.ref y)):=x
  show h'.get? a=some (Wdy (.ref f) (.ref y))
  exact k a _ (.inl rfl) e
 | ext φ=>obtain⟨p,⟨o,e⟩,st⟩:=x; exact⟨st _ _ p fun o q=>k _ _ (.inl rfl) q,⟨o,k _ _ (.inl rfl) e⟩,st⟩
theorem HOk.lt (x:HOk P w H h) (e:H a=some o):a<h.objs.size:=(x a o e).lt
theorem HOk.fresh (x:HOk P w H h) (e:h.objs.size<=a):H a=none:=by
 cases q:H a with
 | none=>rfl
 | some u=>exact absurd (Xi (x.lt q) e) (Was _)
theorem HOk.kept (x:HOk P w H h) (k:∀ b u,h.get? b=some u->h'.get? b=some u):HOk P w H h':=fun a o e =>
 (x a o e).stay (fun b u _ q=>k b u q) (fun _ q=>q) fun _ _ q=>q
theorem HOk.laid (x:HOk P w H h) (k:∀ b u,h.get? b=some u->h'.get? b=some u) (hp:h.objs.size<=a) (new:Zc5 P w (upd H a o) h' a o):HOk P w (upd H a o) h':=fun b u e=>by
 have hn:=x.fresh hp
 by_cases hb:b=a
 ·subst hb; rw[Zaq] at e; cases e; exact new
 ·rw[Zag hb] at e
  exact(x b u e).stay (fun c v _ q=>k c v q) (fun c q=>by rw[Zag (Zai q hn)]; exact q) fun c xs q=>by rw[Zag (Zai q hn)]; exact q
end
def Rd (H:Hp) (a:Ve) (u:HO):Prop:=H a=some u\/∃ o,H a=some (.frz o u)
theorem Rd.ok {P:Vh} {w:Vu} {H:Hp} {h:Vz} {a:Ve} {u:HO} (r:Rd H a u) (x:HOk P w H h):Zc5 P w H h a u:=by
 rcases r with r | ⟨o,r⟩
 ·exact x a u r
 ·obtain⟨_,q⟩:=x a _ r
  exact q
nonrec def Mut:Option HO->Prop
 | some (.lst _)=>True
 | some (.dK _)=>True
 | some (.dT _)=>True
 | some (.set _ _)=>True
 | some (.ins _ _ _)=>True
 | some (.ext _)=>True
 | _=>False
section
variable {P:Vh} {w:Vu} {H:Hp} {h h':Vz} {x e:Ve} {o':HO}
theorem HOk.write (ok:HOk P w H h) (mu:Mut (H x)) (he:e=x\/H e=some (.own x)) (k:∀ b u,b≠e->h.get? b=some u->h'.get? b=some u) (heo:∃ u,h'.get? e=some u)
  (new:Zc5 P w (upd H x o') h' x o'):HOk P w (upd H x o') h':=fun b u q=>by
 have nown:∀ c y,H c=some (.own y)->c≠x:=fun c y r z=>by subst z; rw[r] at mu; exact mu
 have ntup:∀ c xs,H c=some (.tup xs)->c≠x:=fun c xs r z=>by subst z; rw[r] at mu; exact mu
 by_cases hb:b=x
 ·subst hb; rw[Zaq] at q; cases q; exact new
 ·rw[Zag hb] at q
  by_cases hbe:b=e
  ·have q':H b=some (.own x):=by
    rcases he with z | z
    ·exact absurd (hbe.trans z) hb
    ·rw[hbe]; exact z
   rw[q] at q'; cases q'
   obtain⟨v,hv⟩:=heo
   exact⟨v,by rw[hbe]; exact hv⟩
  ·refine(ok b u q).stay (fun c v hc r=>k c v ?_ r) (fun c r=>by rw[Zag (nown c b r)]; exact r) fun c xs r=>by rw[Zag (ntup c xs r)]; exact r
   rcases hc with rfl | hc
   ·exact hbe
   ·rintro rfl
    rcases he with z | z
    ·exact nown c b hc z
    ·rw[hc] at z; cases z; exact hb rfl
end
structure Un (fs ex:List Ve) (H H':Hp) (h h':Vz):Prop where
 keep:∀ b o,h.get? b=some o->H b=none->b∉fs->b∉ex->h'.get? b=some o
 slot:∀ b o,h.get? b=some o->H b=none->b∈fs->b∉ex->∃ sl,h'.get? b=some { o with slots:=sl }
 free:∀ b o,h.get? b=some o->H b=none->b∉ex->H' b=none
 there:∀ b o,h.get? b=some o->b∉ex->∃ o',h'.get? b=some o'
 tups:∀ b xs,H b=some (.tup xs)->H' b=some (.tup xs)
 frzs:∀ b o u,H b=some (.frz o u)->H' b=some (.frz o u)
 tbls:∀ b ps,H b=some (.tbl ps)->∃ more,H' b=some (.tbl (ps++more))
section
variable {fs fs' ex ex':List Ve} {H H1 H2:Hp} {h h1 h2 h':Vz} {a x e:Ve} {o:HO}
theorem Un.any (u:Un fs ex H H1 h h1) {b:Ve} {ob:Obj} (q:h.get? b=some ob) (n:H b=none) (hx:b∉ex):∃ sl,h1.get? b=some { ob with slots:=sl }:=by
 by_cases hb:b∈fs
 ·exact u.slot b ob q n hb hx
 ·exact⟨ob.slots,u.keep b ob q n hb hx⟩
theorem Un.kept (k:∀ b u,h.get? b=some u->h'.get? b=some u):Un fs ex H H h h' :=
 ⟨fun b ob q _ _ _=>k b ob q,fun b ob q _ _ _=>⟨ob.slots,k b ob q⟩,fun _ _ _ n _=>n,fun b ob q _=>⟨ob,k b ob q⟩,fun _ _ q=>q,fun _ _ _ q=>q,fun _ ps q=>⟨#[],by rw[q]; simp⟩⟩
theorem Un.refl:Un fs ex H H h h:=Un.kept fun _ _ q=>q
theorem Un.laid (k:∀ b u,h.get? b=some u->h'.get? b=some u) (hp:h.objs.size<=a) (hn:H a=none):Un fs ex H (upd H a o) h h' where
 keep:=fun b u q _ _ _=>k b u q
 slot:=fun b u q _ _ _=>⟨u.slots,k b u q⟩
 free:=fun b u q n _=>by rw[Zag (Xh (Xi (Xf q) hp))]; exact n
 there:=fun b u q _=>⟨u,k b u q⟩
 tups:=fun b xs q=>by rw[Zag (Zai q hn)]; exact q
 frzs:=fun b u xs q=>by rw[Zag (Zai q hn)]; exact q
 tbls:=fun b ps q=>⟨#[],by rw[Zag (Zai q hn),q]; simp⟩
theorem Un.write (mu:Mut (H x)) (he:e=x\/H e=some (.own x)) (k:∀ b u,b≠e->h.get? b=some u->h'.get? b=some u) (heo:∃ u,h'.get? e=some u):Un fs ex H (upd H x o) h h':=by
 have hx:∀ b,H b=none->b≠x:=fun b n z=>by subst z; rw[n] at mu; exact mu
 have hb:∀ b,H b=none->b≠e:=fun b n z=>by
  subst z
  rcases he with r | r
  ·exact hx b n r
  ·rw[n] at r; cases r
 have hm:∀ b u,H b=some u->¬ Mut (some u)->b≠x:=fun b u q nm z=>by subst z; rw[q] at mu; exact nm mu
 refine⟨fun b u q n _ _=>k b u (hb b n) q,fun b u q n _ _=>⟨u.slots,k b u (hb b n) q⟩,fun b u q n _=>by rw[Zag (hx b n)]; exact n,fun b u q _=>?_,
  fun b xs q=>by rw[Zag (hm b _ q fun z=>z)]; exact q,fun b u xs q=>by rw[Zag (hm b _ q fun z=>z)]; exact q,fun b ps q=>⟨#[],by rw[Zag (hm b _ q fun z=>z),q]; simp⟩⟩
 by_cases hbe:b=e
 ·subst hbe; exact heo
 ·exact⟨u,k b u hbe q⟩
end
nonrec def trk (h:Vz) (H:Hp):List Ve:=(Wdl h.objs.size).filter fun a=>(H a).isSome
nonrec def Ztf (h:Vz) (H:Hp):Vz:=PySem.W.hideAll h (trk h H)
theorem Zt3 (h:Vz) (H:Hp):(Ztf h H).objs.size=h.objs.size:=PySem.W.hideAll_size _ _
theorem Zxb {h:Vz} {H:Hp} {b:Ve} {o:Obj} (e:h.get? b=some o) (n:H b=none):(Ztf h H).get? b=some o :=
 PySem.W.hideAll_get _ e fun hm=>by
  have q:(H b).isSome=true:=(Wah.mp hm).2
  rw[n] at q; simp at q
theorem Yai {h:Vz} {H:Hp} {b:Ve} {o:Obj} (e:(Ztf h H).get? b=some o):h.get? b=some o/\H b=none:=by
 have e':h.get? b=some o:=PySem.W.of_hideAll (trk h H) e
 refine⟨e',?_⟩
 cases q:H b with
 | none=>rfl
 | some x =>
  have hm:b∈trk h H:=Wah.mpr ⟨Wci.mpr (Xf e'),by simp[q]⟩
  have z:(Ztf h H).get? b=none:=PySem.W.hideAll_none (trk h H) hm
  rw[z] at e; cases e
structure Mod (K:Xb) (mg:Str->Option Vb) (base:Vz):Prop where
 kin:K.In base
 glob:base.Ns Vl mg
 blt:∃ mb,base.Ns builtinsNs mb/\∀ x:Str,x ≠ "__name__" -> mb x=Vq x
 nolimit:base.NoLimit
structure Cx where
 prog:Vh
 w:Vu
 K:Xb
 mg:Str->Option Vb
 base:Vz
 A:Vt
 N:List Str
 s₀:Vd
 H₀:Hp
 env:Env
 outer:List Env
 stack:List Env
 ex:List Ve
 fn:Str->Bool
 calm:Bool
 pn:List (Ve×Obj)
 xe:Vb->Vd->Prop
nonrec def frs (l:List Env):List Ve:=l.filterMap (·.frame)
nonrec abbrev Cx.fs (X:Cx):List Ve:=frs X.outer
def Vis (sc:Ubm) (x:Str):Prop:=sc.names.lookup x=some .local\/sc.names.lookup x=some .cell\/sc.names.lookup x=some .free
def Loc (sc:Ubm) (x:Str):Prop:=sc.names.lookup x=some .local\/sc.names.lookup x=some .cell
def Look (env:Env) (h:Vz) (m:Str->Option Vb) (x:Str) (u:Vb):Prop :=
 (env.kindOf x=some .local/\m x=some u)\/((env.kindOf x=some .cell\/env.kindOf x=some .free)/\∃ c,env.cells.lookup x=some c/\h.IsCell c (some u))
structure Cx.Ok (X:Cx):Prop where
 mod:Mod X.K X.mg X.base
 kind:X.env.scope.kind=.function
 glob:X.env.globals=Vl
 blt:X.env.builtins=builtinsNs
 above:X.s₀.heap.objs.size<=X.env.locals
 inj:∀ x y c,X.env.cells.lookup x=some c->X.env.cells.lookup y=some c->x=y
 has:∀ x,(X.env.kindOf x=some .cell\/X.env.kindOf x=some .free)->∃ c,X.env.cells.lookup x=some c
 cab:∀ x c,X.fn x=true->X.env.cells.lookup x=some c->X.s₀.heap.objs.size<=c
 hd:X.calm=true->X.A.handled=none
 frames:X.A.frames=some X.stack
 stk:X.stack=X.outer\/(X.stack=X.env::X.outer/\X.env.frame=some X.env.locals)
 exf:∀ b∈X.ex,b≠X.env.locals/\∀ x c,X.env.cells.lookup x=some c->c≠b
 bs:∀ b o,X.base.get? b=some o->X.s₀.heap.get? b=some o/\X.H₀ b=none
 bsz:X.base.objs.size<=X.s₀.heap.objs.size
 noex:∀ b o,X.base.get? b=some o->b∉X.ex
 exfs:∀ b∈X.ex,b∉X.fs
 funs:X.s₀.heap.FunFrames X.base X.outer
 frf:∀ b∈X.fs,X.H₀ b=none
structure Inv (X:Cx) (pins:List (Ve×Obj)) (σ:List (Option V)) (H:Hp) (s:Vd):Prop where
 ok:X.Ok
 os:s.os=X.s₀.os
 bare:Ucj s.gens
 base:Un X.fs X.ex X.H₀ H X.s₀.heap s.heap
 loc:∃ m,s.heap.Ns X.env.locals m/\∀ (i:Nat) (x:Str) (v:V),X.N[i]? = some x->σ[i]? = some (some v)->Vis X.env.scope x->∃ u,Zcg v u/\Look X.env s.heap m x u
 cell:∀ x c,X.env.cells.lookup x=some c->∃ v,s.heap.IsCell c v
 free:H X.env.locals=none
 freeC:∀ x c,X.env.cells.lookup x=some c->H c=none\/(X.fn x=false/\∃ o u,H c=some (.frz o u))
 pin:∀ p∈X.pn++pins,s.heap.get? p.1=some p.2/\H p.1=none/\p.1≠X.env.locals/\p.1∉X.fs/\∀ v,p.2.data≠.cell v
 hok:HOk X.prog X.w H s.heap
 len:σ.length=X.N.length
section
variable {X:Cx} {pins:List (Ve×Obj)} {σ:List (Option V)} {H H':Hp} {s:Vd} {h':Vz}
theorem Cx.Ok.nofr (ok:X.Ok) {b:Ve} {o:Obj} (e:X.base.get? b=some o):b∉X.fs:=fun hb=>by
 have:=(ok.funs.mem hb).1
 rw[e] at this; cases this
theorem Inv.bs (I:Inv X pins σ H s):∀ b o,X.base.get? b=some o->s.heap.get? b=some o/\H b=none:=fun b o e =>
 ⟨I.base.keep b o (I.ok.bs b o e).1 (I.ok.bs b o e).2 (I.ok.nofr e) (I.ok.noex b o e),I.base.free b o (I.ok.bs b o e).1 (I.ok.bs b o e).2 (I.ok.noex b o e)⟩
theorem Inv.bk (I:Inv X pins σ H s):∀ b o,X.base.get? b=some o->s.heap.get? b=some o:=fun b o e=>(I.bs b o e).1
theorem Inv.mod (I:Inv X pins σ H s):Mod X.K X.mg X.base:=I.ok.mod
theorem Inv.kIn (I:Inv X pins σ H s):X.K.In s.heap:=I.ok.mod.kin.keeps I.bk
theorem Inv.lt (I:Inv X pins σ H s):X.env.locals<s.heap.objs.size:=let ⟨_,hn,_⟩:=I.loc; hn.lt
theorem Inv.sz (I:Inv X pins σ H s):X.s₀.heap.objs.size<=s.heap.objs.size:=Wac I.ok.above (Wds I.lt)
theorem Inv.nofs (I:Inv X pins σ H s) {a:Ve} (h:s.heap.objs.size<=a):a∉X.fs:=fun hb=>by
 obtain⟨_,o,ho,_⟩:=I.ok.funs.mem hb
 exact absurd (Xi (Xf ho) (Wac I.sz h)) (Was _)
theorem Inv.cne (I:Inv X pins σ H s):∀ x c,X.env.cells.lookup x=some c->c≠X.env.locals:=fun x c e z=>by
 obtain⟨v,o,ho,hd⟩:=I.cell x c e
 obtain⟨m,⟨o',es,ep,ho',hd',_⟩,_⟩:=I.loc
 rw[z,ho'] at ho; cases ho; rw[hd'] at hd; cases hd
theorem Inv.funs (I:Inv X pins σ H s):s.heap.FunFrames X.base X.outer:=by
 have all:∀ (l:List Env),(∀ b∈frs l,b∈X.fs)->X.s₀.heap.FunFrames X.base l->s.heap.FunFrames X.base l:=by
  intro l
  induction l with
  | nil=>intro _ _; trivial
  | cons env r ih =>
   intro hs hl
   obtain⟨hk,⟨L,o,hf,hn,ho,hd⟩,hr⟩:=hl
   have hL:L∈X.fs:=hs L (by unfold frs; rw[Wdm,hf]; exact Wcd)
   obtain⟨sl,e⟩:=I.base.slot L o ho (I.ok.frf L hL) hL fun z=>I.ok.exfs L z hL
   exact⟨hk,⟨L,_,hf,hn,e,hd⟩,ih (fun b hb=>hs b (by unfold frs; rw[Wdm,hf]; exact Waj _ hb)) hr⟩
 exact all X.outer (fun _ hb=>hb) I.ok.funs
theorem Inv.stack (I:Inv X pins σ H s):s.heap.FunFrames X.base X.stack:=by
 rcases I.ok.stk with e | ⟨e,hf⟩
 ·rw[e]; exact I.funs
 ·rw[e]
  obtain⟨m,hn,_⟩:=I.loc
  refine .cons (by rw[I.ok.kind]; decide) hf hn ?_ I.funs
  exact Heap.get?_none_of_le (Wac I.ok.bsz I.ok.above)
theorem Inv.stkSub (I:Inv X pins σ H s):∀ b∈frs X.stack,b∈X.env.locals::X.fs:=fun b hb=>by
 rcases I.ok.stk with e | ⟨e,hf⟩
 ·rw[e] at hb; exact Waj _ hb
 ·rw[e] at hb
  unfold frs at hb
  rw[Wdm,hf] at hb
  exact hb
theorem Inv.stkFree (I:Inv X pins σ H s):∀ b∈frs X.stack,H b=none:=fun b hb=>by
 rcases Xj.mp (I.stkSub b hb) with e | hb
 ·rw[e]; exact I.free
 ·obtain⟨_,o,ho,_⟩:=I.ok.funs.mem hb
  exact I.base.free b o ho (I.ok.frf b hb) fun z=>I.ok.exfs b z hb
theorem Inv.step {g':Array GenState} {t':Nat} {d':Drawn} {ch:List Ve} (I:Inv X pins σ H s)
  (hch:∀ b∈ch,(b∈X.ex\/X.s₀.heap.objs.size<=b)/\b≠X.env.locals/\(∀ x c,X.env.cells.lookup x=some c->c≠b)/\∀ p∈X.pn++pins,p.1≠b)
  (keep:∀ b o,b≠X.env.locals->b∉X.fs->b∉ch->s.heap.get? b=some o->H b=none->h'.get? b=some o)
  (slot:∀ b o,b≠X.env.locals->b∈X.fs->b∉ch->s.heap.get? b=some o->H b=none->∃ sl,h'.get? b=some { o with slots:=sl }) (free:∀ b o,b∉ch->s.heap.get? b=some o->H b=none->H' b=none)
  (there:∀ b o,b∉ch->s.heap.get? b=some o->∃ o',h'.get? b=some o')
  (tups:∀ b xs,H b=some (.tup xs)->H' b=some (.tup xs)) (frzs:∀ b o u,H b=some (.frz o u)->H' b=some (.frz o u)) (tbls:∀ b ps,H b=some (.tbl ps)->∃ more,H' b=some (.tbl (ps++more)))
  (ns:∀ m,s.heap.Ns X.env.locals m->h'.Ns X.env.locals m) (hok:HOk X.prog X.w H' h') (hg:Ucj g') :
  Inv X pins σ H' { s with heap:=h',gens:=g',drawn:=d',toks:=t' }:=by
 have neL:∀ b o,X.s₀.heap.get? b=some o->b≠X.env.locals:=fun b o e=>Xh (Xi (Xf e) I.ok.above)
 have neC:∀ b o,X.s₀.heap.get? b=some o->b∉X.ex->b∉ch:=fun b o e hx hb=>by
  rcases(hch b hb).1 with z | z
  ·exact hx z
  ·exact absurd (Xi (Xf e) z) (Was _)
 have cellK:∀ x c,X.env.cells.lookup x=some c->∀ v,s.heap.IsCell c v->h'.IsCell c v:=fun x c e v ⟨o,ho,hd⟩=>by
  have nch:c∉ch:=fun z=>(hch c z).2.2.1 x c e rfl
  rcases I.freeC x c e with fc | ⟨_,o2,u2,fc⟩
  ·by_cases hc:c∈X.fs
   ·obtain⟨sl,q⟩:=slot c o (I.cne x c e) hc nch ho fc
    exact⟨_,q,hd⟩
   ·exact⟨o,keep c o (I.cne x c e) hc nch ho fc,hd⟩
  ·have h1:=(I.hok c _ fc).1
   have h2:=(hok c _ (frzs c o2 u2 fc)).1
   rw[ho] at h1
   cases h1
   exact⟨o,h2,hd⟩
 refine⟨I.ok,I.os,hg,⟨fun b o e n hb hx=>?_,fun b o e n hb hx=>?_,fun b o e n hx=>?_,fun b o e hx=>?_,fun b xs e=>tups b xs (I.base.tups b xs e),fun b o xs e=>frzs b o xs (I.base.frzs b o xs e),fun b ps e=>?_⟩,?_,fun x c e=>?_,?_,fun x c e=>?_,fun p hp=>?_,hok,I.len⟩
 ·exact keep b o (neL b o e) hb (neC b o e hx) (I.base.keep b o e n hb hx) (I.base.free b o e n hx)
 ·obtain⟨sl,e1⟩:=I.base.slot b o e n hb hx
  obtain⟨sl',e2⟩:=slot b _ (neL b o e) hb (neC b o e hx) e1 (I.base.free b o e n hx)
  exact⟨sl',e2⟩
 ·obtain⟨o',e1⟩:=I.base.there b o e hx
  exact free b o' (neC b o e hx) e1 (I.base.free b o e n hx)
 ·obtain⟨o',e1⟩:=I.base.there b o e hx
  exact there b o' (neC b o e hx) e1
 ·obtain⟨m1,e1⟩:=I.base.tbls b ps e
  obtain⟨m2,e2⟩:=tbls b _ e1
  exact⟨m1++m2,by rw[e2,Array.append_assoc]⟩
 ·obtain⟨m,hn,hl⟩:=I.loc
  refine⟨m,ns m hn,fun i x v e1 e2 e3=>?_⟩
  obtain⟨u,r,l⟩:=hl i x v e1 e2 e3
  refine⟨u,r,?_⟩
  rcases l with l | ⟨k,c,e,z⟩
  ·exact .inl l
  ·exact .inr ⟨k,c,e,cellK x c e _ z⟩
 ·obtain⟨v,z⟩:=I.cell x c e
  exact⟨v,cellK x c e v z⟩
 ·obtain⟨m,⟨o,_,_,ho,_⟩,_⟩:=I.loc
  exact free _ o (fun z=>(hch _ z).2.1 rfl) ho I.free
 ·obtain⟨v,o,ho,hd⟩:=I.cell x c e
  rcases I.freeC x c e with fc | ⟨fn,o2,u2,fc⟩
  ·exact .inl (free c o (fun z=>(hch c z).2.2.1 x c e rfl) ho fc)
  ·exact .inr ⟨fn,o2,u2,frzs c o2 u2 fc⟩
 ·obtain⟨e,n,ne,nf,d⟩:=I.pin p hp
  have nch:p.1∉ch:=fun z=>(hch p.1 z).2.2.2 p hp rfl
  exact⟨keep p.1 p.2 ne nf nch e n,free p.1 p.2 nch e n,ne,nf,d⟩
theorem Inv.un {t':Nat} (I:Inv X pins σ H s) (u:Un X.fs [] H H' s.heap h') (hok:HOk X.prog X.w H' h'):Inv X pins σ H' { s with heap:=h',toks:=t' }:=by
 obtain⟨m,⟨o,es,ep,ho,r⟩,_⟩:=id I.loc
 obtain⟨sl,hL⟩:=u.any ho I.free (by simp)
 exact I.step (g':=s.gens) (d':=s.drawn) (ch:=[]) (fun _ z=>nomatch z) (fun b o _ hb _ e n=>u.keep b o e n hb (by simp)) (fun b o _ hb _ e n=>u.slot b o e n hb (by simp)) (fun b o _ e n=>u.free b o e n (by simp)) (fun b o _ e=>u.there b o e (by simp)) u.tups u.frzs u.tbls (fun m' hm=>by
  obtain⟨o',es',ep',ho',r'⟩:=hm
  rw[ho] at ho'; cases ho'
  exact⟨_,es',ep',hL,r'⟩) hok I.bare
theorem Inv.call {g':Array GenState} {t':Nat} {d':Drawn} {ch:List Ve} (I:Inv X pins σ H s) (u:Un (frs X.stack) ch H H' s.heap h') (hok:HOk X.prog X.w H' h') (hg:Ucj g')
  (hch:∀ b∈ch,(b∈X.ex\/X.s₀.heap.objs.size<=b)/\b≠X.env.locals/\(∀ x c,X.env.cells.lookup x=some c->c≠b)/\∀ p∈X.pn++pins,p.1≠b) :
  Inv X pins σ H' { s with heap:=h',gens:=g',drawn:=d',toks:=t' }:=by
 obtain⟨m,⟨o,es,ep,ho,r⟩,_⟩:=id I.loc
 obtain⟨sl,hL⟩:=u.any ho I.free fun z=>(hch _ z).2.1 rfl
 exact I.step (ch:=ch) hch (fun b o hL hb hc e n=>u.keep b o e n (fun z=>(Xj.mp (I.stkSub b z)).elim hL hb) hc) (fun b o _ _ hc e n=>u.any e n hc) (fun b o hc e n=>u.free b o e n hc) (fun b o hc e=>u.there b o e hc) u.tups u.frzs u.tbls (fun m' hm=>by
  obtain⟨o',es',ep',ho',r'⟩:=hm
  rw[ho] at ho'; cases ho'
  exact⟨_,es',ep',hL,r'⟩) hok hg
theorem Inv.turned {t':Nat} {it:Ve} (I:Inv X pins σ H s) (k:∀ b o,b≠it->s.heap.get? b=some o->h'.get? b=some o) (hn:H it=none) (hL:it≠X.env.locals)
  (h1:it∈X.ex\/X.s₀.heap.objs.size<=it) (h2:∀ x c,X.env.cells.lookup x=some c->c≠it) (h3:∀ p∈X.pn++pins,p.1≠it):Inv X pins σ H { s with heap:=h',toks:=t' }:=by
 have nit:∀ b u,H b=some u->b≠it:=fun b u e z=>by rw[z,hn] at e; cases e
 refine I.step (g':=s.gens) (d':=s.drawn) (ch:=[it]) (fun b hb=>?_) (fun b o _ _ hc e _=>k b o (fun z=>hc (by simp[z])) e) (fun b o _ _ hc e _=>⟨o.slots,k b o (fun z=>hc (by simp[z])) e⟩) (fun _ _ _ _ n=>n)
  (fun b o hc e=>⟨o,k b o (fun z=>hc (by simp[z])) e⟩) (fun _ _ e=>e) (fun _ _ _ e=>e) (fun b ps e=>⟨#[],by rw[e]; simp⟩) (fun m hm=>?_) (fun b u e=>?_) I.bare
 ·have e:b=it:=by simpa using hb
  subst e
  exact⟨h1,hL,h2,h3⟩
 ·obtain⟨o,es,ep,ho,r⟩:=hm
  exact⟨o,es,ep,k _ o (Ul hL) ho,r⟩
 ·refine(I.hok b u e).stay (fun c v hc q=>k c v ?_ q) (fun _ q=>q) fun _ _ q=>q
  rcases hc with z | z
  ·rw[z]; exact nit b u e
  ·exact nit c _ z
theorem Inv.tok (I:Inv X pins σ H s) (t:Nat):Inv X pins σ H { s with toks:=t }:=I.un (h':=s.heap) (t':=t) Un.refl I.hok
theorem Inv.kept {t':Nat} (I:Inv X pins σ H s) (k:∀ b u,s.heap.get? b=some u->h'.get? b=some u):Inv X pins σ H { s with heap:=h',toks:=t' }:=I.un (Un.kept k) (I.hok.kept k)
theorem Inv.laid {a:Ve} {o:HO} {t':Nat} (I:Inv X pins σ H s) (k:∀ b u,s.heap.get? b=some u->h'.get? b=some u) (hp:s.heap.objs.size<=a) (new:Zc5 X.prog X.w (upd H a o) h' a o) :
  Inv X pins σ (upd H a o) { s with heap:=h',toks:=t' }:=I.un (Un.laid k hp (I.hok.fresh hp)) (I.hok.laid k hp new)
theorem Inv.write {x e:Ve} {o:HO} {t':Nat} (I:Inv X pins σ H s) (mu:Mut (H x)) (he:e=x\/H e=some (.own x)) (k:∀ b u,b≠e->s.heap.get? b=some u->h'.get? b=some u) (heo:∃ u,h'.get? e=some u)
  (new:Zc5 X.prog X.w (upd H x o) h' x o):Inv X pins σ (upd H x o) { s with heap:=h',toks:=t' }:=I.un (Un.write mu he k heo) (I.hok.write mu he k heo new)
theorem Inv.pins_of {pins':List (Ve×Obj)} (I:Inv X pins σ H s) (h:∀ p∈pins',s.heap.get? p.1=some p.2/\H p.1=none/\p.1≠X.env.locals/\p.1∉X.fs/\∀ v,p.2.data≠.cell v):Inv X pins' σ H s :=
 ⟨I.ok,I.os,I.bare,I.base,I.loc,I.cell,I.free,I.freeC,fun p hp=>(Xx.mp hp).elim (fun z=>I.pin p (Wat _ z)) (h p),I.hok,I.len⟩
theorem Zpn {N:List Str} (hN:N.Nodup) {i j:Nat} {x:Str} (a:N[i]? = some x) (b:N[j]? = some x):i=j:=by
 obtain⟨h1,e1⟩:=Xc.mp a
 obtain⟨h2,e2⟩:=Xc.mp b
 exact(Wfo hN).mp (e1.trans e2.symm)
theorem Zji {M:Model} {A:Vt} {E:Vb->Vd->Prop} {i:Nat} {x:Str} {v:V} {u:Vb} {Q:Unit->Vd->Prop} (I:Inv X pins σ H s) (hN:X.N.Nodup) (hi:X.N[i]? = some x) (hx:Loc X.env.scope x) (r:Zcg v u)
  (h:∀ s',Inv X pins (σ.set i (some v)) H s'->(∃ a,Xy a s.heap s'.heap/\(a=X.env.locals\/X.env.cells.lookup x=some a))->Q () s') (hf:X.fn x=true\/X.env.scope.names.lookup x=some .local:=by first | exact .inl rfl | exact .inr rfl | assumption):Vf M A (Ued X.env x u) Q E s:=by
 obtain⟨m,hn,hl⟩:=id I.loc
 have hcls:(X.env.scope.kind==.class||(X.env.scope.kind==.module&&X.env.locals != X.env.globals))=false:=by rw[I.ok.kind]; rfl
 have hiσ:i<σ.length:=by rw[I.len]; exact(Xc.mp hi).1
 have cne:=I.cne
 have tracked:∀ {a:Ve} {h':Vz},(∃ o,s.heap.get? a=some o/\H a=none)->Xy a s.heap h'->HOk X.prog X.w H h':=fun {a h'} ha hs b ob e=>by
  obtain⟨_,_,hfree⟩:=ha
  refine(I.hok b ob e).stay (fun c w' hc q=>(hs.2 c ?_).trans q) (fun _ q=>q) fun _ _ q=>q
  rintro rfl
  rcases hc with rfl | hc
  ·rw[hfree] at e; cases e
  ·rw[hfree] at hc; cases hc
 rcases hx with hk | hk
 ·refine wpAny_storeName_local hk hn (fun h' hn' hs=>?_) hcls
  obtain⟨oL,_,_,hoL,_⟩:=id hn
  refine h _ ⟨I.ok,I.os,I.bare,⟨fun b o e n hb hx=>?_,fun b o e n hb hx=>?_,I.base.free,fun b o e hx=>?_,I.base.tups,I.base.frzs,I.base.tbls⟩,⟨_,hn',fun j y v' e1 e2 e3=>?_⟩,fun y c e=>?_,I.free,I.freeC,fun p hp=>?_,tracked ⟨oL,hoL,I.free⟩ hs,by simpa using I.len⟩ ⟨_,hs,.inl rfl⟩
  ·exact(hs.2 b (Xh (Xi (Xf e) I.ok.above))).trans (I.base.keep b o e n hb hx)
  ·obtain⟨sl,e1⟩:=I.base.slot b o e n hb hx
   exact⟨sl,(hs.2 b (Xh (Xi (Xf e) I.ok.above))).trans e1⟩
  ·obtain⟨o',e1⟩:=I.base.there b o e hx
   exact⟨o',(hs.2 b (Xh (Xi (Xf e) I.ok.above))).trans e1⟩
  ·by_cases hj:j=i
   ·subst hj
    rw[hi] at e1; cases e1
    rw[Waw hiσ] at e2
    cases e2
    exact⟨u,r,.inl ⟨hk,by simp⟩⟩
   ·rw[Wak (Ul hj)] at e2
    obtain⟨u',r',q⟩:=hl j y v' e1 e2 e3
    refine⟨u',r',?_⟩
    rcases q with ⟨k,e⟩ | ⟨k,c,e,z⟩
    ·refine .inl ⟨k,?_⟩
     have:y≠x:=fun e=>hj (Zpn hN e1 (e ▸ hi))
     simp[this,e]
    ·exact .inr ⟨k,c,e,z.sameBut hs (cne y c e)⟩
  ·obtain⟨w',z⟩:=I.cell y c e
   exact⟨w',z.sameBut hs (cne y c e)⟩
  ·obtain⟨e,n,ne,nf,d⟩:=I.pin p hp
   exact⟨(hs.2 p.1 ne).trans e,n,ne,nf,d⟩
 ·have hfn:X.fn x=true:=by
   rcases hf with z | z
   ·exact z
   ·rw[z] at hk; cases hk
  obtain⟨c,hc⟩:=I.ok.has x (.inl hk)
  obtain⟨w',z⟩:=I.cell x c hc
  refine wpAny_storeName_cell I.ok.kind hk hc z (fun h' hc' hs=>?_)
  obtain⟨oc,hoc,hocd⟩:=id z
  refine h { s with heap:=h' } ⟨I.ok,I.os,I.bare,⟨fun b o e n hb hx=>?_,fun b o e n hb hx=>?_,I.base.free,fun b o e hx=>?_,I.base.tups,I.base.frzs,I.base.tbls⟩,⟨m,hn.sameBut hs (Ul (cne x c hc)),fun j y v' e1 e2 e3=>?_⟩,fun y c' e=>?_,I.free,I.freeC,fun p hp=>?_,tracked ⟨oc,hoc,(I.freeC x c hc).resolve_right (fun z=>by rw[hfn] at z; cases z.1)⟩ hs,by simpa using I.len⟩ ⟨c,hs,.inr hc⟩
  ·exact(hs.2 b (Xh (Xi (Xf e) (I.ok.cab x c hfn hc)))).trans (I.base.keep b o e n hb hx)
  ·obtain⟨sl,e1⟩:=I.base.slot b o e n hb hx
   exact⟨sl,(hs.2 b (Xh (Xi (Xf e) (I.ok.cab x c hfn hc)))).trans e1⟩
  ·obtain⟨o',e1⟩:=I.base.there b o e hx
   exact⟨o',(hs.2 b (Xh (Xi (Xf e) (I.ok.cab x c hfn hc)))).trans e1⟩
  ·by_cases hj:j=i
   ·subst hj
    rw[hi] at e1; cases e1
    rw[Waw hiσ] at e2
    cases e2
    exact⟨u,r,.inr ⟨.inl hk,c,hc,hc'⟩⟩
   ·rw[Wak (Ul hj)] at e2
    obtain⟨u',r',q⟩:=hl j y v' e1 e2 e3
    refine⟨u',r',?_⟩
    rcases q with q | ⟨k,c',e,z'⟩
    ·exact .inl q
    ·refine .inr ⟨k,c',e,z'.sameBut hs ?_⟩
     rintro rfl
     exact hj (Zpn hN e1 (I.ok.inj _ _ _ e hc ▸ hi))
  ·by_cases hcc:c'=c
   ·subst hcc; exact⟨_,hc'⟩
   ·obtain⟨w2,z2⟩:=I.cell y c' e
    exact⟨w2,z2.sameBut hs hcc⟩
  ·obtain⟨e,n,ne,nf,d⟩:=I.pin p hp
   refine⟨(hs.2 p.1 ?_).trans e,n,ne,nf,d⟩
   intro q
   rw[q,hoc] at e
   have q':oc=p.2:=Xw.inj e
   exact d w' (by rw[<- q']; exact hocd)
theorem Zl1 {M:Model} {A:Vt} {E:Vb->Vd->Prop} {i:Nat} {x:Str} {v:V} {u:Vb} {Q:Unit->Vd->Prop} (I:Inv X pins σ H s) (hN:X.N.Nodup) (hi:X.N[i]? = some x) (hx:Loc X.env.scope x) (r:Zcg v u)
  (h:∀ s',Inv X pins (σ.set i (some v)) H s'->Q () s') (hf:X.fn x=true\/X.env.scope.names.lookup x=some .local:=by first | exact .inl rfl | exact .inr rfl | assumption):Vf M A (Ued X.env x u) Q E s :=
 Zji I hN hi hx r (fun s' I' _=>h s' I') hf
theorem Inv.call' {s':Vd} {ch:List Ve} (I:Inv X pins σ H s) (ho:s'.os=s.os) (u:Un (frs X.stack) ch H H' s.heap s'.heap) (hok:HOk X.prog X.w H' s'.heap) (hg:Ucj s'.gens)
  (hch:∀ b∈ch,(b∈X.ex\/X.s₀.heap.objs.size<=b)/\b≠X.env.locals/\(∀ x c,X.env.cells.lookup x=some c->c≠b)/\∀ p∈X.pn++pins,p.1≠b):Inv X pins σ H' s':=by
 obtain⟨h',g',d',t',o'⟩:=s'
 have e:o'=s.os:=ho
 subst e
 exact I.call (g':=g') (t':=t') (d':=d') u hok hg hch
end
nonrec abbrev XK:=Vb->Option Ve->Hp->Prop
nonrec abbrev St:=List (Option V)
nonrec abbrev VK:=V->Hp->Prop
nonrec abbrev TE:=St->Hp->VK->Prop
nonrec abbrev TT:=St->Hp->(Bool->Hp->Prop)->Prop
nonrec abbrev TA:=St->Hp->(List V->Hp->Prop)->Prop
structure Ends where
 nx:St->Hp->Prop
 rt:VK
 bk:St->Hp->Prop:=fun _ _=>False
 ct:St->Hp->Prop:=fun _ _=>False
nonrec abbrev TS:=Ends->St->Hp->Prop
def EP (X:Cx) (pins:List (Ve×Obj)) (σ:St) (Q:VK) (u:Vb) (s':Vd):Prop:=∃ v H',Inv X pins σ H' s'/\Zcg v u/\Q v H'
def TP (X:Cx) (pins:List (Ve×Obj)) (σ:St) (Q:Bool->Hp->Prop) (b:Bool) (s':Vd):Prop:=∃ H',Inv X pins σ H' s'/\Q b H'
def AP (X:Cx) (pins:List (Ve×Obj)) (σ:St) (Q:List V->Hp->Prop) (us:List Vb) (s':Vd):Prop:=∃ vs H',Inv X pins σ H' s'/\Zb7 vs us/\Q vs H'
def SP (X:Cx) (pins:List (Ve×Obj)) (D:Ends) (f:Flow) (s':Vd):Prop :=
 match f with
 | .next=>∃ σ' H',Inv X pins σ' H' s'/\D.nx σ' H'
 | .brk=>∃ σ' H',Inv X pins σ' H' s'/\D.bk σ' H'
 | .cont=>∃ σ' H',Inv X pins σ' H' s'/\D.ct σ' H'
 | .ret u=>∃ v σ' H',Inv X pins σ' H' s'/\Zcg v u/\D.rt v H'
def PE (X:Cx) (e:Vv) (t:TE):Prop :=
 ∀ (pins:List (Ve×Obj)) (s:Vd) (σ:St) (H:Hp) (Q:VK),Inv X pins σ H s->t σ H Q->Vf (Vm X.prog X.w) X.A (eval e X.env) (EP X pins σ Q) X.xe s
def PT (X:Cx) (e:Vv) (t:TT):Prop :=
 ∀ (pins:List (Ve×Obj)) (s:Vd) (σ:St) (H:Hp) (Q:Bool->Hp->Prop),Inv X pins σ H s->t σ H Q->Vf (Vm X.prog X.w) X.A (isTrue e X.env (eval e X.env)) (TP X pins σ Q) X.xe s
def PW (X:Cx) (e:Vv) (t:TT):Prop :=
 ∀ (whole:Sem Vb) (pins:List (Ve×Obj)) (s:Vd) (σ:St) (H:Hp) (Q:Bool->Hp->Prop),Inv X pins σ H s->t σ H Q->Vf (Vm X.prog X.w) X.A (isTrue e X.env whole) (TP X pins σ Q) X.xe s
def PA (X:Cx) (es:List Vv) (t:TA):Prop :=
 ∀ (pos:Pos) (pins:List (Ve×Obj)) (s:Vd) (σ:St) (H:Hp) (Q:List V->Hp->Prop),Inv X pins σ H s->t σ H Q->Vf (Vm X.prog X.w) X.A (spliced (Ual pos (Vg es X.env))) (AP X pins σ Q) X.xe s
def PS (X:Cx) (st:Uab) (t:TS):Prop :=
 ∀ (pins:List (Ve×Obj)) (s:Vd) (σ:St) (H:Hp) (D:Ends),Inv X pins σ H s->t D σ H->Vf (Vm X.prog X.w) X.A (exec st X.env) (SP X pins D) X.xe s
def PSs (X:Cx) (st:List Uab) (t:TS):Prop :=
 ∀ (pins:List (Ve×Obj)) (s:Vd) (σ:St) (H:Hp) (D:Ends),Inv X pins σ H s->t D σ H->Vf (Vm X.prog X.w) X.A (execs st X.env) (SP X pins D) X.xe s
theorem thn {α:Type} {t:Sem α} {Q Q':α->Vd->Prop} {M:Model} {A:Vt} {E:Vb->Vd->Prop} {s:Vd} (h:Vf M A t Q E s) (hQ:∀ a s,Q a s->Q' a s):Vf M A t Q' E s:=Uao h hQ fun _ _ x=>x
section
variable {X:Cx}
nonrec def Yb4 (i:Nat):TE:=fun σ H Q=>∃ v,σ[i]? = some (some v)/\Q v H
nonrec def tC (v:V):TE:=fun _ H Q=>Q v H
theorem Yc2 {i:Nat} {x:Str} {pos:Pos} (hN:X.N[i]? = some x) (hv:Vis X.env.scope x) (hd:(x==("__debug__" : Str))=false:=by decide) (hcd:(x==("__classdict__" : Str))=false:=by decide):PE X (.Name x pos) (Yb4 i):=by
 intro pins s σ H Q I h
 obtain⟨v,e,h⟩:=h
 obtain⟨m,hn,hl⟩:=I.loc
 obtain⟨u,r,l⟩:=hl i x v hN e hv
 have fin:EP X pins σ Q u s:=⟨v,H,I,r,h⟩
 rcases l with ⟨hk,hm⟩ | ⟨hk,c,hc,hcell⟩
 ·exact wpAny_Name (Ucx I.ok.kind hk hn hm fin) hd
 ·rcases hk with hk | hk
  ·exact wpAny_Name (Udh I.ok.kind hk hc hcell fin) hd
  ·exact wpAny_Name (wpAny_loadName_free I.ok.kind hk hc hcell fin hcd) hd
theorem Zyh {i j pos}:PE X (.Constant (.int i) j pos) (tC (.int i)):=fun _ _ _ H _ I h=>wpAny_Constant_int ⟨.int i,H,I.tok _,⟨_,rfl⟩,h⟩
theorem pe_bl {b j pos}:PE X (.Constant (.bool b) j pos) (tC (.bl b)):=fun _ _ _ H _ I h=>Constant_bool ⟨.bl b,H,I,rfl,h⟩
theorem Ybh {j pos}:PE X (.Constant .none j pos) (tC .non):=fun _ _ _ H _ I h=>Constant_none ⟨.non,H,I,rfl,h⟩
theorem Yb1 {x j pos}:PE X (.Constant (.str x) j pos) (tC (.str x)):=fun _ _ _ H _ I h=>Calls.Constant_str ⟨.str x,H,I.tok _,⟨_,rfl⟩,h⟩
def Gl (X:Cx) (x:Str):Prop:=X.env.kindOf x=some .globalImplicit
theorem Zus {E:Vb->Vd->Prop} {pins:List (Ve×Obj)} {s:Vd} {σ:St} {H:Hp} {x:Str} {u:Vb} {pos:Pos} {Q:Vb->Vd->Prop} (I:Inv X pins σ H s) (hg:Gl X x) (hm:X.mg x=some u) (h:Q u s)
  (hd:(x==("__debug__" : Str))=false:=by decide):Vf (Vm X.prog X.w) X.A (eval (.Name x pos) X.env) Q E s :=
 Tbf I.ok.kind hg (Calls.loadGlobal_global (by rw[I.ok.glob]; exact I.mod.glob.keeps I.bk) hm h) hd
theorem Zeb {E:Vb->Vd->Prop} {pins:List (Ve×Obj)} {s:Vd} {σ:St} {H:Hp} {x:Str} {u:Vb} {pos:Pos} {Q:Vb->Vd->Prop} (I:Inv X pins σ H s) (hg:Gl X x) (hm:X.mg x=none) (hv:Vq x=some u) (h:Q u s)
  (hn:x ≠ "__name__" := by decide) (hd:(x==("__debug__" : Str))=false:=by decide):Vf (Vm X.prog X.w) X.A (eval (.Name x pos) X.env) Q E s:=by
 obtain⟨mb,h1,h2⟩:=I.mod.blt
 exact Tbf I.ok.kind hg (Calls.loadGlobal_builtin (by rw[I.ok.glob]; exact I.mod.glob.keeps I.bk) hm (by rw[I.ok.blt]; exact h1.keeps I.bk) ((h2 x hn).trans hv) h) hd
theorem Zr1 {x:Str} {v:V} {u:Vb} {pos:Pos} (hg:Gl X x) (hm:X.mg x=some u) (r:Zcg v u) (hd:(x==("__debug__" : Str))=false:=by decide):PE X (.Name x pos) (tC v) :=
 fun _ _ _ H _ I h=>Zus I hg hm ⟨v,H,I,r,h⟩ hd
theorem Zzs {x:Str} {v:V} {u:Vb} {pos:Pos} (hg:Gl X x) (hm:X.mg x=none) (hv:Vq x=some u) (r:Zcg v u) (hn:x ≠ "__name__" := by decide) (hd:(x==("__debug__" : Str))=false:=by decide):PE X (.Name x pos) (tC v) :=
 fun _ _ _ H _ I h=>Zeb I hg hm hv ⟨v,H,I,r,h⟩ hn hd
variable {a b:Vv} {ta tb:TE} {pos:Pos}
variable {tA tB':TT} {rest:List Vv}
nonrec def tAnd (t u:TT):TT:=fun σ H Q=>t σ H fun c H1=>if c=true then u σ H1 Q else Q false H1
nonrec def tOr (t u:TT):TT:=fun σ H Q=>t σ H fun c H1=>if c=true then Q true H1 else u σ H1 Q
nonrec def tNot (t:TT):TT:=fun σ H Q=>t σ H fun c H1=>Q (!c) H1
theorem Zzk (ha:PT X a tA):PW X (.BoolOp .And [a] pos) tA:=by
 intro wh pins s σ H Q I h
 refine isTrue_and (thn (ha pins s σ H Q I h) fun c s1 e=>?_)
 cases c with
 | true=>exact isTrue_and_nil e
 | false=>exact e
theorem Ybv (ha:PT X a tA):PW X (.BoolOp .Or [a] pos) tA:=by
 intro wh pins s σ H Q I h
 refine isTrue_or (thn (ha pins s σ H Q I h) fun c s1 e=>?_)
 cases c with
 | false=>exact isTrue_or_nil e
 | true=>exact e
theorem Ydj (ha:PT X a tA) (hb:PW X (.BoolOp .And (b::rest) pos) tB'):PW X (.BoolOp .And (a::b::rest) pos) (tAnd tA tB'):=by
 intro wh pins s σ H Q I h
 refine isTrue_and (thn (ha pins s σ H _ I h) fun c s1 zz=>?_)
 obtain⟨H1,I1,q1⟩:=zz
 cases c with
 | true=>exact hb wh pins s1 σ H1 Q I1 q1
 | false=>exact⟨H1,I1,q1⟩
theorem pw_or (ha:PT X a tA) (hb:PW X (.BoolOp .Or (b::rest) pos) tB'):PW X (.BoolOp .Or (a::b::rest) pos) (tOr tA tB'):=by
 intro wh pins s σ H Q I h
 refine isTrue_or (thn (ha pins s σ H _ I h) fun c s1 zz=>?_)
 obtain⟨H1,I1,q1⟩:=zz
 cases c with
 | true=>exact⟨H1,I1,q1⟩
 | false=>exact hb wh pins s1 σ H1 Q I1 q1
theorem Ycq (ha:PT X a tA):PT X (.UnaryOp .Not a pos) (tNot tA):=by
 intro pins s σ H Q I h
 exact isTrue_not (ha pins s σ H (fun c H1=>Q (!c) H1) I h)
nonrec def tAndV (ta tb:TE):TE:=fun σ H Q=>ta σ H fun x H1=>∃ c,x=.bl c/\if c=true then tb σ H1 Q else Q (.bl false) H1
nonrec def tNotV (ta:TE):TE:=fun σ H Q=>ta σ H fun x H1=>∃ c,x=.bl c/\Q (.bl (!c)) H1
theorem Ycu {op} {t:TE} (h:PE X a t):PE X (.BoolOp op [a] pos) t:=fun pins s σ H Q I hw=>BoolOp_one (h pins s σ H Q I hw)
theorem Ybj (ha:PE X a ta) (hb:PE X (.BoolOp .And (b::rest) pos) tb):PE X (.BoolOp .And (a::b::rest) pos) (tAndV ta tb):=by
 intro pins s σ H Q I h
 refine BoolOp_and (thn (ha pins s σ H _ I h) fun v s1 zz=>?_)
 obtain⟨x,H1,I1,r1,q1⟩:=zz
 obtain⟨c,rfl,q1⟩:=q1
 cases r1
 refine Uaf ?_
 cases c with
 | true=>exact hb pins s1 σ H1 Q I1 q1
 | false=>exact⟨.bl false,H1,I1,rfl,q1⟩
theorem Yds (ha:PE X a ta):PE X (.UnaryOp .Not a pos) (tNotV ta):=by
 intro pins s σ H Q I h
 refine UnaryOp_ (thn (ha pins s σ H _ I h) fun v s1 zz=>?_)
 obtain⟨x,H1,I1,r1,q1⟩:=zz
 obtain⟨c,rfl,q1⟩:=q1
 cases r1
 exact not_of (Uaf ⟨.bl (!c),H1,I1,rfl,q1⟩)
nonrec def tIf (t:TT) (ta tb:TE):TE:=fun σ H Q=>t σ H fun c H1=>if c=true then ta σ H1 Q else tb σ H1 Q
theorem Zw6 {c:Vv} (hc:PT X c tA) (ha:PE X a ta) (hb:PE X b tb):PE X (.IfExp c a b pos) (tIf tA ta tb):=by
 intro pins s σ H Q I h
 refine wpAny_IfExp (thn (hc pins s σ H _ I h) fun d s1 zz=>?_)
 obtain⟨H1,I1,q1⟩:=zz
 cases d with
 | true=>exact ha pins s1 σ H1 Q I1 q1
 | false=>exact hb pins s1 σ H1 Q I1 q1
end
def SqL (K:Xb) (H:Hp) (a:Ve) (xs:List V):Prop :=
 Rd H a (.lst xs) \/
  ∃ (o:Obj) (its:Array Vb) (n:Nat),K.lookup a=some o/\o.cls=.type "list" /\ o.dict=none/\o.data=.seq its n/\its.size<=sizeLine/\Zb7 xs its.toList
def SqT (K:Xb) (H:Hp) (a:Ve) (xs:List V):Prop :=
 Rd H a (.tup xs) \/
  ∃ (o:Obj) (its:Array Vb) (n:Nat),K.lookup a=some o/\o.cls=.type "tuple" /\ o.data=.seq its n/\its.size<=sizeLine/\Zb7 xs its.toList/\o.dict=none
nonrec def absV:Vb->Option V
 | .none=>some .non
 | .bool b=>some (.bl b)
 | .int i _=>some (.int i)
 | .str x _=>some (.str x)
 | .bytes b _=>some (.byt b)
 | .float b _=>some (.flt b)
 | .ref a=>some (.ref a)
 | .type n=>some (.ty n)
 | _=>none
theorem Zcg.abs {x:V} {u:Vb} (r:Zcg x u):absV u=some x:=by
 cases x with
 | non=>cases r; rfl
 | bl _=>cases r; rfl
 | int _=>obtain⟨t,rfl⟩:=r; rfl
 | str _=>obtain⟨t,rfl⟩:=r; rfl
 | byt _=>obtain⟨t,rfl⟩:=r; rfl
 | flt _=>obtain⟨t,rfl⟩:=r; rfl
 | ref _=>cases r; rfl
 | ty _=>cases r; rfl
theorem Zcg.inj {x y:V} {u:Vb} (r:Zcg x u) (q:Zcg y u):x=y:=Xw.inj (r.abs.symm.trans q.abs)
theorem Zb7.inj:∀ {xs ys:List V} {us:List Vb},Zb7 xs us->Zb7 ys us->xs=ys:=by
 intro xs ys us h
 induction h generalizing ys with
 | nil=>intro h'; cases h'; rfl
 | cons r t ih =>
  intro h'
  cases h' with
  | cons r' t'=>rw[r.inj r',ih t']
section
variable {X:Cx} {pins:List (Ve×Obj)} {σ:St} {H:Hp} {s:Vd} {a:Ve} {xs ys:List V}
theorem SqL.of {K:Xb} (h:H a=some (.lst xs)):SqL K H a xs:=.inl (.inl h)
theorem SqT.of {K:Xb} (h:H a=some (.tup xs)):SqT K H a xs:=.inl (.inl h)
theorem Inv.list (I:Inv X pins σ H s) (h:SqL X.K H a xs):∃ its:List Vb,Zb7 xs its/\PlainL s.heap a its.toArray/\xs.length<=sizeLine:=by
 rcases h with h | ⟨o,its,n,hk,hc,hd,hs,hz,r⟩
 ·obtain⟨z,its,n,r,e⟩:=h.ok I.hok
  exact⟨its,r,⟨_,n,e,rfl,rfl,rfl⟩,z⟩
 ·refine⟨its.toList,r,⟨o,n,I.kIn a o hk,hc,hd,by simpa using hs⟩,?_⟩
  have e:=r.length
  simp only[Wdn] at e
  omega
theorem Inv.tuple (I:Inv X pins σ H s) (h:SqT X.K H a xs):∃ its:List Vb,Zb7 xs its/\Uem s.heap a its.toArray/\xs.length<=sizeLine:=by
 rcases h with h | ⟨o,its,n,hk,hc,hs,hz,r,_⟩
 ·obtain⟨z,its,r,p⟩:=h.ok I.hok
  exact⟨its,r,p.tup,z⟩
 ·refine⟨its.toList,r,⟨o,I.kIn a o hk,hc,n,by simpa using hs⟩,?_⟩
  have e:=r.length
  simp only[Wdn] at e
  omega
theorem Inv.list_inj (I:Inv X pins σ H s) (h:SqL X.K H a xs) (h':SqL X.K H a ys):xs=ys:=by
 obtain⟨its,r,⟨o,n,e,_,_,d⟩,_⟩:=I.list h
 obtain⟨its',r',⟨o',n',e',_,_,d'⟩,_⟩:=I.list h'
 rw[e] at e'; cases e'
 rw[d] at d'
 injection d' with d1 _
 have:its=its':=by simpa using congrArg Array.toList d1
 subst this
 exact r.inj r'
theorem Inv.tuple_inj (I:Inv X pins σ H s) (h:SqT X.K H a xs) (h':SqT X.K H a ys):xs=ys:=by
 obtain⟨its,r,⟨o,e,_,n,d⟩,_⟩:=I.tuple h
 obtain⟨its',r',⟨o',e',_,n',d'⟩,_⟩:=I.tuple h'
 rw[e] at e'; cases e'
 rw[d] at d'
 injection d' with d1 _
 have:its=its':=by simpa using congrArg Array.toList d1
 subst this
 exact r.inj r'
end
nonrec abbrev Cx.wish (X:Cx) (E:Vb->Vd->Prop):Cx:={ X with xe:=E }
nonrec abbrev Cx.nox (X:Cx):Cx:=X.wish fun _ _=>False
theorem Cx.Ok.wish {X:Cx} (ok:X.Ok) (E:Vb->Vd->Prop):(X.wish E).Ok :=
 ⟨ok.mod,ok.kind,ok.glob,ok.blt,ok.above,ok.inj,ok.has,ok.cab,ok.hd,ok.frames,ok.stk,ok.exf,ok.bs,ok.bsz,ok.noex,ok.exfs,ok.funs,ok.frf⟩
theorem Cx.Ok.unwish {X:Cx} {E:Vb->Vd->Prop} (ok:(X.wish E).Ok):X.Ok :=
 ⟨ok.mod,ok.kind,ok.glob,ok.blt,ok.above,ok.inj,ok.has,ok.cab,ok.hd,ok.frames,ok.stk,ok.exf,ok.bs,ok.bsz,ok.noex,ok.exfs,ok.funs,ok.frf⟩
section
variable {X:Cx} {pins:List (Ve×Obj)} {σ:St} {H:Hp} {s:Vd} {E:Vb->Vd->Prop}
theorem Inv.wish (I:Inv X pins σ H s) (E:Vb->Vd->Prop):Inv (X.wish E) pins σ H s:=⟨I.ok.wish E,I.os,I.bare,I.base,I.loc,I.cell,I.free,I.freeC,I.pin,I.hok,I.len⟩
theorem Inv.unwish (I:Inv (X.wish E) pins σ H s):Inv X pins σ H s:=⟨I.ok.unwish,I.os,I.bare,I.base,I.loc,I.cell,I.free,I.freeC,I.pin,I.hok,I.len⟩
theorem SP.unwish {D:Ends} {f:Flow} {s':Vd} (h:SP (X.wish E) pins D f s'):SP X pins D f s':=by
 cases f with
 | next=>obtain⟨σ',H',I,q⟩:=h; exact⟨σ',H',I.unwish,q⟩
 | brk=>obtain⟨σ',H',I,q⟩:=h; exact⟨σ',H',I.unwish,q⟩
 | cont=>obtain⟨σ',H',I,q⟩:=h; exact⟨σ',H',I.unwish,q⟩
 | ret u=>obtain⟨v,σ',H',I,r,q⟩:=h; exact⟨v,σ',H',I.unwish,r,q⟩
theorem PSs.nox {st:List Uab} {t:TS} (h:PSs X.nox st t):PSs X st t:=fun pins s σ H D I hw =>
 Uao (h pins s σ H D (I.wish _) hw) (fun _ _ q=>q.unwish) fun _ _ z=>Uj z
end
section
variable {X:Cx} {st:Uab} {rest:List Uab} {t u:TS} {e:Vv} {te:TE} {pos:Pos}
nonrec def tNext:TS:=fun D σ H=>D.nx σ H
nonrec def tSeq (t u:TS):TS:=fun D σ H=>t { D with nx:=u D } σ H
theorem Yaf:PSs X [] tNext:=fun _ _ σ H _ I h=>Uck ⟨σ,H,I,h⟩
theorem Zxc (h1:PS X st t) (h2:PSs X rest u):PSs X (st::rest) (tSeq t u):=by
 intro pins s σ H D I h
 refine wpAny_execs_cons (thn (h1 pins s σ H { D with nx:=u D } I h) fun f s1 q=>?_)
 cases f with
 | next =>
  obtain⟨σ',H',I',q⟩:=q
  exact h2 pins s1 σ' H' D I' q
 | ret v=>exact q
 | brk=>exact q
 | cont=>exact q
theorem Inv.quiet {pins:List (Ve×Obj)} {σ:St} {H:Hp} {s:Vd} (I:Inv X pins σ H s):interactive X.env=false:=by simp[interactive,I.ok.kind]
nonrec def tDrop (te:TE):TS:=fun D σ H=>te σ H fun _ H1=>D.nx σ H1
theorem Zzl (he:PE X e te) (hs:Ucl e none pos.line X.env=pure false:=by rfl):PS X (.Expr e pos) (tDrop te):=by
 intro pins s σ H D I h
 exact wpAny_Expr_any (thn (he pins s σ H _ I h) fun v s1 ⟨x,H1,I1,r1,q1⟩=>⟨σ,H1,I1,q1⟩) I.quiet hs
nonrec def tRet (te:TE):TS:=fun D σ H=>te σ H D.rt
theorem Ydg (he:PE X e te):PS X (.Return (some e) pos) (tRet te):=by
 intro pins s σ H D I h
 exact wpAny_Return_some (thn (he pins s σ H _ I h) fun v s1 ⟨x,H1,I1,r1,q1⟩=>⟨x,σ,H1,I1,r1,q1⟩)
nonrec def tRetN:TS:=fun D _ H=>D.rt .non H
theorem Yaj:PS X (.Return none pos) tRetN:=fun _ _ σ H _ I h=>wpAny_Return_none ⟨.non,σ,H,I,rfl,h⟩
nonrec def tIfS (c:TT) (t u:TS):TS:=fun D σ H=>c σ H fun b H1=>if b=true then t D σ H1 else u D σ H1
theorem ps_if {c:Vv} {a b:List Uab} {tc:TT} (hc:PT X c tc) (ha:PSs X a t) (hb:PSs X b u):PS X (.If c a b pos) (tIfS tc t u):=by
 intro pins s σ H D I h
 refine wpAny_If (thn (hc pins s σ H _ I h) fun d s1 zz=>?_)
 obtain⟨H1,I1,q1⟩:=zz
 cases d with
 | true=>exact ha pins s1 σ H1 D I1 q1
 | false=>exact hb pins s1 σ H1 D I1 q1
end
nonrec abbrev TG:=V->St->Hp->(St->Hp->Prop)->Prop
nonrec abbrev TGs:=List V->St->Hp->(St->Hp->Prop)->Prop
def PG (X:Cx) (target:Vv) (t:TG):Prop :=
 ∀ (pins:List (Ve×Obj)) (s:Vd) (σ:St) (H:Hp) (v:V) (u:Vb) (Q:St->Hp->Prop),Inv X pins σ H s->Zcg v u->t v σ H Q ->
  Vf (Vm X.prog X.w) X.A (Udd target X.env u) (fun _ s'=>∃ σ' H',Inv X pins σ' H' s'/\Q σ' H') X.xe s
def PGs (X:Cx) (ts:List Vv) (t:TGs):Prop :=
 ∀ (pins:List (Ve×Obj)) (s:Vd) (σ:St) (H:Hp) (vs:List V) (us:List Vb) (Q:St->Hp->Prop),Inv X pins σ H s->Zb7 vs us->t vs σ H Q ->
  Vf (Vm X.prog X.w) X.A (assignInOrder ((Uap ts X.env).map (·.2)) us) (fun _ s'=>∃ σ' H',Inv X pins σ' H' s'/\Q σ' H') X.xe s
nonrec abbrev TSet:=V->V->V->Hp->(Hp->Prop)->Prop
def PSet (X:Cx) (t:TSet):Prop :=
 ∀ (pins:List (Ve×Obj)) (s:Vd) (σ:St) (H:Hp) (o i v:V) (ov iv u:Vb) (Q:Hp->Prop),Inv X pins σ H s->Zcg o ov->Zcg i iv->Zcg v u->t o i v H Q ->
  Vf (Vm X.prog X.w) X.A (setItem ov iv u) (fun _ s'=>∃ H',Inv X pins σ H' s'/\Q H') X.xe s
nonrec abbrev TIp:=V->V->Hp->VK->Prop
def PIp (X:Cx) (op:Uea) (t:TIp):Prop :=
 ∀ (pins:List (Ve×Obj)) (s:Vd) (σ:St) (H:Hp) (x y:V) (v u:Vb) (Q:VK),Inv X pins σ H s->Zcg x v->Zcg y u->t x y H Q ->
  Vf (Vm X.prog X.w) X.A (inplaceOp op v u) (EP X pins σ Q) X.xe s
section
variable {X:Cx} {pos:Pos}
nonrec def Zlb (i:Nat):TG:=fun v σ H Q=>Q (σ.set i (some v)) H
theorem Zlf {i:Nat} {x:Str} (hN:X.N.Nodup) (hi:X.N[i]? = some x) (hx:Loc X.env.scope x) (hf:X.fn x=true\/X.env.scope.names.lookup x=some .local:=by first | exact .inl rfl | exact .inr rfl | assumption):PG X (.Name x pos) (Zlb i):=by
 intro pins s σ H v u Q I r h
 exact wpAny_assign_Name (Zl1 I hN hi hx r (fun s' I'=>⟨_,H,I',h⟩) hf)
nonrec def gNil:TGs:=fun vs σ H Q=>vs=[]/\Q σ H
nonrec def Zsb (t:TG) (u:TGs):TGs:=fun vs σ H Q=>∃ v r,vs=v::r/\t v σ H fun σ' H'=>u r σ' H' Q
theorem Zvf:PGs X [] gNil:=by
 intro pins s σ H vs us Q I r h
 obtain⟨e,h⟩:=h
 subst e
 cases r
 exact assignInOrder_nil ⟨σ,H,I,h⟩
theorem Zlc {e:Vv} {es:List Vv} {t:TG} {u:TGs} (h1:PG X e t) (h2:PGs X es u)
  (hs:(Uap (e::es) X.env).map (·.2)=Udd e X.env::(Uap es X.env).map (·.2):=by rfl):PGs X (e::es) (Zsb t u):=by
 intro pins s σ H vs us Q I r h
 obtain⟨v,vr,e1,h⟩:=h
 subst e1
 cases r with
 | cons r rr =>
  rw[hs]
  refine assignInOrder_cons (thn (h1 pins s σ H _ _ _ I r h) fun _ s1 zz=>?_)
  obtain⟨σ1,H1,I1,q1⟩:=zz
  exact h2 pins s1 σ1 H1 _ _ Q I1 rr q1
nonrec def gTup (K:Xb) (n:Nat) (t:TGs):TG:=fun v σ H Q=>∃ a xs,v=.ref a/\SqT K H a xs/\xs.length=n/\t xs σ H Q
theorem Zxn {es:List Vv} {k:Nat} {t:TGs} {n:Nat} (hc:X.calm=true) (h:PGs X es t)
  (hn:(Uap es X.env).length=n:=by rfl) (hst:(Uap es X.env).findIdx? (·.1)=none:=by rfl):PG X (.Tuple es k pos) (gTup X.K n t):=by
 intro pins s σ H v u Q I r hw
 obtain⟨a,xs,e1,hq,hl,hw⟩:=hw
 subst e1
 cases r
 obtain⟨its,rv,ht,hz⟩:=I.tuple hq
 refine assign_Tuple_tuple (I.ok.hd hc) ht (by simp[hn,<- hl,rv.length]) hst fun h' hx=>?_
 have I1:Inv X pins σ H { s with heap:=h' }:=I.kept (t':=s.toks) fun b o e=>hx b o (Xh (Xf e)) e
 exact h pins _ σ H xs _ Q I1 (by simpa using rv) hw
nonrec def gSub (to ti:TE) (t:TSet):TG:=fun v σ H Q=>to σ H fun o H1=>ti σ H1 fun i H2=>t o i v H2 fun H3=>Q σ H3
theorem Yd2 {o i:Vv} {to ti:TE} {t:TSet} (ho:PE X o to) (hi:PE X i ti) (hs:PSet X t)
  (ha:∀ v,Udd (.Subscript o i pos) X.env v=(do
   let ov<-Udi [v] (eval o X.env)
   let iv<-Udi [v,ov] (eval i X.env)
   standAt pos
   Udi [v,ov,iv] (setItem ov iv v)
   release [v,ov,iv] []):=by intro _; rfl):PG X (.Subscript o i pos) (gSub to ti t):=by
 intro pins s σ H v u Q I r h
 rw[ha]
 refine Va (Vw (thn (ho pins s σ H _ I h) fun ov s1 zz=>?_))
 obtain⟨x,H1,I1,r1,q1⟩:=zz
 refine Va (Vw (thn (hi pins s1 σ H1 _ I1 q1) fun iv s2 zz=>?_))
 obtain⟨y,H2,I2,r2,q2⟩:=zz
 refine Va (Ubn (Va (Vw (thn (hs pins s2 σ H2 x y v ov iv u _ I2 r1 r2 r q2) fun _ s3 zz=>?_))))
 obtain⟨H3,I3,q3⟩:=zz
 exact wpAny_release ⟨σ,H3,I3,q3⟩
nonrec def tAsg (te:TE) (g:TG):TS:=fun D σ H=>te σ H fun x H1=>g x σ H1 D.nx
theorem Ybe {tg e:Vv} {te:TE} {g:TG} (he:PE X e te) (hg:PG X tg g) (hs:swapsWithSole [tg] e pos.line X.env=pure false:=by rfl) (hw:swappedStores [tg] e X.env=pure none:=by rfl)
  (h1:(Uap [tg] X.env).map (·.2)=[Udd tg X.env]:=by rfl):PS X (.Assign [tg] e pos) (tAsg te g):=by
 intro pins s σ H D I h
 refine wpAny_Assign_stores (thn (he pins s σ H _ I h) fun v s1 ⟨x,H1,I1,r1,q1⟩=>?_) hs hw
 rw[h1]
 exact thn (hg pins s1 σ H1 x v _ I1 r1 q1) fun _ s2 q=>q
theorem Yda {i:Nat} {x:Str} {e:Vv} {te:TE} {pos':Pos} (hN:X.N.Nodup) (hi:X.N[i]? = some x) (hx:Loc X.env.scope x) (he:PE X e te) (hs:Ucl e (some (.Name x pos')) pos.line X.env=pure false:=by rfl) (hf:X.fn x=true\/X.env.scope.names.lookup x=some .local:=by first | exact .inl rfl | exact .inr rfl | assumption) :
  PS X (.Assign [.Name x pos'] e pos) (tAsg te (Zlb i)):=by
 intro pins s σ H D I h
 refine wpAny_Assign_Name (thn (he pins s σ H _ I h) fun v s1 ⟨y,H1,I1,r1,q1⟩=>?_) hs
 exact Zl1 I1 hN hi hx r1 (fun s2 I2=>⟨_,H1,I2,q1⟩) hf
nonrec def tAug (i:Nat) (te:TE) (ti:TIp):TS:=fun D σ H=>∃ x,σ[i]? = some (some x)/\te σ H fun y H1=>ti x y H1 fun z H2=>D.nx (σ.set i (some z)) H2
theorem Yd9 {i:Nat} {x:Str} {e:Vv} {te:TE} {op:Uea} {ti:TIp} {pos':Pos} (hN:X.N.Nodup) (hi:X.N[i]? = some x) (hx:Loc X.env.scope x) (he:PE X e te) (ho:PIp X op ti) (hf:X.fn x=true\/X.env.scope.names.lookup x=some .local:=by first | exact .inl rfl | exact .inr rfl | assumption) :
  PS X (.AugAssign (.Name x pos') op e pos) (tAug i te ti):=by
 intro pins s σ H D I h
 obtain⟨v,e1,h⟩:=h
 obtain⟨m,hn,hl⟩:=I.loc
 have vis:Vis X.env.scope x:=by rcases hx with k | k; exact .inl k; exact .inr (.inl k)
 obtain⟨u,r,l⟩:=hl i x v hi e1 vis
 refine wpAny_AugAssign_Name ?_
 have go:Vf (Vm X.prog X.w) X.A (eval e X.env) (fun w s₂=>Vf (Vm X.prog X.w) X.A (inplaceOp op u w) (fun r s₃=>Vf (Vm X.prog X.w) X.A (Ued X.env x r) (fun _=>SP X pins D .next) X.xe s₃) X.xe s₂) X.xe s:=by
  refine thn (he pins s σ H _ I h) fun w s1 zz=>?_
  obtain⟨y,H1,I1,r1,q1⟩:=zz
  refine thn (ho pins s1 σ H1 v y u w _ I1 r r1 q1) fun z s2 zz=>?_
  obtain⟨zv,H2,I2,r2,q2⟩:=zz
  exact Zl1 I2 hN hi hx r2 (fun s3 I3=>⟨_,H2,I3,q2⟩) hf
 rcases l with ⟨hk,hm⟩ | ⟨hk,c,hc,hcell⟩
 ·exact Ucx I.ok.kind hk hn hm go
 ·rcases hk with hk | hk
  ·exact Udh I.ok.kind hk hc hcell go
  ·rcases hx with k | k
   ·have:X.env.scope.names.lookup x=some .free:=hk
    rw[k] at this; cases this
   ·have:X.env.scope.names.lookup x=some .free:=hk
    rw[k] at this; cases this
nonrec def ipI (f:Int->Int->Int):TIp:=fun x y H Q=>∃ i j,x=.int i/\y=.int j/\Q (.int (f i j)) H
theorem Yd1:PIp X .Sub (ipI fun i j=>i - j):=by
 intro pins s σ H x y v u Q I r1 r2 h
 obtain⟨i,j,e1,e2,q⟩:=h
 subst e1; subst e2
 obtain⟨t,rfl⟩:=r1
 obtain⟨t',rfl⟩:=r2
 exact isub_int ⟨.int _,H,I.tok _,⟨_,rfl⟩,q⟩
end
section
variable {X:Cx} {pos:Pos}
nonrec def Yeb (c:TT) (tb:TS):TS:=fun D σ H=>∃ W:Nat->St->Hp->Prop,(∃ m,W m σ H)/\∀ m σ H,W m σ H ->
 c σ H fun b H1=>if b=true then ∃ N:St->Hp->Prop,(∀ σ' H',N σ' H'->∃ m',m'<m/\W m' σ' H')/\tb { D with nx:=N,ct:=N,bk:=D.nx } σ H1 else D.nx σ H1
theorem Zwa {c:Vv} {body:List Uab} {tc:TT} {tb:TS} (hp:Uee (Vm X.prog X.w) X.A X.env X.xe) (hc:PT X c tc) (hb:PSs X body tb):PS X (.While c body [] pos) (Yeb tc tb):=by
 intro pins s σ H D I h
 obtain⟨W,⟨m0,w0⟩,turn⟩:=h
 refine wpAny_While (codeAny_whileLoop (fun n s'=>∃ σ' H',Inv X pins σ' H' s'/\W n σ' H') ?_ m0 ⟨σ,H,I,w0⟩)
 rintro n s1 ⟨σ1,H1,I1,w1⟩
 refine Uai hp (thn (hc pins s1 σ1 H1 _ I1 (turn n σ1 H1 w1)) fun b s2 zz=>?_)
 obtain⟨H2,I2,q2⟩:=zz
 cases b with
 | true =>
  obtain⟨N,hN,q2⟩:=q2
  rw[if_pos rfl]
  refine Uai hp (thn (hb pins s2 σ1 H2 _ I2 q2) fun f s3 q3=>?_)
  cases f with
  | next =>
   obtain⟨σ3,H3,I3,n3⟩:=q3
   obtain⟨m',hm,w3⟩:=hN σ3 H3 n3
   exact⟨m',hm,σ3,H3,I3,w3⟩
  | cont =>
   obtain⟨σ3,H3,I3,n3⟩:=q3
   obtain⟨m',hm,w3⟩:=hN σ3 H3 n3
   exact⟨m',hm,σ3,H3,I3,w3⟩
  | brk=>exact q3
  | ret v=>exact q3
 | false =>
  rw[if_neg Waz]
  exact Uck ⟨σ1,H2,I2,q2⟩
end
structure It where
 go:Nat->Hp->Prop
 yld:Nat->Hp->V->Hp->Prop
 stop:Nat->Hp->Prop
def Zk7 (X:Cx) (pins:List (Ve×Obj)) (H:Hp) (b:Ve):Prop :=
 H b=none/\b≠X.env.locals/\b∉X.fs/\(b∈X.ex\/X.s₀.heap.objs.size<=b)/\(∀ x c,X.env.cells.lookup x=some c->c≠b)/\∀ p∈X.pn++pins,p.1≠b
theorem Inv.fpOk {X:Cx} {pins:List (Ve×Obj)} {σ:St} {H H':Hp} {s:Vd} {b:Ve} (I:Inv X pins σ H s) (hb:s.heap.objs.size<=b) (hn:H' b=none):Zk7 X pins H' b:=by
 refine⟨hn,Wbn (Xi I.lt hb),I.nofs hb,.inr (Wac I.sz hb),fun x c e z=>?_,fun p hp z=>?_⟩
 ·obtain⟨v,q⟩:=I.cell x c e
  exact absurd (Xi q.lt (by rw[z]; exact hb)) (Was _)
 ·exact absurd (Xi (Xf (I.pin p hp).1) (by rw[z]; exact hb)) (Was _)
structure Turn (P:Vh) (w:Vu) (K:Xb) (tg:Vv) (J:It) (fp:List Ve) (it:Ve) (tn:Nat->Vz->Prop):Prop where
 mem:it∈fp
 obj:∀ i h,tn i h->∀ b∈fp,∃ o,h.get? b=some o/\∀ v,o.data≠.cell v
 keep:∀ i h h',tn i h->(∀ b∈fp,∀ o,h.get? b=some o->h'.get? b=some o)->tn i h'
 item:∀ (X:Cx),X.prog=P->X.w=w->X.K=K->X.calm=true->∀ (i:Nat) (pins:List (Ve×Obj)) (s:Vd) (σ:St) (H:Hp) (E:Vb->Vd->Prop),Inv X pins σ H s->(∀ b∈fp,Zk7 X pins H b)->tn i s.heap->J.go i H ->
  Vf (Vm P w) X.A (Ubj (.ref it)) (fun r s1=>∃ u,r=some u /\
   Vf (Vm P w) X.A (Ucm tg (.ref it) u) (fun _ s2=>∃ x H',Inv X pins σ H' s2/\Zcg x u/\J.yld i H x H'/\tn (i+1) s2.heap/\∀ b∈fp,H' b=none) E s1) E s
 done:∀ (X:Cx),X.prog=P->X.w=w->X.K=K->X.calm=true->∀ (i:Nat) (pins:List (Ve×Obj)) (s:Vd) (σ:St) (H:Hp) (E:Vb->Vd->Prop),Inv X pins σ H s->(∀ b∈fp,Zk7 X pins H b)->tn i s.heap->J.stop i H ->
  Vf (Vm P w) X.A (Ubj (.ref it)) (fun r s1=>r=none/\Inv X pins σ H s1) E s
 self:∀ (A:Vt) (i:Nat) (s:Vd) (Q:Vb->Vd->Prop) (E:Vb->Vd->Prop),tn i s.heap->Q (.ref it) s->Vf (Vm P w) A (pyIter (.ref it)) Q E s
nonrec abbrev TI:=St->Hp->(It->Hp->Prop)->Prop
def PIE (X:Cx) (pins:List (Ve×Obj)) (σ:St) (tg:Vv) (R:It->Hp->Prop) (itv:Vb) (s2:Vd):Prop :=
 ∃ (it:Ve) (fp:List Ve) (tn:Nat->Vz->Prop) (J:It) (H':Hp),itv=.ref it/\Inv X pins σ H' s2/\Turn X.prog X.w X.K tg J fp it tn/\tn 0 s2.heap/\(∀ b∈fp,Zk7 X pins H' b)/\R J H'
def PI (X:Cx) (tg iter:Vv) (wi:TI):Prop :=
 ∀ (pins:List (Ve×Obj)) (s:Vd) (σ:St) (H:Hp) (R:It->Hp->Prop),Inv X pins σ H s->wi σ H R ->
  Vf (Vm X.prog X.w) X.A (eval iter X.env) (fun v s1=>Vf (Vm X.prog X.w) X.A (pyIter v) (PIE X pins σ tg R) X.xe s1) X.xe s
theorem Zu9 {M:Model} {A:Vt} {E:Vb->Vd->Prop} {s:Vd} {tg:Vv} {it:Ve} {u:Vb} {o:Obj} {n:String} {vs:Array Vb} {Q:Unit->Vd->Prop} (ho:s.heap.get? it=some o) (hc:o.cls=.type n) (hd:o.data=.fields vs)
  (hn:["enumerate","zip","dict_itemiterator","dict_reverseitemiterator","odict_iterator","itertools.zip_longest","itertools.pairwise"].contains n=false) (hQ:Q () s):Vf M A (Ucm tg (.ref it) u) Q E s:=by
 unfold Ucm
 cases tg<;>first
  | exact Vc hQ
  | (cases u<;>first
    | exact Vc hQ
    | (refine Va (wpAny_load ho ?_)
       rw[hc,hd]
       show Vf M A (if (["enumerate","zip","dict_itemiterator","dict_reverseitemiterator","odict_iterator","itertools.zip_longest","itertools.pairwise"].contains n&&vs[0]? == some (Uaa _))=true then _ else _) Q E s
       rw[if_neg (by intro h; rw[hn,Bool.false_and] at h; cases h)]
       exact Vc hQ))
nonrec def Itl (K:Xb) (a:Ve):It :=
 ⟨fun i H=>∃ xs x,SqL K H a xs/\xs[i]? = some x,fun i H x H'=>H'=H/\∀ xs,SqL K H a xs->xs[i]? = some x,fun i H=>∃ xs,SqL K H a xs/\xs.length<=i⟩
nonrec def Itt (K:Xb) (a:Ve):It :=
 ⟨fun i H=>∃ xs x,SqT K H a xs/\xs[i]? = some x,fun i H x H'=>H'=H/\∀ xs,SqT K H a xs->xs[i]? = some x,fun i H=>∃ xs,SqT K H a xs/\xs.length<=i⟩
nonrec def Itr (lo:Int) (n:Nat):It:=⟨fun i _=>i<n,fun i H x H'=>H'=H/\x=.int (lo+i),fun i _=>n<=i⟩
theorem Ztv {P:Vh} {w:Vu} {K:Xb} {tg:Vv} (a it:Ve):Turn P w K tg (Itl K a) [it] it (fun i h=>h.IsListIter it a i) where
 mem:=by simp
 obj:=fun i h st b hb=>by
  have e:b=it:=by simpa using hb
  subst e
  obtain⟨o,e,c,d⟩:=st
  exact⟨o,e,fun v z=>by rw[d] at z; cases z⟩
 keep:=fun i h h' st k=>st.at fun o e=>k it (by simp) o e
 item:=by
  intro X hP hw hK hc i pins s σ H E I hf st hg
  subst hP hw hK
  obtain⟨xs,x,hq,hx⟩:=hg
  obtain⟨its,rv,p,hz⟩:=I.list hq
  obtain⟨u,hu,ru⟩:=rv.get hx
  obtain⟨f0,f1,f2,f3,f4,f5⟩:=hf it (by simp)
  refine wpAny_pyNext_list_item st p.isList (x:=u) (by simpa using hu) fun h' st' sb=>?_
  have I1:Inv X pins σ H { s with heap:=h' }:=I.turned (t':=s.toks) (fun b o hb e=>(sb.2 b hb).trans e) f0 f1 f3 f4 f5
  obtain⟨o,e,c,d⟩:=id st'
  exact⟨u,rfl,Zu9 (s:={ s with heap:=h' }) e c d (by decide) ⟨x,H,I1,ru,⟨rfl,fun ys hy=>by rw[I.list_inj hy hq]; exact hx⟩,st',fun b hb=>(hf b hb).1⟩⟩
 done:=by
  intro X hP hw hK hc i pins s σ H E I hf st hg
  subst hP hw hK
  obtain⟨xs,hq,hx⟩:=hg
  obtain⟨its,rv,p,hz⟩:=I.list hq
  obtain⟨f0,f1,f2,f3,f4,f5⟩:=hf it (by simp)
  have hl:=rv.length
  exact wpAny_pyNext_list_end (I.ok.hd hc) st p.isList (by simp; omega) fun h' eb=>⟨rfl,I.turned (t':=s.toks) (fun b o hb e=>eb b o hb e) f0 f1 f3 f4 f5⟩
 self:=fun _ _ _ _ _ st h=>wpAny_pyIter_listiter st h
theorem Zqy {P:Vh} {w:Vu} {K:Xb} {tg:Vv} (a it:Ve):Turn P w K tg (Itt K a) [it] it (fun i h=>h.IsTupleIter it a i) where
 mem:=by simp
 obj:=fun i h st b hb=>by
  have e:b=it:=by simpa using hb
  subst e
  obtain⟨o,e,c,d⟩:=st
  exact⟨o,e,fun v z=>by rw[d] at z; cases z⟩
 keep:=fun i h h' st k=>st.at fun o e=>k it (by simp) o e
 item:=by
  intro X hP hw hK hc i pins s σ H E I hf st hg
  subst hP hw hK
  obtain⟨xs,x,hq,hx⟩:=hg
  obtain⟨its,rv,p,hz⟩:=I.tuple hq
  obtain⟨u,hu,ru⟩:=rv.get hx
  obtain⟨f0,f1,f2,f3,f4,f5⟩:=hf it (by simp)
  refine wpAny_pyNext_tuple_item st (show s.heap.IsTuple a its.toArray from p) (x:=u) (by simpa using hu) fun h' st' sb=>?_
  have I1:Inv X pins σ H { s with heap:=h' }:=I.turned (t':=s.toks) (fun b o hb e=>(sb.2 b hb).trans e) f0 f1 f3 f4 f5
  obtain⟨o,e,c,d⟩:=id st'
  exact⟨u,rfl,Zu9 (s:={ s with heap:=h' }) e c d (by decide) ⟨x,H,I1,ru,⟨rfl,fun ys hy=>by rw[I.tuple_inj hy hq]; exact hx⟩,st',fun b hb=>(hf b hb).1⟩⟩
 done:=by
  intro X hP hw hK hc i pins s σ H E I hf st hg
  subst hP hw hK
  obtain⟨xs,hq,hx⟩:=hg
  obtain⟨its,rv,p,hz⟩:=I.tuple hq
  obtain⟨f0,f1,f2,f3,f4,f5⟩:=hf it (by simp)
  have hl:=rv.length
  exact wpAny_pyNext_tuple_end (I.ok.hd hc) st (show s.heap.IsTuple a its.toArray from p) (by simp; omega) fun h' eb=>⟨rfl,I.turned (t':=s.toks) (fun b o hb e=>eb b o hb e) f0 f1 f3 f4 f5⟩
 self:=fun _ _ _ _ _ st h=>wpAny_pyIter_tupleiter st h
theorem Zrv {P:Vh} {w:Vu} {K:Xb} {tg:Vv} (it:Ve) (lo:Int) (n:Nat):Turn P w K tg (Itr lo n) [it] it (fun i h=>Udj h it (lo+(i:Nat)*1) ((n:Int) - (i:Nat)) 1) where
 mem:=by simp
 obj:=fun i h st b hb=>by
  have e:b=it:=by simpa using hb
  subst e
  exact⟨_,st,fun v z=>by
   have z':Data.fields _=Data.cell v:=z
   cases z'⟩
 keep:=fun i h h' st k=>k it (by simp) _ st
 item:=by
  intro X hP hw hK hc i pins s σ H E I hf st hg
  subst hP hw hK
  obtain⟨f0,f1,f2,f3,f4,f5⟩:=hf it (by simp)
  have W:=Walks.range (prog:=X.prog) (w:=X.w) (I.ok.hd hc) it lo 1 n
  refine W.item i s _ _ hg st fun v h' tk hv st' kk=>?_
  obtain⟨t,rfl⟩:=hv
  have I1:Inv X pins σ H { s with heap:=h',toks:=tk }:=I.turned (fun b o hb e=>kk b o (by simpa using hb) e) f0 f1 f3 f4 f5
  refine⟨_,rfl,Zu9 (s:={ s with heap:=h',toks:=tk }) (n := "range_iterator") st' rfl rfl (by decide) ⟨.int (lo+i),H,I1,⟨t,?_⟩,⟨rfl,rfl⟩,st',fun b hb=>(hf b hb).1⟩⟩
  rw[Int.mul_one]
 done:=by
  intro X hP hw hK hc i pins s σ H E I hf st hg
  subst hP hw hK
  obtain⟨f0,f1,f2,f3,f4,f5⟩:=hf it (by simp)
  exact Ucd (I.ok.hd hc) st (by have:n<=i:=hg; omega) fun h' eb=>⟨rfl,I.turned (t':=s.toks) (fun b o hb e=>eb b o hb e) f0 f1 f3 f4 f5⟩
 self:=fun _ _ _ _ _ st h=>Uce st h
section
variable {X:Cx} {tg:Vv}
theorem Zvw {pins:List (Ve×Obj)} {σ:St} {H:Hp} {s:Vd} {R:It->Hp->Prop} {E:Vb->Vd->Prop} {lo hi:Int} {t u v:Tok} {tk:Nat} (I:Inv X pins σ H s) (h1 : -(2 ^ 62)<=lo) (h2:lo<2 ^ 62) (h3 : -(2 ^ 62)<=hi) (h4:hi<2 ^ 62)
  (q:R (Itr lo (hi - lo).toNat) H):Vf (Vm X.prog X.w) X.A (pyIter (.ref s.heap.objs.size)) (PIE X pins σ tg R) E { s with heap:=s.heap.push { cls:=.type "range",data:=.fields #[.int lo t,.int hi u,.int 1 v] },toks:=tk }:=by
 refine wpAny_pyIter_range (Tcv ..) (small_one h1 h2 h3 h4) ?_
 have I1:Inv X pins σ H { s with heap:=s.heap.push { cls:=.type "range",data:=.fields #[.int lo t,.int hi u,.int 1 v] },toks:=tk }:=I.kept fun b o e=>Xa _ e
 refine⟨(s.heap.push { cls:=.type "range",data:=.fields #[.int lo t,.int hi u,.int 1 v] }).objs.size,[(s.heap.push { cls:=.type "range",data:=.fields #[.int lo t,.int hi u,.int 1 v] }).objs.size],_,_,H,rfl,
  I1.kept (t':=tk) fun b o e=>Xa _ e,Zrv _ lo (hi - lo).toNat,?_,fun b hb=>?_,q⟩
 ·have e1:lo+((0:Nat):Int)*1=lo:=by simp
  have e2:(((hi - lo).toNat:Nat):Int) - ((0:Nat):Int)=Uz lo hi 1:=by rw[rangeSize_one]; split<;>omega
  show Udj _ _ (lo+((0:Nat):Int)*1) ((((hi - lo).toNat:Nat):Int) - ((0:Nat):Int)) 1
  rw[e1,e2]
  exact Xd _ rfl
 ·have e:b=(s.heap.push { cls:=.type "range",data:=.fields #[.int lo t,.int hi u,.int 1 v] }).objs.size:=by simpa using hb
  subst e
  exact I1.fpOk (Xe _) (I1.hok.fresh (Xe _))
nonrec def iRng1 (ta:TA):TI:=fun σ H R=>ta σ H fun vs H1=>∃ j:Int,vs=[.int j] /\ -(2 ^ 62)<=j/\j<2 ^ 62/\R (Itr 0 j.toNat) H1
theorem Zsw {a:Vv} {ta:TA} {p pos:Pos} (hg:Gl X "range") (hm:X.mg "range" = none) (ha:PA X [a] ta) (hs:Vg [a] X.env=[(false,eval a X.env)]:=by rfl):PI X tg (.Call (.Name "range" p) [a] [] pos) (iRng1 ta):=by
 intro pins s σ H R I h
 refine Call_ (Zeb I hg hm boot_range (Ug (thn (ha pos pins s σ H _ I h) fun us s1 ⟨vs,H1,I1,r1,q1⟩=>?_) hs rfl))
 obtain⟨j,e,q1,q2,q⟩:=q1
 subst e
 cases r1 with
 | cons r rr =>
  cases rr
  obtain⟨t,rfl⟩:=r
  exact call_range_1 (Zvw I1 (by omega) (by omega) q1 q2 (by simpa using q))
nonrec def tFor (wi:TI) (g:TG) (tb:TS):TS:=fun D σ H=>wi σ H fun J H1=>∃ W:Nat->Nat->St->Hp->Prop,(∃ m,W 0 m σ H1)/\∀ i m σ H,W i m σ H ->
 (J.stop i H/\D.nx σ H)\/(J.go i H/\∃ N:St->Hp->Prop,(∀ σ' H',N σ' H'->∃ m',m'<m/\W (i+1) m' σ' H')/\∀ x H',J.yld i H x H'->g x σ H' fun σ2 H2=>tb { D with nx:=N,ct:=N,bk:=D.nx } σ2 H2)
nonrec def Zkq (fp:List Ve) (h:Vz):List (Ve×Obj):=fp.filterMap fun b=>(h.get? b).map fun o=>(b,o)
theorem Zdg {fp:List Ve} {h:Vz} {b:Ve} {o:Obj} (hb:b∈fp) (e:h.get? b=some o):(b,o)∈Zkq fp h:=Wco.mpr ⟨b,hb,by rw[e]; rfl⟩
theorem Zs2 {fp:List Ve} {h:Vz} {p:Ve×Obj} (hp:p∈Zkq fp h):p.1∈fp/\h.get? p.1=some p.2:=by
 obtain⟨b,hb,e⟩:=Wco.mp hp
 cases q:h.get? b with
 | none=>rw[q] at e; cases e
 | some o =>
  rw[q] at e
  have e':(b,o)=p:=Xw.inj e
  subst e'
  exact⟨hb,q⟩
theorem Inv.pinned {pins:List (Ve×Obj)} {σ:St} {H:Hp} {s:Vd} {fp:List Ve} (I:Inv X pins σ H s) (hf:∀ b∈fp,Zk7 X pins H b) (ho:∀ b∈fp,∃ o,s.heap.get? b=some o/\∀ v,o.data≠.cell v):Inv X (pins++Zkq fp s.heap) σ H s :=
 I.pins_of fun p hp=>(Xx.mp hp).elim (fun z=>I.pin p (Xs _ z)) fun z=>by
  obtain⟨hb,e⟩:=Zs2 z
  obtain⟨f0,f1,f2,_⟩:=hf p.1 hb
  obtain⟨o,e',d⟩:=ho p.1 hb
  rw[e] at e'; cases e'
  exact⟨e,f0,f1,f2,d⟩
theorem Inv.unpinned {pins pl:List (Ve×Obj)} {σ:St} {H:Hp} {s:Vd} (I:Inv X (pins++pl) σ H s):Inv X pins σ H s:=I.pins_of fun p hp=>I.pin p (Xs _ (Wat _ hp))
theorem Ydy {iter:Vv} {body:List Uab} {wi:TI} {g:TG} {tb:TS} {pos:Pos} (hp:Uee (Vm X.prog X.w) X.A X.env X.xe) (hc:X.calm=true) (hi:PI X tg iter wi) (hg:PG X tg g) (hb:PSs X body tb)
  (hs:∀ x,Vx iter X.env x=pure x:=by intro _; rfl):PS X (.For tg iter body [] pos) (tFor wi g tb):=by
 intro pins s σ H D I h
 refine wpAny_For (thn (hi pins s σ H _ I h) fun v s1 h1=>thn h1 fun itv s2 h2=>?_) hs
 obtain⟨it,fp,tn,J,H2,e,I2,T,st2,f2,W,⟨m0,w0⟩,turn⟩:=h2
 subst e
 -- what stays true of the iterator's objects through the loop
 have stat:∀ {H':Hp},(∀ b∈fp,H' b=none)->∀ b∈fp,Zk7 X pins H' b:=fun hn b hb=>⟨hn b hb,(f2 b hb).2⟩
 refine codeAny_forLoop_any (fun n s'=>∃ i σ' H',Inv X pins σ' H' s'/\tn i s'.heap/\(∀ b∈fp,H' b=none)/\W i n σ' H') ?_ m0 ⟨0,σ,H2,I2,st2,fun b hb=>(f2 b hb).1,w0⟩
 rintro n s3 ⟨i,σ3,H3,I3,st3,fr3,w3⟩
 rcases turn i n σ3 H3 w3 with ⟨stop,qn⟩ | ⟨go,N,hN,step⟩
 ·refine Uai hp (thn (T.done X rfl rfl rfl hc i pins s3 σ3 H3 X.xe I3 (stat fr3) st3 stop) fun r s4 zz=>?_)
  obtain⟨hr,I4⟩:=zz
  subst hr
  exact Uck ⟨σ3,H3,I4,qn⟩
 ·refine Uai hp (thn (T.item X rfl rfl rfl hc i pins s3 σ3 H3 X.xe I3 (stat fr3) st3 go) fun r s4 zz=>?_)
  obtain⟨u,hr,h4⟩:=zz
  subst hr
  refine Uai hp (thn h4 fun _ s5 zz=>?_)
  obtain⟨x,H5,I5,r5,y5,st5,fr5⟩:=zz
  have I5':=I5.pinned (stat fr5) (T.obj _ _ st5)
  refine Uai hp (thn (hg _ s5 σ3 H5 x u _ I5' r5 (step x H5 y5)) fun _ s6 zz=>?_)
  obtain⟨σ6,H6,I6,q6⟩:=zz
  refine Uai hp (thn (hb _ s6 σ6 H6 _ I6 q6) fun f s7 q7=>?_)
  have again:∀ {σ7:St} {H7:Hp},Inv X (pins++Zkq fp s5.heap) σ7 H7 s7->N σ7 H7->∃ m,m<n/\∃ i σ' H',Inv X pins σ' H' s7/\tn i s7.heap/\(∀ b∈fp,H' b=none)/\W i m σ' H':=fun {σ7 H7} I7 n7=>by
   obtain⟨m',hm,w7⟩:=hN σ7 H7 n7
   refine⟨m',hm,i+1,σ7,H7,I7.unpinned,T.keep _ _ _ st5 fun b hb o e=>(I7.pin (b,o) (Xs _ (Xs _ (Zdg hb e)))).1,fun b hb=>?_,w7⟩
   obtain⟨o,e,d⟩:=T.obj _ _ st5 b hb
   exact(I7.pin (b,o) (Xs _ (Xs _ (Zdg hb e)))).2.1
  cases f with
  | next=>obtain⟨σ7,H7,I7,n7⟩:=q7; exact again I7 n7
  | cont=>obtain⟨σ7,H7,I7,n7⟩:=q7; exact again I7 n7
  | brk=>obtain⟨σ7,H7,I7,q7⟩:=q7; exact⟨σ7,H7,I7.unpinned,q7⟩
  | ret v=>obtain⟨x7,σ7,H7,I7,r7,q7⟩:=q7; exact⟨x7,σ7,H7,I7.unpinned,r7,q7⟩
end
nonrec abbrev R2:=V->V->Hp->VK->Prop
def OpR (X:Cx) (f:Vb->Vb->Sem Vb) (r:R2):Prop :=
 ∀ (pins:List (Ve×Obj)) (s:Vd) (σ:St) (H:Hp) (x y:V) (v u:Vb) (Q:VK),Inv X pins σ H s->Zcg x v->Zcg y u->r x y H Q ->
  Vf (Vm X.prog X.w) X.A (f v u) (EP X pins σ Q) X.xe s
def UnR (X:Cx) (f:Vb->Sem Vb) (r:V->Hp->VK->Prop):Prop :=
 ∀ (pins:List (Ve×Obj)) (s:Vd) (σ:St) (H:Hp) (x:V) (v:Vb) (Q:VK),Inv X pins σ H s->Zcg x v->r x H Q ->
  Vf (Vm X.prog X.w) X.A (f v) (EP X pins σ Q) X.xe s
def Zj2 (X:Cx) (f:Vb) (r:List V->Hp->VK->Prop):Prop :=
 ∀ (pins:List (Ve×Obj)) (s:Vd) (σ:St) (H:Hp) (xs:List V) (us:List Vb) (Q:VK),Inv X pins σ H s->Zb7 xs us->r xs H Q ->
  Vf (Vm X.prog X.w) X.A (call f us) (EP X pins σ Q) X.xe s
def TruR (X:Cx) (r:V->Hp->(Bool->Hp->Prop)->Prop):Prop :=
 ∀ (pins:List (Ve×Obj)) (s:Vd) (σ:St) (H:Hp) (x:V) (v:Vb) (Q:Bool->Hp->Prop),Inv X pins σ H s->Zcg x v->r x H Q ->
  Vf (Vm X.prog X.w) X.A (truthy v) (TP X pins σ Q) X.xe s
nonrec def tOp (r:R2) (ta tb:TE):TE:=fun σ H Q=>ta σ H fun x H1=>tb σ H1 fun y H2=>r x y H2 Q
nonrec def tUn (r:V->Hp->VK->Prop) (ta:TE):TE:=fun σ H Q=>ta σ H fun x H1=>r x H1 Q
nonrec def rI (C:Int->Int->Prop) (g:Int->Int->V):R2:=fun x y H Q=>∃ i j,x=.int i/\y=.int j/\C i j/\Q (g i j) H
nonrec def rI0 (g:Int->Int->V):R2:=fun x y H Q=>∃ i j,x=.int i/\y=.int j/\Q (g i j) H
nonrec def rU (g:Int->V):V->Hp->VK->Prop:=fun x H Q=>∃ i,x=.int i/\Q (g i) H
section
variable {X:Cx} {a b c:Vv} {ta tb tc:TE} {pos:Pos}
theorem binT (ha:PE X a ta) (hb:PE X b tb) {pins:List (Ve×Obj)} {s:Vd} {σ:St} {H:Hp} {R:V->V->Hp->Prop} (I:Inv X pins σ H s)
  (h:ta σ H fun x H1=>tb σ H1 fun y H2=>R x y H2) {Q:Vb->Vd->Prop} {f:Vb->Vb->Sem Vb}
  (hf:∀ v u s2 x y H2,Inv X pins σ H2 s2->Zcg x v->Zcg y u->R x y H2->Vf (Vm X.prog X.w) X.A (f v u) Q X.xe s2) :
  Vf (Vm X.prog X.w) X.A (eval a X.env) (fun v s₁=>Vf (Vm X.prog X.w) X.A (eval b X.env) (fun u s₂=>Vf (Vm X.prog X.w) X.A (f v u) Q X.xe s₂) X.xe s₁) X.xe s:=by
 refine thn (ha pins s σ H _ I h) fun v s1 zz=>?_
 obtain⟨x,H1,I1,r1,q1⟩:=zz
 refine thn (hb pins s1 σ H1 _ I1 q1) fun u s2 zz=>?_
 obtain⟨y,H2,I2,r2,q2⟩:=zz
 exact hf v u s2 x y H2 I2 r1 r2 q2
theorem pe_op {op:Uea} {r:R2} (ho:OpR X (Vy op) r) (ha:PE X a ta) (hb:PE X b tb):PE X (.BinOp a op b pos) (tOp r ta tb):=by
 intro pins s σ H Q I h
 exact wpAny_BinOp (binT ha hb I h fun v u s2 x y H2 I2 rx ry q=>ho pins s2 σ H2 x y v u Q I2 rx ry q)
theorem pe_un {op:UnaryOp} {r:V->Hp->VK->Prop} (ho:UnR X (unaryOp op) r) (ha:PE X a ta):PE X (.UnaryOp op a pos) (tUn r ta):=by
 intro pins s σ H Q I h
 exact UnaryOp_ (thn (ha pins s σ H _ I h) fun v s1 ⟨x,H1,I1,r1,q1⟩=>ho pins s1 σ H1 x v Q I1 r1 q1)
theorem opI {f:Vb->Vb->Sem Vb} {C:Int->Int->Prop} {g:Int->Int->Int}
  (rule:∀ (i j:Int) (t u:Tok) (s:Vd) (Q:Vb->Vd->Prop) (E:Vb->Vd->Prop),C i j->Q (.int (g i j) s.toks) { s with toks:=s.toks+1 }->Vf (Vm X.prog X.w) X.A (f (.int i t) (.int j u)) Q E s) :
  OpR X f (rI C fun i j=>.int (g i j)):=by
 intro pins s σ H x y v u Q I rx ry h
 obtain⟨i,j,rfl,rfl,hc,q⟩:=h
 obtain⟨t,rfl⟩:=rx
 obtain⟨t',rfl⟩:=ry
 exact rule i j t t' s _ _ hc ⟨.int (g i j),H,I.tok _,⟨_,rfl⟩,q⟩
theorem opI0 {f:Vb->Vb->Sem Vb} {g:Int->Int->Int}
  (rule:∀ (i j:Int) (t u:Tok) (s:Vd) (Q:Vb->Vd->Prop) (E:Vb->Vd->Prop),Q (.int (g i j) s.toks) { s with toks:=s.toks+1 }->Vf (Vm X.prog X.w) X.A (f (.int i t) (.int j u)) Q E s) :
  OpR X f (rI0 fun i j=>.int (g i j)):=by
 intro pins s σ H x y v u Q I rx ry h
 obtain⟨i,j,rfl,rfl,q⟩:=h
 obtain⟨t,rfl⟩:=rx
 obtain⟨t',rfl⟩:=ry
 exact rule i j t t' s _ _ ⟨.int (g i j),H,I.tok _,⟨_,rfl⟩,q⟩
theorem opB0 {f:Vb->Vb->Sem Vb} {g:Int->Int->Bool}
  (rule:∀ (i j:Int) (t u:Tok) (s:Vd) (Q:Vb->Vd->Prop) (E:Vb->Vd->Prop),Q (.bool (g i j)) s->Vf (Vm X.prog X.w) X.A (f (.int i t) (.int j u)) Q E s) :
  OpR X f (rI0 fun i j=>.bl (g i j)):=by
 intro pins s σ H x y v u Q I rx ry h
 obtain⟨i,j,rfl,rfl,q⟩:=h
 obtain⟨t,rfl⟩:=rx
 obtain⟨t',rfl⟩:=ry
 exact rule i j t t' s _ _ ⟨.bl (g i j),H,I,rfl,q⟩
def Ydo (i j:Int):Prop:=0<j/\j<1073741824
def Ycr (i j:Int):Prop:=0<=j/\j<=1000000/\i.natAbs<2 ^ 64
def Zx4 (i j:Int):Prop:=(-(2 ^ 64)<i/\i<2 ^ 64)\/(-(2 ^ 64)<j/\j<2 ^ 64)
theorem Zx4.ok {i j:Int} (h:Zx4 i j):IntMulOk i j:=by
 rcases h with ⟨h1,h2⟩ | ⟨h1,h2⟩
 ·exact .of_left (intBits_le_64 h1 h2)
 ·exact .of_right (intBits_le_64 h1 h2)
theorem Ych:OpR X (Vy .Add) (rI0 fun i j=>.int (i+j)):=opI0 fun _ _ _ _ _ _ _ q=>add_int q
theorem Ybt:OpR X (Vy .Sub) (rI0 fun i j=>.int (i - j)):=opI0 fun _ _ _ _ _ _ _ q=>sub_int q
theorem Ycf:OpR X (Vy .Mult) (rI Zx4 fun i j=>.int (i*j)):=opI fun _ _ _ _ _ _ _ hc q=>mul_int q hc.ok
theorem Zzh:OpR X (Vy .FloorDiv) (rI Ydo fun i j=>.int (i / j)):=opI fun i j _ _ _ _ _ hc q=>by
 have h1:(0:Int)<j:=hc.1
 have h2:j<1073741824:=hc.2
 exact floordiv_int (by omega) (by rw[Int.fdiv_eq_ediv_of_nonneg i (by omega)]; exact q) (.inl (Tbs (by omega)))
theorem Ydm:OpR X (Vy .Mod) (rI (fun _ j=>0<j) fun i j=>.int (i % j)):=opI fun i j _ _ _ _ _ hc q=>by
 have h1:(0:Int)<j:=hc
 exact mod_int' (by omega) (by rw[Int.fmod_eq_emod_of_nonneg i (by omega)]; exact q)
theorem Ycm:OpR X (Vy .Pow) (rI Ycr fun i j=>.int (i ^ j.toNat)):=opI fun _ _ _ _ _ _ _ hc q=>pow_int_small hc.1 hc.2.1 hc.2.2 q
theorem unI {f:Vb->Sem Vb} {g:Int->Int}
  (rule:∀ (i:Int) (t:Tok) (s:Vd) (Q:Vb->Vd->Prop) (E:Vb->Vd->Prop),Q (.int (g i) s.toks) { s with toks:=s.toks+1 }->Vf (Vm X.prog X.w) X.A (f (.int i t)) Q E s) :
  UnR X f (rU fun i=>.int (g i)):=by
 intro pins s σ H x v Q I rx h
 obtain⟨i,rfl,q⟩:=h
 obtain⟨t,rfl⟩:=rx
 exact rule i t s _ _ ⟨.int (g i),H,I.tok _,⟨_,rfl⟩,q⟩
theorem Yec:UnR X (unaryOp .USub) (rU fun i=>.int (-i)):=unI fun _ _ _ _ _ q=>neg_int q
end
section
variable {X:Cx} {a b c:Vv} {ta tb tc:TE} {pos:Pos}
theorem op_lt:OpR X (Vr .Lt) (rI0 fun i j=>.bl (decide (i<j))):=opB0 fun _ _ _ _ _ _ _ q=>lt_int q
theorem op_le:OpR X (Vr .LtE) (rI0 fun i j=>.bl (decide (i<=j))):=opB0 fun _ _ _ _ _ _ _ q=>le_int q
theorem op_gt:OpR X (Vr .Gt) (rI0 fun i j=>.bl (decide (j<i))):=opB0 fun _ _ _ _ _ _ _ q=>gt_int q
theorem op_ge:OpR X (Vr .GtE) (rI0 fun i j=>.bl (decide (j<=i))):=opB0 fun _ _ _ _ _ _ _ q=>ge_int q
theorem Za3 (b:Vv) {op:CmpOp} (h:op≠.In:=by decide) (h2:op≠.NotIn:=by decide):Uba op b=false:=by
 have e1:(op==CmpOp.In)=false:=by cases op<;>first | rfl | exact absurd rfl h
 have e2:(op==CmpOp.NotIn)=false:=by cases op<;>first | rfl | exact absurd rfl h2
 cases b<;>simp[Uba,e1,e2]
theorem Zzj {op:CmpOp} {r:R2} (ho:OpR X (Vr op) r) (ha:PE X a ta) (hb:PE X b tb) (hm:Uba op b=false):PE X (.Compare a [op] [b] pos) (tOp r ta tb):=by
 intro pins s σ H Q I h
 exact wpAny_Compare1 (binT ha hb I h fun v u s2 x y H2 I2 rx ry q=>ho pins s2 σ H2 x y v u Q I2 rx ry q) hm
nonrec def tTest (t:TE):TT:=fun σ H Q=>t σ H fun x H'=>∃ k,x=.bl k/\Q k H'
theorem Zy6 {op:CmpOp} {r:R2} (ho:OpR X (Vr op) r) (ha:PE X a ta) (hb:PE X b tb) (hm:Uba op b=false):PT X (.Compare a [op] [b] pos) (tTest (tOp r ta tb)):=by
 intro pins s σ H Q I h
 refine wpAny_isTrue_Compare1 (thn (ha pins s σ H _ I h) fun v s1 ⟨x,H1,I1,r1,q1⟩=>thn (hb pins s1 σ H1 _ I1 q1) fun u s2 ⟨y,H2,I2,r2,q2⟩ =>
  thn (ho pins s2 σ H2 x y v u _ I2 r1 r2 q2) fun c s3 ⟨z,H3,I3,r3,k,e,q3⟩=>?_) hm
 subst e
 cases r3
 exact Uaf ⟨H3,I3,q3⟩
nonrec def Zx8 (r r':R2) (ta tb tc:TE):TE:=fun σ H Q=>ta σ H fun x H1=>tb σ H1 fun y H2=>r x y H2 fun z H3=>∃ k,z=.bl k /\
 (if k=true then tc σ H3 fun w' H4=>r' y w' H4 Q else Q (.bl false) H3)
theorem Zxa {op op':CmpOp} {r r':R2} (ho:OpR X (Vr op) r) (ho':OpR X (Vr op') r') (ha:PE X a ta) (hb:PE X b tb) (hc:PE X c tc)
  (hm:lastMarks [op,op'] [b,c]=false:=by with_unfolding_all rfl):PE X (.Compare a [op,op'] [b,c] pos) (Zx8 r r' ta tb tc):=by
 intro pins s σ H Q I h
 refine Compare_chain (thn (ha pins s σ H _ I h) fun v s1 ⟨x,H1,I1,r1,q1⟩=>chain_link (thn (hb pins s1 σ H1 _ I1 q1) fun u s2 ⟨y,H2,I2,r2,q2⟩ =>
  thn (ho pins s2 σ H2 x y v u _ I2 r1 r2 q2) fun d s3 ⟨z,H3,I3,r3,k,e,q3⟩=>?_)) hm
 subst e
 cases r3
 refine Uaf ?_
 cases k with
 | false=>exact ite_ff ⟨.bl false,H3,I3,rfl,q3⟩
 | true=>exact ite_tt (chain_last (thn (hc pins s3 σ H3 _ I3 q3) fun w' s4 ⟨z',H4,I4,r4,q4⟩=>ho' pins s4 σ H4 y z' u w' Q I4 r2 r4 q4))
def TruV (K:Xb) (x:V) (H:Hp) (k:Bool):Prop :=
 match x with
 | .non=>k=false
 | .bl b=>k=b
 | .int i=>k=(i != 0)
 | .str y=>y.length<=sizeLine/\k=((y.length:Int) != 0)
 | .byt y=>y.size<=sizeLine/\k=((y.size:Int) != 0)
 | .ref p=>(∃ xs,SqL K H p xs/\k = !xs.isEmpty)\/(∃ xs,SqT K H p xs/\k = !xs.isEmpty)\/∃ kvs,H p=some (.dK kvs)/\k = !kvs.isEmpty
 | _=>False
theorem Zrh {κ:Type} {kvs:List (κ×V)} {vs:List (κ×Vb)} (r:KV kvs vs):(!vs.isEmpty) = !kvs.isEmpty:=by
 cases r<;>rfl
theorem Zj9 {xs:List V} {its:List Vb} (r:Zb7 xs its):(!its.toArray.isEmpty) = !xs.isEmpty:=by
 cases r<;>simp
theorem Zm2:(sizeLine:Nat)<2 ^ 63:=by rw[Ubf]; decide
theorem Yby:TruR X (fun x H Q=>∃ k,TruV X.K x H k/\Q k H):=by
 intro pins s σ H x v Q I rx h
 obtain⟨k,e,q⟩:=h
 have hl:=Zm2
 have hs:sizeLine=16777216:=Ubf
 cases x with
 | non =>
  cases rx
  have e':k=false:=e
  subst e'
  exact truthy_none ⟨H,I,q⟩
 | bl b =>
  cases rx
  have e':k=b:=e
  subst e'
  exact Uaf ⟨H,I,q⟩
 | int i =>
  obtain⟨t,rfl⟩:=rx
  have e':k=(i != 0):=e
  subst e'
  exact PySem.P.truthy_int ⟨H,I,q⟩
 | str y =>
  obtain⟨t,rfl⟩:=rx
  obtain⟨hy,e'⟩:y.length<=sizeLine/\k=((y.length:Int) != 0):=e
  subst e'
  exact PySem.P.truthy_str (by omega) ⟨H,I.tok _,q⟩
 | byt y =>
  obtain⟨t,rfl⟩:=rx
  obtain⟨hy,e'⟩:y.size<=sizeLine/\k=((y.size:Int) != 0):=e
  subst e'
  exact PySem.W.truthy_bytes (by omega) ⟨H,I.tok _,q⟩
 | ref p =>
  cases rx
  have e':(∃ xs,SqL X.K H p xs/\k = !xs.isEmpty)\/(∃ xs,SqT X.K H p xs/\k = !xs.isEmpty)\/∃ kvs,H p=some (.dK kvs)/\k = !kvs.isEmpty:=e
  rcases e' with ⟨xs,hx,e'⟩ | ⟨xs,hx,e'⟩ | ⟨kvs,hx,e'⟩
  ·subst e'
   obtain⟨its,r,pl,hz⟩:=I.list hx
   have hlen:=r.length
   exact wpAny_truthy_list pl.isList (by simp only[Xm]; omega) ⟨H,I.tok _,by rw[Zj9 r]; exact q⟩
  ·subst e'
   obtain⟨its,r,pl,hz⟩:=I.tuple hx
   have hlen:=r.length
   exact truthy_tuple pl (by simp only[Xm]; omega) ⟨H,I.tok _,by rw[Zj9 r]; exact q⟩
  ·subst e'
   obtain⟨hz,hS,vs,r,m⟩:kvs.length<=sizeLine/\(p==Uae)=false/\∃ vs,KV kvs vs/\s.heap.DictOf (Zol X.prog X.w) p vs:=I.hok p _ hx
   have hlen:kvs.length=vs.length:=Tct r
   exact wpAny_truthy_dict hS m (by omega) ⟨H,I.tok _,by rw[Zrh r]; exact q⟩
 | _=>exact(show False from e).elim
theorem Zvz (ha:PE X a ta) (he:∀ whole,isTrue a X.env whole=(do let v<-whole; standAt a.pos; Udi [v] (truthy v))) :
  PT X a (fun σ H Q=>ta σ H fun x H'=>∃ k,TruV X.K x H' k/\Q k H'):=by
 intro pins s σ H Q I h
 exact isTrue_plain (thn (ha pins s σ H _ I h) fun v s1 ⟨x,H1,I1,r1,q1⟩=>Yby pins s1 σ H1 x v Q I1 r1 q1) (he _)
theorem Zqs:OpR X (Vy .Add) (fun x y H Q=>∃ i j,x=.str i/\y=.str j/\i.length+j.length<=sizeLine/\Q (.str (i++j)) H):=by
 intro pins s σ H x y v u Q I rx ry h
 obtain⟨i,j,rfl,rfl,hz,q⟩:=h
 obtain⟨t,rfl⟩:=rx
 obtain⟨t',rfl⟩:=ry
 exact add_str (fun t' tk=>⟨.str (i++j),H,I.tok _,⟨_,rfl⟩,q⟩) hz
theorem Zh2 {x:V} {us:List Vb} (r:Zb7 [x] us):∃ u,us=[u]/\Zcg x u:=by
 cases r with
 | cons r1 r2=>cases r2; exact⟨_,rfl,r1⟩
theorem Zxg {x y:V} {us:List Vb} (r:Zb7 [x,y] us):∃ u w',us=[u,w']/\Zcg x u/\Zcg y w':=by
 cases r with
 | cons r1 r2 =>
  cases r2 with
  | cons r3 r4=>cases r4; exact⟨_,_,rfl,r1,r3⟩
theorem Zwz:Zj2 X (.builtin "abs") (fun xs H Q=>∃ i,xs=[.int i]/\Q (.int (if i<0 then -i else i)) H):=by
 intro pins s σ H xs us Q I r h
 obtain⟨i,rfl,q⟩:=h
 obtain⟨u,rfl,t,rfl⟩:=Zh2 r
 exact Udw fun u tk=>⟨.int (if i<0 then -i else i),H,I.tok _,⟨_,rfl⟩,q⟩
theorem Zsn (hc:X.calm=true):Zj2 X (.builtin "max") (fun xs H Q=>∃ i j,xs=[.int i,.int j]/\Q (.int (if j > i then j else i)) H):=by
 intro pins s σ H xs us Q I r h
 obtain⟨i,j,rfl,q⟩:=h
 obtain⟨u,w',rfl,⟨t,rfl⟩,⟨t',rfl⟩⟩:=Zxg r
 refine max_two_ints (I.ok.hd hc) fun h' tk k=>⟨_,H,I.kept k,?_,q⟩
 by_cases hj:j > i
 ·rw[if_pos hj,if_pos hj]; exact⟨_,rfl⟩
 ·rw[if_neg hj,if_neg hj]; exact⟨_,rfl⟩
theorem Zne:Zj2 X (.type "int") (fun xs H Q=>(∃ i,xs=[.int i]/\Q (.int i) H)\/∃ k,xs=[.bl k]/\Q (.int (if k then 1 else 0)) H):=by
 intro pins s σ H xs us Q I r h
 rcases h with ⟨i,rfl,q⟩ | ⟨k,rfl,q⟩
 ·obtain⟨u,rfl,t,rfl⟩:=Zh2 r
  exact call_int_int ⟨.int i,H,I,⟨_,rfl⟩,q⟩
 ·obtain⟨u,rfl,r1⟩:=Zh2 r
  cases r1
  exact call_int_bool ⟨.int (if k then 1 else 0),H,I.tok _,⟨_,rfl⟩,q⟩
end
structure Room (k:Nat) (A:Vt):Prop where
 hd:A.handled=none
 dp:A.depth+3*k+5<recursionLimit
 un:A.units+16*k+200<cLine
 gd:A.guards=some []
theorem Room.mono {j k:Nat} {A:Vt} (r:Room k A) (h:j<=k):Room j A:=⟨r.hd,by have:=r.dp; omega,by have:=r.un; omega,r.gd⟩
theorem Room.deeper {k:Nat} {A:Vt} (r:Room (k+1) A) (env:Env):Room k (A.deeper env) :=
 ⟨r.hd,by have:=r.dp; show A.depth+1+3*k+5<_; omega,by have:=r.un; show A.units+3+16*k+200<_; omega,r.gd⟩
theorem Room.depth {k:Nat} {A:Vt} (r:Room k A):A.depth<recursionLimit:=by have:=r.dp; omega
theorem Room.units {k:Nat} {A:Vt} (r:Room k A):A.units+64<cLine:=by have:=r.un; omega
nonrec def tNil:TA:=fun _ H Q=>Q [] H
nonrec def tCons (ta:TE) (tr:TA):TA:=fun σ H Q=>ta σ H fun x H1=>tr σ H1 fun xs H2=>Q (x::xs) H2
section
variable {X:Cx} {e:Vv} {es:List Vv} {te:TE} {t:TA} {pos:Pos}
theorem Ycs:PA X [] tNil:=fun _ _ _ _ H Q I h=>Calls.spliced_nil ⟨[],H,I,.nil,h⟩
theorem Zzg (ha:PE X e te) (hr:PA X es t) (hs:Vg (e::es) X.env=(false,eval e X.env)::Vg es X.env:=by rfl):PA X (e::es) (tCons te t):=by
 intro pos pins s σ H Q I h
 rw[hs]
 show Vf _ _ (spliced ((false,eval e X.env)::Ual pos (Vg es X.env))) _ _ s
 refine Calls.spliced_cons (thn (ha pins s σ H _ I h) fun u s1 zz=>?_)
 obtain⟨x,H1,I1,r1,q1⟩:=zz
 exact thn (hr pos pins s1 σ H1 _ I1 q1) fun us s2 ⟨xs,H2,I2,r2,q2⟩=>⟨x::xs,H2,I2,.cons r1 r2,q2⟩
nonrec def tTup (t:TA):TE:=fun σ H Q=>t σ H fun xs H1=>xs.length<=sizeLine/\∀ p,H1 p=none->Q (.ref p) (upd H1 p (.tup xs))
nonrec def tLst (t:TA):TE:=fun σ H Q=>t σ H fun xs H1=>xs.length<=sizeLine/\∀ p,H1 p=none->Q (.ref p) (upd H1 p (.lst xs))
theorem Ydq {x1} (h:PA X es t):PE X (.Tuple es x1 pos) (tTup t):=by
 intro pins s σ H Q I hq
 refine wpAny_Tuple_spliced (thn (h pos pins s σ H _ I hq) fun us s1 ⟨xs,H1,I1,r,z,q⟩=>⟨by rw[<- r.length]; exact z,?_⟩)
 have hf:H1 s1.heap.objs.size=none:=I1.hok.fresh (Xe _)
 refine⟨.ref s1.heap.objs.size,upd H1 s1.heap.objs.size (.tup xs),I1.laid (t':=s1.toks) (fun b u e=>Xa _ e) (Xe _) ?_,rfl,q _ hf⟩
 exact⟨z,us,r,⟨_,Xd _ rfl,rfl,⟨_,rfl⟩,rfl⟩⟩
theorem Ybx (h:PA X es t):PE X (.List es pos) (tLst t):=by
 intro pins s σ H Q I hq
 refine wpAny_List_spliced (thn (h pos pins s σ H _ I hq) fun us s1 ⟨xs,H1,I1,r,z,q⟩=>⟨by rw[<- r.length]; exact z,?_⟩)
 have hf:H1 s1.heap.objs.size=none:=I1.hok.fresh (Xe _)
 refine⟨.ref s1.heap.objs.size,upd H1 s1.heap.objs.size (.lst xs),I1.laid (t':=s1.toks) (fun b u e=>Xa _ e) (Xe _) ?_,rfl,q _ hf⟩
 exact⟨z,us,0,r,Xd _ rfl⟩
end
nonrec abbrev Sp:=List V->Hp->VK->XK->Prop
nonrec abbrev CXT:=List Env->Hp->Vd->XK->Vb->Vd->Prop
structure Env0 (P:Vh) (w:Vu) (K:Xb) (mg:Str->Option Vb) (base:Vz) (A:Vt) (outer:List Env) (s:Vd) (H:Hp):Prop where
 frames:A.frames=some outer
 mod:Mod K mg base
 bs:∀ b o,base.get? b=some o->s.heap.get? b=some o/\H b=none
 bsz:base.objs.size<=s.heap.objs.size
 funs:s.heap.FunFrames base outer
 frf:∀ b∈frs outer,H b=none
 hok:HOk P w H s.heap
 bare:Ucj s.gens
def CE (outer:List Env) (P:Vh) (w:Vu) (H:Hp) (s:Vd) (Q:VK) (u:Vb) (s':Vd):Prop :=
 ∃ v H',s'.os=s.os/\Ucj s'.gens/\Un (frs outer) [] H H' s.heap s'.heap/\HOk P w H' s'.heap/\Zcg v u/\Q v H'
def CR (CX:CXT) (outer:List Env) (P:Vh) (w:Vu) (H:Hp) (s:Vd) (Q:VK) (E:XK) (r:Result) (s':Vd):Prop :=
 match r with
 | .ok (.ret u)=>CE outer P w H s Q u s'
 | .ok _=>False
 | .error e=>CX outer H s E e s'
structure FnOk (P:Vh) (w:Vu) (K:Xb) (mg:Str->Option Vb) (base:Vz) (CX:CXT) (k:Nat) (f:Ve) (fd:Uar) (ps:List Str) (sp:Sp):Prop where
 len:∀ vs H Q E,sp vs H Q E->vs.length=ps.length
 run:∀ (A:Vt) (outer:List Env) (s:Vd) (H:Hp) (args:Args) (us:List Vb) (vs:List V) (Q:VK) (E:XK),Room k A->Env0 P w K mg base A outer s H->BindsTo s fd args (ps.zip us)->Zb7 vs us->sp vs H Q E ->
  Ucn (Vm P w) A (.call (.ref f) args) (CR CX outer P w H s Q E) s
section
variable {X:Cx} {pins:List (Ve×Obj)} {σ:St} {H:Hp} {s s':Vd}
theorem Inv.env0 (I:Inv X pins σ H s):Env0 X.prog X.w X.K X.mg X.base X.A X.stack s H :=
 ⟨I.ok.frames,I.ok.mod,I.bs,Wac I.ok.bsz I.sz,I.stack,I.stkFree,I.hok,I.bare⟩
theorem Inv.after {Q:VK} {u:Vb} (I:Inv X pins σ H s) (h:CE X.stack X.prog X.w H s Q u s'):EP X pins σ Q u s':=by
 obtain⟨v,H',os,bare,un,hok,r,q⟩:=h
 obtain⟨hh,g,d,t,os'⟩:=s'
 obtain rfl:os'=s.os:=os
 exact⟨v,H',I.call (h':=hh) (g':=g) (d':=d) (t':=t) (ch:=[]) un hok bare (fun b z=>absurd z (by simp)),r,q⟩
end
nonrec def Ydv (sp:Sp) (dvs:List V) (E:XK) (t:TA):TE:=fun σ H Q=>t σ H fun vs H1=>sp (vs++dvs) H1 Q E
def Zo2 (K:Xb) (fd:Uar) (ps:List Str) (ds:List Vb):Prop :=
 ∀ (s:Vd) (us:List Vb),K.In s.heap->(us++ds).length=ps.length->BindsTo s fd ⟨us,[]⟩ (ps.zip (us++ds))
theorem Zo2.all {K:Xb} {fd:Uar} {ps:List Str} (h:∀ us:List Vb,us.length=ps.length->Uby fd ⟨us,[]⟩=pure (ps.zip us)):Zo2 K fd ps []:=fun s us _ hl=>by
 rw[Wad] at hl ⊢
 exact .of_eq (h us hl)
def Zuc (CX:CXT) (X:Cx) (E:XK):Prop:=∀ (pins:List (Ve×Obj)) (σ:St) (H:Hp) (s:Vd) (e:Vb) (s':Vd),Inv X pins σ H s->CX X.stack H s E e s'->X.xe e s'
section
variable {X:Cx} {CX:CXT} {k:Nat} {f C:Ve} {fd:Uar} {ps:List Str} {sp:Sp} {dvs:List V} {ds:List Vb} {E:XK} {x m:Str} {p pos apos:Pos} {e o:Vv} {es:List Vv} {ta:TE} {t:TA}
theorem Zyk {pins:List (Ve×Obj)} {σ:St} {H:Hp} {s:Vd} {Q:VK} {us:List Vb} {vs:List V} (F:FnOk X.prog X.w X.K X.mg X.base CX k f fd ps sp) (hr:Room k X.A) (hb:Zo2 X.K fd ps ds) (hd:Zb7 dvs ds) (hx:Zuc CX X E)
  (I:Inv X pins σ H s) (r:Zb7 vs us) (h:sp (vs++dvs) H Q E):Vf (Vm X.prog X.w) X.A (call (.ref f) us) (EP X pins σ Q) X.xe s:=by
 have r2:Zb7 (vs++dvs) (us++ds):=r.append hd
 have hl:(us++ds).length=ps.length:=by rw[<- r2.length]; exact F.len _ _ _ _ h
 refine wpAny_call (Uax (F.run X.A X.stack s H ⟨us,[]⟩ (us++ds) (vs++dvs) Q E hr I.env0 (hb s us I.kIn hl) r2 h) fun r s' hq=>?_)
 cases r with
 | error e=>exact hx pins σ H s e s' I hq
 | ok fl =>
  cases fl with
  | ret u=>exact I.after hq
  | next=>exact Uj hq
  | brk=>exact Uj hq
  | cont=>exact Uj hq
theorem Ya2 (F:FnOk X.prog X.w X.K X.mg X.base CX k f fd ps sp) (hr:Room k X.A) (hg:Gl X x) (hm:X.mg x=some (.ref f)) (hk:Wcc X.K (.ref f)=true) (hb:Zo2 X.K fd ps ds) (hd:Zb7 dvs ds) (hx:Zuc CX X E)
  (ha:PA X (e::es) t) (hdb:(x==("__debug__" : Str))=false:=by decide) (he:Vg (e::es) X.env=(false,eval e X.env)::Vg es X.env:=by rfl) (hpl:(Ual pos (Vg es X.env)).any (·.1)=false:=by rfl) :
  PE X (.Call (.Name x p) (e::es) [] pos) (Ydv sp dvs E t):=by
 intro pins s σ H Q I h
 refine Uaq (Zus I hg hm ?_ hdb)
 refine Wev (h₀:=X.base) I.ok.mod.kin hk (thn (ha pos pins s σ H _ I h) fun us s1 ⟨vs,H1,I1,r,q⟩=>⟨I1.kIn,?_⟩) he hpl
 exact Zyk F hr hb hd hx I1 r q
end
structure FnScope (N P:List Str) (sc:Ubm):Prop where
 kind:sc.kind=.function
 co:sc.isCoroutine=false
 gen:sc.isGenerator=false
 nd:N.Nodup
 pre:N.take P.length=P
 par:∀ x∈P,sc.names.lookup x=some .local\/sc.names.lookup x=some .cell
 nofree:∀ y∈sc.names,y.2≠.free
theorem Zm3 {kindOf:Str->Option Ubb} {x:Str}:∀ {binds:List (Str×Vb)} {m:Str->Option Vb},(∀ v,(x,v)∉binds)->bindL kindOf binds m x=m x
 | [],_,_=>rfl
 | (n,v)::r,m,h=>by
  unfold bindL
  rw[Zm3 fun w hw=>h w (Waj _ hw)]
  split
  ·have:x≠n:=by rintro rfl; exact h v Wcd
   simp[this]
  ·rfl
theorem Zmq {kindOf:Str->Option Ubb} {x:Str}:∀ {binds:List (Str×Vb)} {m:Str->Option Vb},(∀ v,(x,v)∉binds)->bindC kindOf binds m x=m x
 | [],_,_=>rfl
 | (n,v)::r,m,h=>by
  unfold bindC
  rw[Zmq fun w hw=>h w (Waj _ hw)]
  split
  ·rfl
  ·have:x≠n:=by rintro rfl; exact h v Wcd
   simp[this]
theorem Znt {kindOf:Str->Option Ubb} {x:Str} {v:Vb}:∀ {P:List Str} {vs:List Vb} {i:Nat} {m:Str->Option Vb},P.Nodup->P[i]? = some x->vs[i]? = some v->kindOf x=some .local ->
  bindL kindOf (P.zip vs) m x=some v
 | [],_,_,_,_,h,_,_=>by simp at h
 | _::_,[],_,_,_,_,h,_=>by simp at h
 | p::P,w::vs,0,m,nd,h1,h2,hk=>by
  simp at h1 h2; subst h1; subst h2
  show bindL kindOf ((p,w)::P.zip vs) m p=_
  unfold bindL
  rw[Zm3 fun v hv=>(Wba.mp nd).1 (Wcp hv).1,if_pos hk]
  simp
 | p::P,w::vs,i+1,m,nd,h1,h2,hk=>by
  show bindL kindOf ((p,w)::P.zip vs) m x=_
  unfold bindL
  exact Znt (i:=i) (Wba.mp nd).2 (by simpa using h1) (by simpa using h2) hk
theorem Znd {kindOf:Str->Option Ubb} {x:Str} {v:Vb}:∀ {P:List Str} {vs:List Vb} {i:Nat} {m:Str->Option Vb},P.Nodup->P[i]? = some x->vs[i]? = some v->kindOf x≠some .local ->
  bindC kindOf (P.zip vs) m x=some v
 | [],_,_,_,_,h,_,_=>by simp at h
 | _::_,[],_,_,_,_,h,_=>by simp at h
 | p::P,w::vs,0,m,nd,h1,h2,hk=>by
  simp at h1 h2; subst h1; subst h2
  show bindC kindOf ((p,w)::P.zip vs) m p=_
  unfold bindC
  rw[Zmq fun v hv=>(Wba.mp nd).1 (Wcp hv).1,if_neg hk]
  simp
 | p::P,w::vs,i+1,m,nd,h1,h2,hk=>by
  show bindC kindOf ((p,w)::P.zip vs) m x=_
  unfold bindC
  exact Znd (i:=i) (Wba.mp nd).2 (by simpa using h1) (by simpa using h2) hk
nonrec def start (N:List Str) (vs:List V):St:=vs.map some++Xq (N.length - vs.length) none
nonrec def Zl8 (CX:CXT) (P:Vh) (w:Vu) (K:Xb) (mg:Str->Option Vb) (base:Vz) (N:List Str) (qual:Str) (scope:Ubm) (f:Ve) (cd:Vb) (A:Vt) (outer:List Env) (s:Vd) (H:Hp) (E:XK):Cx where
 prog:=P
 w:=w
 K:=K
 mg:=mg
 base:=base
 A:=A.deeper (Ubc qual scope s.heap.objs.size f cd)
 N:=N
 s₀:=s
 H₀:=H
 env:=Ubc qual scope s.heap.objs.size f cd
 outer:=outer
 stack:=Ubc qual scope s.heap.objs.size f cd::outer
 ex:=[]
 calm:=true
 fn:=fun _=>true
 pn:=[]
 xe:=fun e s'=>Vf (Vm P w) (A.deeper (Ubc qual scope s.heap.objs.size f cd)) (leaving (Ubc qual scope s.heap.objs.size f cd) e) (fun _ s''=>CX outer H s E e s'') (fun e' s''=>CX outer H s E e' s'') s'
theorem Zh7 {sc:Ubm} {n:Nat} {x:Str} (h:sc.names.lookup x=some .cell):∃ c,(Uef n sc.names []).lookup x=some c:=by
 have q:=Wct sc.names n [] (.inl h)
 exact Wai.mp q
theorem Znq {CX:CXT} {P:Vh} {w:Vu} {K:Xb} {mg:Str->Option Vb} {base:Vz} {N ps:List Str} {qual:Str} {scope:Ubm} {f:Ve} {cd:Vb} {A:Vt} {outer:List Env} {s s1:Vd} {H:Hp} {E:XK} {us:List Vb} {vs:List V}
  (S:FnScope N ps scope) (hd:A.handled=none) (e0:Env0 P w K mg base A outer s H) (hl:vs.length=ps.length) (r:Zb7 vs us)
  (x:InCallC s s.heap.objs.size (bindL (Ubc qual scope s.heap.objs.size f cd).kindOf (ps.zip us) fun _=>none) (Uef (s.heap.objs.size+1) scope.names []) (bindC (Ubc qual scope s.heap.objs.size f cd).kindOf (ps.zip us) fun _=>none) s1) :
  Inv (Zl8 CX P w K mg base N qual scope f cd A outer s H E) [] (start N vs) H s1:=by
 have hpl:ps.length<=N.length:=by have:=congrArg Wbl S.pre; rw[Wbd] at this; omega
 obtain⟨h1,tk,rfl,hk⟩:=x.done
 have noA:∀ b:Ve,b∉(Zl8 CX P w K mg base N qual scope f cd A outer s H E).ex:=fun b z=>absurd (show b∈([]:List Ve) from z) (by simp)
 refine⟨⟨e0.mod,S.kind,rfl,rfl,Xe _,fun y z c h1 h2=>?_,fun y hy=>?_,fun y c _ h=>?_,fun _=>hd,Tcb e0.frames,.inr ⟨rfl,rfl⟩,fun b z=>absurd z (noA b),e0.bs,e0.bsz,fun b _ _=>noA b,fun b z=>absurd z (noA b),e0.funs,e0.frf⟩,
  rfl,e0.bare,Un.kept hk,⟨_,x.toInCall.ns,fun i y v h1 h2 h3=>?_⟩,fun y c h=>⟨_,x.cell y c h⟩,e0.hok.fresh (Xe _),fun y c h=>?_,fun p hp=>absurd (show p∈([]:List (Ve×Obj)) from hp) (by simp),e0.hok.kept hk,?_⟩
 ·exact name_of_addr x.apart (Uh h1) (Uh h2)
 ·have hy:scope.names.lookup y=some .cell\/scope.names.lookup y=some .free:=hy
  rcases hy with hy | hy
  ·exact Zh7 hy
  ·exact absurd rfl (S.nofree _ (Uh hy))
 ·exact Wds (x.above y c (Uh h))
 ·have hi:i<vs.length:=by
   unfold start at h2
   by_cases hi:i<vs.length
   ·exact hi
   ·rw[Xr (by simpa using hi)] at h2
    rw[Wbm] at h2
    split at h2<;>cases h2
  have ha:vs[i]? = some v:=by
   unfold start at h2
   rw[Xg (by simpa using hi),Xn] at h2
   cases e:vs[i]? with
   | none=>rw[e] at h2; cases h2
   | some a=>rw[e] at h2; cases h2; rfl
  obtain⟨u,hu,rv⟩:=r.get ha
  have hp:ps[i]? = some y:=by
   rw[<- S.pre,Wcm (by omega)]; exact h1
  have ndP:ps.Nodup:=by rw[<- S.pre]; exact S.nd.sublist (Wfd _ _)
  refine⟨u,rv,?_⟩
  rcases S.par y (Xl hp) with k | k
  ·exact .inl ⟨k,Znt ndP hp hu k⟩
  ·obtain⟨c,e⟩:=Zh7 (n:=s.heap.objs.size+1) k
   refine .inr ⟨.inl k,c,e,?_⟩
   have q:=x.cell y c e
   rw[Znd ndP hp hu (by show scope.names.lookup y≠_; rw[k]; decide)] at q
   exact q
 ·exact .inl (e0.hok.fresh (Wds (x.above y c (Uh h))))
 ·unfold start
  show _=N.length
  rw[Xp,Xu,Weh]
  omega
theorem fn_of {CX:CXT} {P:Vh} {w:Vu} {K:Xb} {mg:Str->Option Vb} {base:Vz} {k:Nat} {f:Ve} {name qual:Str} {params:Ueg} {body:List Uab} {scope:Ubm} {dV kV doc pm cdv ct oc:Vb} {an od:Option Ve}
  {osl:Array (Option Vb)} {N ps:List Str} {sp:Sp} (lk:K.lookup f=some ⟨oc,od,.func (Wav name qual params body scope dV kV doc pm an cdv ct),osl⟩) (hcd:Wcj K cdv qual=true) (S:FnScope N ps scope)
  (len:∀ vs H Q E,sp vs H Q E->vs.length=ps.length)
  (hbody:∀ (A:Vt) (outer:List Env) (s:Vd) (H:Hp) (vs:List V) (Q:VK) (E:XK),Room k (A.deeper (Ubc qual scope s.heap.objs.size f cdv))->sp vs H Q E ->
   ∃ t,PSs (Zl8 CX P w K mg base N qual scope f cdv A outer s H E) body t/\t { nx:=fun _ H'=>Q .non H',rt:=Q } (start N vs) H) :
  FnOk P w K mg base CX (k+1) f (Wav name qual params body scope dV kV doc pm an cdv ct) ps sp:=by
 refine⟨len,fun A outer s H args us vs Q E hr e0 hb r hsp=>?_⟩
 have hl:=len _ _ _ _ hsp
 have KX:K.In s.heap:=e0.mod.kin.keeps fun b o e=>(e0.bs b o e).1
 have lim:s.heap.NoLimit:=e0.mod.nolimit.keeps fun b o e=>(e0.bs b o e).1
 have hkind:∀ y∈ps.zip us,scope.names.lookup y.1=some .local\/(scope.names.lookup y.1=some .cell/\((Uef (s.heap.objs.size+1) scope.names []).lookup y.1).isSome=true):=fun⟨n,v⟩ hy=>by
  rcases S.par n (Wcp hy).1 with q | q
  ·exact .inl q
  ·exact .inr ⟨q,Wct _ _ _ (.inl q)⟩
 refine Uco hr.depth (KX _ _ lk) rfl S.co S.gen rfl (Wew KX hcd) (hb _ _ _ _ ?_)
 refine Ubq S.kind hkind fun env he s1 x=>?_
 subst he
 refine⟨lim.keeps x.toInCall.keep,codeAny_func ?_⟩
 obtain⟨t,ht,hq⟩:=hbody A outer s H vs Q E (hr.deeper _) hsp
 have I:Inv (Zl8 CX P w K mg base N qual scope f cdv A outer s H E) [] (start N vs) H s1:=Znq S hr.hd e0 hl r x
 refine Uao (ht [] s1 (start N vs) H _ I hq) (fun fl s' hs=>?_) fun e s' hs=>hs
 have fin:∀ {σ':St} {H':Hp} {v:V} {u:Vb},Inv (Zl8 CX P w K mg base N qual scope f cdv A outer s H E) [] σ' H' s'->Zcg v u->Q v H'->CE outer P w H s Q u s' :=
  fun {σ' H' v u} J rv q=>⟨v,H',J.os,J.bare,J.base,J.hok,rv,q⟩
 cases fl with
 | ret u =>
  obtain⟨v,σ',H',J,rv,q⟩:=hs
  exact fin J rv q
 | next =>
  obtain⟨σ',H',J,q⟩:=hs
  exact fin (v:=V.non) (u:=Um) J rfl q
 | brk =>
  obtain⟨_,_,_,q⟩:=hs
  exact Uj q
 | cont =>
  obtain⟨_,_,_,q⟩:=hs
  exact Uj q
section
variable {X:Cx} {x:Str} {p pos:Pos} {e:Vv} {es:List Vv} {t:TA} {id T:String} {r:List V->Hp->VK->Prop}
nonrec def tCB (r:List V->Hp->VK->Prop) (t:TA):TE:=fun σ H Q=>t σ H fun vs H1=>r vs H1 Q
theorem Zxd (hc:Zj2 X (.builtin id) r) (hg:Gl X x) (hm:X.mg x=none) (hv:Vq x=some (.builtin id)) (ha:PA X (e::es) t) (hn:x ≠ "__name__" := by decide) (hdb:(x==("__debug__" : Str))=false:=by decide)
  (he:Vg (e::es) X.env=(false,eval e X.env)::Vg es X.env:=by rfl) (hpl:(Ual pos (Vg es X.env)).any (·.1)=false:=by rfl):PE X (.Call (.Name x p) (e::es) [] pos) (tCB r t):=by
 intro pins s σ H Q I h
 refine Uaq (Zeb I hg hm hv ?_ hn hdb)
 exact PyProof.Rows.callWith_builtin1 (thn (ha pos pins s σ H _ I h) fun us s1 ⟨vs,H1,I1,r1,q1⟩=>hc pins s1 σ H1 vs us Q I1 r1 q1) he hpl
theorem Zr9 (hc:Zj2 X (.type T) r) (hg:Gl X x) (hm:X.mg x=none) (hv:Vq x=some (.type T)) (ha:PA X (e::es) t) (hn:x ≠ "__name__" := by decide) (hdb:(x==("__debug__" : Str))=false:=by decide)
  (he:Vg (e::es) X.env=(false,eval e X.env)::Vg es X.env:=by rfl) (hpl:(Ual pos (Vg es X.env)).any (·.1)=false:=by rfl):PE X (.Call (.Name x p) (e::es) [] pos) (tCB r t):=by
 intro pins s σ H Q I h
 refine Uaq (Zeb I hg hm hv ?_ hn hdb)
 exact Ug (thn (ha pos pins s σ H _ I h) fun us s1 ⟨vs,H1,I1,r1,q1⟩=>hc pins s1 σ H1 vs us Q I1 r1 q1) he hpl
end
end L2
namespace HT
open PySem PyProof.Rows
section
variable {prog:Vh} {w:Vu} {A:Vt} {E:Vb->Vd->Prop} {s:Vd}
theorem cat_tup {t b:Ve} {vs ws:List Vb} {Q:Vb->Vd->Prop} (ht:Uem s.heap t vs.toArray) (hb:Uem s.heap b ws.toArray) (hv:vs≠[])
  (h1:ws=[]->Q (.ref t) s) (h2:ws≠[]->Q (.ref s.heap.objs.size) { s with heap:=s.heap.push { cls:=.type "tuple",data:=.seq (vs++ws).toArray } })
  (hsz:vs.length+ws.length<=sizeLine):Vf (Vm prog w) A (Vy .Add (.ref t) (.ref b)) Q E s:=by
 obtain⟨⟨cls,dd,data,sl⟩,ho,hc,n,hd⟩:=id ht
 obtain⟨⟨cls2,dd2,data2,sl2⟩,ho2,hc2,n2,hd2⟩:=id hb
 simp only at hc hd hc2 hd2
 subst hc hd hc2 hd2
 have e:vs.toArray++ws.toArray=(vs++ws).toArray:=by simp
 by_cases hw:ws=[]
 ·exact Udx ⟨_,ho,rfl⟩ ⟨_,ho2,rfl⟩ Ucc Udo Taq Tao (Tal _ _)
   (tuple_addW1 t b vs.toArray ws.toArray n n2 dd dd2 sl sl2 (by simpa using hv) (by simp[hw])) ⟨ho,ho2,h1 hw⟩
 ·refine Udx ⟨_,ho,rfl⟩ ⟨_,ho2,rfl⟩ Ucc Udo Taq Tao (Tal _ _)
   (tuple_addW2 t b vs.toArray ws.toArray n n2 dd dd2 sl sl2 (by simpa using hv) (by simpa using hw) (by rw[Xm,Xm]; exact hsz)) ⟨ho,ho2,?_⟩
  rw[e]
  exact h2 hw
nonrec def sIx (n d:Nat):Option Int->Nat
 | none=>d
 | some v=>if v<0 then (v+(n:Int)).toNat else min v.toNat n
theorem Yce (n d:Nat) (hd:d<=n) (o:Option Int):sIx n d o<=n:=by
 cases o with
 | none=>exact hd
 | some v =>
  show (if v<0 then (v+(n:Int)).toNat else min v.toNat n)<=n
  by_cases hv:v<0
  ·rw[if_pos hv]; omega
  ·rw[if_neg hv]; exact Nat.min_le_right _ _
theorem Zt2 (v:Int) (n d:Nat):(if v<0 then max (v+(n:Int)) 0 else min v (n:Int))=((sIx n d (some v):Nat):Int):=by
 show (if v<0 then max (v+(n:Int)) 0 else min v (n:Int))=(((if v<0 then (v+(n:Int)).toNat else min v.toNat n):Nat):Int)
 by_cases hv:v<0
 ·simp only[if_pos hv]; omega
 ·simp only[if_neg hv]; omega
theorem Zri (lo hi:Option Int) (n:Nat):Taj lo hi 1 (n:Int)=(((sIx n 0 lo:Nat):Int),((sIx n n hi:Nat):Int)):=by
 have h1:¬ ((1:Int)<0):=by omega
 unfold Taj
 simp only[h1,if_false]
 refine Prod.ext ?_ ?_
 ·cases lo with
  | none=>rfl
  | some v=>exact Zt2 v n 0
 ·cases hi with
  | none=>rfl
  | some v=>exact Zt2 v n n
theorem Zq5 (i j:Nat):Us (i:Int) (j:Int) 1=j - i:=by
 unfold Us
 have h1:(1:Int) > 0:=by omega
 simp only[h1,if_true,Int.ediv_one]
 split<;>omega
theorem Zkc {v:Vb} {o:Option Int} {Q:Option Int->Vd->Prop} (p:Udp v o) (h:Q o s):Vf (Vm prog w) A (Builtin.Slice.slicePartIndex v) Q E s:=by
 cases p with
 | none=>exact slicePart_none h
 | int i t=>exact slicePart_int h
theorem sliceApplied_gen {sl:Ve} {vl vu:Vb} {lo hi:Option Int} {n:Nat} {Q:Int×Int×Nat->Vd->Prop} (hs:s.heap.IsSliceOf sl vl vu .none) (pl:Udp vl lo) (pu:Udp vu hi)
  (h:Q (((sIx n 0 lo:Nat):Int),1,sIx n n hi - sIx n 0 lo) s):Vf (Vm prog w) A (Tbg (.ref sl) (pure (n:Int))) Q E s:=by
 obtain⟨os,hos,hcs,hds⟩:=id hs
 unfold Tbg Builtin.Slice.sliceFields
 refine Va (Va (Vn hos hds (x:=vl) rfl (Va (Vn hos hds (x:=vu) rfl (Va (Vn hos hds (x:=.none) rfl (Vc ?_)))))))
 refine Va (slicePart_none ?_)
 show Vf _ _ (if ((1:Int)==0)=true then _ else _) _ _ s
 rw[if_neg (by decide)]
 refine Va (Zkc pl (Va (Zkc pu (Va (Vc ?_)))))
 show Vf _ _ (match Taj lo hi 1 (n:Int) with | (lo,hi)=>pure (lo,(1:Int),Us lo hi 1)) _ _ s
 rw[Zri lo hi n]
 show Vf _ _ (pure (((sIx n 0 lo:Nat):Int),(1:Int),Us ((sIx n 0 lo:Nat):Int) ((sIx n n hi:Nat):Int) 1)) _ _ s
 rw[Zq5]
 exact Vc h
theorem Zwu (xs:Array Vb) (i k:Nat):((Wdl k).filterMap fun(m:Nat)=>xs[((i:Int)+(m:Int)*1).toNat]?).toArray=((xs.toList.drop i).take k).toArray:=by
 have e:(fun(m:Nat)=>xs[((i:Int)+(m:Int)*1).toNat]?)=fun m=>xs[i+m]? := by
  funext m
  have:((i:Int)+(m:Int)*1).toNat=i+m:=by omega
  rw[this]
 rw[e]
 have:=pick_run xs i k
 rw[List.filterMap_map] at this
 have e2:((fun x=>xs[x]?) ∘ fun x=>i+x)=fun m=>xs[i+m]? := rfl
 rw[e2] at this
 rw[this]
theorem getItem_tuple_cut {t sl:Ve} {items:Array Vb} {vl vu:Vb} {lo hi:Option Int} {Q:Vb->Vd->Prop} (ht:Uem s.heap t items) (hs:s.heap.IsSliceOf sl vl vu .none) (pl:Udp vl lo) (pu:Udp vu hi)
  (hw:¬ (sIx items.size 0 lo=0/\sIx items.size items.size hi=items.size))
  (h:Q (.ref s.heap.objs.size) { s with heap:=s.heap.push { cls:=.type "tuple",data:=.seq ((items.toList.drop (sIx items.size 0 lo)).take (sIx items.size items.size hi - sIx items.size 0 lo)).toArray } })
  (hsz:items.size<=sizeLine):Vf (Vm prog w) A (Udk (.ref t) (.ref sl)) Q E s:=by
 have htake:sizeOk (.seq ((items.toList.drop (sIx items.size 0 lo)).take (sIx items.size items.size hi - sIx items.size 0 lo)).toArray):=by
  show ((items.toList.drop (sIx items.size 0 lo)).take (sIx items.size items.size hi - sIx items.size 0 lo)).toArray.size<=sizeLine
  rw[Xm,Wbd,Wed,Wdn]
  omega
 have hj:sIx items.size items.size hi<=items.size:=Yce _ _ (Xe _) hi
 obtain⟨os,hos,hcs,hds⟩:=id hs
 have hTs:s.TypeIs (.ref sl) "slice" := ⟨os,hos,hcs⟩
 unfold Udk
 try with_reducible refine Vw ?_
 first | refine Va (Vc ?_) | skip
 refine Va (wpAny_sequenceKey ht.typeIs (by decide) ?_)
 refine Va (Vi (name:=Ua "__getitem__") ht.typeIs Uf
  (Vp Uf ht.typeIs entry_tuple_getitem ?_ (args_tuple_getitem _ _)))
 show Vf _ _ (Tbh (.ref t) >>= _) _ _ s
 refine Va (tupleItemsOf_ ht ?_)
 refine Va (Ucp hTs ?_)
 rw[if_pos (by decide)]
 refine Va (sliceApplied_gen hs pl pu ?_)
 have hno:¬ ((((sIx items.size 0 lo:Nat):Int)==0&&(1:Int)==1&&(sIx items.size items.size hi - sIx items.size 0 lo)==items.size)=true):=by
  intro q
  rw[Waf,Waf] at q
  have q1:((sIx items.size 0 lo:Nat):Int)=0:=eq_of_beq q.1.1
  have q2:sIx items.size items.size hi - sIx items.size 0 lo=items.size:=eq_of_beq q.2
  exact hw ⟨by omega,by omega⟩
 show Vf _ _ (if (((sIx items.size 0 lo:Nat):Int)==0&&(1:Int)==1&&(sIx items.size items.size hi - sIx items.size 0 lo)==items.size)=true then _ else _) _ _ s
 rw[if_neg hno,Zwu]
 first
  | exact Va (m:=Uv _) (Vs (Vc ⟨_,rfl,Vc h⟩) htake)
  | exact Va (m:=Uv _) (Vs (Va (Vc (Vc ⟨_,rfl,Vc h⟩))) htake)
  | exact Va (Va (m:=Uv _) (Vs (Vc (Vc ⟨_,rfl,Vc h⟩)) htake))
  | exact Va (Va (m:=Uv _) (Vs (Vc ⟨_,rfl,Vc h⟩) htake))
end
end HT
namespace L2
open PySem PySem.Spec PyProof.Rows
nonrec abbrev TO:=St->Hp->(Option Int->Hp->Prop)->Prop
def PO (X:Cx) (e:Option Vv) (t:TO):Prop :=
 ∀ (pins:List (Ve×Obj)) (s:Vd) (σ:St) (H:Hp) (Q:Option Int->Hp->Prop),Inv X pins σ H s->t σ H Q ->
  Vf (Vm X.prog X.w) X.A (evalPart e X.env) (fun u s'=>∃ o H',Inv X pins σ H' s'/\Udp u o/\Q o H') X.xe s
nonrec def Ya4:TO:=fun _ H Q=>Q none H
nonrec def tPart (t:TE):TO:=fun σ H Q=>t σ H fun x H1=>∃ i,x=.int i/\Q (some i) H1
theorem Zj6 {ns:List Int}:∀ {us:List Vb},Zb7 (ns.map V.int) us->Ubd us ns:=by
 induction ns with
 | nil=>intro us r; rw[Wcz] at r; cases r; exact .nil
 | cons n ns ih =>
  intro us r
  rw[Xo] at r
  cases r with
  | cons r1 r2 =>
   obtain⟨t,e⟩:=r1
   subst e
   exact .cons n t (ih r2)
section
variable {X:Cx} {e:Vv} {te:TE} {lo hi:Option Vv} {tl th:TO} {pos p2:Pos}
theorem Zze:PO X none Ya4:=by
 intro pins s σ H Q I h
 rw[evalPart_none]
 exact Vc ⟨none,H,I,.none,h⟩
theorem Zy9 (h:PE X e te):PO X (some e) (tPart te):=by
 intro pins s σ H Q I hw
 rw[evalPart_some]
 refine thn (h pins s σ H _ I hw) fun u s1 zz=>?_
 obtain⟨x,H1,I1,r1,q1⟩:=zz
 obtain⟨i,rfl,q⟩:=q1
 obtain⟨t,rfl⟩:=r1
 exact⟨some i,H1,I1,.int i t,q⟩
def SlR (X:Cx) (r:V->Option Int->Option Int->Hp->VK->Prop):Prop :=
 ∀ (pins:List (Ve×Obj)) (s:Vd) (σ:St) (H:Hp) (x:V) (v vl vu:Vb) (lo hi:Option Int) (sl:Ve) (Q:VK),Inv X pins σ H s->Zcg x v->s.heap.IsSliceOf sl vl vu .none->Udp vl lo->Udp vu hi->r x lo hi H Q ->
  ∃ T id,typeLookup (.type T) "__getitem__" = pure (some (.builtin id))/\s.TypeIs v T/\Vf (Vm X.prog X.w) X.A (Udk v (.ref sl)) (EP X pins σ Q) X.xe s
nonrec def tSl (r:V->Option Int->Option Int->Hp->VK->Prop) (te:TE) (tl th:TO):TE:=fun σ H Q=>te σ H fun x H1=>tl σ H1 fun l H2=>th σ H2 fun u H3=>r x l u H3 Q
theorem Zwe {r:V->Option Int->Option Int->Hp->VK->Prop} (hr:SlR X r) (he:PE X e te) (hl:PO X lo tl) (hu:PO X hi th):PE X (.Subscript e (.Slice lo hi none p2) pos) (tSl r te tl th):=by
 intro pins s σ H Q I h
 refine Subscript_ (thn (he pins s σ H _ I h) fun v s1 zz=>?_)
 obtain⟨x,H1,I1,r1,q1⟩:=zz
 refine wpAny_Slice (thn (hl pins s1 σ H1 _ I1 q1) fun vl s2 ⟨l,H2,I2,pl,q2⟩=>thn (hu pins s2 σ H2 _ I2 q2) fun vu s3 zz=>?_)
 obtain⟨u,H3,I3,pu,q3⟩:=zz
 rw[evalPart_none]
 refine Vc ?_
 have I4:Inv X pins σ H3 { s3 with heap:=s3.heap.push { cls:=.type "slice",data:=.fields #[vl,vu,.none] } }:=I3.kept (t':=s3.toks) fun b ob q=>Xa _ q
 obtain⟨T,id,hT,ht,hg⟩:=hr pins { s3 with heap:=s3.heap.push { cls:=.type "slice",data:=.fields #[vl,vu,.none] } } σ H3 x v vl vu l u s3.heap.objs.size Q I4 r1 (Heap.IsSliceOf.new ..) pl pu q3
 show Vf (Vm X.prog X.w) X.A (subscriptTail e (.Slice lo hi none p2) v (.ref s3.heap.objs.size)) (EP X pins σ Q) X.xe { s3 with heap:=s3.heap.push { cls:=.type "slice",data:=.fields #[vl,vu,.none] } }
 exact tail_any (ops:=[.ref s3.heap.objs.size,v]) ht hT hg (by with_unfolding_all rfl)
nonrec def Zx0 (xs:List V) (lo hi:Option Int):List V:=(xs.drop (HT.sIx xs.length 0 lo)).take (HT.sIx xs.length xs.length hi - HT.sIx xs.length 0 lo)
theorem Zei (xs:List V) (lo hi:Option Int):(Zx0 xs lo hi).length<=xs.length:=by
 unfold Zx0
 rw[Wbd,Wed]
 omega
nonrec def rSlT (K:Xb):V->Option Int->Option Int->Hp->VK->Prop:=fun x lo hi H Q=>∃ a xs,x=.ref a/\SqT K H a xs /\
 ¬ (HT.sIx xs.length 0 lo=0/\HT.sIx xs.length xs.length hi=xs.length)/\∀ p,H p=none->Q (.ref p) (upd H p (.tup (Zx0 xs lo hi)))
theorem Yd3:SlR X (rSlT X.K):=by
 intro pins s σ H x v vl vu lo hi sl Q I rx hs pl pu h
 obtain⟨a,xs,rfl,hx,hw,q⟩:=h
 cases rx
 obtain⟨its,r,ht,hz⟩:=I.tuple hx
 have hlen:its.toArray.size=xs.length:=by rw[Xm]; exact r.length.symm
 refine⟨"tuple",_,Uf.lookup,ht.typeIs,?_⟩
 refine HT.getItem_tuple_cut ht hs pl pu (by rw[hlen]; exact hw) ?_ (by rw[hlen]; exact hz)
 rw[hlen]
 refine⟨.ref s.heap.objs.size,_,I.laid (t':=s.toks) (o:=.tup (Zx0 xs lo hi)) (fun b ob q=>Xa _ q) (Xe _) ?_,rfl,q _ (I.hok.fresh (Xe _))⟩
 exact⟨Wac (Zei xs lo hi) hz,_,(r.drop (HT.sIx xs.length 0 lo)).take (HT.sIx xs.length xs.length hi - HT.sIx xs.length 0 lo),Zkw.new _ _⟩
nonrec def rCatT (K:Xb):R2:=fun x y H Q=>∃ a b xs ys,x=.ref a/\y=.ref b/\SqT K H a xs/\SqT K H b ys/\xs≠[]/\xs.length+ys.length<=sizeLine /\
 (ys=[]->Q (.ref a) H)/\(ys≠[]->∀ p,H p=none->Q (.ref p) (upd H p (.tup (xs++ys))))
theorem Zb7.nil_iff {xs:List V} {us:List Vb} (r:Zb7 xs us):us=[] ↔ xs=[]:=by
 cases r with
 | nil=>simp
 | cons _ _=>simp
theorem Ztq:OpR X (Vy .Add) (rCatT X.K):=by
 intro pins s σ H x y v u Q I rx ry h
 obtain⟨a,b,xs,ys,rfl,rfl,ha,hb,hx,hz,q1,q2⟩:=h
 cases rx
 cases ry
 obtain⟨its,r1,p1,_⟩:=I.tuple ha
 obtain⟨its2,r2,p2,_⟩:=I.tuple hb
 refine HT.cat_tup p1 p2 (fun z=>hx (r1.nil_iff.mp z)) (fun z=>⟨.ref a,H,I,rfl,q1 (r2.nil_iff.mp z)⟩) (fun z=>?_) (by rw[<- r1.length,<- r2.length]; exact hz)
 refine⟨.ref s.heap.objs.size,_,I.laid (t':=s.toks) (o:=.tup (xs++ys)) (fun b ob q=>Xa _ q) (Xe _) ?_,rfl,q2 (fun w=>z (r2.nil_iff.mpr w)) _ (I.hok.fresh (Xe _))⟩
 exact⟨by rw[Xp]; exact hz,_,r1.append r2,Zkw.new _ _⟩
end
nonrec def ixN (n:Nat) (i:Int):Option Nat:=if 0<=i then (if i<n then some i.toNat else none) else if -(n:Int)<=i then some (i+n).toNat else none
nonrec def atI {α:Type} (xs:List α) (i:Int):Option α:=(ixN xs.length i).bind fun j=>xs[j]?
theorem Yau {n:Nat} {i:Int} {j:Nat} (h:ixN n i=some j):seqIndex? i n=some j/\j<n /\ -(n:Int)<=i/\i<n:=by
 unfold ixN at h
 by_cases h0:0<=i
 ·rw[if_pos h0] at h
  by_cases h1:i<n
  ·rw[if_pos h1] at h
   have e:i.toNat=j:=Xw.inj h
   exact⟨by rw[seqIndex_of h0 h1,e],by omega,by omega,h1⟩
  ·rw[if_neg h1] at h; cases h
 ·rw[if_neg h0] at h
  by_cases h1 : -(n:Int)<=i
  ·rw[if_pos h1] at h
   have e:(i+n).toNat=j:=Xw.inj h
   exact⟨by rw[seqIndex_neg (by omega) h1,e],by omega,h1,by omega⟩
  ·rw[if_neg h1] at h; cases h
theorem Zs3 {α:Type} {xs:List α} {i:Int} {v:α} (h:atI xs i=some v):∃ j,seqIndex? i xs.length=some j/\xs[j]? = some v/\j<xs.length /\ -(xs.length:Int)<=i/\i<xs.length:=by
 unfold atI at h
 cases e:ixN xs.length i with
 | none=>rw[e] at h; cases h
 | some j =>
  rw[e] at h
  obtain⟨h1,h2,h3,h4⟩:=Yau e
  exact⟨j,h1,h,h2,h3,h4⟩
theorem Zb1 {α:Type} {xs:List α} {j:Nat} {v:α} (h:xs[j]? = some v):atI xs (j:Int)=some v:=by
 have hj:j<xs.length:=(Xc.mp h).1
 have e:ixN xs.length (j:Int)=some j:=by
  unfold ixN
  rw[if_pos (by omega),if_pos (by omega)]; simp
 unfold atI; rw[e]; exact h
theorem Zld {α:Type} (xs:List α) (v:α):atI (xs++[v]) (-1)=some v:=by
 have hl:(xs++[v]).length=xs.length+1:=by simp
 have e:ixN (xs++[v]).length (-1)=some xs.length:=by
  unfold ixN
  rw[hl,if_neg (by decide),if_pos (by omega)]
  congr 1
  omega
 unfold atI
 rw[e]
 show (xs++[v])[xs.length]? = some v
 simp
def Zuv (b:Vv):Prop:=∀ o i,subscripted b false o i=operate [o,i] (Udk o i)
def IxR (X:Cx) (r:R2):Prop :=
 ∀ (value slice:Vv) (pins:List (Ve×Obj)) (s:Vd) (σ:St) (H:Hp) (x y:V) (v u:Vb) (Q:VK),Inv X pins σ H s->Zcg x v->Zcg y u->r x y H Q ->
  subscripted slice false v u=operate [v,u] (Udk v u)->Vf (Vm X.prog X.w) X.A (subscriptTail value slice v u) (EP X pins σ Q) X.xe s
def MtR (X:Cx) (id:String) (r:V->List V->Hp->VK->Prop):Prop :=
 ∀ (pins:List (Ve×Obj)) (s:Vd) (σ:St) (H:Hp) (x:V) (xs:List V) (v:Vb) (us:List Vb) (Q:VK),Inv X pins σ H s->Zcg x v->Zb7 xs us->r x xs H Q ->
  Vf (Vm X.prog X.w) X.A (call (.builtin id) (v::us)) (EP X pins σ Q) X.xe s
section
variable {X:Cx} {a b:Vv} {ta tb:TE} {pos:Pos}
theorem pe_ix {r:R2} (hr:IxR X r) (ha:PE X a ta) (hb:PE X b tb) (hs:Zuv b):PE X (.Subscript a b pos) (tOp r ta tb):=by
 intro pins s σ H Q I h
 exact Subscript_ (binT ha hb I h fun v u s2 x y H2 I2 rx ry q=>hr a b pins s2 σ H2 x y v u Q I2 rx ry q (hs _ _))
nonrec def rIxL (K:Xb):R2:=fun x y H Q=>∃ p xs i v,x=.ref p/\y=.int i/\SqL K H p xs/\atI xs i=some v/\Q v H
nonrec def rIxT (K:Xb):R2:=fun x y H Q=>∃ p xs i v,x=.ref p/\y=.int i/\SqT K H p xs/\atI xs i=some v/\Q v H
theorem Zyy:IxR X (rIxL X.K):=by
 intro value slice pins s σ H x y v u Q I rx ry h hs
 obtain⟨p,xs,i,z,rfl,rfl,hq,he,q⟩:=h
 cases rx
 obtain⟨t,rfl⟩:=ry
 obtain⟨its,r,pl,hz⟩:=I.list hq
 obtain⟨j,h1,h2,h3,h4,h5⟩:=Zs3 he
 obtain⟨w,ew,rw'⟩:=r.get h2
 have hl:=r.length
 have hn:=Zm2
 have fin:EP X pins σ Q w s:=⟨z,H,I,rw',q⟩
 by_cases h0:0<=i
 ·have hj:i.toNat=j:=by
   rw[seqIndex_of h0 h5] at h1
   exact Xw.inj h1
  exact item_listR pl.isList h0 (by omega) (by rw[hj]; simpa using ew) fin hs
 ·have hj:(i+(its.toArray.size:Int)).toNat=j:=by
   rw[seqIndex_neg (by omega) h4] at h1
   rw[Xm,<- hl]
   exact Xw.inj h1
  exact Ucf (x:=w) pl.isList.typeIs slot_list_getitem.lookup
   (wpAny_getItem_list_neg (Q:=fun r s'=>r=w/\EP X pins σ Q r s') pl.isList (by omega) (by rw[Xm]<;>omega) (by omega) (by rw[hj]; simpa using ew) ⟨rfl,fin⟩) hs
theorem Ycw:IxR X (rIxT X.K):=by
 intro value slice pins s σ H x y v u Q I rx ry h hs
 obtain⟨p,xs,i,z,rfl,rfl,hq,he,q⟩:=h
 cases rx
 obtain⟨t,rfl⟩:=ry
 obtain⟨its,r,pl,hz⟩:=I.tuple hq
 obtain⟨j,h1,h2,h3,h4,h5⟩:=Zs3 he
 obtain⟨w,ew,rw'⟩:=r.get h2
 have hl:=r.length
 have hn:=Zm2
 have fin:EP X pins σ Q w s:=⟨z,H,I,rw',q⟩
 exact Ucf (x:=w) pl.typeIs slot_tuple_getitem.lookup
  (getItem_tuple (j:=j) (Q:=fun r s'=>r=w/\EP X pins σ Q r s') pl (by omega) (by omega) (by rw[Xm,<- hl]; exact h1) (by simpa using ew) ⟨rfl,fin⟩) hs
theorem Zmc (lo hi:Option Int) (n:Nat):(Ubg lo hi none n).1=((HT.sIx n 0 lo:Nat):Int)/\(Ubg lo hi none n).2.1=((HT.sIx n n hi:Nat):Int)/\(Ubg lo hi none n).2.2=1:=by
 refine⟨?_,?_,rfl⟩
 ·cases lo with
  | none=>simp[Ubg,HT.sIx]
  | some i =>
   simp only[Ubg,HT.sIx,Wfp,show (1:Int) > 0 by decide,if_true]
   by_cases h:i<0
   ·simp only[h,if_true]<;>omega
   ·simp only[h,if_false]<;>omega
 ·cases hi with
  | none=>simp[Ubg,HT.sIx]
  | some i =>
   simp only[Ubg,HT.sIx,Wfp,show (1:Int) > 0 by decide,if_true]
   by_cases h:i<0
   ·simp only[h,if_true]<;>omega
   ·simp only[h,if_false]<;>omega
theorem Zl4 (its:List Vb) (lo hi:Option Int):slicePick its.toArray lo hi none=((its.drop (HT.sIx its.length 0 lo)).take (HT.sIx its.length its.length hi - HT.sIx its.length 0 lo)).toArray:=by
 obtain⟨h1,h2,h3⟩:=Zmc lo hi its.toArray.size
 unfold slicePick
 rw[h1,h2,h3]
 simp only[sliceRange_one,pick_run,Xm]<;>rfl
nonrec def rSlL (K:Xb):V->Option Int->Option Int->Hp->VK->Prop:=fun x lo hi H Q=>∃ a xs,x=.ref a/\SqL K H a xs/\∀ p,H p=none->Q (.ref p) (upd H p (.lst (Zx0 xs lo hi)))
theorem Zzv:SlR X (rSlL X.K):=by
 intro pins s σ H x v vl vu lo hi sl Q I rx hs pl pu h
 obtain⟨a,xs,rfl,hx,q⟩:=h
 cases rx
 obtain⟨its,r,ht,hz⟩:=I.list hx
 have hlen:=r.length
 refine⟨"list",_,slot_list_getitem.lookup,ht.isList.typeIs,?_⟩
 refine wpAny_getItem_list_slice ht.isList hs pl pu .none (by simp) ?_ (by rw[Xm]<;>omega)
 rw[Zl4,<- hlen]
 refine⟨.ref s.heap.objs.size,_,I.laid (t':=s.toks) (o:=.lst (Zx0 xs lo hi)) (fun b ob q=>Xa _ q) (Xe _) ?_,rfl,q _ (I.hok.fresh (Xe _))⟩
 exact⟨Wac (Zei xs lo hi) hz,_,0,(r.drop (HT.sIx xs.length 0 lo)).take (HT.sIx xs.length xs.length hi - HT.sIx xs.length 0 lo),Xd _ rfl⟩
theorem Zm4:Zj2 X (.builtin "len") (fun xs H Q=>∃ p ys,xs=[.ref p]/\(SqL X.K H p ys\/SqT X.K H p ys)/\Q (.int ys.length) H):=by
 intro pins s σ H xs us Q I r h
 obtain⟨p,ys,rfl,hq,q⟩:=h
 obtain⟨u,rfl,rx⟩:=Zh2 r
 cases rx
 have hn:=Zm2
 rcases hq with hq | hq
 ·obtain⟨its,r',pl,hz⟩:=I.list hq
  have hlen:=r'.length
  exact Calls.call_len_list pl.isList (by simp only[Xm]<;>omega) ⟨.int ys.length,H,I.tok _,⟨s.toks+1,by rw[Xm,hlen]⟩,q⟩
 ·obtain⟨its,r',pl,hz⟩:=I.tuple hq
  have hlen:=r'.length
  exact len_tuple pl (by simp only[Xm]<;>omega) ⟨.int ys.length,H,I.tok _,⟨s.toks+1,by rw[Xm,hlen]⟩,q⟩
theorem Zm0:Zj2 X (.builtin "len") (fun xs H Q=>∃ z,xs=[.str z]/\z.length<=sizeLine/\Q (.int z.length) H):=by
 intro pins s σ H xs us Q I r h
 obtain⟨z,rfl,hz,q⟩:=h
 obtain⟨u,rfl,t,rfl⟩:=Zh2 r
 have hn:=Zm2
 exact len_str (by omega) ⟨.int z.length,H,I.tok _,⟨_,rfl⟩,q⟩
theorem Zmp:Zj2 X (.type "list") (fun xs H Q=>∃ p ys,xs=[.ref p]/\(SqL X.K H p ys\/SqT X.K H p ys)/\∀ l,H l=none->Q (.ref l) (upd H l (.lst ys))):=by
 intro pins s σ H xs us Q I r h
 obtain⟨p,ys,rfl,hq,q⟩:=h
 obtain⟨u,rfl,rx⟩:=Zh2 r
 cases rx
 have fin:∀ (its:List Vb),Zb7 ys its->ys.length<=sizeLine->∀ (h':Vz) (c':Nat),(∀ b o',s.heap.get? b=some o'->h'.get? b=some o') ->
   h'.get? s.heap.objs.size=some { cls:=.type "list",dict:=none,data:=.seq its.toArray c',slots := #[] }->EP X pins σ Q (.ref s.heap.objs.size) { s with heap:=h' }:=fun its r' hz h' c' kp e =>
  ⟨.ref s.heap.objs.size,_,I.laid (t':=s.toks) kp (Xe _) (show Zc5 X.prog X.w _ h' _ (.lst ys) from⟨hz,its,c',r',e⟩),rfl,q _ (I.hok.fresh (Xe _))⟩
 rcases hq with hq | hq
 ·obtain⟨its,r',pl,hz⟩:=I.list hq
  have hlen:=r'.length
  obtain⟨o,ho,hc,n,hd⟩:=pl.isList
  exact call_list_seq p (.inl rfl) ho hc hd (fun h' c' kp e=>fin its r' hz h' c' kp e) (by simp only[Xm]<;>omega)
 ·obtain⟨its,r',pl,hz⟩:=I.tuple hq
  have hlen:=r'.length
  obtain⟨o,ho,hc,n,hd⟩:=pl
  exact call_list_seq p (.inr rfl) ho hc hd (fun h' c' kp e=>fin its r' hz h' c' kp e) (by simp only[Xm]<;>omega)
theorem Zl5:Zj2 X (.type "tuple") (fun xs H Q=>∃ p ys,xs=[.ref p]/\((SqL X.K H p ys/\∀ l,H l=none->Q (.ref l) (upd H l (.tup ys)))\/(SqT X.K H p ys/\Q (.ref p) H))):=by
 intro pins s σ H xs us Q I r h
 obtain⟨p,ys,rfl,h⟩:=h
 obtain⟨u,rfl,rx⟩:=Zh2 r
 cases rx
 rcases h with ⟨hq,q⟩ | ⟨hq,q⟩
 ·obtain⟨its,r',pl,hz⟩:=I.list hq
  have hlen:=r'.length
  refine call_tuple_list pl.isList (fun h' kp=>?_) (by simp only[Xm]<;>omega)
  have I1:Inv X pins σ H { s with heap:=h' }:=I.kept (t':=s.toks) kp
  have I2:Inv X pins σ (upd H h'.objs.size (.tup ys)) { s with heap:=h'.push { cls:=.type "tuple",data:=.seq its.toArray } } :=
   I1.laid (t':=s.toks) (fun b o e=>Xa _ e) (Xe _) (show Zc5 X.prog X.w _ _ _ (.tup ys) from⟨hz,its,r',Zkw.new _ _⟩)
  exact⟨.ref h'.objs.size,_,I2,rfl,q _ (I1.hok.fresh (Xe _))⟩
 ·obtain⟨its,r',pl,hz⟩:=I.tuple hq
  exact call_tuple_same pl ⟨.ref p,H,I,rfl,q⟩
def tyV (K:Xb) (T:String) (x:V) (H:Hp):Prop:=match x with
 | .str _=>T = "str"
 | .int _=>T = "int"
 | .ref p=>(T = "list" /\ ∃ xs,SqL K H p xs)\/(T = "tuple" /\ ∃ o,K.lookup p=some o/\o.cls=.type "tuple" /\ o.dict=none) \/
   (T = "dict" /\ ((∃ kvs,H p=some (.dK kvs))\/∃ kvs,H p=some (.dT kvs)))\/(T = "set" /\ ∃ S n,H p=some (.set S n))
 | _=>False
theorem Ybl {pins:List (Ve×Obj)} {σ:St} {H:Hp} {s:Vd} {T:String} {x:V} {v:Vb} (I:Inv X pins σ H s) (r:Zcg x v) (ty:tyV X.K T x H) :
  s.TypeIs v T/\∀ a,v=.ref a->∃ ob,s.heap.get? a=some ob/\ob.dict=none:=by
 cases x with
 | str z =>
  obtain⟨t,rfl⟩:=r
  cases (show T = "str" from ty)
  exact⟨typeIs_str s z t,fun _ e=>nomatch e⟩
 | int i =>
  obtain⟨t,rfl⟩:=r
  cases (show T = "int" from ty)
  exact⟨Ucv s i t,fun _ e=>nomatch e⟩
 | ref p =>
  cases r
  rcases ty with ⟨rfl,xs,hq⟩ | ⟨rfl,o,hk,hc,hd⟩ | ⟨rfl,hk⟩ | ⟨rfl,S,n,hk⟩
  ·obtain⟨its,_,pl,_⟩:=I.list hq
   refine⟨pl.isList.typeIs,fun a e=>?_⟩
   cases e
   obtain⟨o,n,e,c,hd,_⟩:=pl
   exact⟨o,e,hd⟩
  ·refine⟨⟨o,I.kIn p o hk,hc⟩,fun a e=>?_⟩
   cases e
   exact⟨o,I.kIn _ o hk,hd⟩
  ·have z:∃ o,s.heap.get? p=some o/\o.ExactDict:=by
    rcases hk with ⟨kvs,hk⟩ | ⟨kvs,hk⟩
    ·obtain⟨_,_,_,_,o,_,_,e,ex,_⟩:=I.hok p _ hk
     exact⟨o,e,ex⟩
    ·obtain⟨_,_,_,_,o,_,_,e,ex,_⟩:=I.hok p _ hk
     exact⟨o,e,ex⟩
   obtain⟨o,e,ex⟩:=z
   refine⟨⟨o,e,ex.1⟩,fun a e2=>?_⟩
   cases e2
   exact⟨o,e,ex.2.1⟩
  ·obtain⟨o,_,_,_,e,ex,_⟩:=I.hok p _ hk
   refine⟨⟨o,e,ex.1⟩,fun a e2=>?_⟩
   cases e2
   exact⟨o,e,ex.2.1⟩
 | _=>exact Uj ty
nonrec def tBM (K:Xb) (T:String) (r:V->List V->Hp->VK->Prop) (to:TE) (t:TA):TE:=fun σ H Q=>to σ H fun x H1=>tyV K T x H1/\t σ H1 fun xs H2=>r x xs H2 Q
variable {o e:Vv} {es:List Vv} {to:TE} {t:TA} {name:Str} {apos cpos:Pos} {T id:String} {r:V->List V->Hp->VK->Prop}
theorem pe_bm (pa:PlainAttrs T) (slot:Slot T name id) (hty:typeOf (.builtin id)=pure (.type "method_descriptor")) (hm:MtR X id r) (ho:PE X o to) (ha:PA X (e::es) t)
  (hbase:Udq o name X.env (eval o X.env)=eval o X.env:=by rfl)
  (hfew:((Ual cpos (Vg (e::es) X.env)).all (fun x => !x.1)&&(Ucw cpos (Ubh [] X.env)).all (fun x=>x.1.isSome)
   && decide ((e::es).length+([]:List Ubz).length+(if ([]:List Ubz).isEmpty then 0 else 1)<30))=true:=by rfl)
  (hline:(apos.endLine==cpos.line)=true:=by rfl) (hs:Vg (e::es) X.env=(false,eval e X.env)::Vg es X.env:=by rfl) (hplain:(Ual cpos (Vg es X.env)).any (·.1)=false:=by rfl) :
  PE X (.Call (.Attribute o name apos) (e::es) [] cpos) (tBM X.K T r to t):=by
 intro pins s σ H Q I h
 refine Ucg hbase hfew hline rfl (thn (ho pins s σ H _ I h) fun v s1 zz=>?_)
 obtain⟨x,H1,I1,r1,ty,q1⟩:=zz
 obtain⟨h1,h2⟩:=Ybl I1 r1 ty
 refine⟨T,id,pa,slot,hty,h1,h2,?_⟩
 have hA:=ha cpos pins s1 σ H1 _ I1 q1
 rw[hs] at hA ⊢
 refine Tbt (by show (false||(Ual cpos (Vg es X.env)).any (·.1))=false; rw[hplain]<;>rfl) (Tcc ?_)
 exact thn hA fun us s2 ⟨vs,H2,I2,r2,q2⟩=>hm pins s2 σ H2 x vs v us Q I2 r1 r2 q2
end
def MtM (X:Cx) (id:String) (r:V->List V->Hp->VK->Prop):Prop :=
 ∀ (pins:List (Ve×Obj)) (s:Vd) (σ:St) (H:Hp) (x:V) (xs:List V) (v:Vb) (us:List Vb) (Q:VK),Inv X pins σ H s->Zcg x v->Zb7 xs us->r x xs H Q ->
  Vf (Vm X.prog X.w) X.A (call (.builtin id) (v::us)) (EP X pins σ Q) X.xe s
theorem Zb7.one:∀ {x:V} {us:List Vb},Zb7 [x] us->∃ u,us=[u]/\Zcg x u:=by
 intro x us h
 cases h with
 | cons r t=>cases t; exact⟨_,rfl,r⟩
theorem Zb7.rep {xs:List V} {us:List Vb} (h:Zb7 xs us):∀ k:Nat,Zb7 (Xq k xs).flatten (Xq k us).flatten
 | 0=>.nil
 | k+1=>by
  rw[Wbf,Wbf,Wbs,Wbs]
  exact Zb7.append h (Zb7.rep h k)
theorem Zic (its:List Vb):∀ (k:Nat) (acc:List Vb),
  Wdz (fun x1 x2=>x1++x2) acc.toArray (Xq k its.toArray)=(acc++(Xq k its).flatten).toArray
 | 0,acc=>by simp
 | k+1,acc=>by
  have e:acc.toArray++its.toArray=(acc++its).toArray:=by simp
  have e2:(acc++its)++(Xq k its).flatten=acc++(Xq (k+1) its).flatten:=by
   rw[Wbf,Wbs,Xz]
  rw[<- e2,<- Zic its k (acc++its),<- e,Wbf,List.foldl_cons]
section
variable {X:Cx} {pins:List (Ve×Obj)} {σ:St} {H:Hp} {s:Vd} {l b:Ve} {xs ys zs:List V}
theorem Inv.lset {its its':List Vb} {n:Nat} {f:Array Vb->Array Vb} {t':Nat} (I:Inv X pins σ H s) (hH:H l=some (.lst xs))
  (e:s.heap.get? l=some { cls:=.type "list",data:=.seq its.toArray n }) (hf:f its.toArray=its'.toArray) (hv:Zb7 ys its') (hz:ys.length<=sizeLine) :
  Inv X pins σ (upd H l (.lst ys)) { s with heap:=s.heap.update l (Tay f),toks:=t' }:=by
 have q:=PySem.IsL.update e f
 rw[hf] at q
 refine I.write (x:=l) (e:=l) (by rw[hH]; exact trivial) (.inl rfl) (fun b' u hb hu=>(Heap.get?_update_other s.heap (Tay f) (Ul hb)).trans hu) ⟨_,q⟩ ?_
 exact⟨hz,its',_,hv,q⟩
theorem Inv.lnew {its:List Vb} {t':Nat} (I:Inv X pins σ H s) (hv:Zb7 ys its) (hz:ys.length<=sizeLine) :
  Inv X pins σ (upd H s.heap.objs.size (.lst ys)) { s with heap:=s.heap.push { cls:=.type "list",data:=.seq its.toArray },toks:=t' } :=
 I.laid (fun _ _ q=>Xa _ q) (Xe _) ⟨hz,its,0,hv,Xd _ rfl⟩
theorem Inv.fresh (I:Inv X pins σ H s):H s.heap.objs.size=none:=I.hok.fresh (Xe _)
theorem Inv.lstM (I:Inv X pins σ H s) (hH:H l=some (.lst xs)):xs.length<=sizeLine/\∃ (its:List Vb) (n:Nat),Zb7 xs its/\xs.length=its.length/\s.heap.get? l=some { cls:=.type "list",data:=.seq its.toArray n }:=by
 obtain⟨z,its,n,r,e⟩:=I.hok l _ hH
 exact⟨z,its,n,r,r.length,e⟩
theorem Zwr {n:Nat} (h:n<=sizeLine):Tam n=false:=by
 unfold Tam
 exact decide_eq_false (by omega)
end
section
variable {X:Cx}
nonrec def Yaz:V->List V->Hp->VK->Prop:=fun x vs H Q=>∃ l xs y,x=.ref l/\vs=[y]/\H l=some (.lst xs)/\xs.length<sizeLine/\Q .non (upd H l (.lst (xs++[y])))
theorem Zie:MtM X "list.append" Yaz:=by
 intro pins s σ H x vs v us Q I rx rv h
 obtain⟨l,xs,y,rfl,rfl,hH,hz,q⟩:=h
 cases rx
 obtain⟨u,rfl,ru⟩:=rv.one
 obtain⟨z,its,n,r,hl,e⟩:=I.lstM hH
 refine Ubo F.slot_list_append ⟨_,e,rfl⟩ F.entry_list_append (F.args_list_append_2 _ _) (PySem.list_append l its.toArray n u (by rw[Xm]; omega)) ⟨e,?_⟩
 refine⟨.non,_,I.lset (its':=its++[u]) hH e (by simp) (r.append (.cons ru .nil)) ?_,rfl,q⟩
 rw[Xp,Wbi]
 omega
nonrec def rCat:R2:=fun x y H Q=>∃ l b xs zs,x=.ref l/\y=.ref b/\H l=some (.lst xs)/\H b=some (.lst zs)/\xs.length+zs.length<=sizeLine/\∀ p,H p=none->Q (.ref p) (upd H p (.lst (xs++zs)))
theorem Yc7:OpR X (Vy .Add) rCat:=by
 intro pins s σ H x y v u Q I rx ry h
 obtain⟨l,b,xs,zs,rfl,rfl,hH,hB,hz,q⟩:=h
 cases rx
 cases ry
 obtain⟨z,its,n,r,hl,e⟩:=I.lstM hH
 obtain⟨z2,its2,n2,r2,hl2,e2⟩:=I.lstM hB
 refine PySem.P.add_list e e2 ?_ (by rw[Xm,Xm]; omega)
 have ea:its.toArray++its2.toArray=(its++its2).toArray:=by simp
 rw[ea]
 exact⟨.ref _,_,I.lnew (t':=s.toks) (r.append r2) (by rw[Xp]; omega),rfl,q _ I.fresh⟩
nonrec def rRep:R2:=fun x y H Q=>∃ l k xs,x=.ref l/\y=.int k/\H l=some (.lst xs) /\ -(2 ^ 63)<=k/\k<2 ^ 63/\xs.length*k.toNat<=sizeLine /\
 ∀ p,H p=none->Q (.ref p) (upd H p (.lst (Xq k.toNat xs).flatten))
theorem Zn8 {α:Type} (xs:List α) (k:Nat):(Xq k xs).flatten.length=k*xs.length:=by
 induction k with
 | zero=>simp
 | succ k ih=>rw[Wbf,Wbs,Xp,ih,Nat.succ_mul,Nat.add_comm]
theorem Ycn:OpR X (Vy .Mult) rRep:=by
 intro pins s σ H x y v u Q I rx ry h
 obtain⟨l,k,xs,rfl,rfl,hH,h1,h2,hz,q⟩:=h
 cases rx
 obtain⟨t,rfl⟩:=ry
 obtain⟨z,its,n,r,hl,e⟩:=I.lstM hH
 have hlen:its.toArray.size*k.toNat<=sizeLine:=by rw[Xm,<- hl]; exact hz
 have hcap:¬ its.toArray.size*k.toNat > (2 ^ 63 - 1) / 8:=by
  have:(sizeLine:Nat)<=(2 ^ 63 - 1) / 8:=by decide
  omega
 have hfit:¬ (!Builtin.List.listFitsIndex k)=true:=by
  rw[fitsIndex_both h1 h2]
  exact Waz
 have hlong:¬ Tam (its.toArray.size*k.toNat)=true:=by
  rw[Zwr hlen]
  exact Waz
 have hnew:Wdz (fun x1 x2=>x1++x2) #[] (Xq (if its.toArray.isEmpty=true then 0 else k.toNat) its.toArray)=(Xq k.toNat its).flatten.toArray:=by
  have f0:∀ m:Nat,Wdz (fun x1 x2=>x1++x2) #[] (Xq m its.toArray)=(Xq m its).flatten.toArray:=fun m=>by
   have:=Zic its m []
   rw[Wcq] at this
   exact this
  rw[f0]
  cases its with
  | nil=>simp
  | cons a r'=>rw[if_neg (by simp)]
 refine Ubu (T := "list") (U := "int") (by decide) ⟨_,e,rfl⟩ (fun s'=>Ucv s' k t) noFill_list_mul F.fills_int_mul Tba repeat_list F.slot_int_index.lookup
  (Ubo Tba (Ucv s k t) F.entry_int_rmul (Tci _ _) (int___rmul___int_list k t l its.toArray n)
   ⟨e,rfl,⟨_,e,rfl⟩,Ubo F.slot_list_mul ⟨_,e,rfl⟩ F.entry_list_mul (F.args_list_mul_2 _ _) (AutoListH.list___mul___list_int_3 l its.toArray n k t hfit hcap hlong) ⟨e,?_⟩⟩)
 rw[hnew]
 exact⟨.ref _,_,I.lnew (t':=s.toks) (r.rep k.toNat) (by rw[Zn8,Wfk]; exact hz),rfl,q _ I.fresh⟩
end
section
variable {prog:Vh} {w:Vu} {A:Vt} {E:Vb->Vd->Prop} {s:Vd}
set_option maxRecDepth 100000 in
end
end L2
namespace Att
open PySem PySem.W PySem.Calls PyProof.Rows
theorem Zi6 {P:Params} {h:Vz}:∀ (ns:List Int) (vs:List Vb),WellAll P h vs (ns.map WData.int)->Ubd vs ns:=by
 intro ns
 induction ns with
 | nil =>
  intro vs w
  rw[Wcz] at w
  cases w
  exact .nil
 | cons n ns ih =>
  intro vs w
  rw[Xo] at w
  cases w with
  | cons a b =>
   cases a
   exact .cons _ _ (ih _ b)
theorem Zur {l:OpenLaw} {n:Nat} (hn:l.most=some n) {P:Params} {h:Vz} {args:List WData} {vals:List Vb}
  (hpre:l.row.toRowW.claim.pre args=true) (hwl:WellAll P h vals args) :
  ∃ a vs ns,vals=[Uu a]/\args=[WData.list (ns.map WData.int)]/\h.get? a=some { cls:=.type "list",data:=.seq vs.toArray }/\Ubd vs ns/\ns.length<=n:=by
 have hsh:WShape.hasAll [] args [.list .int]=true:=(pre_splitW hpre).1
 have hc:l.pre.holds [] { args:=args }=true:=(pre_splitW hpre).2
 obtain⟨d,r,rfl,h1,h2⟩:=hasAllW_cons hsh
 obtain rfl:=hasAllW_nil h2
 obtain⟨xs,rfl,h3⟩:=hasW_list h1
 obtain⟨ns,rfl⟩:=items_int h3
 have hlen:ns.length<=n:=by
  unfold OpenLaw.pre at hc
  have h4:(WTm.not (.lt (.lit (.int (n:Int))) (.len (.arg 0)))).holds [] { args:=[.list (ns.map .int)] }=true:=by
   have h4:=(holds_andW hc).1
   rw[hn] at h4
   exact h4
  have h5:=condW_of h4 (w_not (w_lt w_lit (w_len_list (w_arg rfl))))
  rw[Xu] at h5
  refine Nat.le_of_not_lt fun q=>?_
  have q':(n:Int)<((ns.length:Nat):Int):=by omega
  first
   | (rw[decide_eq_true q'] at h5; exact absurd h5 (by decide))
   | (simp at h5; omega)
 cases hwl with
 | cons w1 w2 =>
  cases w2
  cases w1 with
  | list ho hall=>exact⟨_,_,ns,rfl,rfl,ho,Zi6 ns _ hall,hlen⟩
theorem Zsj (l:OpenLaw) (args:List WData):l.row.toRowW.claim.post args (.bool true) args=true :=
 postW_of (r:=l.row.toRowW) (X:=(true==true))
  (show WShape.has [] (.bool true) .bool=true by first | rfl | decide | simp[WShape.has,WShape.arms,WShape.armsAll])
  (show (WTm.eq .res (.lit (.bool true))).value [] { args:=args,res:=some (.bool true),after:=args }=some (.bool (true==true)) from w_eq_bool (w_res rfl) w_lit) rfl
theorem attach_call {l:OpenLaw} {n:Nat} {q:Vh} {loose:List Str} {XP:(Str->Option Vb)->Vz->Prop} {YP:Vu->Vz->Prop} {d:DefRec}
  (hn:l.most=some n) (hdf:d.params.defaults=[])
  (call:∀ (w:Vu) (s₀ s₁:Vd) (mg mb:Str->Option Vb) (fa:Ve) (o:Obj) (pm cd doc:Vb) (a:Ve) (vs:List Vb) (ns:List Int),
   Ground q loose [] XP w s₀ mg mb s₁.heap->YP w s₁.heap ->
   s₁.heap.get? fa=some o->o.data=.func (docDef d.name d.params d.body d.scope pm cd doc)->s₁.heap.CodeRec cd d.name->mg d.name=some (.ref fa) ->
   s₁.heap.get? a=some { cls:=.type "list",data:=.seq vs.toArray }->Ubd vs ns->ns.length<=n->s₁.gens = #[] ->
   Ucn (Vm l.prog w) Udu (.call (.ref fa) ⟨[.ref a],[]⟩) (fun r s'=>r=.ok (.ret (.bool true))/\OldK s₁.heap s'.heap/\s'.os=s₁.os/\Ucj s'.gens) s₁) :
  WalkO q loose XP YP l.row.toRowW d [] (fun f vs=>Tcs f vs):=by
 intro w s₀ s₁ mg mb G Y fa o pm cd doc dV kV ho hd hcd hD hmg hg args vals as hpre hlay hrd hwl hlo
 obtain rfl:dV=.none:=Dflts.none hD hdf
 obtain rfl:kV=.none:=Dflts.noKw hD
 obtain⟨a,vs,ns,rfl,rfl,hobj,hints,hlen⟩:=Zur hn hpre hwl
 refine enter_call (Uax (call w s₀ s₁ mg mb fa o pm cd doc a vs ns G Y ho (fd_plain hd) hcd hmg hobj hints hlen hg) fun r s' hq=>?_)
 obtain⟨rfl,h2,h3,h4⟩:=hq
 exact⟨.inl ⟨.bool true,.bool true,[],rfl,fun _=>rfl,.bool true,Zsj l _,fun _=>⟨List.Pairwise.nil,fun _ hm=>(nomatch hm)⟩⟩,h2,h3,h4⟩
end Att
namespace L2
open PySem PySem.Spec PyProof.Rows
theorem vals_ints:∀ {vs:List Vb} {ns:List Int},Ubd vs ns->Zb7 (ns.map V.int) vs
 | _,_,.nil=>.nil
 | _,_,.cons n t h=>.cons ⟨t,rfl⟩ (vals_ints h)
nonrec abbrev KOf {K:Xb} {h:Vz} (_:K.In h):Xb:=K
nonrec def Zcn (s:Uab):Ueg:=match s with
 | .FunctionDef _ a _ _ _ _ _ _ _ _=>a
 | _=>{ posonlyargs:=[],args:=[],vararg:=none,kwonlyargs:=[],kw_defaults:=[],kwarg:=none,defaults:=[] }
nonrec def Za6 (s:Uab):List Uab:=match s with
 | .FunctionDef _ _ b _ _ _ _ _ _ _=>b
 | _=>[]
nonrec def Zad (s:Uab):Ubm:=match s with
 | .FunctionDef _ _ _ _ _ _ sc _ _ _=>sc
 | _=>{ kind:=.function,names:=[],isGenerator:=false,isCoroutine:=false }
nonrec abbrev CX0:CXT:=fun _ _ _ _ _ _=>False
nonrec abbrev E0:XK:=fun _ _ _=>False
theorem Ydb {X:Cx}:Zuc CX0 X E0:=fun _ _ _ _ _ _ _ h=>h.elim
structure Fun (K:Xb) (x qual:Str) (st:Uab) (f:Ve) (fd:Uar):Prop where
 ex:∃ (oc:Vb) (od:Option Ve) (kV doc pm:Vb) (an:Option Ve) (cdv ct:Vb) (osl:Array (Option Vb)),
  fd=Wav x qual (Zcn st) (Za6 st) (Zad st) .none kV doc pm an cdv ct/\K.lookup f=some ⟨oc,od,.func fd,osl⟩/\Wcj K cdv qual=true
 kp:Wcc K (.ref f)=true
section
variable {P:Vh} {w:Vu} {K:Xb} {mg:Str->Option Vb} {base:Vz}
theorem Fun.ok {x qual:Str} {st:Uab} {f:Ve} {fd:Uar} {N ps:List Str} {k:Nat} {sp:Sp} (F:Fun K x qual st f fd) (S:FnScope N ps (Zad st)) (len:∀ vs H Q E,sp vs H Q E->vs.length=ps.length)
  (hbody:∀ (cdv:Vb) (A:Vt) (outer:List Env) (s:Vd) (H:Hp) (vs:List V) (Q:VK) (E:XK),Room k (A.deeper (Ubc qual (Zad st) s.heap.objs.size f cdv))->sp vs H Q E ->
   ∃ t,PSs (Zl8 CX0 P w K mg base N qual (Zad st) f cdv A outer s H E).nox (Za6 st) t/\t { nx:=fun _ H'=>Q .non H',rt:=Q } (start N vs) H):FnOk P w K mg base CX0 (k+1) f fd ps sp:=by
 obtain⟨oc,od,kV,doc,pm,an,cdv,ct,osl,rfl,lk,hcd⟩:=F.ex
 refine fn_of lk hcd S len fun A outer s H vs Q E hr hsp=>?_
 obtain⟨t,h,q⟩:=hbody cdv A outer s H vs Q E hr hsp
 exact⟨t,h.nox,q⟩
theorem Fun.binds {x qual:Str} {st:Uab} {f:Ve} {fd:Uar} {ps:List Str} (F:Fun K x qual st f fd)
  (h:∀ (kV doc pm:Vb) (an:Option Ve) (cdv ct:Vb) (us:List Vb),us.length=ps.length->Uby (Wav x qual (Zcn st) (Za6 st) (Zad st) .none kV doc pm an cdv ct) ⟨us,[]⟩=pure (ps.zip us)):Zo2 K fd ps []:=by
 obtain⟨oc,od,kV,doc,pm,an,cdv,ct,osl,rfl,lk,hcd⟩:=F.ex
 exact .all (h kV doc pm an cdv ct)
theorem Zx6 {x qual:Str} {st:Uab} {f:Ve} {oc:Vb} {od an:Option Ve} {osl:Array (Option Vb)} {kV doc pm cdv ct:Vb} (l:K.lookup f=some ⟨oc,od,.func (Wav x qual (Zcn st) (Za6 st) (Zad st) .none kV doc pm an cdv ct),osl⟩)
  (c:Wcj K cdv qual=true) (k:Wcc K (.ref f)=true):Fun K x qual st f (Wav x qual (Zcn st) (Za6 st) (Zad st) .none kV doc pm an cdv ct):=⟨⟨oc,od,kV,doc,pm,an,cdv,ct,osl,rfl,l,c⟩,k⟩
end
section
variable {X:Cx}
theorem pv (i:Nat) {x:Str} {pos:Pos} (hN:X.N[i]? = some x:=by rfl) (hv:Vis X.env.scope x:=by first | exact Tbb rfl | exact Tav (Tbb rfl) | exact Tav (Tav rfl)) (hd:(x==("__debug__" : Str))=false:=by decide)
  (hcd:(x==("__classdict__" : Str))=false:=by decide):PE X (.Name x pos) (Yb4 i):=Yc2 hN hv hd hcd
end
end L2
set_option maxHeartbeats 4000000
set_option autoImplicit false
namespace DL
open PySem PySem.Spec PyProof.Rows L2
nonrec def Zsg:Vb->Option Int
 | .int i _=>some i
 | .bool b=>some (if b then 1 else 0)
 | _=>none
nonrec def Znf (k:Int) (v:Vb):Bool:=Zsg v==some k
theorem Zej {k:Int} {v:Vb} (h:Znf k v=true):(∃ t,v=.int k t)\/∃ b,v=.bool b/\k=(if b then 1 else 0):=by
 have h:Zsg v=some k:=eq_of_beq h
 cases v with
 | int i t=>exact .inl ⟨t,by cases h; rfl⟩
 | bool b=>exact .inr ⟨b,rfl,(Xw.inj h).symm⟩
 | _=>cases h
section
variable {prog:Vh} {w:Vu} {A:Vt} {E:Vb->Vd->Prop} {s:Vd}
theorem Zok {b:Bool} {Q:Int->Vd->Prop} (h:Q (Uec (if b then 1 else 0)) { s with toks:=s.toks+1 }):Vf (Vm prog w) A (pyHash (.bool b)) Q E s:=by
 have hr:=rawHash_range (if b then 1 else 0)
 have tb:s.TypeIs (.bool b) "bool" := rfl
 unfold pyHash
 have hv:[Tca b].any Value.onHeap=false:=rfl
 refine Va ?_
 rw[cRoomFor,if_neg (by rw[hv]; exact Waz)]; refine Vc ?_
 refine Va (wpAny_specialOf tb Tat.lookup ?_)
 show Vf _ _ (if (some (Value.builtin "int.__hash__")==some Um)=true then _ else _) Q E s
 rw[if_neg (by rw[beq_builtin_none]; exact Waz)]
 refine Va (wpAny_specialOf tb Tat.lookup ?_)
 show Vf _ _ (callSpecialIfBoundUnlessNone? (.bool b) "__hash__" _ >>= _) Q E s
 refine Va (wpAny_callSpecialIfBoundUnlessNone?_slot tb Tat
  (Vp Tat tb entry_int_hash
   (show Vf _ _ (do ret (<- mkInt (rawHash (if b then 1 else 0)))) _ _ s from wpAny_ret_mkInt ?_) (args_int_hash _)))
 show Vf _ _ (if (decide (-(2:Int) ^ 63<=rawHash (if b then 1 else 0))&&decide (rawHash (if b then 1 else 0)<2 ^ 63))=true then _ else _) Q E _
 rw[if_pos (by rw[decide_eq_true hr.1,decide_eq_true hr.2]; rfl)]
 exact Vc h
end
nonrec def Zcp (prog:Vh) (w:Vu):KeyKind prog w Int where
 is:=Znf
 hash:=Uec
 inj:=fun v a b ha hb=>by
  unfold Znf at ha hb
  have:=(eq_of_beq ha).symm.trans (eq_of_beq hb)
  exact Xw.inj this
 byValue:=fun k v h=>by rcases Zej h with ⟨t,rfl⟩ | ⟨b,rfl,_⟩<;>rfl
 pyHash:=fun hv h=>by
  rcases Zej hv with ⟨t,rfl⟩ | ⟨b,rfl,rfl⟩
  ·exact wpAny_pyHash_int h
  ·exact Zok h
 eqBool:=fun {A E s a b u v Q} hu hv h=>by
  rcases Zej hu with ⟨t,rfl⟩ | ⟨c,rfl,rfl⟩<;>rcases Zej hv with ⟨t',rfl⟩ | ⟨c',rfl,rfl⟩
  ·exact wpAny_eqBool_int h
  ·exact Tcp _ _ _ prog w E Q h
  ·exact Tcq _ _ _ prog w E Q h
  ·refine Tco _ _ prog w E Q ?_
   have e:(c==c')=decide ((if c then (1:Int) else 0)=(if c' then 1 else 0)):=by cases c<;>cases c'<;>rfl
   rw[e]; exact h
 «strs»:=fun k x t v h=>by simp[Znf,Zsg] at h
nonrec def iIsz (k:Int) (v:Vb):Bool:=match v with
 | .int i _=>i==k
 | _=>false
theorem Zkd {k:Int} {v:Vb} (h:iIsz k v=true):∃ t,v=.int k t:=by
 cases v with
 | int i t=>exact⟨t,by rw[eq_of_beq (show (i==k)=true from h)]⟩
 | _=>cases h
theorem Zjp {k:Int} {t:Tok}:iIsz k (.int k t)=true:=beq_self_eq_true k
theorem Zfs {k:Int} {v:Vb} (h:iIsz k v=true):Znf k v=true:=by
 obtain⟨t,rfl⟩:=Zkd h
 exact beq_self_eq_true (some k)
nonrec def Zvu (prog:Vh) (w:Vu):KeyKind prog w Int where
 is:=iIsz
 hash:=Uec
 inj:=fun v a b ha hb=>(Zcp prog w).inj v a b (Zfs ha) (Zfs hb)
 byValue:=fun k v h=>(Zcp prog w).byValue k v (Zfs h)
 pyHash:=fun hv h=>(Zcp prog w).pyHash (Zfs hv) h
 eqBool:=fun {A E s a b u v Q} hu hv h=>(Zcp prog w).eqBool (a:=a) (b:=b) (Zfs hu) (Zfs hv) h
 «strs»:=fun k x t v h=>by cases h
inductive D where
 | non | bl (b:Bool) | int (i:Int) | str (x:Str) | ty (n:String) | tup (xs:List D) | fl (xs:List D) | ref (n:Nat)
inductive DO where
 | lst (xs:List D) | dic (kvs:List (D×D)) (fz:Bool) | dci (kvs:List (Int×D)) | dcn (kvs:List (D×D)) | obj (cn:Str) (fs:List (Str×D)) | exc (cn:Str) | clo (n:String) (x:Str) (d:D) | tab (n:String) (b:Bool)
nonrec abbrev HD:=List DO
nonrec abbrev SD:=List (Option D)
def FzL (K:Xb) (H:Hp) (a:Ve) (xs:List V):Prop :=
 (∃ o,H a=some (.frz o (.lst xs))) \/
  ∃ (o:Obj) (its:Array Vb) (n:Nat),K.lookup a=some o/\o.cls=.type "list" /\ o.dict=none/\o.data=.seq its n/\its.size<=sizeLine/\Zb7 xs its.toList
theorem FzL.sq {K:Xb} {H:Hp} {a:Ve} {xs:List V} (h:FzL K H a xs):SqL K H a xs:=by
 rcases h with h | h
 ·exact .inl (.inr h)
 ·exact .inr h
nonrec def Zyw (n:String):Bool:=n == "bool" || n == "int" || n == "str" || n == "tuple" || n == "list"
mutual
noncomputable def Rep (K:Xb) (H:Hp) (ι:List Ve):D->V->Prop
 | .non,v=>v=.non
 | .bl b,v=>v=.bl b
 | .int i,v=>v=.int i
 | .str x,v=>v=.str x
 | .ty n,v=>(Zyw n=true/\v=.ty n)\/(Zyw n=false/\∃ a,v=.ref a/\Wcn K Vl (Ua n)=some (some (.ref a)))
 | .tup ds,v=>∃ a vs,v=.ref a/\SqT K H a vs/\Zng K H ι ds vs
 | .fl ds,v=>∃ a vs,v=.ref a/\FzL K H a vs/\Zng K H ι ds vs
 | .ref n,v=>∃ a,v=.ref a/\ι[n]? = some a
noncomputable def Zng (K:Xb) (H:Hp) (ι:List Ve):List D->List V->Prop
 | [],vs=>vs=[]
 | d::ds,vs=>∃ v r,vs=v::r/\Rep K H ι d v/\Zng K H ι ds r
end
section
variable {α β:Type} {F G:α->β->Prop}
theorem Prd.len:∀ {xs:List α} {us:List β},Vj F xs us->xs.length=us.length
 | _,_,.nil=>rfl
 | _,_,.cons _ t=>by simp[Prd.len t]
theorem Prd.get:∀ {xs:List α} {us:List β} {i:Nat} {x:α},Vj F xs us->xs[i]? = some x->∃ u,us[i]? = some u/\F x u
 | _,_,_,_,.nil,e=>by simp at e
 | _,_,0,_,.cons r _,e=>by simp at e; subst e; exact⟨_,rfl,r⟩
 | _,_,i+1,x,.cons _ t,e=>by
  obtain⟨u,h1,h2⟩:=Prd.get (i:=i) (x:=x) t (by simpa using e)
  exact⟨u,by simpa using h1,h2⟩
theorem Prd.append:∀ {xs ys:List α} {us ws:List β},Vj F xs us->Vj F ys ws->Vj F (xs++ys) (us++ws)
 | _,_,_,_,.nil,s=>s
 | _,_,_,_,.cons r t,s=>.cons r (Prd.append t s)
theorem Prd.take:∀ {xs:List α} {us:List β} (n:Nat),Vj F xs us->Vj F (xs.take n) (us.take n)
 | _,_,0,_=>.nil
 | _,_,_+1,.nil=>.nil
 | _,_,n+1,.cons r t=>.cons r (Prd.take n t)
theorem Prd.drop:∀ {xs:List α} {us:List β} (n:Nat),Vj F xs us->Vj F (xs.drop n) (us.drop n)
 | _,_,0,r=>r
 | _,_,_+1,.nil=>.nil
 | _,_,n+1,.cons _ t=>Prd.drop n t
theorem Prd.rep {xs:List α} {us:List β} (h:Vj F xs us):∀ k:Nat,Vj F (Xq k xs).flatten (Xq k us).flatten
 | 0=>.nil
 | k+1=>by
  rw[Wbf,Wbs,Wbf,Wbs]
  exact Prd.append h (Prd.rep h k)
theorem Prd.imp:∀ {xs:List α} {us:List β},Vj F xs us->(∀ a b,a∈xs->F a b->G a b)->Vj G xs us
 | _,_,.nil,_=>.nil
 | _,_,.cons r t,f=>.cons (f _ _ (by simp) r) (Prd.imp t fun a b h=>f a b (by simp[h]))
end
section
variable {K:Xb} {H H':Hp} {ι ι':List Ve}
theorem Zdu:∀ {ds:List D} {vs:List V},Zng K H ι ds vs ↔ Vj (Rep K H ι) ds vs
 | [],vs=>by
  constructor
  ·intro h; rw[Zng] at h; subst h; exact .nil
  ·intro h; cases h; rw[Zng]
 | d::ds,vs=>by
  constructor
  ·intro h; rw[Zng] at h
   obtain⟨v,r,rfl,h1,h2⟩:=h
   exact .cons h1 (Zdu.mp h2)
  ·intro h
   cases h with
   | cons h1 h2=>rw[Zng]; exact⟨_,_,rfl,h1,Zdu.mpr h2⟩
@[simp] theorem rep_non {v:V}:Rep K H ι .non v ↔ v=.non:=by rw[Rep]
@[simp] theorem rep_bl {b:Bool} {v:V}:Rep K H ι (.bl b) v ↔ v=.bl b:=by rw[Rep]
@[simp] theorem rep_int {i:Int} {v:V}:Rep K H ι (.int i) v ↔ v=.int i:=by rw[Rep]
@[simp] theorem rep_str {x:Str} {v:V}:Rep K H ι (.str x) v ↔ v=.str x:=by rw[Rep]
theorem Zx5 {n:String} {v:V} (h:Zyw n=true):Rep K H ι (.ty n) v ↔ v=.ty n:=by rw[Rep]; simp[h]
theorem Zyo {n:String} {v:V} (h:Zyw n=false):Rep K H ι (.ty n) v ↔ ∃ a,v=.ref a/\Wcn K Vl (Ua n)=some (some (.ref a)):=by rw[Rep]; simp[h]
theorem Zbc {ds:List D} {v:V}:Rep K H ι (.tup ds) v ↔ ∃ a vs,v=.ref a/\SqT K H a vs/\Vj (Rep K H ι) ds vs:=by
 rw[Rep]
 constructor
 ·rintro⟨a,vs,h1,h2,h3⟩; exact⟨a,vs,h1,h2,Zdu.mp h3⟩
 ·rintro⟨a,vs,h1,h2,h3⟩; exact⟨a,vs,h1,h2,Zdu.mpr h3⟩
theorem Zg0 {ds:List D} {v:V}:Rep K H ι (.fl ds) v ↔ ∃ a vs,v=.ref a/\FzL K H a vs/\Vj (Rep K H ι) ds vs:=by
 rw[Rep]
 constructor
 ·rintro⟨a,vs,h1,h2,h3⟩; exact⟨a,vs,h1,h2,Zdu.mp h3⟩
 ·rintro⟨a,vs,h1,h2,h3⟩; exact⟨a,vs,h1,h2,Zdu.mpr h3⟩
theorem Zaz {n:Nat} {v:V}:Rep K H ι (.ref n) v ↔ ∃ a,v=.ref a/\ι[n]? = some a:=by rw[Rep]
structure Lw (K:Xb) (H:Hp) (ι:List Ve) (H':Hp) (ι':List Ve):Prop where
 tup:∀ a xs,SqT K H a xs->SqT K H' a xs
 fz:∀ a xs,FzL K H a xs->FzL K H' a xs
 pre:∃ t,ι'=ι++t
 fr:∀ a o u,H a=some (.frz o u)->H' a=some (.frz o u)
structure Le (K:Xb) (H:Hp) (ι:List Ve) (H':Hp) (ι':List Ve):Prop extends Lw K H ι H' ι' where
 frame:∀ a o,H a=some o->a∉ι->H' a=some o/\a∉ι'
theorem Le.refl:Le K H ι H ι:=⟨⟨fun _ _ h=>h,fun _ _ h=>h,⟨[],by simp⟩,fun _ _ _ h=>h⟩,fun _ _ h n=>⟨h,n⟩⟩
theorem Le.trans {H1 H2:Hp} {ι1 ι2:List Ve} (a:Le K H ι H1 ι1) (b:Le K H1 ι1 H2 ι2):Le K H ι H2 ι2:=by
 refine⟨⟨fun x xs h=>b.tup x xs (a.tup x xs h),fun x xs h=>b.fz x xs (a.fz x xs h),?_,fun x o u h=>b.fr x o u (a.fr x o u h)⟩,fun x o h n=>?_⟩
 ·obtain⟨t,e⟩:=a.pre
  obtain⟨u,e'⟩:=b.pre
  exact⟨t++u,by rw[e',e,Xz]⟩
 ·obtain⟨h1,n1⟩:=a.frame x o h n
  exact b.frame x o h1 n1
theorem Lw.get (l:Lw K H ι H' ι') {n:Nat} {a:Ve} (h:ι[n]? = some a):ι'[n]? = some a:=by
 obtain⟨t,e⟩:=l.pre
 rw[e,Xg (by exact(Xc.mp h).1),h]
mutual
theorem Rep.monoW (l:Lw K H ι H' ι'):∀ {d:D} {v:V},Rep K H ι d v->Rep K H' ι' d v
 | .non,v,h=>by rw[Rep] at h ⊢; exact h
 | .bl _,v,h=>by rw[Rep] at h ⊢; exact h
 | .int _,v,h=>by rw[Rep] at h ⊢; exact h
 | .str _,v,h=>by rw[Rep] at h ⊢; exact h
 | .ty _,v,h=>by rw[Rep] at h ⊢; exact h
 | .tup ds,v,h=>by
  rw[Rep] at h ⊢
  obtain⟨a,vs,h1,h2,h3⟩:=h
  exact⟨a,vs,h1,l.tup a vs h2,Zng.monoW l h3⟩
 | .fl ds,v,h=>by
  rw[Rep] at h ⊢
  obtain⟨a,vs,h1,h2,h3⟩:=h
  exact⟨a,vs,h1,l.fz a vs h2,Zng.monoW l h3⟩
 | .ref n,v,h=>by
  rw[Rep] at h ⊢
  obtain⟨a,h1,h2⟩:=h
  exact⟨a,h1,l.get h2⟩
theorem Zng.monoW (l:Lw K H ι H' ι'):∀ {ds:List D} {vs:List V},Zng K H ι ds vs->Zng K H' ι' ds vs
 | [],vs,h=>by rw[Zng] at h ⊢; exact h
 | d::ds,vs,h=>by
  rw[Zng] at h ⊢
  obtain⟨v,r,h1,h2,h3⟩:=h
  exact⟨v,r,h1,Rep.monoW l h2,Zng.monoW l h3⟩
end
theorem Rep.mono (l:Le K H ι H' ι') {d:D} {v:V} (h:Rep K H ι d v):Rep K H' ι' d v:=Rep.monoW l.toLw h
theorem Prd.monoW (l:Lw K H ι H' ι') {ds:List D} {vs:List V} (h:Vj (Rep K H ι) ds vs):Vj (Rep K H' ι') ds vs:=Zdu.mp (Zng.monoW l (Zdu.mpr h))
theorem Prd.mono (l:Le K H ι H' ι') {ds:List D} {vs:List V} (h:Vj (Rep K H ι) ds vs):Vj (Rep K H' ι') ds vs:=Prd.monoW l.toLw h
nonrec def nkOf:D->Option Int
 | .int i=>some i
 | .bl b=>some (if b then 1 else 0)
 | _=>none
nonrec def Zk3:List D->Option (List Int)
 | []=>some []
 | d::r=>(nkOf d).bind fun k=>(Zk3 r).map fun ks=>k::ks
nonrec def nk:D->Option (List Int)
 | .tup ds=>Zk3 ds
 | _=>none
nonrec def Yb7 (ks:List Int):Int:=reduceHash (Tbm (ks.map Uec))
def Zc9 (a:Ve) (xs:List (List Int×Ve×Vb)) (h:Vz):Prop :=
 ∃ o es ep,h.get? a=some o/\o.ExactDict/\o.data=.dict es ep/\es.toList=xs.map (fun x=>(⟨Yb7 x.1,.ref x.2.1,x.2.2⟩:Uaj))/\(xs.map (·.1)).Nodup
theorem Zc9.keep {a:Ve} {xs:List (List Int×Ve×Vb)} {h1 h2:Vz} (d:Zc9 a xs h1) (k:∀ o,h1.get? a=some o->h2.get? a=some o):Zc9 a xs h2:=by
 obtain⟨o,es,ep,e,r⟩:=d
 exact⟨o,es,ep,k o e,r⟩
def Zrx (K:Xb) (H:Hp) (ι:List Ve) (p:D×D) (x:List Int×Ve×Vb):Prop:=nk p.1=some x.1/\Rep K H ι p.1 (.ref x.2.1)/\∃ v,Zcg v x.2.2/\Rep K H ι p.2 v
def Zey (a:Ve) (xs:List (Int×Vb)) (h:Vz):Prop:=∀ (p:Vh) (w:Vu),h.DictOf (Zvu p w) a xs
theorem Zey.keep {a:Ve} {xs:List (Int×Vb)} {h1 h2:Vz} (d:Zey a xs h1) (k:∀ o,h1.get? a=some o->h2.get? a=some o):Zey a xs h2:=fun p w=>by
 obtain⟨o,es,ep,e,r⟩:=d p w
 exact⟨o,es,ep,k o e,r⟩
def Zwi (K:Xb) (H:Hp) (ι:List Ve) (p:Int×D) (x:Int×Vb):Prop:=p.1=x.1/\∃ v,Zcg v x.2/\Rep K H ι p.2 v
nonrec def nk2:D->Option (Int×List Int)
 | .tup [a,b]=>(nkOf a).bind fun i=>(nk b).map fun ks=>(i,ks)
 | _=>none
nonrec def nHash (k:Int×List Int):Int:=reduceHash (Tbm [Uec k.1,Yb7 k.2])
def DcnAt (a:Ve) (xs:List ((Int×List Int)×Ve×Vb)) (h:Vz):Prop :=
 ∃ o es ep,h.get? a=some o/\o.ExactDict/\o.data=.dict es ep/\es.toList=xs.map (fun x=>(⟨nHash x.1,.ref x.2.1,x.2.2⟩:Uaj))/\(xs.map (·.1)).Nodup
def NRep (K:Xb) (H:Hp) (ι:List Ve) (p:D×D) (x:(Int×List Int)×Ve×Vb):Prop:=nk2 p.1=some x.1/\Rep K H ι p.1 (.ref x.2.1)/\∃ v,Zcg v x.2.2/\Rep K H ι p.2 v
def FRep (K:Xb) (H:Hp) (ι:List Ve) (p:Str×D) (x:Str×V):Prop:=p.1=x.1/\Rep K H ι p.2 x.2
def ExcAt (a C:Ve) (h:Vz):Prop:=∃ o,h.get? a=some o/\o.cls=.ref C
nonrec def fzO (a:Ve) (o:Obj):HO:=.frz o (.ext fun h=>h.get? a=some o)
nonrec def Yd7:Uab->Pos
 | .FunctionDef _ _ _ _ _ _ _ _ _ p=>p
 | _=>default
nonrec def Ycj:Uab->Str
 | .FunctionDef n _ _ _ _ _ _ _ _ _=>n
 | _=>default
def Zix (K:Xb) (n:String) (st:Uab):Prop:=∃ f0 o0 fd0 rest,Wcn K Vl (Ua n)=some (some (.ref f0))/\K.lookup f0=some o0/\o0.data=.func fd0/\fd0.body=.stmts (st::rest)
def Zrb (H:Hp) (c':Ve) (qual:Str):Prop:=∃ o vs t,H c'=some (fzO c' o)/\o.data=.fields vs/\vs[1]? = some (.str qual t)
def Zq9 (K:Xb) (H:Hp) (n:String) (x:Str) (a:Ve) (w:V):Prop :=
 ∃ st nm qual doc pm ct c c' oc uc u,Zix K n st/\H a=some (fzO a (PySem.W.fnMade nm qual (Zcn st) (Za6 st) (Zad st) [(x,c)] doc pm c' ct))/\Zrb H c' qual/\H c=some (.frz oc uc)/\oc.data=.cell (some u)/\Zcg w u
def TabAt (K:Xb) (H:Hp) (n:String) (a:Ve) (b:Bool):Prop :=
 ∃ st c ps,Zix K n st/\PySem.W.tabIn K (Ua n)=some (c,a)/\H a=some (.tbl ps)/\TriplesOk ps.toList/\(b=false->codeAmong (Yd7 st) ps.toList=none) /\
  (b=true->∃ c',codeAmong (Yd7 st) ps.toList=some (.ref c')/\Zrb H c' (Ua n ++ ".<locals>." ++ Ycj st))
nonrec def Zrj (K:Xb) (H:Hp) (ι:List Ve) (a:Ve):DO->Prop
 | .lst ds=>∃ vs,H a=some (.lst vs)/\Vj (Rep K H ι) ds vs
 | .dic kvs fz=>(a==Uae)=false/\kvs.length<=sizeLine/\∃ xs,(if fz=true then ∃ o,H a=some (.frz o (.ext (Zc9 a xs))) else H a=some (.ext (Zc9 a xs)))/\Vj (Zrx K H ι) kvs xs
 | .dci kvs=>(a==Uae)=false/\kvs.length<=sizeLine/\∃ xs,H a=some (.ext (Zey a xs))/\Vj (Zwi K H ι) kvs xs
 | .dcn kvs=>(a==Uae)=false/\kvs.length<=sizeLine/\∃ xs,H a=some (.ext (DcnAt a xs))/\Vj (NRep K H ι) kvs xs
 | .obj cn fs=>∃ C dx xs,Wcn K Vl cn=some (some (.ref C))/\H a=some (.ins C dx xs)/\Vj (FRep K H ι) fs xs
 | .exc cn=>∃ C,Wcn K Vl cn=some (some (.ref C))/\H a=some (.ext (ExcAt a C))
 | .clo n x d=>∃ w,Zq9 K H n x a w/\Rep K H ι d w
 | .tab n b=>TabAt K H n a b
structure HRep (K:Xb) (H:Hp) (ι:List Ve) (Hd:HD):Prop where
 len:ι.length=Hd.length
 nd:ι.Nodup
 obj:∀ (n:Nat) (a:Ve) (o:DO),ι[n]? = some a->Hd[n]? = some o->Zrj K H ι a o
theorem Zrj.there {a:Ve} {o:DO} (h:Zrj K H ι a o):H a≠none:=by
 cases o with
 | lst ds=>obtain⟨vs,e,_⟩:=h; rw[e]; simp
 | dic kv fz =>
  obtain⟨_,_,xs,e,_⟩:=h
  cases fz with
  | true=>rw[if_pos rfl] at e; obtain⟨ob,e⟩:=e; rw[e]; simp
  | false=>rw[if_neg (by simp)] at e; rw[e]; simp
 | dci kv=>obtain⟨_,_,xs,e,_⟩:=h; rw[e]; simp
 | dcn kv=>obtain⟨_,_,xs,e,_⟩:=h; rw[e]; simp
 | obj cn fs=>obtain⟨C,dx,xs,_,e,_⟩:=h; rw[e]; simp
 | exc cn=>obtain⟨C,_,e⟩:=h; rw[e]; simp
 | clo n x d=>obtain⟨w,⟨_,_,_,_,_,_,_,_,_,_,_,_,e,_⟩,_⟩:=h; rw[e]; simp
 | tab n b=>obtain⟨_,_,_,_,_,e,_⟩:=h; rw[e]; simp
theorem Zrb.step {c':Ve} {qual:Str} (h:Zrb H c' qual) (l:Lw K H ι H' ι'):Zrb H' c' qual:=by
 obtain⟨o,vs,t,e,r⟩:=h
 exact⟨o,vs,t,l.fr _ _ _ e,r⟩
theorem Zq9.step {n:String} {x:Str} {a:Ve} {w:V} (h:Zq9 K H n x a w) (l:Lw K H ι H' ι'):Zq9 K H' n x a w:=by
 obtain⟨st,nm,qual,doc,pm,ct,c,c',oc,uc,u,h1,h2,h3,h4,h5⟩:=h
 exact⟨st,nm,qual,doc,pm,ct,c,c',oc,uc,u,h1,l.fr _ _ _ h2,h3.step l,l.fr _ _ _ h4,h5⟩
theorem Zrj.step {a:Ve} {o:DO} (h:Zrj K H ι a o) (l:Lw K H ι H' ι') (e:H' a=H a):Zrj K H' ι' a o:=by
 cases o with
 | lst ds=>obtain⟨vs,q,r⟩:=h; exact⟨vs,by rw[e,q],Prd.monoW l r⟩
 | dic kv fz=>obtain⟨h1,h2,xs,q,r⟩:=h; exact⟨h1,h2,xs,by rw[e]; exact q,Prd.imp r fun p x _ z=>⟨z.1,Rep.monoW l z.2.1,let ⟨v,z1,z2⟩:=z.2.2; ⟨v,z1,Rep.monoW l z2⟩⟩⟩
 | dci kv=>obtain⟨h1,h2,xs,q,r⟩:=h; exact⟨h1,h2,xs,by rw[e]; exact q,Prd.imp r fun p x _ z=>⟨z.1,let ⟨v,z1,z2⟩:=z.2; ⟨v,z1,Rep.monoW l z2⟩⟩⟩
 | dcn kv=>obtain⟨h1,h2,xs,q,r⟩:=h; exact⟨h1,h2,xs,by rw[e]; exact q,Prd.imp r fun p x _ z=>⟨z.1,Rep.monoW l z.2.1,let ⟨v,z1,z2⟩:=z.2.2; ⟨v,z1,Rep.monoW l z2⟩⟩⟩
 | obj cn fs=>obtain⟨C,dx,xs,h1,q,r⟩:=h; exact⟨C,dx,xs,h1,by rw[e]; exact q,Prd.imp r fun p x _ z=>⟨z.1,Rep.monoW l z.2⟩⟩
 | exc cn=>obtain⟨C,h1,q⟩:=h; exact⟨C,h1,by rw[e]; exact q⟩
 | clo n x d=>obtain⟨w,h1,h2⟩:=h; exact⟨w,h1.step l,Rep.monoW l h2⟩
 | tab n b =>
  obtain⟨st,c,ps,h1,h2,h3,h4,h5,h6⟩:=h
  refine⟨st,c,ps,h1,h2,by rw[e]; exact h3,h4,h5,fun hb=>?_⟩
  obtain⟨c',h7,h8⟩:=h6 hb
  exact⟨c',h7,h8.step l⟩
theorem HRep.at {Hd:HD} (h:HRep K H ι Hd) {n:Nat} {o:DO} (e:Hd[n]? = some o):∃ a,ι[n]? = some a/\Zrj K H ι a o:=by
 have hl:n<ι.length:=by rw[h.len]; exact(Xc.mp e).1
 exact⟨ι[n],by simp[hl],h.obj n _ o (by simp[hl]) e⟩
theorem HRep.has {Hd:HD} (h:HRep K H ι Hd) {a:Ve} (hm:a∈ι):∃ (n:Nat) (o:DO),ι[n]? = some a/\Hd[n]? = some o/\Zrj K H ι a o:=by
 obtain⟨n,hn⟩:=Wbq.mp hm
 have hl:n<Hd.length:=by rw[<- h.len]; exact(Xc.mp hn).1
 exact⟨n,Hd[n],hn,by simp[hl],h.obj n a Hd[n] hn (by simp[hl])⟩
theorem HRep.fresh {Hd:HD} (h:HRep K H ι Hd) {p:Ve} (hp:H p=none):p∉ι:=fun hm=>by
 obtain⟨_,_,_,_,o⟩:=h.has hm
 exact o.there hp
theorem HRep.keep {Hd:HD} (h:HRep K H ι Hd) (l:Lw K H ι H' ι) (e:∀ a∈ι,H' a=H a):HRep K H' ι Hd :=
 ⟨h.len,h.nd,fun n a o h1 h2=>(h.obj n a o h1 h2).step l (e a (Xl h1))⟩
theorem Lw.fresh {p:Ve} (hp:H p=none) (o:HO):Lw K H ι (upd H p o) ι where
 tup:=fun a xs h=>by
  rcases h with (h | ⟨ob,h⟩) | h
  ·exact .inl (.inl (by rw[Zag (Zai h hp)]; exact h))
  ·exact .inl (.inr ⟨ob,by rw[Zag (Zai h hp)]; exact h⟩)
  ·exact .inr h
 fz:=fun a xs h=>by
  rcases h with ⟨ob,h⟩ | h
  ·exact .inl ⟨ob,by rw[Zag (Zai h hp)]; exact h⟩
  ·exact .inr h
 pre:=⟨[],by simp⟩
 fr:=fun a ob u h=>by rw[Zag (Zai h hp)]; exact h
theorem Le.fresh {p:Ve} (hp:H p=none) (o:HO):Le K H ι (upd H p o) ι:=⟨Lw.fresh hp o,fun a ob h n=>⟨by rw[Zag (Zai h hp)]; exact h,n⟩⟩
theorem Le.fresh1 {p:Ve} (hp:H p=none) (o:HO):Le K H ι (upd H p o) (ι++[p]) where
 tup:=(Le.fresh (ι:=ι) hp o).tup
 fz:=(Le.fresh (ι:=ι) hp o).fz
 pre:=⟨[p],rfl⟩
 fr:=(Le.fresh (K:=K) (ι:=ι) hp o).fr
 frame:=fun a ob h n=>⟨by rw[Zag (Zai h hp)]; exact h,by
  have:=Zai h hp
  simp[n,this]⟩
theorem HRep.tup {Hd:HD} (h:HRep K H ι Hd) {p:Ve} (hp:H p=none) (o:HO):HRep K (upd H p o) ι Hd :=
 h.keep (Lw.fresh hp o) fun a ha=>Zag fun z=>by subst z; exact h.fresh hp ha
theorem HRep.new {Hd:HD} (h:HRep K H ι Hd) {p:Ve} (hp:H p=none) {u:HO} {o:DO} (ho:Zrj K (upd H p u) (ι++[p]) p o):HRep K (upd H p u) (ι++[p]) (Hd++[o]):=by
 have hf:=h.fresh hp
 refine⟨by simp[h.len],by simp only[Way,h.nd,true_and]; exact⟨by simp,fun a ha b hb e=>hf (by simp at hb; rw[<- hb,<- e]; exact ha)⟩,fun n a ob h1 h2=>?_⟩
 by_cases hn:n<ι.length
 ·rw[Xg hn] at h1
  rw[Xg (by rw[<- h.len]; exact hn)] at h2
  have ha:a∈ι:=Xl h1
  exact(h.obj n a ob h1 h2).step (Le.fresh1 hp u).toLw (Zag fun z=>by subst z; exact hf ha)
 ·rw[Xr (by omega)] at h1
  rw[Xr (by rw[<- h.len]; omega)] at h2
  rw[<- h.len] at h2
  have:n - ι.length=0:=by
   have:=(Xc.mp h1).1
   simp at this; omega
  rw[this] at h1 h2
  simp at h1 h2
  subst h1; subst h2
  exact ho
nonrec def Yc6:HO->Prop
 | .lst _=>True
 | .ext _=>True
 | .ins _ _ _=>True
 | .tbl _=>True
 | _=>False
theorem Le.upd {a:Ve} (ha:a∈ι) {o:HO} (e:H a=some o) (lo:Yc6 o) (u:HO):Le K H ι (upd H a u) ι where
 tup:=fun b xs h=>by
  rcases h with (h | ⟨ob,h⟩) | h
  ·refine .inl (.inl ?_)
   rw[Zag (Zmk h e (by rintro rfl; exact lo))]; exact h
  ·refine .inl (.inr ⟨ob,?_⟩)
   rw[Zag (Zmk h e (by rintro rfl; exact lo))]; exact h
  ·exact .inr h
 fz:=fun b xs h=>by
  rcases h with ⟨ob,h⟩ | h
  ·refine .inl ⟨ob,?_⟩
   rw[Zag (Zmk h e (by rintro rfl; exact lo))]; exact h
  ·exact .inr h
 pre:=⟨[],by simp⟩
 fr:=fun b ob w h=>by rw[Zag (Zmk h e (by rintro rfl; exact lo))]; exact h
 frame:=fun b ob h n=>⟨by rw[Zag (by rintro rfl; exact n ha)]; exact h,n⟩
theorem HRep.upd {Hd:HD} (h:HRep K H ι Hd) {n:Nat} {a:Ve} (hn:ι[n]? = some a) {o u:HO} (e:H a=some o) (lo:Yc6 o) {ob:DO} (ho:Zrj K (upd H a u) ι a ob):HRep K (upd H a u) ι (Hd.set n ob):=by
 refine⟨by simp[h.len],h.nd,fun m b oc h1 h2=>?_⟩
 by_cases hm:n=m
 ·subst hm
  rw[hn] at h1; cases h1
  rw[Wcx] at h2
  rw[if_pos rfl] at h2
  split at h2
  ·cases h2; exact ho
  ·cases h2
 ·rw[Wak hm] at h2
  have hb:b≠a:=fun z=>by
   subst z
   have l1:=(Xc.mp hn).1
   exact hm ((Wfe l1 h.nd).mp (hn.trans h1.symm))
  exact(h.obj m b oc h1 h2).step (Le.upd (Xl hn) e lo u).toLw (Zag hb)
theorem HRep.add {Hd:HD} (h:HRep K H ι Hd) {p:Ve} (hp:p∉ι) {o:DO} (ho:Zrj K H (ι++[p]) p o):HRep K H (ι++[p]) (Hd++[o]):=by
 refine⟨by simp[h.len],by simp only[Way,h.nd,true_and]; exact⟨by simp,fun a ha b hb e=>hp (by simp at hb; rw[<- hb,<- e]; exact ha)⟩,fun n a ob h1 h2=>?_⟩
 by_cases hn:n<ι.length
 ·rw[Xg hn] at h1
  rw[Xg (by rw[<- h.len]; exact hn)] at h2
  exact(h.obj n a ob h1 h2).step ⟨fun _ _ z=>z,fun _ _ z=>z,⟨[p],rfl⟩,fun _ _ _ z=>z⟩ rfl
 ·rw[Xr (by omega)] at h1
  rw[Xr (by rw[<- h.len]; omega)] at h2
  rw[<- h.len] at h2
  have:n - ι.length=0:=by
   have:=(Xc.mp h1).1
   simp at this; omega
  rw[this] at h1 h2
  simp at h1 h2
  subst h1; subst h2
  exact ho
theorem Lw.side {p:Ve} {ys:List V} (hp:H p=some (.lst ys)) (u:HO):Lw K H ι (L2.upd H p u) ι where
 tup:=fun a xs h=>by
  rcases h with (h | ⟨ob,h⟩) | h
  ·refine .inl (.inl ?_)
   rw[Zag (Zmk h hp (by intro z; cases z))]; exact h
  ·refine .inl (.inr ⟨ob,?_⟩)
   rw[Zag (Zmk h hp (by intro z; cases z))]; exact h
  ·exact .inr h
 fz:=fun a xs h=>by
  rcases h with ⟨ob,h⟩ | h
  ·refine .inl ⟨ob,?_⟩
   rw[Zag (Zmk h hp (by intro z; cases z))]; exact h
  ·exact .inr h
 pre:=⟨[],by simp⟩
 fr:=fun a ob w h=>by rw[Zag (Zmk h hp (by intro z; cases z))]; exact h
theorem Lw.trans {H1 H2:Hp} {ι1 ι2:List Ve} (a:Lw K H ι H1 ι1) (b:Lw K H1 ι1 H2 ι2):Lw K H ι H2 ι2:=by
 refine⟨fun x xs h=>b.tup x xs (a.tup x xs h),fun x xs h=>b.fz x xs (a.fz x xs h),?_,fun x o u h=>b.fr x o u (a.fr x o u h)⟩
 obtain⟨t,e⟩:=a.pre
 obtain⟨u,e'⟩:=b.pre
 exact⟨t++u,by rw[e',e,Xz]⟩
theorem Le.side {H1:Hp} {ι1:List Ve} {p:Ve} {ys:List V} (l:Le K H ι H1 ι1) (h0:H p=none) (h1:H1 p=some (.lst ys)) (u:HO):Le K H ι (L2.upd H1 p u) ι1 :=
 ⟨l.toLw.trans (Lw.side h1 u),fun a o h n=>by
  obtain⟨q,m⟩:=l.frame a o h n
  exact⟨by rw[Zag (Zai h h0)]; exact q,m⟩⟩
structure SRep (K:Xb) (H:Hp) (ι:List Ve) (σ:L2.St) (σd:SD):Prop where
 len:σ.length=σd.length
 var:∀ (i:Nat) (d:D),σd[i]? = some (some d)->∃ v,σ[i]? = some (some v)/\Rep K H ι d v
theorem SRep.mono {σ:L2.St} {σd:SD} (s:SRep K H ι σ σd) (l:Le K H ι H' ι'):SRep K H' ι' σ σd :=
 ⟨s.len,fun i d h=>let ⟨v,h1,h2⟩:=s.var i d h; ⟨v,h1,h2.mono l⟩⟩
theorem SRep.set {σ:L2.St} {σd:SD} {d:D} {v:V} (s:SRep K H ι σ σd) (r:Rep K H ι d v) (i:Nat):SRep K H ι (σ.set i (some v)) (σd.set i (some d)):=by
 refine⟨by simp[s.len],fun j e h=>?_⟩
 by_cases hj:i=j
 ·subst hj
  rw[Wcx] at h ⊢
  rw[if_pos rfl] at h ⊢
  split at h
  ·rename_i hl
   rw[if_pos (by rw[s.len]; exact hl)]
   cases h
   exact⟨v,rfl,r⟩
  ·cases h
 ·rw[Wak hj] at h ⊢
  exact s.var j e h
end
nonrec def Zqh:Vv->Bool
 | .Starred _ _=>false
 | _=>true
theorem Zb0 {e:Vv} {es:List Vv} {env:Env} (h:Zqh e=true):Vg (e::es) env=(false,eval e env)::Vg es env:=by
 cases e<;>first | rfl | cases h
theorem Zc0 {pos:Pos} {env:Env}:∀ {es:List Vv},es.all Zqh=true->(Ual pos (Vg es env)).any (·.1)=false
 | [],_=>rfl
 | e::es,h=>by
  rw[Wcr,Waf] at h
  rw[Zb0 h.1]
  show (false||(Ual pos (Vg es env)).any (·.1))=false
  rw[Zc0 h.2]
  rfl
theorem Zpv {pos:Pos} {env:Env} {es:List Vv} (h:es.all Zqh=true) (hl:es.length<30):((Ual pos (Vg es env)).all (fun x => !x.1)&&(Ucw pos (Ubh [] env)).all (fun x=>x.1.isSome)
   && decide (es.length+([]:List Ubz).length+(if ([]:List Ubz).isEmpty then 0 else 1)<30))=true:=by
 have h1:=Zc0 (pos:=pos) (env:=env) h
 have h2:(Ual pos (Vg es env)).all (fun x => !x.1)=true:=by
  rw[Xv]
  intro x hx
  rw[Wbt] at h1
  have:=h1 x hx
  simpa using this
 have h3:decide (es.length+([]:List Ubz).length+(if ([]:List Ubz).isEmpty then 0 else 1)<30)=true:=by
  rw[decide_eq_true_eq]
  simpa using hl
 rw[h2,h3]
 rfl
nonrec abbrev EF:=SD->HD->Option (D×HD)
nonrec abbrev TF:=SD->HD->Option (Bool×HD)
nonrec abbrev AF:=SD->HD->Option (List D×HD)
inductive FD where
 | nx | bk | ct | rt (d:D)
nonrec abbrev SF:=SD->HD->Option (FD×SD×HD)
nonrec abbrev GF:=D->SD->HD->Option (SD×HD)
nonrec abbrev FF:=List D->HD->Option (D×HD)
nonrec abbrev F2:=D->D->HD->Option (D×HD)
def QE (K:Xb) (H:Hp) (ι:List Ve) (d:D) (Hd':HD) (Q:VK):Prop:=∀ v H' ι',Le K H ι H' ι'->HRep K H' ι' Hd'->Rep K H' ι' d v->Q v H'
nonrec def rdE (K:Xb) (f:EF):TE:=fun σ H Q=>∃ ι σd Hd d Hd',SRep K H ι σ σd/\HRep K H ι Hd/\f σd Hd=some (d,Hd')/\QE K H ι d Hd' Q
nonrec def rdT (K:Xb) (f:TF):TT:=fun σ H Q=>∃ ι σd Hd b Hd',SRep K H ι σ σd/\HRep K H ι Hd/\f σd Hd=some (b,Hd')/\∀ H' ι',Le K H ι H' ι'->HRep K H' ι' Hd'->Q b H'
nonrec def rdA (K:Xb) (f:AF):TA:=fun σ H Q=>∃ ι σd Hd ds Hd',SRep K H ι σ σd/\HRep K H ι Hd/\f σd Hd=some (ds,Hd')/\∀ vs H' ι',Le K H ι H' ι'->HRep K H' ι' Hd'->Vj (Rep K H' ι') ds vs->Q vs H'
def QS (K:Xb) (H:Hp) (ι:List Ve) (fl:FD) (σd':SD) (Hd':HD) (E:Ends):Prop:=∀ σ' H' ι',Le K H ι H' ι'->HRep K H' ι' Hd'->SRep K H' ι' σ' σd' ->
 match fl with
 | .nx=>E.nx σ' H'
 | .bk=>E.bk σ' H'
 | .ct=>E.ct σ' H'
 | .rt d=>∀ v,Rep K H' ι' d v->E.rt v H'
nonrec def rdS (K:Xb) (f:SF):TS:=fun E σ H=>∃ ι σd Hd fl σd' Hd',SRep K H ι σ σd/\HRep K H ι Hd/\f σd Hd=some (fl,σd',Hd')/\QS K H ι fl σd' Hd' E
nonrec def rdG (K:Xb) (g:GF):TG:=fun v σ H Q=>∃ ι σd Hd d σd' Hd',SRep K H ι σ σd/\HRep K H ι Hd/\Rep K H ι d v/\g d σd Hd=some (σd',Hd') /\
 ∀ σ' H' ι',Le K H ι H' ι'->HRep K H' ι' Hd'->SRep K H' ι' σ' σd'->Q σ' H'
nonrec def rd2 (K:Xb) (g:F2):R2:=fun x y H Q=>∃ ι dx dy Hd d Hd',HRep K H ι Hd/\Rep K H ι dx x/\Rep K H ι dy y/\g dx dy Hd=some (d,Hd')/\QE K H ι d Hd' Q
nonrec def rd1 (K:Xb) (g:D->HD->Option (D×HD)):V->Hp->VK->Prop:=fun x H Q=>∃ ι dx Hd d Hd',HRep K H ι Hd/\Rep K H ι dx x/\g dx Hd=some (d,Hd')/\QE K H ι d Hd' Q
nonrec def rdC (K:Xb) (g:FF):List V->Hp->VK->Prop:=fun vs H Q=>∃ ι ds Hd d Hd',HRep K H ι Hd/\Vj (Rep K H ι) ds vs/\g ds Hd=some (d,Hd')/\QE K H ι d Hd' Q
nonrec def rdM (K:Xb) (g:D->List D->HD->Option (D×HD)):V->List V->Hp->VK->Prop:=fun v vs H Q=>∃ ι x ds Hd d Hd',HRep K H ι Hd/\Rep K H ι x v/\Vj (Rep K H ι) ds vs/\g x ds Hd=some (d,Hd')/\QE K H ι d Hd' Q
def PEf (X:Cx) (e:Vv) (f:EF):Prop:=PE X e (rdE X.K f)
def PTf (X:Cx) (e:Vv) (f:TF):Prop:=PT X e (rdT X.K f)
def PWf (X:Cx) (e:Vv) (f:TF):Prop:=PW X e (rdT X.K f)
def PAf (X:Cx) (es:List Vv) (f:AF):Prop:=PA X es (rdA X.K f)
def PSf (X:Cx) (st:Uab) (f:SF):Prop:=PS X st (rdS X.K f)
def Zo3 (X:Cx) (st:List Uab) (f:SF):Prop:=PSs X st (rdS X.K f)
def PGf (X:Cx) (tg:Vv) (g:GF):Prop:=PG X tg (rdG X.K g)
def OpF (X:Cx) (f:Vb->Vb->Sem Vb) (g:F2):Prop:=OpR X f (rd2 X.K g)
def UnF (X:Cx) (f:Vb->Sem Vb) (g:D->HD->Option (D×HD)):Prop:=UnR X f (rd1 X.K g)
def Zhw (X:Cx) (f:Vb) (g:FF):Prop:=Zj2 X f (rdC X.K g)
def IxF (X:Cx) (g:F2):Prop:=IxR X (rd2 X.K g)
def MtF (X:Cx) (id:String) (g:D->List D->HD->Option (D×HD)):Prop:=MtR X id (rdM X.K g)
section
variable {X:Cx} {e a b c:Vv} {es:List Vv} {pos:Pos} {st:Uab} {sts:List Uab}
theorem PEi {t t':TE} (h:PE X e t) (i:∀ σ H Q,t' σ H Q->t σ H Q):PE X e t':=fun pins s σ H Q I q=>h pins s σ H Q I (i σ H Q q)
theorem PTi {t t':TT} (h:PT X e t) (i:∀ σ H Q,t' σ H Q->t σ H Q):PT X e t':=fun pins s σ H Q I q=>h pins s σ H Q I (i σ H Q q)
theorem PWi {t t':TT} (h:PW X e t) (i:∀ σ H Q,t' σ H Q->t σ H Q):PW X e t':=fun wh pins s σ H Q I q=>h wh pins s σ H Q I (i σ H Q q)
theorem PAi {t t':TA} (h:PA X es t) (i:∀ σ H Q,t' σ H Q->t σ H Q):PA X es t':=fun ps pins s σ H Q I q=>h ps pins s σ H Q I (i σ H Q q)
theorem PSi {t t':TS} (h:PS X st t) (i:∀ E σ H,t' E σ H->t E σ H):PS X st t':=fun pins s σ H E I q=>h pins s σ H E I (i E σ H q)
theorem PSsi {t t':TS} (h:PSs X sts t) (i:∀ E σ H,t' E σ H->t E σ H):PSs X sts t':=fun pins s σ H E I q=>h pins s σ H E I (i E σ H q)
theorem PGi {t t':TG} (h:PG X e t) (i:∀ v σ H Q,t' v σ H Q->t v σ H Q):PG X e t':=fun pins s σ H v u Q I r q=>h pins s σ H v u Q I r (i v σ H Q q)
theorem OpRi {f:Vb->Vb->Sem Vb} {t t':R2} (h:OpR X f t) (i:∀ x y H Q,t' x y H Q->t x y H Q):OpR X f t':=fun pins s σ H x y v u Q I r1 r2 q=>h pins s σ H x y v u Q I r1 r2 (i x y H Q q)
nonrec def Zac (i:Nat):EF:=fun σ H=>(σ[i]?).join.map fun d=>(d,H)
nonrec def eC (d:D):EF:=fun _ H=>some (d,H)
theorem Zaa {i:Nat} {x:Str} (h:PE X (.Name x pos) (Yb4 i)):PEf X (.Name x pos) (Zac i):=by
 refine PEi h fun σ H Q zz=>?_
 obtain⟨ι,σd,Hd,d,Hd',s,hr,e,q⟩:=zz
 unfold Zac at e
 cases hx:σd[i]? with
 | none=>rw[hx] at e; cases e
 | some o =>
  cases o with
  | none=>rw[hx] at e; cases e
  | some d0 =>
   rw[hx] at e
   have e':(d0,Hd)=(d,Hd'):=Xw.inj e
   obtain⟨rfl,rfl⟩:=Wau.inj e'
   obtain⟨v,h1,h2⟩:=s.var i d0 hx
   exact⟨v,h1,q v H ι Le.refl hr h2⟩
theorem Zoy {v:V} {d:D} (h:PE X e (tC v)) (r:∀ H ι,Rep X.K H ι d v):PEf X e (eC d):=by
 refine PEi h fun σ H Q zz=>?_
 obtain⟨ι,σd,Hd,d',Hd',s,hr,e,q⟩:=zz
 cases e
 exact q v H ι Le.refl hr (r H ι)
theorem Zae {i j}:PEf X (.Constant (.int i) j pos) (eC (.int i)):=Zoy Zyh fun _ _=>by simp
theorem Zkk {b j}:PEf X (.Constant (.bool b) j pos) (eC (.bl b)):=Zoy pe_bl fun _ _=>by simp
theorem Zoj {j}:PEf X (.Constant .none j pos) (eC .non):=Zoy Ybh fun _ _=>by simp
theorem Zbe {x j}:PEf X (.Constant (.str x) j pos) (eC (.str x)):=Zoy Yb1 fun _ _=>by simp
theorem Ztc {x:Str} {n:String} (hg:Gl X x) (hm:X.mg x=none) (hv:Vq x=some (.type n)) (hn:x ≠ "__name__" := by decide) (hd:(x==("__debug__" : Str))=false:=by decide) (ht:Zyw n=true:=by decide):PEf X (.Name x pos) (eC (.ty n)) :=
 Zoy (Zzs (v:=.ty n) hg hm hv rfl hn hd) fun _ _=>(Zx5 ht).mpr rfl
nonrec def eOp (g:F2) (fa fb:EF):EF:=fun σ H=>(fa σ H).bind fun p=>(fb σ p.2).bind fun q=>g p.1 q.1 q.2
theorem Zvx {fa fb:EF} {g:F2} {σ:L2.St} {H:Hp} {Q:VK} {K:Xb} (h:rdE K (eOp g fa fb) σ H Q):tOp (rd2 K g) (rdE K fa) (rdE K fb) σ H Q:=by
 obtain⟨ι,σd,Hd,d,Hd',s,hr,e,q⟩:=h
 obtain⟨⟨x,H1⟩,e1,e⟩:=Zo e
 obtain⟨⟨y,H2⟩,e2,e⟩:=Zo e
 exact⟨ι,σd,Hd,x,H1,s,hr,e1,fun v1 H1' ι1 l1 h1 r1=>⟨ι1,σd,H1,y,H2,s.mono l1,h1,e2,fun v2 H2' ι2 l2 h2 r2 =>
  ⟨ι2,x,y,H2,d,Hd',h2,r1.mono l2,r2,e,fun v H' ι' l h r=>q v H' ι' ((l1.trans l2).trans l) h r⟩⟩⟩
theorem Za0 {op:Uea} {g:F2} {fa fb:EF} (ho:OpF X (Vy op) g) (ha:PEf X a fa) (hb:PEf X b fb):PEf X (.BinOp a op b pos) (eOp g fa fb) :=
 PEi (pe_op ho ha hb) fun _ _ _ h=>Zvx h
theorem Zcs {op:CmpOp} {g:F2} {fa fb:EF} (ho:OpF X (Vr op) g) (ha:PEf X a fa) (hb:PEf X b fb) (hm:Uba op b=false):PEf X (.Compare a [op] [b] pos) (eOp g fa fb) :=
 PEi (Zzj ho ha hb hm) fun _ _ _ h=>Zvx h
theorem Za1 {g:F2} {fa fb:EF} (ho:IxF X g) (ha:PEf X a fa) (hb:PEf X b fb) (hs:Zuv b):PEf X (.Subscript a b pos) (eOp g fa fb) :=
 PEi (pe_ix ho ha hb hs) fun _ _ _ h=>Zvx h
nonrec def eUn (g:D->HD->Option (D×HD)) (fa:EF):EF:=fun σ H=>(fa σ H).bind fun p=>g p.1 p.2
theorem Zew {op:UnaryOp} {g:D->HD->Option (D×HD)} {fa:EF} (ho:UnF X (unaryOp op) g) (ha:PEf X a fa):PEf X (.UnaryOp op a pos) (eUn g fa):=by
 refine PEi (pe_un ho ha) fun σ H Q zz=>?_
 obtain⟨ι,σd,Hd,d,Hd',s,hr,e,q⟩:=zz
 obtain⟨⟨x,H1⟩,e1,e⟩:=Zo e
 exact⟨ι,σd,Hd,x,H1,s,hr,e1,fun v1 H1' ι1 l1 h1 r1=>⟨ι1,x,H1,d,Hd',h1,r1,e,fun v H' ι' l h r=>q v H' ι' (l1.trans l) h r⟩⟩
nonrec def blD:D->Option Bool
 | .bl b=>some b
 | _=>none
nonrec def tOf (f:EF):TF:=fun σ H=>(f σ H).bind fun p=>(blD p.1).map fun b=>(b,p.2)
theorem Zlg {K:Xb} {H:Hp} {ι:List Ve} {d:D} {b:Bool} {v:V} (e:blD d=some b) (r:Rep K H ι d v):v=.bl b:=by
 cases d<;>simp[blD] at e
 subst e
 simpa using r
theorem Zat {op:CmpOp} {g:F2} {fa fb:EF} (ho:OpF X (Vr op) g) (ha:PEf X a fa) (hb:PEf X b fb) (hm:Uba op b=false):PTf X (.Compare a [op] [b] pos) (tOf (eOp g fa fb)):=by
 refine PTi (Zy6 ho ha hb hm) fun σ H Q zz=>?_
 obtain⟨ι,σd,Hd,bb,Hd',s,hr,e,q⟩:=zz
 obtain⟨⟨x,H1⟩,e1,e⟩:=Zo e
 obtain⟨b',eb,e⟩:=Zm e
 cases e
 exact Zvx ⟨ι,σd,Hd,x,H1,s,hr,e1,fun v H' ι' l h r=>⟨bb,Zlg eb r,q H' ι' l h⟩⟩
nonrec def Zr0:D->HD->Option Bool
 | .non,_=>some false
 | .bl b,_=>some b
 | .int i,_=>some (i != 0)
 | .tup xs,_=>some (!xs.isEmpty)
 | .fl xs,_=>some (!xs.isEmpty)
 | .str x,_=>if x.length<=sizeLine then some ((x.length:Int) != 0) else none
 | .ref n,H=>match H[n]? with
  | some (.lst xs)=>some (!xs.isEmpty)
  | _=>none
 | _,_=>none
theorem Zjh {α β:Type} {F:α->β->Prop} {xs:List α} {us:List β} (r:Vj F xs us):(!us.isEmpty) = !xs.isEmpty:=by cases r<;>rfl
theorem Yac {K:Xb} {H:Hp} {ι:List Ve} {Hd:HD} {d:D} {k:Bool} {v:V} (hr:HRep K H ι Hd) (r:Rep K H ι d v) (e:Zr0 d Hd=some k):TruV K v H k:=by
 cases d with
 | non=>simp at r; subst r; simp[Zr0] at e; subst e; exact rfl
 | bl b=>simp at r; subst r; simp[Zr0] at e; subst e; exact rfl
 | int i=>simp at r; subst r; simp[Zr0] at e; subst e; exact rfl
 | ty n=>simp[Zr0] at e
 | str x =>
  simp at r; subst r
  simp only[Zr0] at e
  split at e
  ·rename_i hl
   cases e
   exact⟨hl,rfl⟩
  ·cases e
 | tup xs =>
  obtain⟨ad,vs,rfl,h,p⟩:=Zbc.mp r
  cases (show some (!xs.isEmpty)=some k from e)
  exact .inr (.inl ⟨vs,h,by rw[Zjh p]⟩)
 | fl xs =>
  obtain⟨ad,vs,rfl,h,p⟩:=Zg0.mp r
  cases (show some (!xs.isEmpty)=some k from e)
  exact .inl ⟨vs,h.sq,by rw[Zjh p]⟩
 | ref n =>
  obtain⟨ad,rfl,h⟩:=Zaz.mp r
  simp only[Zr0] at e
  split at e
  ·rename_i xs ho
   cases e
   obtain⟨vs,h1,p⟩:=hr.obj n ad _ h ho
   exact .inl ⟨vs,SqL.of h1,by rw[Zjh p]⟩
  ·cases e
nonrec def Zhu (f:EF):TF:=fun σ H=>(f σ H).bind fun p=>(Zr0 p.1 p.2).map fun b=>(b,p.2)
theorem Zgu {fa:EF} (ha:PEf X a fa) (he:∀ whole,isTrue a X.env whole=(do let v<-whole; standAt a.pos; Udi [v] (truthy v))):PTf X a (Zhu fa):=by
 refine PTi (Zvz ha he) fun σ H Q zz=>?_
 obtain⟨ι,σd,Hd,bb,Hd',s,hr,e,q⟩:=zz
 obtain⟨⟨x,H1⟩,e1,e⟩:=Zo e
 obtain⟨b',eb,e⟩:=Zm e
 cases e
 exact⟨ι,σd,Hd,x,H1,s,hr,e1,fun v H' ι' l h r=>⟨bb,Yac h r eb,q H' ι' l h⟩⟩
nonrec def tNo (t:TF):TF:=fun σ H=>(t σ H).map fun p=>(!p.1,p.2)
nonrec def tAn (t u:TF):TF:=fun σ H=>(t σ H).bind fun p=>if p.1=true then u σ p.2 else some (false,p.2)
nonrec def Zqk (t u:TF):TF:=fun σ H=>(t σ H).bind fun p=>if p.1=true then some (true,p.2) else u σ p.2
theorem Zzb {t:TF} (h:PTf X a t):PTf X (.UnaryOp .Not a pos) (tNo t):=by
 refine PTi (Ycq h) fun σ H Q zz=>?_
 obtain⟨ι,σd,Hd,bb,Hd',s,hr,e,q⟩:=zz
 obtain⟨⟨x,H1⟩,e1,e⟩:=Zm e
 cases e
 exact⟨ι,σd,Hd,x,H1,s,hr,e1,fun H' ι' l h=>q H' ι' l h⟩
theorem Zh4 {t:TF} (h:PTf X a t):PWf X (.BoolOp .And [a] pos) t:=Zzk h
theorem Yax {t:TF} (h:PTf X a t):PWf X (.BoolOp .Or [a] pos) t:=Ybv h
theorem Zlz {t u:TF} (h:PTf X a t) (h2:PWf X (.BoolOp .And (b::es) pos) u):PWf X (.BoolOp .And (a::b::es) pos) (tAn t u):=by
 refine PWi (Ydj h h2) fun σ H Q zz=>?_
 obtain⟨ι,σd,Hd,bb,Hd',s,hr,e,q⟩:=zz
 obtain⟨⟨x,H1⟩,e1,e⟩:=Zo e
 refine⟨ι,σd,Hd,x,H1,s,hr,e1,fun H' ι' l h=>?_⟩
 cases x with
 | true =>
  rw[if_pos rfl]
  exact⟨ι',σd,H1,bb,Hd',s.mono l,h,by simpa using e,fun H2 ι2 l2 h2=>q H2 ι2 (l.trans l2) h2⟩
 | false =>
  rw[if_neg (by simp)]
  simp at e
  obtain⟨rfl,rfl⟩:=e
  exact q H' ι' l h
theorem Yc5 {t u:TF} (h:PTf X a t) (h2:PWf X (.BoolOp .Or (b::es) pos) u):PWf X (.BoolOp .Or (a::b::es) pos) (Zqk t u):=by
 refine PWi (pw_or h h2) fun σ H Q zz=>?_
 obtain⟨ι,σd,Hd,bb,Hd',s,hr,e,q⟩:=zz
 obtain⟨⟨x,H1⟩,e1,e⟩:=Zo e
 refine⟨ι,σd,Hd,x,H1,s,hr,e1,fun H' ι' l h=>?_⟩
 cases x with
 | true =>
  rw[if_pos rfl]
  simp at e
  obtain⟨rfl,rfl⟩:=e
  exact q H' ι' l h
 | false =>
  rw[if_neg (by simp)]
  exact⟨ι',σd,H1,bb,Hd',s.mono l,h,by simpa using e,fun H2 ι2 l2 h2=>q H2 ι2 (l.trans l2) h2⟩
theorem PWf.pt {t:TF} (h:PWf X a t):PTf X a t:=h _
nonrec def eNo (f:EF):EF:=fun σ H=>(f σ H).bind fun p=>(blD p.1).map fun b=>(.bl (!b),p.2)
nonrec def eAn (f g:EF):EF:=fun σ H=>(f σ H).bind fun p=>(blD p.1).bind fun b=>if b=true then g σ p.2 else some (.bl false,p.2)
nonrec def eIf (t:TF) (f g:EF):EF:=fun σ H=>(t σ H).bind fun p=>if p.1=true then f σ p.2 else g σ p.2
theorem Ztj {f:EF} (h:PEf X a f):PEf X (.UnaryOp .Not a pos) (eNo f):=by
 refine PEi (Yds h) fun σ H Q zz=>?_
 obtain⟨ι,σd,Hd,d,Hd',s,hr,e,q⟩:=zz
 obtain⟨⟨x,H1⟩,e1,e⟩:=Zo e
 obtain⟨b',eb,e⟩:=Zm e
 cases e
 exact⟨ι,σd,Hd,x,H1,s,hr,e1,fun v H' ι' l h r=>⟨b',Zlg eb r,q _ H' ι' l h (by simp)⟩⟩
theorem Zlk {op} {f:EF} (h:PEf X a f):PEf X (.BoolOp op [a] pos) f:=Ycu h
theorem Yaa {f g:EF} (h:PEf X a f) (h2:PEf X (.BoolOp .And (b::es) pos) g):PEf X (.BoolOp .And (a::b::es) pos) (eAn f g):=by
 refine PEi (Ybj h h2) fun σ H Q zz=>?_
 obtain⟨ι,σd,Hd,d,Hd',s,hr,e,q⟩:=zz
 obtain⟨⟨x,H1⟩,e1,e⟩:=Zo e
 obtain⟨b',eb,e⟩:=Zo e
 refine⟨ι,σd,Hd,x,H1,s,hr,e1,fun v H' ι' l h r=>⟨b',Zlg eb r,?_⟩⟩
 cases b' with
 | true =>
  rw[if_pos rfl]
  exact⟨ι',σd,H1,d,Hd',s.mono l,h,by simpa using e,fun v2 H2 ι2 l2 h2 r2=>q v2 H2 ι2 (l.trans l2) h2 r2⟩
 | false =>
  rw[if_neg (by simp)]
  simp at e
  obtain⟨rfl,rfl⟩:=e
  exact q _ H' ι' l h (by simp)
theorem Zpb {t:TF} {f g:EF} (hc:PTf X c t) (ha:PEf X a f) (hb:PEf X b g):PEf X (.IfExp c a b pos) (eIf t f g):=by
 refine PEi (Zw6 hc ha hb) fun σ H Q zz=>?_
 obtain⟨ι,σd,Hd,d,Hd',s,hr,e,q⟩:=zz
 obtain⟨⟨x,H1⟩,e1,e⟩:=Zo e
 refine⟨ι,σd,Hd,x,H1,s,hr,e1,fun H' ι' l h=>?_⟩
 cases x with
 | true =>
  rw[if_pos rfl]
  exact⟨ι',σd,H1,d,Hd',s.mono l,h,by simpa using e,fun v2 H2 ι2 l2 h2 r2=>q v2 H2 ι2 (l.trans l2) h2 r2⟩
 | false =>
  rw[if_neg (by simp)]
  exact⟨ι',σd,H1,d,Hd',s.mono l,h,by simpa using e,fun v2 H2 ι2 l2 h2 r2=>q v2 H2 ι2 (l.trans l2) h2 r2⟩
nonrec def Zah:AF:=fun _ H=>some ([],H)
nonrec def Zab (f:EF) (g:AF):AF:=fun σ H=>(f σ H).bind fun p=>(g σ p.2).map fun q=>(p.1::q.1,q.2)
theorem Za2:PAf X [] Zah:=by
 refine PAi Ycs fun σ H Q zz=>?_
 obtain⟨ι,σd,Hd,d,Hd',s,hr,e,q⟩:=zz
 cases e
 exact q [] H ι Le.refl hr .nil
theorem Zxm {f:EF} {g:AF} (ha:PEf X e f) (hr:PAf X es g) (hs:Vg (e::es) X.env=(false,eval e X.env)::Vg es X.env:=by exact Zb0 rfl):PAf X (e::es) (Zab f g):=by
 refine PAi (Zzg ha hr hs) fun σ H Q zz=>?_
 obtain⟨ι,σd,Hd,d,Hd',s,hr,e,q⟩:=zz
 obtain⟨⟨x,H1⟩,e1,e⟩:=Zo e
 obtain⟨⟨y,H2⟩,e2,e⟩:=Zm e
 cases e
 exact⟨ι,σd,Hd,x,H1,s,hr,e1,fun v1 H1' ι1 l1 h1 r1=>⟨ι1,σd,H1,y,H2,s.mono l1,h1,e2,fun vs H2' ι2 l2 h2 r2=>q _ H2' ι2 (l1.trans l2) h2 (.cons (r1.mono l2) r2)⟩⟩
nonrec def mkT (xs:List D) (H:HD):Option (D×HD):=if xs.length<=sizeLine then some (.tup xs,H) else none
nonrec def mkL (xs:List D) (H:HD):Option (D×HD):=if xs.length<=sizeLine then some (.ref H.length,H++[.lst xs]) else none
theorem Zh5 {xs:List D} {H:HD} {r:D×HD} (h:mkT xs H=some r):xs.length<=sizeLine/\r=(.tup xs,H):=by
 unfold mkT at h
 split at h
 ·rename_i hl; cases h; exact⟨hl,rfl⟩
 ·cases h
theorem Zlt {xs:List D} {H:HD} {r:D×HD} (h:mkL xs H=some r):xs.length<=sizeLine/\r=(.ref H.length,H++[.lst xs]):=by
 unfold mkL at h
 split at h
 ·rename_i hl; cases h; exact⟨hl,rfl⟩
 ·cases h
theorem Zjl {K:Xb} {H:Hp} {ι:List Ve} {Hd Hd':HD} {xs:List D} {vs:List V} {d:D} {Q:VK} (hr:HRep K H ι Hd) (r:Vj (Rep K H ι) xs vs) (e:mkT xs Hd=some (d,Hd')) (q:QE K H ι d Hd' Q) :
  vs.length<=sizeLine/\∀ p,H p=none->Q (.ref p) (upd H p (.tup vs)):=by
 obtain⟨hl,e⟩:=Zh5 e
 cases e
 refine⟨by rw[<- Prd.len r]; exact hl,fun p hp=>?_⟩
 exact q _ _ ι (Le.fresh hp _) (hr.tup hp _) (Zbc.mpr ⟨p,vs,rfl,SqT.of Zaq,Prd.mono (Le.fresh hp _) r⟩)
theorem Zge {K:Xb} {H:Hp} {ι:List Ve} {Hd Hd':HD} {xs:List D} {vs:List V} {d:D} {Q:VK} (hr:HRep K H ι Hd) (r:Vj (Rep K H ι) xs vs) (e:mkL xs Hd=some (d,Hd')) (q:QE K H ι d Hd' Q) :
  vs.length<=sizeLine/\∀ p,H p=none->Q (.ref p) (upd H p (.lst vs)):=by
 obtain⟨hl,e⟩:=Zlt e
 cases e
 refine⟨by rw[<- Prd.len r]; exact hl,fun p hp=>?_⟩
 refine q _ _ (ι++[p]) (Le.fresh1 hp _) (hr.new hp ⟨vs,Zaq,Prd.mono (Le.fresh1 hp _) r⟩) (Zaz.mpr ⟨p,rfl,?_⟩)
 rw[<- hr.len]; simp
nonrec def Zef (f:AF):EF:=fun σ H=>(f σ H).bind fun p=>mkT p.1 p.2
nonrec def Zfw (f:AF):EF:=fun σ H=>(f σ H).bind fun p=>mkL p.1 p.2
theorem Zcv {f:AF} {x1} (h:PAf X es f):PEf X (.Tuple es x1 pos) (Zef f):=by
 refine PEi (Ydq h) fun σ H Q zz=>?_
 obtain⟨ι,σd,Hd,d,Hd',s,hr,e,q⟩:=zz
 obtain⟨⟨x,H1⟩,e1,e⟩:=Zo e
 exact⟨ι,σd,Hd,x,H1,s,hr,e1,fun vs H' ι' l h r=>Zjl h r e fun v2 H2 ι2 l2 h2 r2=>q v2 H2 ι2 (l.trans l2) h2 r2⟩
theorem Zot {f:AF} (h:PAf X es f):PEf X (.List es pos) (Zfw f):=by
 refine PEi (Ybx h) fun σ H Q zz=>?_
 obtain⟨ι,σd,Hd,d,Hd',s,hr,e,q⟩:=zz
 obtain⟨⟨x,H1⟩,e1,e⟩:=Zo e
 exact⟨ι,σd,Hd,x,H1,s,hr,e1,fun vs H' ι' l h r=>Zge h r e fun v2 H2 ι2 l2 h2 r2=>q v2 H2 ι2 (l.trans l2) h2 r2⟩
nonrec def eCB (g:FF) (f:AF):EF:=fun σ H=>(f σ H).bind fun p=>g p.1 p.2
theorem Ycl {f:AF} {g:FF} {σ:L2.St} {H:Hp} {Q:VK} {K:Xb} (h:rdE K (eCB g f) σ H Q):tCB (rdC K g) (rdA K f) σ H Q:=by
 obtain⟨ι,σd,Hd,d,Hd',s,hr,e,q⟩:=h
 obtain⟨⟨x,H1⟩,e1,e⟩:=Zo e
 exact⟨ι,σd,Hd,x,H1,s,hr,e1,fun vs H' ι' l h r=>⟨ι',x,H1,d,Hd',h,r,e,fun v2 H2 ι2 l2 h2 r2=>q v2 H2 ι2 (l.trans l2) h2 r2⟩⟩
theorem Zbz {x:Str} {id:String} {g:FF} {f:AF} {p:Pos} (hc:Zhw X (.builtin id) g) (hg:Gl X x) (hm:X.mg x=none) (hv:Vq x=some (.builtin id)) (ha:PAf X (e::es) f) (hn:x ≠ "__name__" := by decide) (hdb:(x==("__debug__" : Str))=false:=by decide)
  (he:Vg (e::es) X.env=(false,eval e X.env)::Vg es X.env:=by exact Zb0 rfl) (hpl:(Ual pos (Vg es X.env)).any (·.1)=false:=by exact Zc0 rfl):PEf X (.Call (.Name x p) (e::es) [] pos) (eCB g f) :=
 PEi (Zxd hc hg hm hv ha hn hdb he hpl) fun _ _ _ h=>Ycl h
theorem Zha {x:Str} {T:String} {g:FF} {f:AF} {p:Pos} (hc:Zhw X (.type T) g) (hg:Gl X x) (hm:X.mg x=none) (hv:Vq x=some (.type T)) (ha:PAf X (e::es) f) (hn:x ≠ "__name__" := by decide) (hdb:(x==("__debug__" : Str))=false:=by decide)
  (he:Vg (e::es) X.env=(false,eval e X.env)::Vg es X.env:=by exact Zb0 rfl) (hpl:(Ual pos (Vg es X.env)).any (·.1)=false:=by exact Zc0 rfl):PEf X (.Call (.Name x p) (e::es) [] pos) (eCB g f) :=
 PEi (Zr9 hc hg hm hv ha hn hdb he hpl) fun _ _ _ h=>Ycl h
nonrec def spF (K:Xb) (n:Nat) (F:FF):Sp:=fun vs H Q _=>∃ ι ds Hd d Hd',ds.length=n/\HRep K H ι Hd/\Vj (Rep K H ι) ds vs/\F ds Hd=some (d,Hd')/\QE K H ι d Hd' Q
nonrec def Zak (n:Nat) (F:FF) (f:AF):EF:=fun σ H=>(f σ H).bind fun p=>if p.1.length=n then F p.1 p.2 else none
theorem Zv0 {k n:Nat} {f:Ve} {fd:Uar} {ps:List Str} {x:Str} {p:Pos} {F:FF} {fa:AF} (G:FnOk X.prog X.w X.K X.mg X.base CX0 k f fd ps (spF X.K n F)) (hr:Room k X.A) (hg:Gl X x) (hm:X.mg x=some (.ref f)) (hk:Wcc X.K (.ref f)=true)
  (hb:Zo2 X.K fd ps []) (ha:PAf X (e::es) fa) (hdb:(x==("__debug__" : Str))=false:=by decide) (he:Vg (e::es) X.env=(false,eval e X.env)::Vg es X.env:=by exact Zb0 rfl) (hpl:(Ual pos (Vg es X.env)).any (·.1)=false:=by exact Zc0 rfl) :
  PEf X (.Call (.Name x p) (e::es) [] pos) (Zak n F fa):=by
 refine PEi (Ya2 (E:=E0) G hr hg hm hk hb .nil Ydb ha hdb he hpl) fun σ H Q zz=>?_
 obtain⟨ι,σd,Hd,d,Hd',s,hr,e,q⟩:=zz
 obtain⟨⟨x,H1⟩,e1,e⟩:=Zo e
 refine⟨ι,σd,Hd,x,H1,s,hr,e1,fun vs H' ι' l h r=>?_⟩
 dsimp only at e
 split at e
 ·rename_i hl
  exact⟨ι',x,H1,d,Hd',hl,h,by simpa using r,e,fun v2 H2 ι2 l2 h2 r2=>q v2 H2 ι2 (l.trans l2) h2 r2⟩
 ·cases e
nonrec def Zn9:D->HD->Bool
 | .ref n,H=>match H[n]? with
  | some (.lst _)=>true
  | _=>false
 | _,_=>false
theorem Zwt {K:Xb} {H:Hp} {ι:List Ve} {Hd:HD} {d:D} {v:V} (hr:HRep K H ι Hd) (r:Rep K H ι d v) (e:Zn9 d Hd=true):tyV K "list" v H:=by
 cases d with
 | ref n =>
  obtain⟨ad,rfl,h⟩:=Zaz.mp r
  simp only[Zn9] at e
  split at e
  ·rename_i xs ho
   obtain⟨vs,h1,p⟩:=hr.obj n ad _ h ho
   exact .inl ⟨rfl,vs,SqL.of h1⟩
  ·cases e
 | _=>simp[Zn9] at e
nonrec def eLM (g:D->List D->HD->Option (D×HD)) (fo:EF) (f:AF):EF:=fun σ H=>(fo σ H).bind fun o=>if Zn9 o.1 o.2=true then (f σ o.2).bind fun p=>g o.1 p.1 p.2 else none
theorem Zp1 {o:Vv} {name:Str} {apos cpos:Pos} {id:String} {g:D->List D->HD->Option (D×HD)} {fo:EF} {f:AF} (slot:Slot "list" name id) (hty:typeOf (.builtin id)=pure (.type "method_descriptor")) (hm:MtF X id g) (ho:PEf X o fo) (ha:PAf X (e::es) f)
  (hbase:Udq o name X.env (eval o X.env)=eval o X.env:=by rfl)
  (hfew:((Ual cpos (Vg (e::es) X.env)).all (fun x => !x.1)&&(Ucw cpos (Ubh [] X.env)).all (fun x=>x.1.isSome)
   && decide ((e::es).length+([]:List Ubz).length+(if ([]:List Ubz).isEmpty then 0 else 1)<30))=true:=by exact Zpv rfl (by decide))
  (hline:(apos.endLine==cpos.line)=true:=by rfl) (hs:Vg (e::es) X.env=(false,eval e X.env)::Vg es X.env:=by exact Zb0 rfl) (hplain:(Ual cpos (Vg es X.env)).any (·.1)=false:=by exact Zc0 rfl) :
  PEf X (.Call (.Attribute o name apos) (e::es) [] cpos) (eLM g fo f):=by
 refine PEi (pe_bm PySem.F.plainAttrs_list slot hty hm ho ha hbase hfew hline hs hplain) fun σ H Q zz=>?_
 obtain⟨ι,σd,Hd,d,Hd',s,hr,e,q⟩:=zz
 obtain⟨⟨x,H1⟩,e1,e⟩:=Zo e
 dsimp only at e
 split at e
 ·rename_i hl
  obtain⟨⟨y,H2⟩,e2,e⟩:=Zo e
  exact⟨ι,σd,Hd,x,H1,s,hr,e1,fun v1 H1' ι1 l1 h1 r1=>⟨Zwt h1 r1 hl,ι1,σd,H1,y,H2,s.mono l1,h1,e2,fun vs H2' ι2 l2 h2 r2 =>
   ⟨ι2,x,y,H2,d,Hd',h2,r1.mono l2,r2,e,fun v H' ι' l h r=>q v H' ι' ((l1.trans l2).trans l) h r⟩⟩⟩
 ·cases e
nonrec def Zao:SF:=fun σ H=>some (.nx,σ,H)
nonrec def Zaf (f g:SF):SF:=fun σ H=>(f σ H).bind fun r=>match r.1 with
 | .nx=>g r.2.1 r.2.2
 | _=>some r
theorem Za8:Zo3 X [] Zao:=by
 refine PSsi Yaf fun E σ H zz=>?_
 obtain⟨ι,σd,Hd,fl,σd',Hd',s,hr,e,q⟩:=zz
 cases e
 exact q σ H ι Le.refl hr s
theorem Zaj {f g:SF} (h1:PSf X st f) (h2:Zo3 X sts g):Zo3 X (st::sts) (Zaf f g):=by
 refine PSsi (Zxc h1 h2) fun E σ H zz=>?_
 obtain⟨ι,σd,Hd,fl,σd',Hd',s,hr,e,q⟩:=zz
 obtain⟨⟨f1,σ1,H1⟩,e1,e⟩:=Zo e
 refine⟨ι,σd,Hd,f1,σ1,H1,s,hr,e1,fun σ' H' ι' l h ss=>?_⟩
 cases f1 with
 | nx=>exact⟨ι',σ1,H1,fl,σd',Hd',ss,h,e,fun σ2 H2 ι2 l2 h2 s2=>q σ2 H2 ι2 (l.trans l2) h2 s2⟩
 | bk=>cases e; exact q σ' H' ι' l h ss
 | ct=>cases e; exact q σ' H' ι' l h ss
 | rt d=>cases e; exact q σ' H' ι' l h ss
nonrec def Zbi (f:EF):SF:=fun σ H=>(f σ H).map fun p=>(.rt p.1,σ,p.2)
theorem Zbr {f:EF} (he:PEf X e f):PSf X (.Return (some e) pos) (Zbi f):=by
 refine PSi (Ydg he) fun E σ H zz=>?_
 obtain⟨ι,σd,Hd,fl,σd',Hd',s,hr,e,q⟩:=zz
 obtain⟨⟨x,H1⟩,e1,e⟩:=Zm e
 cases e
 exact⟨ι,σd,Hd,x,H1,s,hr,e1,fun v H' ι' l h r=>q σ H' ι' l h (s.mono l) v r⟩
nonrec def Zy4:SF:=fun σ H=>some (.rt .non,σ,H)
theorem Zxf:PSf X (.Return none pos) Zy4:=by
 refine PSi Yaj fun E σ H zz=>?_
 obtain⟨ι,σd,Hd,fl,σd',Hd',s,hr,e,q⟩:=zz
 cases e
 exact q σ H ι Le.refl hr s .non (by simp)
nonrec def Zcx (f:EF):SF:=fun σ H=>(f σ H).map fun p=>(.nx,σ,p.2)
theorem Zel {f:EF} (he:PEf X e f) (hs:Ucl e none pos.line X.env=pure false:=by rfl):PSf X (.Expr e pos) (Zcx f):=by
 refine PSi (Zzl he hs) fun E σ H zz=>?_
 obtain⟨ι,σd,Hd,fl,σd',Hd',s,hr,e,q⟩:=zz
 obtain⟨⟨x,H1⟩,e1,e⟩:=Zm e
 cases e
 exact⟨ι,σd,Hd,x,H1,s,hr,e1,fun v H' ι' l h r=>q σ H' ι' l h (s.mono l)⟩
nonrec def sIf (t:TF) (f g:SF):SF:=fun σ H=>(t σ H).bind fun p=>if p.1=true then f σ p.2 else g σ p.2
theorem Zf3 {t:TF} {f g:SF} {as bs:List Uab} (hc:PTf X c t) (ha:Zo3 X as f) (hb:Zo3 X bs g):PSf X (.If c as bs pos) (sIf t f g):=by
 refine PSi (ps_if hc ha hb) fun E σ H zz=>?_
 obtain⟨ι,σd,Hd,fl,σd',Hd',s,hr,e,q⟩:=zz
 obtain⟨⟨x,H1⟩,e1,e⟩:=Zo e
 refine⟨ι,σd,Hd,x,H1,s,hr,e1,fun H' ι' l h=>?_⟩
 cases x with
 | true =>
  rw[if_pos rfl]
  exact⟨ι',σd,H1,fl,σd',Hd',s.mono l,h,by simpa using e,fun σ2 H2 ι2 l2 h2 s2=>q σ2 H2 ι2 (l.trans l2) h2 s2⟩
 | false =>
  rw[if_neg (by simp)]
  exact⟨ι',σd,H1,fl,σd',Hd',s.mono l,h,by simpa using e,fun σ2 H2 ι2 l2 h2 s2=>q σ2 H2 ι2 (l.trans l2) h2 s2⟩
nonrec def Zbl (i:Nat) (f:EF):SF:=fun σ H=>(f σ H).map fun p=>(.nx,σ.set i (some p.1),p.2)
theorem Za9 {i:Nat} {x:Str} {f:EF} {pos':Pos} (hN:X.N.Nodup) (hi:X.N[i]? = some x) (hx:Loc X.env.scope x) (he:PEf X e f) (hs:Ucl e (some (.Name x pos')) pos.line X.env=pure false:=by rfl) (hf:X.fn x=true\/X.env.scope.names.lookup x=some .local:=by first | exact .inl rfl | exact .inr rfl | assumption) :
  PSf X (.Assign [.Name x pos'] e pos) (Zbl i f):=by
 refine PSi (Yda hN hi hx he hs hf) fun E σ H zz=>?_
 obtain⟨ι,σd,Hd,fl,σd',Hd',s,hr,e,q⟩:=zz
 obtain⟨⟨x,H1⟩,e1,e⟩:=Zm e
 cases e
 exact⟨ι,σd,Hd,x,H1,s,hr,e1,fun v H' ι' l h r=>q _ H' ι' l h ((s.mono l).set r i)⟩
nonrec def gNm (i:Nat):GF:=fun d σ H=>some (σ.set i (some d),H)
theorem Zcl {i:Nat} {x:Str} (hN:X.N.Nodup) (hi:X.N[i]? = some x) (hx:Loc X.env.scope x) (hf:X.fn x=true\/X.env.scope.names.lookup x=some .local:=by first | exact .inl rfl | exact .inr rfl | assumption):PGf X (.Name x pos) (gNm i):=by
 refine PGi (Zlf hN hi hx hf) fun v σ H Q zz=>?_
 obtain⟨ι,σd,Hd,d,σd',Hd',s,hr,r,e,q⟩:=zz
 cases e
 exact q _ H ι Le.refl hr (s.set r i)
nonrec abbrev Yam:=D->D->D->HD->Option HD
nonrec def rdSet (K:Xb) (g:Yam):TSet:=fun o i v H Q=>∃ ι od id vd Hd Hd',HRep K H ι Hd/\Rep K H ι od o/\Rep K H ι id i/\Rep K H ι vd v/\g od id vd Hd=some Hd'/\∀ H' ι',Le K H ι H' ι'->HRep K H' ι' Hd'->Q H'
def Zyz (X:Cx) (g:Yam):Prop:=PSet X (rdSet X.K g)
nonrec def gSb (fo fi:EF) (g:Yam):GF:=fun d σ H=>(fo σ H).bind fun o=>(fi σ o.2).bind fun i=>(g o.1 i.1 d i.2).map fun H'=>(σ,H')
theorem Zk6 {o i:Vv} {fo fi:EF} {g:Yam} (ho:PEf X o fo) (hi:PEf X i fi) (hs:Zyz X g)
  (ha:∀ v,Udd (.Subscript o i pos) X.env v=(do
   let ov<-Udi [v] (eval o X.env)
   let iv<-Udi [v,ov] (eval i X.env)
   standAt pos
   Udi [v,ov,iv] (setItem ov iv v)
   release [v,ov,iv] []):=by intro _; rfl):PGf X (.Subscript o i pos) (gSb fo fi g):=by
 refine PGi (Yd2 ho hi hs ha) fun v σ H Q zz=>?_
 obtain⟨ι,σd,Hd,d,σd',Hd',s,hr,r,e,q⟩:=zz
 obtain⟨⟨x,H1⟩,e1,e⟩:=Zo e
 obtain⟨⟨y,H2⟩,e2,e⟩:=Zo e
 obtain⟨H3,e3,e⟩:=Zm e
 obtain⟨rfl,rfl⟩:=Wau.inj e
 exact⟨ι,σd,Hd,x,H1,s,hr,e1,fun v1 H1' ι1 l1 h1 r1=>⟨ι1,σd,H1,y,H2,s.mono l1,h1,e2,fun v2 H2' ι2 l2 h2 r2 =>
  ⟨ι2,x,y,d,H2,H3,h2,r1.mono l2,r2,r.mono (l1.trans l2),e3,fun H' ι' l h=>q σ H' ι' ((l1.trans l2).trans l) h (s.mono ((l1.trans l2).trans l))⟩⟩⟩
nonrec abbrev GFs:=List D->SD->HD->Option (SD×HD)
nonrec def rdGs (K:Xb) (g:GFs):TGs:=fun vs σ H Q=>∃ ι σd Hd ds σd' Hd',SRep K H ι σ σd/\HRep K H ι Hd/\Vj (Rep K H ι) ds vs/\g ds σd Hd=some (σd',Hd') /\
 ∀ σ' H' ι',Le K H ι H' ι'->HRep K H' ι' Hd'->SRep K H' ι' σ' σd'->Q σ' H'
def PGsf (X:Cx) (ts:List Vv) (g:GFs):Prop:=PGs X ts (rdGs X.K g)
nonrec def gNl:GFs:=fun ds σ H=>match ds with
 | []=>some (σ,H)
 | _=>none
nonrec def gCn (g:GF) (h:GFs):GFs:=fun ds σ H=>match ds with
 | d::r=>(g d σ H).bind fun p=>h r p.1 p.2
 | []=>none
theorem PGsi {ts:List Vv} {t t':TGs} (h:PGs X ts t) (i:∀ v σ H Q,t' v σ H Q->t v σ H Q):PGs X ts t':=fun pins s σ H v u Q I r q=>h pins s σ H v u Q I r (i v σ H Q q)
theorem Zpa:PGsf X [] gNl:=by
 refine PGsi Zvf fun vs σ H Q zz=>?_
 obtain⟨ι,σd,Hd,ds,σd',Hd',s,hr,r,e,q⟩:=zz
 cases r with
 | nil=>cases e; exact⟨rfl,q σ H ι Le.refl hr s⟩
 | cons _ _=>cases e
theorem Zgy {g:GF} {h:GFs} (h1:PGf X e g) (h2:PGsf X es h) (hs:(Uap (e::es) X.env).map (·.2)=Udd e X.env::(Uap es X.env).map (·.2):=by rfl):PGsf X (e::es) (gCn g h):=by
 refine PGsi (Zlc h1 h2 hs) fun vs σ H Q zz=>?_
 obtain⟨ι,σd,Hd,ds,σd',Hd',s,hr,r,e,q⟩:=zz
 cases r with
 | nil=>cases e
 | cons r rr =>
  obtain⟨⟨σ1,H1⟩,e1,e⟩:=Zo e
  exact⟨_,_,rfl,ι,σd,Hd,_,σ1,H1,s,hr,r,e1,fun σ' H' ι' l h ss=>⟨ι',σ1,H1,_,σd',Hd',ss,h,Prd.mono l rr,e,fun σ2 H2 ι2 l2 h2 s2=>q σ2 H2 ι2 (l.trans l2) h2 s2⟩⟩
nonrec def gTp (n:Nat) (g:GFs):GF:=fun d σ H=>match d with
 | .tup ds=>if ds.length=n then g ds σ H else none
 | _=>none
theorem Ztz {k n:Nat} {g:GFs} (hc:X.calm=true) (h:PGsf X es g) (hn:(Uap es X.env).length=n:=by rfl) (hst:(Uap es X.env).findIdx? (·.1)=none:=by rfl):PGf X (.Tuple es k pos) (gTp n g):=by
 refine PGi (Zxn hc h hn hst) fun v σ H Q zz=>?_
 obtain⟨ι,σd,Hd,d,σd',Hd',s,hr,r,e,q⟩:=zz
 cases d with
 | tup ds =>
  obtain⟨a,vs,rfl,h1,p⟩:=Zbc.mp r
  simp only[gTp] at e
  split at e
  ·rename_i hl
   exact⟨a,vs,rfl,h1,by rw[<- Prd.len p]; exact hl,ι,σd,Hd,ds,σd',Hd',s,hr,p,e,q⟩
  ·cases e
 | _=>simp[gTp] at e
nonrec def Zvs (f:EF) (g:GF):SF:=fun σ H=>(f σ H).bind fun p=>(g p.1 σ p.2).map fun q=>(.nx,q.1,q.2)
theorem Zih {tg:Vv} {f:EF} {g:GF} (he:PEf X e f) (hg:PGf X tg g) (hs:swapsWithSole [tg] e pos.line X.env=pure false:=by rfl) (hw:swappedStores [tg] e X.env=pure none:=by rfl)
  (h1:(Uap [tg] X.env).map (·.2)=[Udd tg X.env]:=by rfl):PSf X (.Assign [tg] e pos) (Zvs f g):=by
 refine PSi (Ybe he hg hs hw h1) fun E σ H zz=>?_
 obtain⟨ι,σd,Hd,fl,σd',Hd',s,hr,e,q⟩:=zz
 obtain⟨⟨x,H1⟩,e1,e⟩:=Zo e
 obtain⟨⟨σ2,H2⟩,e2,e⟩:=Zm e
 cases e
 exact⟨ι,σd,Hd,x,H1,s,hr,e1,fun v H' ι' l h r=>⟨ι',σd,H1,x,σ2,H2,s.mono l,h,r,e2,fun σ3 H3 ι3 l3 h3 s3=>q σ3 H3 ι3 (l.trans l3) h3 s3⟩⟩
nonrec abbrev Zg4:=List (Nat×DO)
def Zcd (own:Zg4) (H:HD):Prop:=∀ p∈own,H[p.1]? = some p.2
nonrec abbrev ItF:=SD->HD->Option ((List D×Zg4)×HD)
structure ItRep (K:Xb) (J:It) (xs:List D) (own:Zg4) (H0:Hp) (ι0:List Ve):Prop where
 go:∀ i H ι Hd,Le K H0 ι0 H ι->HRep K H ι Hd->Zcd own Hd->i<xs.length->J.go i H
 yld:∀ i H ι Hd d x H',Le K H0 ι0 H ι->HRep K H ι Hd->Zcd own Hd->xs[i]? = some d->J.yld i H x H'->∃ ι',Le K H ι H' ι'/\HRep K H' ι' Hd/\Rep K H' ι' d x
 stop:∀ i H ι Hd,Le K H0 ι0 H ι->HRep K H ι Hd->Zcd own Hd->xs.length<=i->J.stop i H
nonrec def rdI (K:Xb) (f:ItF):TI:=fun σ H R=>∃ ι σd Hd xs own Hd',SRep K H ι σ σd/\HRep K H ι Hd/\f σd Hd=some ((xs,own),Hd')/\∀ J H' ι',Le K H ι H' ι'->HRep K H' ι' Hd'->ItRep K J xs own H' ι'->R J H'
def PIf (X:Cx) (tg iter:Vv) (f:ItF):Prop:=PI X tg iter (rdI X.K f)
theorem PIi {tg iter:Vv} {t t':TI} (h:PI X tg iter t) (i:∀ σ H R,t' σ H R->t σ H R):PI X tg iter t':=fun pins s σ H R I q=>h pins s σ H R I (i σ H R q)
open Classical in
nonrec def Zgd (own:Zg4) (g:GF) (body:SF):List D->SF
 | [],σ,H=>if Zcd own H then some (.nx,σ,H) else none
 | x::r,σ,H=>if Zcd own H then (g x σ H).bind fun p=>(body p.1 p.2).bind fun q=>match q.1 with
   | .nx=>Zgd own g body r q.2.1 q.2.2
   | .ct=>Zgd own g body r q.2.1 q.2.2
   | .bk=>some (.nx,q.2.1,q.2.2)
   | .rt d=>some (.rt d,q.2.1,q.2.2)
  else none
nonrec def Zex (it:ItF) (g:GF) (body:SF):SF:=fun σ H=>(it σ H).bind fun p=>Zgd p.1.2 g body p.1.1 σ p.2
theorem Zo4 {tg iter:Vv} {body:List Uab} {f:ItF} {g:GF} {b:SF} (hp:Uee (Vm X.prog X.w) X.A X.env X.xe) (hc:X.calm=true) (hi:PIf X tg iter f) (hg:PGf X tg g) (hb:Zo3 X body b)
  (hs:∀ x,Vx iter X.env x=pure x:=by intro _; rfl):PSf X (.For tg iter body [] pos) (Zex f g b):=by
 refine PSi (Ydy hp hc hi hg hb hs) fun E σ H zz=>?_
 obtain⟨ι,σd,Hd,fl,σf,Hf,s,hr,e,q⟩:=zz
 obtain⟨⟨⟨xs,own⟩,H1⟩,e1,e⟩:=Zo e
 refine⟨ι,σd,Hd,xs,own,H1,s,hr,e1,fun J H0 ι0 l0 h0 it=>?_⟩
 refine⟨fun i m σ H=>m=xs.length - i/\i<=xs.length/\∃ ι σd Hd,Le X.K H0 ι0 H ι/\SRep X.K H ι σ σd/\HRep X.K H ι Hd/\Zgd own g b (xs.drop i) σd Hd=some (fl,σf,Hf),
  ⟨xs.length,by simp,Wbg _,ι0,σd,H1,Le.refl,s.mono l0,h0,by simpa using e⟩,?_⟩
 rintro i m σ2 H2 ⟨rfl,hi,ι2,σd2,Hd2,l2,s2,h2,e2⟩
 by_cases hlt:i<xs.length
 ·have ed:xs.drop i=xs[i]::xs.drop (i+1):=Wao hlt
  rw[ed,Zgd] at e2
  split at e2
  ·rename_i ok
   obtain⟨⟨σ3,H3⟩,e3,e2⟩:=Zo e2
   obtain⟨⟨f4,σ4,H4⟩,e4,e2⟩:=Zo e2
   refine .inr ⟨it.go i H2 ι2 Hd2 l2 h2 ok hlt,fun σ' H'=>(xs.length - (i+1)=xs.length - (i+1)/\i+1<=xs.length/\∃ ι σd Hd,Le X.K H0 ι0 H' ι/\SRep X.K H' ι σ' σd/\HRep X.K H' ι Hd/\Zgd own g b (xs.drop (i+1)) σd Hd=some (fl,σf,Hf)),
    fun σ' H' p=>⟨_,by omega,p⟩,fun x H' y=>?_⟩
   obtain⟨ι3,l3,h3,r3⟩:=it.yld i H2 ι2 Hd2 xs[i] x H' l2 h2 ok (by simp[hlt]) y
   refine⟨ι3,σd2,Hd2,xs[i],σ3,H3,s2.mono l3,h3,r3,e3,fun σ5 H5 ι5 l5 h5 s5=>?_⟩
   refine⟨ι5,σ3,H3,f4,σ4,H4,s5,h5,e4,fun σ6 H6 ι6 l6 h6 s6=>?_⟩
   have L:Le X.K H0 ι0 H6 ι6:=((l2.trans l3).trans l5).trans l6
   cases f4 with
   | nx=>exact⟨rfl,hlt,ι6,σ4,H4,L,s6,h6,e2⟩
   | ct=>exact⟨rfl,hlt,ι6,σ4,H4,L,s6,h6,e2⟩
   | bk=>cases e2; exact q σ6 H6 ι6 (l0.trans L) h6 s6
   | rt d=>cases e2; exact q σ6 H6 ι6 (l0.trans L) h6 s6
  ·cases e2
 ·have hi':i=xs.length:=by omega
  rw[Wcu (by omega),Zgd] at e2
  split at e2
  ·rename_i ok
   have e3:(FD.nx,σd2,Hd2)=(fl,σf,Hf):=Xw.inj e2
   obtain⟨rfl,e4⟩:=Wau.inj e3
   obtain⟨rfl,rfl⟩:=Wau.inj e4
   exact .inl ⟨it.stop i H2 ι2 _ l2 h2 ok (by omega),q σ2 H2 ι2 (l0.trans l2) h2 s2⟩
  ·cases e2
end
nonrec def Za7 (n N:Nat) (b:SF):FF:=fun ds H=>if ds.length=n then (b (ds.map some++Xq (N - ds.length) none) H).bind fun r=>match r.1 with
  | .rt d=>some (d,r.2.2)
  | .nx=>some (.non,r.2.2)
  | _=>none
 else none
section
variable {P:Vh} {w:Vu} {K:Xb} {mg:Str->Option Vb} {base:Vz}
theorem fn_f {x qual:Str} {st:Uab} {f:Ve} {fd:Uar} {N ps:List Str} {k:Nat} {b:SF} (F:Fun K x qual st f fd) (S:FnScope N ps (Zad st))
  (hb:∀ (cdv:Vb) (A:Vt) (outer:List Env) (s:Vd) (H:Hp) (E:XK),Room k (A.deeper (Ubc qual (Zad st) s.heap.objs.size f cdv)) ->
   Zo3 (Zl8 CX0 P w K mg base N qual (Zad st) f cdv A outer s H E).nox (Za6 st) b):FnOk P w K mg base CX0 (k+1) f fd ps (spF K ps.length (Za7 ps.length N.length b)):=by
 refine F.ok S (fun vs H Q E h=>?_) (fun cdv A outer s H vs Q E hr h=>?_)
 ·obtain⟨ι,ds,Hd,d,Hd',hl,_,r,_⟩:=h
  rw[<- Prd.len r]; exact hl
 ·obtain⟨ι,ds,Hd,d,Hd',hl,hh,r,e,q⟩:=h
  refine⟨_,hb cdv A outer s H E hr,?_⟩
  unfold Za7 at e
  rw[if_pos hl] at e
  obtain⟨⟨fl,σ1,H1⟩,e1,e⟩:=Zo e
  refine⟨ι,_,Hd,fl,σ1,H1,?_,hh,e1,fun σ' H' ι' l h ss=>?_⟩
  ·refine⟨by simp[L2.start,Prd.len r],fun i d0 h0=>?_⟩
   unfold L2.start
   by_cases hi:i<ds.length
   ·rw[Xg (by simpa using hi),Xn] at h0
    cases ed:ds[i]? with
    | none=>rw[ed] at h0; cases h0
    | some d1 =>
     rw[ed] at h0
     cases h0
     obtain⟨v,hv,rv⟩:=Prd.get r ed
     refine⟨v,?_,rv⟩
     rw[Xg (by rw[Xu,<- Prd.len r]; exact hi),Xn,hv]
     rfl
   ·rw[Xr (by simpa using hi),Wbm] at h0
    split at h0<;>cases h0
  ·cases fl with
   | rt d1=>cases e; exact fun v rv=>q v H' ι' l h rv
   | nx=>cases e; exact q .non H' ι' l h (by simp)
   | bk=>cases e
   | ct=>cases e
end
nonrec def Zhz (env:Env):List (Str×Ubb)->List (Str×Ve)->List (Str×Ve)
 | [],cs=>cs
 | (n,k)::r,cs=>Zhz env r (if k=.free then (match env.cells.lookup n with | some a=>(n,a)::cs | none=>cs) else cs)
theorem Zhd (env:Env) (scope:Ubm) (h:∀ y∈scope.names,y.2=.free->(env.cells.lookup y.1).isSome=true):closureFor scope env=pure (Zhz env scope.names []):=by
 have key:∀ (ns:List (Str×Ubb)) (cs:List (Str×Ve)),(∀ y∈ns,y.2=.free->(env.cells.lookup y.1).isSome=true) ->
   (forIn ns cs fun(x:Str×Ubb) cs=>match x with
    | (name,kind)=>if (kind==.free)=true then (do let a<-cellOf env name; pure (Tah ((name,a)::cs))) else pure (Tah cs):Sem (List (Str×Ve)))=pure (Zhz env ns cs):=by
  intro ns
  induction ns with
  | nil=>intro cs _; rfl
  | cons x r ih =>
   intro cs hh
   obtain⟨n,k⟩:=x
   have hr:=ih
   rw[Wei]
   by_cases hk:k=.free
   ·subst hk
    have q:=hh (n,.free) (by simp) rfl
    cases e:env.cells.lookup n with
    | none=>rw[e] at q; cases q
    | some a =>
     have e2:cellOf env n=pure a:=by unfold cellOf; rw[e]
     simp only[beq_self_eq_true,if_true,e2,pure_bind,Zhz,e]
     exact ih _ fun y hy=>hh y (Waj _ hy)
   ·have hb:(k==Ue)=false:=by simpa using hk
    simp only[hb,Wam,if_false,pure_bind,Zhz,hk]
    exact ih _ fun y hy=>hh y (Waj _ hy)
 have e:closureFor scope env=((forIn scope.names [] fun(x:Str×Ubb) cs=>match x with
    | (name,kind)=>if (kind==.free)=true then (do let a<-cellOf env name; pure (Tah ((name,a)::cs))) else pure (Tah cs):Sem (List (Str×Ve))) >>= pure):=rfl
 rw[e,bind_pure]
 exact key scope.names [] h
theorem Zgx (env:Env):∀ (ns:List (Str×Ubb)) (cs:List (Str×Ve)),(∀ x c,cs.lookup x=some c->env.cells.lookup x=some c)->∀ x c,(Zhz env ns cs).lookup x=some c->env.cells.lookup x=some c
 | [],cs,h=>h
 | (n,k)::r,cs,h=>by
  unfold Zhz
  refine Zgx env r _ ?_
  split
  ·cases e:env.cells.lookup n with
   | none=>exact h
   | some a =>
    intro x c q
    dsimp only at q
    rw[Wag] at q
    split at q
    ·rename_i hb
     have hb':x=n:=by simpa using hb
     subst hb'; cases q; exact e
    ·exact h x c q
  ·exact h
theorem Zkz (env:Env):∀ (ns:List (Str×Ubb)) (cs:List (Str×Ve)) (x:Str),((cs.lookup x).isSome=true\/((x,Ue)∈ns/\(env.cells.lookup x).isSome=true))->((Zhz env ns cs).lookup x).isSome=true
 | [],cs,x,h=>by
  rcases h with h | ⟨h,_⟩
  ·exact h
  ·simp at h
 | (n,k)::r,cs,x,h=>by
  unfold Zhz
  refine Zkz env r _ x ?_
  by_cases hk:k=.free
  ·rw[if_pos hk]
   cases e:env.cells.lookup n with
   | none =>
    rcases h with h | ⟨h,h2⟩
    ·exact .inl h
    ·rcases Xj.mp h with h | h
     ·cases h; rw[e] at h2; cases h2
     ·exact .inr ⟨h,h2⟩
   | some a =>
    dsimp only
    rw[Wag]
    by_cases hx:x=n
    ·subst hx; simp
    ·have:(x==n)=false:=by simpa using hx
     rw[this]
     rcases h with h | ⟨h,h2⟩
     ·exact .inl h
     ·rcases Xj.mp h with h | h
      ·cases h; exact absurd rfl hx
      ·exact .inr ⟨h,h2⟩
  ·rw[if_neg hk]
   rcases h with h | ⟨h,h2⟩
   ·exact .inl h
   ·rcases Xj.mp h with h | h
    ·cases h; exact absurd rfl hk
    ·exact .inr ⟨h,h2⟩
theorem Zf5 {env:Env}:∀ {names:List (Str×Ubb)} {x:Str},names.lookup x=some .free ->
  ((names.map fun(n,k)=>if (k==Ue&&env.scope.kind==.function&&env.kindOf n==some .cell) then (n,Taa) else (n,k)).lookup x=some .cell \/
   (names.map fun(n,k)=>if (k==Ue&&env.scope.kind==.function&&env.kindOf n==some .cell) then (n,Taa) else (n,k)).lookup x=some .free)
 | [],_,h=>by simp at h
 | (n,k)::r,x,h=>by
  have ih:=@Zf5 env r x
  show Weq x ((if (k==Ue&&env.scope.kind==.function&&env.kindOf n==some .cell)=true then (n,Taa) else (n,k))::_)=_\/Weq x ((if (k==Ue&&env.scope.kind==.function&&env.kindOf n==some .cell)=true then (n,Taa) else (n,k))::_)=_
  cases hx:x==n with
  | true =>
   simp only[Wag,hx] at h
   cases h
   by_cases hc:(Ue==Ue&&env.scope.kind==.function&&env.kindOf n==some .cell)=true
   ·rw[if_pos hc]; simp only[Wag,hx]; simp
   ·rw[if_neg hc]; simp only[Wag,hx]; simp
  | false =>
   simp only[Wag,hx] at h
   by_cases hc:(k==Ue&&env.scope.kind==.function&&env.kindOf n==some .cell)=true
   ·rw[if_pos hc]; simp only[Wag,hx]; exact ih h
   ·rw[if_neg hc]; simp only[Wag,hx]; exact ih h
theorem Zfg {env:Env}:∀ {names:List (Str×Ubb)} {x:Str},(∀ y∈names,y.2≠.cell) ->
  ((names.map fun(n,k)=>if (k==Ue&&env.scope.kind==.function&&env.kindOf n==some .cell) then (n,Taa) else (n,k)).lookup x=some .cell \/
   (names.map fun(n,k)=>if (k==Ue&&env.scope.kind==.function&&env.kindOf n==some .cell) then (n,Taa) else (n,k)).lookup x=some .free)->(x,Ue)∈names
 | [],_,_,h=>by simp at h
 | (n,k)::r,x,hn,h=>by
  have ih:=@Zfg env r x (fun y hy=>hn y (Waj _ hy))
  have h:Weq x ((if (k==Ue&&env.scope.kind==.function&&env.kindOf n==some .cell)=true then (n,Taa) else (n,k))::_)=_\/Weq x ((if (k==Ue&&env.scope.kind==.function&&env.kindOf n==some .cell)=true then (n,Taa) else (n,k))::_)=_:=h
  cases hx:x==n with
  | true =>
   have hx':x=n:=by simpa using hx
   subst hx'
   by_cases hc:(k==Ue&&env.scope.kind==.function&&env.kindOf x==some .cell)=true
   ·have hk:k=.free:=by
     rw[Waf,Waf] at hc
     simpa using hc.1.1
    subst hk; simp
   ·rw[if_neg hc] at h
    simp only[Wag,hx] at h
    rcases h with h | h
    ·cases h; exact absurd rfl (hn (x,.cell) (by simp))
    ·cases h; simp
  | false =>
   refine Waj _ (ih ?_)
   by_cases hc:(k==Ue&&env.scope.kind==.function&&env.kindOf n==some .cell)=true
   ·rw[if_pos hc] at h; simp only[Wag,hx] at h; exact h
   ·rw[if_neg hc] at h; simp only[Wag,hx] at h; exact h
nonrec def blk (X:Cx) (scope:Ubm) (N:List Str) (cl:List (Str×Ve)) (C:Ve) (s:Vd) (H:Hp) (fp:List Ve) (pn:List (Ve×Obj)):Cx where
 prog:=X.prog
 w:=X.w
 K:=X.K
 mg:=X.mg
 base:=X.base
 A:=X.A
 N:=N
 s₀:=s
 H₀:=H
 env:=Ubs scope cl C X.env
 outer:=X.stack
 stack:=X.stack
 ex:=fp
 fn:=fun _=>false
 calm:=X.calm
 pn:=pn
 xe:=fun _ _=>False
structure BlkOk (X:Cx) (scope:Ubm) (x:Str) (cn:List Str) (ci:List Nat):Prop where
 kind:scope.kind=.function
 nocell:∀ y∈scope.names,y.2≠.cell
 names:∀ y∈scope.names,y.2=.local->scope.names.lookup y.1=some .local
 tgt:scope.names.lookup x=some .local
 free:∀ y∈scope.names,y.2=.free->(X.env.cells.lookup y.1).isSome=true
 nd:(x::cn).Nodup
 len:ci.length=cn.length
 cap:∀ (j:Nat) (y:Str),cn[j]? = some y->∃ i,ci[j]? = some i/\X.N[i]? = some y/\scope.names.lookup y=some .free/\(X.env.kindOf y=some .cell\/X.env.kindOf y=some .free)
nonrec def Zjt (ci:List Nat) (σ:L2.St):L2.St:=ci.map fun i=>(σ[i]?).join
section
variable {X:Cx} {pins:List (Ve×Obj)} {σ:L2.St} {H:Hp} {s:Vd} {scope:Ubm} {x:Str} {cn:List Str} {ci:List Nat} {fp:List Ve}
theorem Zy0 {h₁:Vz} {tk:Nat} {o₁:Obj} (I:Inv X pins σ H s) (B:BlkOk X scope x cn ci) (hf:∀ b∈fp,Zk7 X pins H b) (hlt:∀ b∈fp,b<s.heap.objs.size)
  (hns:h₁.Ns s.heap.objs.size (fun _=>none)) (hsb:Xy s.heap.objs.size (s.heap.push o₁) h₁) :
  Inv (blk X scope (x::cn) (Zhz X.env scope.names []) s.heap.objs.size s H fp (X.pn++pins)) [] (none::Zjt ci σ) H { s with heap:=h₁,toks:=tk }:=by
 have old:∀ b o,s.heap.get? b=some o->h₁.get? b=some o:=fun b o e=>hsb.extBut b o (Xh (Xf e)) (Xa _ e)
 have sub:=Zgx X.env scope.names [] (by intro x c h; simp at h)
 have has:∀ y,(y,Ue)∈scope.names->∃ c,(Zhz X.env scope.names []).lookup y=some c:=fun y hy =>
  Wai.mp (Zkz X.env scope.names [] y (.inr ⟨hy,B.free _ hy rfl⟩))
 refine⟨⟨I.ok.mod,B.kind,I.ok.glob,I.ok.blt,Xe _,fun y z c h1 h2=>I.ok.inj y z c (sub y c h1) (sub z c h2),fun y hy=>has y (Zfg B.nocell hy),fun y c hy=>absurd hy (by show ¬ (false=true); simp),I.ok.hd,I.ok.frames,.inl rfl,
   fun b hb=>⟨Xh (hlt b hb),fun y c e=>(hf b hb).2.2.2.2.1 y c (sub y c e)⟩,I.bs,Wac I.ok.bsz I.sz,fun b o e hb=>?_,fun b hb z=>?_,I.stack,I.stkFree⟩,
  rfl,I.bare,Un.kept old,⟨_,hns,fun i y v h1 h2 h3=>?_⟩,fun y c e=>?_,I.hok.fresh (Xe _),fun y c e=>(I.freeC y c (sub y c e)).imp id fun z=>⟨rfl,z.2⟩,fun p hp=>?_,I.hok.kept old,?_⟩
 ·rcases(hf b hb).2.2.2.1 with z | z
  ·exact I.ok.noex b o e z
  ·exact absurd (Xi (Xf e) (Wac I.ok.bsz z)) (Was _)
 ·exact(Xj.mp (I.stkSub b z)).elim (hf b hb).2.1 (hf b hb).2.2.1
 ·cases i with
  | zero=>simp at h2
  | succ j =>
   have h1':cn[j]? = some y:=by simpa [blk] using h1
   have h2':(Zjt ci σ)[j]? = some (some v):=by simpa using h2
   obtain⟨i,e1,e2,e3,e4⟩:=B.cap j y h1'
   have e5:σ[i]? = some (some v):=by
    unfold Zjt at h2'
    rw[Xn,e1] at h2'
    simp at h2'
    cases e:σ[i]? with
    | none=>rw[e] at h2'; cases h2'
    | some o=>rw[e] at h2'; simp at h2'; rw[h2']
   obtain⟨m,hn,hl⟩:=I.loc
   have hv:Vis X.env.scope y:=by
    rcases e4 with e4 | e4
    ·exact .inr (.inl e4)
    ·exact .inr (.inr e4)
   obtain⟨u,r,l⟩:=hl i y v e2 e5 hv
   refine⟨u,r,.inr ⟨Zf5 e3,?_⟩⟩
   obtain⟨c,ec⟩:=has y (Uh e3)
   refine⟨c,ec,?_⟩
   rcases l with ⟨l,_⟩ | ⟨_,c',ec',hc⟩
   ·rcases e4 with e4 | e4<;>rw[e4] at l<;>cases l
   ·rw[sub y c ec] at ec'
    cases ec'
    obtain⟨ob,q1,q2⟩:=hc
    exact⟨ob,old _ _ q1,q2⟩
 ·obtain⟨v,ob,q1,q2⟩:=I.cell y c (sub y c e)
  exact⟨v,ob,old _ _ q1,q2⟩
 ·have hp':p∈X.pn++pins:=by simpa [blk] using hp
  obtain⟨q1,q2,q3,q4,q5⟩:=I.pin p hp'
  refine⟨old _ _ q1,q2,Xh (Xf q1),fun z=>?_,q5⟩
  exact(Xj.mp (I.stkSub p.1 z)).elim q3 q4
 ·simp[blk,Zjt,B.len]
def PTs (X:Cx) (ifs:List Vv) (t:TT):Prop :=
 ∀ (pins:List (Ve×Obj)) (s:Vd) (σ:L2.St) (H:Hp) (Q:Bool->Hp->Prop),Inv X pins σ H s->t σ H Q ->
  Vf (Vm X.prog X.w) X.A (forIn ifs true fun c r=>if r=true then do let ok<-isTrue c X.env (eval c X.env); pure (Tah ok) else pure (Tah r)) (TP X pins σ Q) X.xe s
theorem Zy5:PTs X [] (fun _ H Q=>Q true H):=fun _ _ _ H _ I h=>wpAny_tests_nil ⟨H,I,h⟩
theorem Zz8 {c:Vv} {t:TT} (h:PT X c t):PTs X [c] t:=fun pins s σ H Q I q=>wpAny_tests_one (h pins s σ H Q I q)
def LcW (J:It) (ci:List Nat) (tt:TT) (te:TE) (σ:L2.St) (Q:VK) (H1:Hp):Prop:=∀ p,H1 p=none->∃ W:Nat->Nat->List V->Hp->Prop,(∃ m,W 0 m [] (upd H1 p (.lst [])))/\∀ i m ys H,W i m ys H ->
 H p=some (.lst ys)/\((J.stop i H/\Q (.ref p) H)\/(J.go i H/\∀ v H',J.yld i H v H'->tt (some v::Zjt ci σ) H' fun b H2 =>
  if b=true then te (some v::Zjt ci σ) H2 fun y H3=>H3 p=some (.lst ys)/\ys.length<sizeLine/\∃ m',m'<m/\W (i+1) m' (ys++[y]) (upd H3 p (.lst (ys++[y])))
  else ∃ m',m'<m/\W (i+1) m' ys H2))
structure Gone (X:Cx) (pins:List (Ve×Obj)) (H:Hp) (s:Vd) (C:Ve):Prop where
 ns:∃ m,s.heap.Ns C m
 free:H C=none
 nl:C≠X.env.locals
 up:X.s₀.heap.objs.size<=C
 nc:∀ x c,X.env.cells.lookup x=some c->c≠C
 np:∀ p∈X.pn++pins,p.1≠C
theorem Gone.go {σ:L2.St} {h':Vz} {C:Ve} (g:Gone X pins H s C) (I:Inv X pins σ H s) (hs:Xy C s.heap h'):Inv X pins σ H { s with heap:=h' } :=
 I.turned (t':=s.toks) (fun b o hb e=>hs.extBut b o hb e) g.free g.nl (.inr g.up) g.nc g.np
theorem Zo6 {elt iter:Vv} {px pos:Pos} {ifs:List Vv} {tt:TT} {te:TE} {Q:VK} {E:Vb->Vd->Prop} {RR:Vb->Ve->Result->Vd->Prop} {it:Ve} {tn:Nat->Vz->Prop} {J:It}
  (I:Inv X pins σ H s) (hc:X.calm=true) (B:BlkOk X scope x cn ci) (T:Turn X.prog X.w X.K (.Name x px) J fp it tn) (st:tn 0 s.heap) (hf:∀ b∈fp,Zk7 X pins H b)
  (ht:∀ cl C s H fp pn,PTs (blk X scope (x::cn) cl C s H fp pn) ifs tt) (he:∀ cl C s H fp pn,PE (blk X scope (x::cn) cl C s H fp pn) elt te)
  (hw:LcW J ci tt te σ Q H) (hRR:∀ p C H' s',Inv X pins σ H' s'->Gone X pins H' s' C->Q (.ref p) H'->RR (.ref p) C (.ok .next) s') :
  Vf (Vm X.prog X.w) X.A (Uen []) (fun acc s₃=>Vf (Vm X.prog X.w) X.A (newFunctionEnv scope X.env.globals (Zhz X.env scope.names []) [] X.env.qual none .none (some X.env)) (fun cenv s₄ =>
   Ucn (Vm X.prog X.w) X.A (.compStart (.ListComp elt [⟨.Name x px,iter,ifs,0⟩] scope pos) 0 (.ref it) acc { cenv with scope:=relabel scope X.env }) (RR acc cenv.locals) s₄) E s₃) E s:=by
 have hp0:H s.heap.objs.size=none:=I.hok.fresh (Xe _)
 obtain⟨W,⟨m0,w0⟩,turn⟩:=hw _ hp0
 refine Vs (Ucy B.nocell (by intro y hy; simp at hy) (fun h₁ hns₁ hsb₁=>?_) B.kind)
 dsimp only at hns₁ hsb₁ ⊢
 have I3:Inv X pins σ (upd H s.heap.objs.size (.lst [])) { s with heap:=s.heap.push { cls:=.type "list",dict:=none,data:=.seq ([]:List Vb).toArray } } :=
  I.laid (t':=s.toks) (fun b u e=>Xa _ e) (Xe _) ⟨Wbg _,[],0,.nil,Xd _ rfl⟩
 generalize hH3:s.heap.push { cls:=.type "list",dict:=none,data:=.seq ([]:List Vb).toArray }=hp3 at hns₁ hsb₁ I3 ⊢
 have flt:∀ b∈fp,b<s.heap.objs.size:=fun b hb=>by
  obtain⟨o,e,_⟩:=T.obj 0 _ st b hb
  exact Xf e
 have sz3:hp3.objs.size=s.heap.objs.size+1:=by rw[<- hH3,Wan]
 have f3:∀ b∈fp,Zk7 X pins (upd H s.heap.objs.size (.lst [])) b:=fun b hb=>⟨by rw[Zag (Xh (flt b hb))]; exact(hf b hb).1,(hf b hb).2⟩
 have old3:∀ b o,s.heap.get? b=some o->hp3.get? b=some o:=fun b o e=>by rw[<- hH3]; exact Xa _ e
 have I4:=Zy0 (s:={ s with heap:=hp3 }) (tk:=s.toks+([]:List (Str×Vb)).length) I3 B f3 (fun b hb=>by show b<hp3.objs.size; rw[sz3]; exact Wbu (flt b hb)) (by simpa using hns₁) hsb₁
 have old4:∀ b o,hp3.get? b=some o->h₁.get? b=some o:=fun b o e=>hsb₁.extBut b o (Xh (Xf e)) (Xa _ e)
 generalize hX':blk X scope (x::cn) (Zhz X.env scope.names []) hp3.objs.size { s with heap:=hp3 } (upd H s.heap.objs.size (.lst [])) fp (X.pn++pins)=X' at I4
 have ePr:X'.prog=X.prog:=by rw[<- hX']; rfl
 have eW:X'.w=X.w:=by rw[<- hX']; rfl
 have eK:X'.K=X.K:=by rw[<- hX']; rfl
 have eA:X'.A=X.A:=by rw[<- hX']; rfl
 have eEnv:X'.env=Ubs scope (Zhz X.env scope.names []) hp3.objs.size X.env:=by rw[<- hX']; rfl
 have eEx:X'.ex=fp:=by rw[<- hX']; rfl
 have ht':PTs X' ifs tt:=by rw[<- hX']; exact ht _ _ _ _ _ _
 have he':PE X' elt te:=by rw[<- hX']; exact he _ _ _ _ _ _
 have eXe:X'.xe=fun _ _=>False:=by rw[<- hX']; rfl
 have hg':PG X' (.Name x px) (Zlb 0):=by
  rw[<- hX']
  exact Zlf (X:=blk X scope (x::cn) _ _ _ _ _ _) B.nd rfl (.inl (Uad B.tgt)) (.inr (Uad B.tgt))
 -- the iterator's objects, seen from the block
 have stat:∀ {H':Hp},(∀ b∈fp,H' b=none)->∀ b∈fp,Zk7 X' [] H' b:=fun {H'} hn b hb=>by
  rw[<- hX']
  refine⟨hn b hb,(by show b≠hp3.objs.size; rw[sz3]; exact Xh (Wbu (flt b hb))),fun z=>(Xj.mp (I3.stkSub b z)).elim (hf b hb).2.1 (hf b hb).2.2.1,.inl hb,fun y c e=>?_,fun p hp=>?_⟩
  ·exact(hf b hb).2.2.2.2.1 y c (Zgx X.env scope.names [] (by intro x c h; simp at h) y c e)
  ·exact(hf b hb).2.2.2.2.2 p (by simpa [blk] using hp)
 have back:∀ {σ':L2.St} {H':Hp} {s':Vd},Inv X' [] σ' H' s'->Inv X pins σ H' s'/\Gone X pins H' s' hp3.objs.size:=fun {σ' H' s'} I5=>by
  have u:Un (frs X.stack) fp (upd H s.heap.objs.size (.lst [])) H' hp3 s'.heap:=by
   have:=I5.base
   rw[<- hX'] at this
   exact this
  have hok:HOk X.prog X.w H' s'.heap:=by have:=I5.hok; rw[ePr,eW] at this; exact this
  have ho:s'.os=s.os:=by have:=I5.os; rw[<- hX'] at this; exact this
  refine⟨I3.call' ho u hok I5.bare fun b hb=>⟨(hf b hb).2.2.2.1,(hf b hb).2.1,(hf b hb).2.2.2.2.1,(hf b hb).2.2.2.2.2⟩,?_,?_,?_,?_,fun y c e z=>?_,fun p hp z=>?_⟩
  ·obtain⟨m,hn,_⟩:=I5.loc
   rw[eEnv] at hn
   exact⟨m,hn⟩
  ·have:=I5.free
   rw[eEnv] at this
   exact this
  ·exact Wbn (I3.lt)
  ·exact I3.sz
  ·obtain⟨v,q⟩:=I3.cell y c e
   exact absurd (Xi q.lt (by rw[z]; exact Xe _)) (Was _)
  ·have:=Xf (I3.pin p hp).1
   rw[z] at this
   exact Was _ this
 have loop:Ucn (Vm X.prog X.w) X.A (.compLoop (.ListComp elt [⟨.Name x px,iter,ifs,0⟩] scope pos) 0 (.ref it) (.ref s.heap.objs.size) (Ubs scope (Zhz X.env scope.names []) hp3.objs.size X.env))
   (RR (.ref s.heap.objs.size) hp3.objs.size) { s with heap:=h₁,toks:=s.toks+([]:List (Str×Vb)).length }:=by
  refine codeAny_loop rfl (fun n s'=>∃ i o ys H',Inv X' [] (o::Zjt ci σ) H' s'/\tn i s'.heap/\(∀ b∈fp,H' b=none)/\W i n ys H') (fun n s' hI=>?_) m0
   ⟨0,none,[],_,I4,T.keep _ _ _ st (fun b hb o e=>old4 b o (old3 b o e)),fun b hb=>(f3 b hb).1,w0⟩
  obtain⟨i,o,ys,H',I5,st5,fr5,w5⟩:=hI
  show Vf _ X.A ((compTurn (.ListComp elt [⟨.Name x px,iter,ifs,0⟩] scope pos) 0 (.ref it) (.ref s.heap.objs.size) (Ubs scope (Zhz X.env scope.names []) hp3.objs.size X.env)).onRaise (fun x=>do noteFrame x (Ubs scope (Zhz X.env scope.names []) hp3.objs.size X.env); theTreesLotGoes x)) _ _ s'
  refine wpAny_noted ?_
  rw[compTurn_list,<- eEnv,<- ePr,<- eW,<- eA]
  refine Uao (E:=fun _ _=>False) ?_ (fun _ _ q=>q) (fun _ _ z=>z.elim)
  obtain⟨hpl,wt⟩:=turn i n ys H' w5
  refine Va (Ubn (Va ?_))
  rcases wt with ⟨stop,q⟩ | ⟨go,step⟩
  ·have z:=T.done X' ePr eW eK (by rw[<- hX']; exact hc) i [] s' _ H' (fun _ _=>False) I5 (stat fr5) st5 stop
   rw[<- ePr,<- eW] at z
   refine thn z fun r s6 zz=>?_
   obtain⟨hr,I6⟩:=zz
   subst hr
   obtain⟨J1,g1⟩:=back I6
   exact Vc (hRR _ _ H' s6 J1 g1 q)
  ·have z:=T.item X' ePr eW eK (by rw[<- hX']; exact hc) i [] s' _ H' (fun _ _=>False) I5 (stat fr5) st5 go
   rw[<- ePr,<- eW] at z
   refine thn z fun r s6 zz=>?_
   obtain⟨u,hr,h6⟩:=zz
   subst hr
   refine Va (thn h6 fun _ s7 zz=>?_)
   obtain⟨v,H7,I7,r7,y7,st7,fr7⟩:=zz
   have I7':=I7.pinned (stat fr7) (T.obj _ _ st7)
   rw[<- eXe]
   refine Va (thn (hg' _ s7 _ H7 v u _ I7' r7 (show Zlb 0 v (o::Zjt ci σ) H7 (fun σ8 H8=>σ8=some v::Zjt ci σ/\H8=H7) from⟨rfl,rfl⟩)) fun _ s8 zz=>?_)
   obtain⟨σ8,H8,I8,e8,e8'⟩:=zz
   subst e8 e8'
   refine Va (thn (ht' _ s8 _ _ _ I8 (step v _ y7)) fun b s9 zz=>?_)
   obtain⟨H9,I9,q9⟩:=zz
   have tnK:∀ {σ':L2.St} {H':Hp} {s':Vd},Inv X' (([]:List (Ve×Obj))++Zkq fp s7.heap) σ' H' s'->tn (i+1) s'.heap/\∀ b∈fp,H' b=none:=fun {σ' H' s'} I' =>
    ⟨T.keep _ _ _ st7 fun b hb o e=>(I'.pin (b,o) (Xs _ (Xs _ (Zdg hb e)))).1,fun b hb=>by
     obtain⟨ob,e,d⟩:=T.obj _ _ st7 b hb
     exact(I'.pin (b,ob) (Xs _ (Xs _ (Zdg hb e)))).2.1⟩
   cases b with
   | false =>
    obtain⟨m',hm,w9⟩:=q9
    obtain⟨t9,f9⟩:=tnK I9
    exact Vc ⟨rfl,m',hm,i+1,_,ys,H9,I9.unpinned,t9,f9,w9⟩
   | true =>
    refine Va (Va (thn (he' _ s9 _ _ _ I9 q9) fun yv s10 zz=>?_))
    obtain⟨y,H10,I10,r10,hp10,hz10,m',hm,w10⟩:=zz
    refine Va (thn (Zie (X:=X') _ s10 _ H10 (.ref s.heap.objs.size) [y] (.ref s.heap.objs.size) [yv] (fun _ H11=>H11=upd H10 s.heap.objs.size (.lst (ys++[y]))) I10 rfl (.cons r10 .nil) ⟨_,ys,y,rfl,rfl,hp10,hz10,rfl⟩) fun _ s11 zz=>?_)
    obtain⟨_,H11,I11,_,e11⟩:=zz
    subst e11
    obtain⟨t11,f11⟩:=tnK I11
    exact Vc (Vc ⟨rfl,m',hm,i+1,_,ys++[y],_,I11.unpinned,t11,f11,w10⟩)
 exact Uch loop (T.self _ 0 _ _ _ (T.keep _ _ _ st (fun b hb o e=>old4 b o (old3 b o e))) loop)
nonrec def tLC (wi:TI) (ci:List Nat) (tt:TT) (te:TE):TE:=fun σ H Q=>wi σ H fun J H1=>LcW J ci tt te σ Q H1
theorem pe_lc {elt iter:Vv} {px pos:Pos} {ifs:List Vv} {wi:TI} {tt:TT} {te:TE} (hc:X.calm=true) (B:BlkOk X scope x cn ci) (hi:PI X (.Name x px) iter wi)
  (ht:∀ cl C s H fp pn,PTs (blk X scope (x::cn) cl C s H fp pn) ifs tt) (he:∀ cl C s H fp pn,PE (blk X scope (x::cn) cl C s H fp pn) elt te)
  (hs:∀ x,Vx iter X.env x=pure x:=by rintro _; rfl):PE X (.ListComp elt [⟨.Name x px,iter,ifs,0⟩] scope pos) (tLC wi ci tt te):=by
 intro pins s σ H Q I h
 rw[eval_ListComp]
 refine Uay (use:=none) rfl hs (Zhd X.env scope B.free) B.kind B.names ?_
 refine thn (hi pins s σ H _ I h) fun v s1 h1=>thn h1 fun itv s2 h2=>?_
 obtain⟨it,fp,tn,J,H2,e,I2,T,st2,f2,w2⟩:=h2
 subst e
 refine Zo6 (RR:=fun acc C=>compPost (Vm X.prog X.w) X.A X.xe none (EP X pins σ Q) acc C) I2 hc B T st2 f2 ht he w2 fun p C H' s' I' g q=>?_
 obtain⟨m,hn⟩:=g.ns
 exact⟨m,hn,fun h' hs'=>⟨.ref p,H',g.go I' hs',rfl,q⟩⟩
theorem Zxk {elt iter:Vv} {px py pos spos:Pos} {ifs:List Vv} {wi:TI} {tt:TT} {te:TE} {i:Nat} {y:Str} (hc:X.calm=true) (B:BlkOk X scope x cn ci) (hi:PI X (.Name x px) iter wi)
  (ht:∀ cl C s H fp pn,PTs (blk X scope (x::cn) cl C s H fp pn) ifs tt) (he:∀ cl C s H fp pn,PE (blk X scope (x::cn) cl C s H fp pn) elt te)
  (hN:X.N.Nodup) (hiN:X.N[i]? = some y) (hy:X.env.scope.names.lookup y=some .local)
  (hsw:Ucl (.ListComp elt [⟨.Name x px,iter,ifs,0⟩] scope pos) (some (.Name y py)) spos.line X.env=pure true:=by rfl)
  (hs:∀ x,Vx iter X.env x=pure x:=by rintro _; rfl):PS X (.Assign [.Name y py] (.ListComp elt [⟨.Name x px,iter,ifs,0⟩] scope pos) spos) (tAsg (tLC wi ci tt te) (Zlb i)):=by
 intro pins s σ H E I h
 rw[exec_Assign_Name_used _ _ _ _ hsw]
 refine Va (Ubn (Va ?_))
 show Vf _ X.A (do let _<-comprehension (.ListComp elt [⟨.Name x px,iter,ifs,0⟩] scope pos) scope X.env _ (Uen []) false (eval iter X.env) (some (Udd (.Name y py) X.env))) _ _ s
 refine Va (Uao (Uay (use:=some (Udd (.Name y py) X.env)) (Q:=fun _ s'=>SP X pins E .next s') rfl hs (Zhd X.env scope B.free) B.kind B.names ?_) (fun _ s' hq=>Vc (Vc hq)) fun _ _ e=>e)
 refine thn (hi pins s σ H _ I h) fun v s1 h1=>thn h1 fun itv s2 h2=>?_
 obtain⟨it,fp,tn,J,H2,e,I2,T,st2,f2,w2⟩:=h2
 subst e
 refine Zo6 (RR:=fun acc C=>compPost (Vm X.prog X.w) X.A X.xe (some (Udd (.Name y py) X.env)) (fun _ s'=>SP X pins E .next s') acc C) I2 hc B T st2 f2 ht he w2 fun p C H' s' I' g q=>?_
 show Vf _ X.A (Udd (.Name y py) X.env (.ref p)) _ _ _
 have hk:X.env.kindOf y=some .local:=hy
 refine wpAny_assign_Name (Zji I' hN hiN (.inl hy) (v:=.ref p) (u:=.ref p) rfl (fun s'' I'' ch=>?_) (.inr hy))
 obtain⟨m,hn⟩:=g.ns
 obtain⟨a,hsb,ha⟩:=ch
 have haC:C≠a:=by
  rcases ha with ha | ha
  ·rw[ha]; exact g.nl
  ·exact Ul (g.nc y a ha)
 have hn2:s''.heap.Ns C m:=hn.sameBut hsb haC
 exact⟨m,hn2,fun h' hs'=>⟨_,H',Gone.go ⟨⟨m,hn2⟩,g.free,g.nl,g.up,g.nc,g.np⟩ I'' hs',q⟩⟩
end
nonrec def Zvn (ci:List Nat) (σd:SD):SD:=ci.map fun i=>(σd[i]?).join
open Classical in
nonrec def Zfa (own:Zg4) (c0:SD) (tt:TF) (te:EF):List D->HD->Option (List D×HD)
 | [],H=>if Zcd own H then some ([],H) else none
 | x::r,H=>if Zcd own H then (tt (some x::c0) H).bind fun t=>if t.1=true then (te (some x::c0) t.2).bind fun e=>(Zfa own c0 tt te r e.2).map fun q=>(e.1::q.1,q.2) else Zfa own c0 tt te r t.2 else none
nonrec def eLC (it:ItF) (ci:List Nat) (tt:TF) (te:EF):EF:=fun σ H=>(it σ H).bind fun p=>(Zfa p.1.2 (Zvn ci σ) tt te p.1.1 p.2).bind fun q=>mkL q.1 q.2
nonrec def Zv2:TF:=fun _ H=>some (true,H)
def Yc3 (X:Cx) (ifs:List Vv) (t:TF):Prop:=PTs X ifs (rdT X.K t)
section
variable {X:Cx} {scope:Ubm} {x:Str} {cn:List Str} {ci:List Nat}
theorem Zxh:Yc3 X [] Zv2:=by
 rintro pins s σ H Q I ⟨ι,σd,Hd,b,Hd',sr,hr,e,q⟩
 cases e
 exact Zy5 pins s σ H Q I (q H ι Le.refl hr)
theorem Zw2 {c:Vv} {t:TF} (h:PTf X c t):Yc3 X [c] t:=Zz8 h
theorem SRep.cap {K:Xb} {H:Hp} {ι:List Ve} {σ:L2.St} {σd:SD} {d:D} {v:V} (s:SRep K H ι σ σd) (r:Rep K H ι d v):SRep K H ι (some v::Zjt ci σ) (some d::Zvn ci σd):=by
 refine⟨by simp[Zjt,Zvn],fun i e h=>?_⟩
 cases i with
 | zero=>simp at h; subst h; exact⟨v,rfl,r⟩
 | succ j =>
  simp only[Wby,Zjt,Zvn,Xn] at h ⊢
  cases ej:ci[j]? with
  | none=>rw[ej] at h; simp at h
  | some i =>
   rw[ej] at h
   simp only[Wej,Xw.injEq] at h ⊢
   cases es:σd[i]? with
   | none=>rw[es] at h; simp at h
   | some o =>
    rw[es] at h
    simp at h
    subst h
    obtain⟨u,h1,h2⟩:=s.var i e es
    exact⟨u,by rw[h1]; rfl,h2⟩
theorem Yb2 {K:Xb} {it:ItF} {tt:TF} {te:EF} {σ:L2.St} {H:Hp} {Q:VK} (h:rdE K (eLC it ci tt te) σ H Q):tLC (rdI K it) ci (rdT K tt) (rdE K te) σ H Q:=by
 obtain⟨ι,σd,Hd,d,Hd',s,hr,e,q⟩:=h
 obtain⟨⟨⟨xs,own⟩,H1⟩,e1,e⟩:=Zo e
 obtain⟨⟨ds,H2⟩,e2,e⟩:=Zo e
 obtain⟨hz,e⟩:=Zlt e
 cases e
 dsimp only at e2 hz
 refine⟨ι,σd,Hd,xs,own,H1,s,hr,e1,fun J H0 ι0 l0 h0 itr p hp=>?_⟩
 have s0:=s.mono l0
 refine⟨fun i m ys H=>m=xs.length - i/\i<=xs.length/\H p=some (.lst ys)/\∃ ι Hd done rest,Le K H0 ι0 H ι/\p∉ι/\HRep K H ι Hd/\Vj (Rep K H ι) done ys/\Zfa own (Zvn ci σd) tt te (xs.drop i) Hd=some (rest,H2)/\ds=done++rest,
  ⟨xs.length,by simp,Wbg _,Zaq,ι0,H1,[],ds,Le.fresh hp _,h0.fresh hp,h0.tup hp _,.nil,by simpa using e2,by simp⟩,?_⟩
 rintro i m ys H5 ⟨rfl,hi,hpl,ι5,Hd5,done,rest,l5,np5,h5,pd5,e5,eds⟩
 refine⟨hpl,?_⟩
 by_cases hlt:i<xs.length
 ·have ed:xs.drop i=xs[i]::xs.drop (i+1):=Wao hlt
  rw[ed,Zfa] at e5
  split at e5
  ·rename_i ok
   obtain⟨⟨b6,H6⟩,e6,e5⟩:=Zo e5
   refine .inr ⟨itr.go i H5 ι5 Hd5 l5 h5 ok hlt,fun v H' y=>?_⟩
   obtain⟨ι6,l6,h6,r6⟩:=itr.yld i H5 ι5 Hd5 xs[i] v H' l5 h5 ok (by simp[hlt]) y
   obtain⟨hp6,np6⟩:=l6.frame p _ hpl np5
   have s6:=SRep.cap (ci:=ci) (s0.mono (l5.trans l6)) r6
   refine⟨ι6,_,Hd5,b6,H6,s6,h6,e6,fun H7 ι7 l7 h7=>?_⟩
   obtain⟨hp7,np7⟩:=l7.frame p _ hp6 np6
   have L7:=(l5.trans l6).trans l7
   cases b6 with
   | true =>
    rw[if_pos rfl]
    dsimp only at e5
    rw[if_pos rfl] at e5
    obtain⟨⟨d8,H8⟩,e8,e5⟩:=Zo e5
    obtain⟨⟨r9,H9⟩,e9,e5⟩:=Zm e5
    cases e5
    refine⟨ι7,_,H6,d8,H8,s6.mono l7,h7,e8,fun v8 H8' ι8 l8 h8 rr8=>?_⟩
    obtain⟨hp8,np8⟩:=l8.frame p _ hp7 np7
    have ly:ys.length<sizeLine:=by
     rw[<- Prd.len pd5]
     rw[eds] at hz
     simp at hz
     omega
    have w8:Lw K H8' ι8 (upd H8' p (.lst (ys++[v8]))) ι8:=Lw.side hp8 _
    refine⟨hp8,ly,xs.length - (i+1),by omega,rfl,hlt,Zaq,ι8,H8,done++[d8],r9,(L7.trans l8).side hp hp8 _,np8,h8.keep w8 (fun a ha=>Zag fun z=>by subst z; exact np8 ha),?_,e9,by rw[eds]; simp⟩
    exact Prd.append (Prd.monoW w8 (Prd.mono ((l6.trans l7).trans l8) pd5)) (.cons (Rep.monoW w8 rr8) .nil)
   | false =>
    rw[if_neg (by simp)]
    dsimp only at e5
    rw[if_neg (by simp)] at e5
    exact⟨xs.length - (i+1),by omega,rfl,hlt,hp7,ι7,H6,done,rest,L7,np7,h7,Prd.mono (l6.trans l7) pd5,e5,eds⟩
  ·cases e5
 ·rw[Wcu (by omega),Zfa] at e5
  split at e5
  ·rename_i ok
   have e6:(([]:List D),Hd5)=(rest,H2):=Xw.inj e5
   obtain⟨rfl,rfl⟩:=Wau.inj e6
   refine .inl ⟨itr.stop i H5 ι5 _ l5 h5 ok (by omega),?_⟩
   have w5:Lw K H5 ι5 H5 (ι5++[p]):=⟨fun _ _ z=>z,fun _ _ z=>z,⟨[p],rfl⟩,fun _ _ _ z=>z⟩
   have L:=l0.trans l5
   simp at eds
   subst eds
   refine q _ H5 (ι5++[p]) ⟨L.toLw.trans w5,fun a o ha na=>?_⟩ (h5.add np5 ⟨ys,hpl,Prd.monoW w5 pd5⟩) (Zaz.mpr ⟨p,rfl,by rw[<- h5.len]; simp⟩)
   obtain⟨q1,q2⟩:=L.frame a o ha na
   refine⟨q1,?_⟩
   have:a≠p:=fun z=>by
    subst z
    have:=(l0.frame a o ha na).1
    rw[hp] at this; cases this
   simp[q2,this]
  ·cases e5
theorem Zkh {elt iter:Vv} {px pos:Pos} {ifs:List Vv} {it:ItF} {tt:TF} {te:EF} (hc:X.calm=true) (B:BlkOk X scope x cn ci) (hi:PIf X (.Name x px) iter it)
  (ht:∀ cl C s H fp pn,Yc3 (blk X scope (x::cn) cl C s H fp pn) ifs tt) (he:∀ cl C s H fp pn,PEf (blk X scope (x::cn) cl C s H fp pn) elt te)
  (hs:∀ x,Vx iter X.env x=pure x:=by rintro _; rfl):PEf X (.ListComp elt [⟨.Name x px,iter,ifs,0⟩] scope pos) (eLC it ci tt te) :=
 PEi (pe_lc (tt:=rdT X.K tt) (te:=rdE X.K te) hc B hi ht he hs) fun _ _ _ h=>Yb2 h
theorem Zjj {elt iter:Vv} {px py pos spos:Pos} {ifs:List Vv} {it:ItF} {tt:TF} {te:EF} {i:Nat} {y:Str} (hc:X.calm=true) (B:BlkOk X scope x cn ci) (hi:PIf X (.Name x px) iter it)
  (ht:∀ cl C s H fp pn,Yc3 (blk X scope (x::cn) cl C s H fp pn) ifs tt) (he:∀ cl C s H fp pn,PEf (blk X scope (x::cn) cl C s H fp pn) elt te)
  (hN:X.N.Nodup) (hiN:X.N[i]? = some y) (hy:X.env.scope.names.lookup y=some .local)
  (hsw:Ucl (.ListComp elt [⟨.Name x px,iter,ifs,0⟩] scope pos) (some (.Name y py)) spos.line X.env=pure true:=by rfl)
  (hs:∀ x,Vx iter X.env x=pure x:=by rintro _; rfl):PSf X (.Assign [.Name y py] (.ListComp elt [⟨.Name x px,iter,ifs,0⟩] scope pos) spos) (Zbl i (eLC it ci tt te)):=by
 refine PSi (Zxk (tt:=rdT X.K tt) (te:=rdE X.K te) hc B hi ht he hN hiN hy hsw hs) fun E σ H zz=>?_
 obtain⟨ι,σd,Hd,fl,σd',Hd',s,hr,e,q⟩:=zz
 obtain⟨⟨x,H1⟩,e1,e⟩:=Zm e
 cases e
 exact Yb2 ⟨ι,σd,Hd,x,H1,s,hr,e1,fun v H' ι' l h r=>q _ H' ι' l h ((s.mono l).set r i)⟩
end
theorem Yas:fillsNumberSlot (.type "tuple") "mul" = pure false :=
 PySem.fillsNumberSlot_seq (id := "tuple.__mul__") (r:=some (.builtin "tuple.__rmul__")) Tak.lookup (by decide +kernel) F.slot_tuple_rmul.lookup (by decide +kernel)
theorem repT:seqRepeat? (.type "tuple")=pure (some (.builtin "tuple.__mul__")):=by
 unfold seqRepeat?
 rw[Tcm (T := "tuple") (name := "__mul__") (id := "tuple.__mul__") Tak.lookup (by decide +kernel),Tcm (T := "tuple") (name := "__rmul__") (id := "tuple.__rmul__") F.slot_tuple_rmul.lookup (by decide +kernel)]
 rfl
section
variable {dd:Option Ve} {sl:Array (Option Vb)}
theorem rmulT (a:Int) (t:Tok) (l:Ve) (items:Array Vb) (n:Nat) :
  Uek (Builtin.«int.__rmul__» ⟨[.int a t,.ref l],[]⟩) (fun _ R s=>s.heap.get? l=some { cls:=.type "tuple",dict:=dd,data:=.seq items n,slots:=sl }/\R (.ok (.ret Value.notImplemented)) s) :=
 .of_wp fun prog w A R s h=>by obtain⟨hp,g,d,tk,os⟩:=s; obtain⟨hl,h⟩:=h; wp_walk; exact⟨_,rfl,h⟩
theorem Zul (l:Ve) (items:Array Vb) (n:Nat) (x:Int) (u:Tok) (h1:(decide (x < -(2 ^ 63))||decide (x ≥ 2 ^ 63))=false) (h2:(items.isEmpty||x==1)=true) :
  Uek (Builtin.«tuple.__mul__» ⟨[.ref l,.int x u],[]⟩) (fun _ R s=>s.heap.get? l=some { cls:=.type "tuple",dict:=dd,data:=.seq items n,slots:=sl }/\R (.ok (.ret (.ref l))) s) :=
 .of_wp fun prog w A R s h=>by
  obtain⟨hp,g,d,tk,os⟩:=s; obtain⟨hl,h⟩:=h
  have f1:=Tbr
  wp_walk
  simp only[h1,Wam,if_false]
  wp_walk using Vo hl
  simp only[h2,if_true]
  wp_walk using Vo hl
  exact⟨_,rfl,h⟩
theorem Zs8 (l:Ve) (items:Array Vb) (n:Nat) (x:Int) (u:Tok) (h1:(decide (x < -(2 ^ 63))||decide (x ≥ 2 ^ 63))=false) (h2:(items.isEmpty||x==1)=false) (h3:(decide (x<=0)||items.isEmpty)=true) :
  Uek (Builtin.«tuple.__mul__» ⟨[.ref l,.int x u],[]⟩) (fun _ R s=>s.heap.get? l=some { cls:=.type "tuple",dict:=dd,data:=.seq items n,slots:=sl }/\R (.ok (.ret (.ref s.heap.objs.size))) { s with heap:=s.heap.push { cls:=Tbn "tuple",data:=Data.seq #[] } }) :=
 .of_wp fun prog w A R s h=>by
  obtain⟨hp,g,d,tk,os⟩:=s; obtain⟨hl,h⟩:=h
  have f1:=Tbr
  wp_walk
  simp only[h1,Wam,if_false]
  wp_walk using Vo hl
  try simp only[h2,h3,Wam,if_false,if_true]
  try (wp_walk using Vo hl)
  exact⟨_,rfl,h⟩
theorem Zv7 (l:Ve) (items:Array Vb) (n:Nat) (x:Int) (u:Tok) (h1:(decide (x < -(2 ^ 63))||decide (x ≥ 2 ^ 63))=false) (h2:(items.isEmpty||x==1)=false) (h3:(decide (x<=0)||items.isEmpty)=false) (h4:¬ (items.size*x:Int) > (2 ^ 63 - 1) / 8) (h5:Tbi (items.size*x)=false)
  (hs:(Wdz (fun x1 x2=>x1++x2) #[] (Xq x.toNat items)).size<=sizeLine) :
  Uek (Builtin.«tuple.__mul__» ⟨[.ref l,.int x u],[]⟩) (fun _ R s=>s.heap.get? l=some { cls:=.type "tuple",dict:=dd,data:=.seq items n,slots:=sl }/\R (.ok (.ret (.ref s.heap.objs.size))) { s with heap:=s.heap.push { cls:=Tbn "tuple",data:=Data.seq (Wdz (fun x1 x2=>x1++x2) #[] (Xq x.toNat items)) } }) :=
 .of_wp fun prog w A R s h=>by
  obtain⟨hp,g,d,tk,os⟩:=s; obtain⟨hl,h⟩:=h
  have f1:=Tbr
  wp_walk
  simp only[h1,Wam,if_false]
  wp_walk using Vo hl
  simp only[h2,h3,h5,Wam,if_false,if_neg h4]
  wp_walk using Vo hl
  exact⟨_,rfl,h⟩
end
theorem Zku (its:List Vb) (m:Nat):Wdz (fun x1 x2=>x1++x2) #[] (Xq m its.toArray)=(Xq m its).flatten.toArray:=by
 have:=Zic its m []
 rw[Wcq] at this
 exact this
section
variable {prog:Vh} {w:Vu} {A:Vt} {E:Vb->Vd->Prop} {s:Vd}
theorem Yat {l:Ve} {its:List Vb} {k:Int} {t:Tok} {Q:Vb->Vd->Prop} (p:Uem s.heap l its.toArray) (h1 : -(2 ^ 63)<=k) (h2:k<2 ^ 63) (hz:its.length*k.toNat<=sizeLine)
  (qs:(its=[]\/k=1)->Q (.ref l) s) (qn:its≠[]->k≠1->Q (.ref s.heap.objs.size) { s with heap:=s.heap.push { cls:=.type "tuple",data:=.seq (Xq k.toNat its).flatten.toArray } }) :
  Vf (Vm prog w) A (Vy .Mult (.ref l) (.int k t)) Q E s:=by
 obtain⟨o,e,hc,n,hd⟩:=p
 obtain⟨c,dd,da,sl⟩:=o
 have hc':c=.type "tuple" := hc
 have hd':da=.seq its.toArray n:=hd
 subst hc' hd'
 have b1:(decide (k < -(2 ^ 63))||decide (k ≥ 2 ^ 63))=false:=by simp; omega
 refine Ubu (T := "tuple") (U := "int") (by decide) ⟨_,e,rfl⟩ (fun s'=>Ucv s' k t) Yas F.fills_int_mul Tba repT F.slot_int_index.lookup
  (Ubo Tba (Ucv s k t) F.entry_int_rmul (Tci _ _) (rmulT k t l its.toArray n) ⟨e,rfl,⟨_,e,rfl⟩,?_⟩)
 by_cases hs:its=[]\/k=1
 ·exact Ubo Tak ⟨_,e,rfl⟩ Tbo (Tbk _ _) (Zul l its.toArray n k t b1 (by rcases hs with h | h<;>simp[h])) ⟨e,qs hs⟩
 ·have hne:its≠[]:=fun h=>hs (.inl h)
  have hk:k≠1:=fun h=>hs (.inr h)
  have b2:(its.toArray.isEmpty||k==1)=false:=by cases its<;>simp_all
  have new:=qn hne hk
  by_cases h0:k<=0
  ·have z:k.toNat=0:=by omega
   rw[z] at new
   exact Ubo Tak ⟨_,e,rfl⟩ Tbo (Tbk _ _) (Zs8 l its.toArray n k t b1 b2 (by simp[h0])) ⟨e,new⟩
  ·have sz:sizeLine=16777216:=Uw
   have hm:(its.toArray.size:Int)*k<=16777216:=by
    have e1:k=(k.toNat:Int):=by omega
    rw[Xm,e1,<- Int.natCast_mul]
    omega
   have b3:(decide (k<=0)||its.toArray.isEmpty)=false:=by cases its<;>simp_all
   refine Ubo Tak ⟨_,e,rfl⟩ Tbo (Tbk _ _) (Zv7 l its.toArray n k t b1 b2 b3 (by omega) (by simp only[Tbi,decide_eq_false_iff_not,sz]; omega) ?_) ⟨e,?_⟩
   ·rw[Zku,Xm,Zn8,Wfk]; exact hz
   ·rw[Zku]; exact new
end
variable {X:Cx}
nonrec def rRepT (K:Xb):R2:=fun x y H Q=>∃ l k xs,x=.ref l/\y=.int k/\SqT K H l xs /\ -(2 ^ 63)<=k/\k<2 ^ 63/\xs.length*k.toNat<=sizeLine/\((xs=[]\/k=1)->Q (.ref l) H) /\
 (xs≠[]->k≠1->∀ p,H p=none->Q (.ref p) (upd H p (.tup (Xq k.toNat xs).flatten)))
theorem Yae:OpR X (Vy .Mult) (rRepT X.K):=by
 intro pins s σ H x y v u Q I rx ry h
 obtain⟨l,k,xs,rfl,rfl,ha,h1,h2,hz,q1,q2⟩:=h
 cases rx
 obtain⟨t,rfl⟩:=ry
 obtain⟨its,r1,p1,_⟩:=I.tuple ha
 refine Yat p1 h1 h2 (by rw[<- r1.length]; exact hz) (fun z=>⟨.ref l,H,I,rfl,q1 (z.imp r1.nil_iff.mp id)⟩) (fun z zk=>?_)
 refine⟨.ref s.heap.objs.size,_,I.laid (t':=s.toks) (o:=.tup (Xq k.toNat xs).flatten) (fun b ob q=>Xa _ q) (Xe _) ?_,rfl,q2 (fun w=>z (r1.nil_iff.mpr w)) zk _ (I.hok.fresh (Xe _))⟩
 exact⟨by rw[Zn8,Wfk]; exact hz,_,r1.rep k.toNat,Zkw.new _ _⟩
section
variable {X:Cx}
nonrec def iiD (C:Int->Int->Prop) [∀ i j,Decidable (C i j)] (g:Int->Int->D):F2:=fun x y H=>match x,y with
 | .int i,.int j=>if C i j then some (g i j,H) else none
 | _,_=>none
theorem Zpk {f:Vb->Vb->Sem Vb} {C:Int->Int->Prop} [∀ i j,Decidable (C i j)] {g:Int->Int->Int} (h:OpR X f (rI C fun i j=>.int (g i j))):OpF X f (iiD C fun i j=>.int (g i j)):=by
 refine OpRi h fun x y H Q zz=>?_
 obtain⟨ι,dx,dy,Hd,d,Hd',hr,r1,r2,e,q⟩:=zz
 cases dx<;>cases dy<;>simp only[iiD] at e<;>try cases e
 rename_i i j
 split at e
 ·rename_i hc
  cases e
  simp at r1 r2
  exact⟨i,j,r1,r2,hc,q _ H ι Le.refl hr (by simp)⟩
 ·cases e
def CT (_ _:Int):Prop:=True
instance:∀ i j,Decidable (CT i j):=fun _ _=>instDecidableTrue
theorem Ydx {f:Vb->Vb->Sem Vb} {g:Int->Int->V} (h:OpR X f (rI0 g)):OpR X f (rI CT g):=OpRi h fun x y H Q ⟨i,j,e1,e2,_,q⟩=>⟨i,j,e1,e2,q⟩
theorem Zpp {f:Vb->Vb->Sem Vb} {g:Int->Int->Bool} (h:OpR X f (rI0 fun i j=>.bl (g i j))):OpF X f (iiD CT fun i j=>.bl (g i j)):=by
 refine OpRi h fun x y H Q zz=>?_
 obtain⟨ι,dx,dy,Hd,d,Hd',hr,r1,r2,e,q⟩:=zz
 cases dx<;>cases dy<;>simp only[iiD] at e<;>try cases e
 rename_i i j
 simp at r1 r2
 exact⟨i,j,r1,r2,q _ H ι Le.refl hr (by simp)⟩
instance (i j:Int):Decidable (Ydo i j):=by unfold Ydo; exact inferInstance
instance (i j:Int):Decidable (Zx4 i j):=by unfold Zx4; exact inferInstance
instance (i j:Int):Decidable (Ycr i j):=by unfold Ycr; exact inferInstance
def Yck (_ j:Int):Prop:=0<j
instance (i j:Int):Decidable (Yck i j):=by unfold Yck; exact inferInstance
nonrec def Zn4:F2:=iiD CT fun i j=>.int (i - j)
nonrec def Zrk:F2:=iiD Ydo fun i j=>.int (i / j)
nonrec def Zg5:F2:=iiD Yck fun i j=>.int (i % j)
nonrec def Ya8:F2:=iiD Ycr fun i j=>.int (i ^ j.toNat)
nonrec def ltD:F2:=iiD CT fun i j=>.bl (decide (i<j))
nonrec def leD:F2:=iiD CT fun i j=>.bl (decide (i<=j))
nonrec def gtD:F2:=iiD CT fun i j=>.bl (decide (j<i))
nonrec def geD:F2:=iiD CT fun i j=>.bl (decide (j<=i))
theorem Zhk:OpF X (Vy .Sub) Zn4:=Zpk (Ydx Ybt)
theorem Zlw:OpF X (Vy .FloorDiv) Zrk:=Zpk Zzh
theorem Zfk:OpF X (Vy .Mod) Zg5:=Zpk (C:=Yck) Ydm
theorem Zoh:OpF X (Vy .Pow) Ya8:=Zpk Ycm
theorem Zuh:OpF X (Vr .Lt) ltD:=Zpp op_lt
theorem Zu1:OpF X (Vr .LtE) leD:=Zpp op_le
theorem Ziv:OpF X (Vr .Gt) gtD:=Zpp op_gt
theorem Ydn:OpF X (Vr .GtE) geD:=Zpp op_ge
nonrec def Zky:D->HD->Option (D×HD):=fun x H=>match x with
 | .int i=>some (.int (-i),H)
 | _=>none
theorem Zda:UnF X (unaryOp .USub) Zky:=by
 rintro pins s σ H x v Q I rx ⟨ι,dx,Hd,d,Hd',hr,r1,e,q⟩
 cases dx<;>simp only[Zky] at e<;>try cases e
 simp at r1
 exact Yec pins s σ H x v Q I rx ⟨_,r1,q _ H ι Le.refl hr (by simp)⟩
theorem Zw5 {prog:Vh} {w:Vu} {A:Vt} {E:Vb->Vd->Prop} {s:Vd} {t b:Ve} {ws:List Vb} {Q:Vb->Vd->Prop} (ht:Uem s.heap t #[]) (hb:Uem s.heap b ws.toArray)
  (h1:Q (.ref b) s):Vf (Vm prog w) A (Vy .Add (.ref t) (.ref b)) Q E s:=by
 obtain⟨⟨cls,dd,data,sl⟩,ho,hc,n,hd⟩:=id ht
 obtain⟨⟨cls2,dd2,data2,sl2⟩,ho2,hc2,n2,hd2⟩:=id hb
 simp only at hc hd hc2 hd2
 subst hc hd hc2 hd2
 exact Udx ⟨_,ho,rfl⟩ ⟨_,ho2,rfl⟩ Ucc Udo Taq Tao (Tal _ _)
   (tuple_addW0 t b #[] ws.toArray n n2 dd dd2 sl sl2 (by simp)) ⟨ho,ho2,h1⟩
nonrec def Zcu:F2:=fun x y H=>match x,y with
 | .int i,.int j=>some (.int (i+j),H)
 | .str a,.str b=>if a.length+b.length<=sizeLine then some (.str (a++b),H) else none
 | .tup a,.tup b=>mkT (a++b) H
 | .ref n,.ref m=>match H[n]?,H[m]? with
  | some (.lst a),some (.lst b)=>mkL (a++b) H
  | _,_=>none
 | _,_=>none
theorem Zbj:OpF X (Vy .Add) Zcu:=by
 rintro pins s σ H x y v u Q I rx ry ⟨ι,dx,dy,Hd,d,Hd',hr,r1,r2,e,q⟩
 cases dx<;>cases dy<;>simp only[Zcu] at e<;>try cases e
 ·simp at r1 r2
  exact Ych pins s σ H x y v u Q I rx ry ⟨_,_,r1,r2,q _ H ι Le.refl hr (by simp)⟩
 ·simp at r1 r2
  split at e
  ·rename_i hl
   cases e
   exact Zqs pins s σ H x y v u Q I rx ry ⟨_,_,r1,r2,hl,q _ H ι Le.refl hr (by simp)⟩
  ·cases e
 ·rename_i as bs
  obtain⟨a,vs,rfl,h1,p1⟩:=Zbc.mp r1
  obtain⟨b,ws,rfl,h2,p2⟩:=Zbc.mp r2
  cases p1 with
  | nil =>
   obtain⟨hl,e⟩:=Zh5 e
   simp only[Wcq,Wau.injEq] at e
   obtain⟨rfl,rfl⟩:=e
   cases rx
   cases ry
   obtain⟨its,q1,t1,_⟩:=I.tuple h1
   obtain⟨its2,q2,t2,_⟩:=I.tuple h2
   cases q1
   exact Zw5 t1 t2 ⟨.ref b,H,I,rfl,q _ H ι Le.refl hr r2⟩
  | cons p p' =>
   have P:=Prd.append (.cons p p') p2
   obtain⟨hl,e'⟩:=Zh5 e
   cases p2 with
   | nil =>
    simp only[Wad,Wau.injEq] at e'
    obtain⟨rfl,rfl⟩:=e'
    refine Ztq pins s σ H _ _ v u Q I rx ry ⟨a,b,_,_,rfl,rfl,h1,h2,by simp,?_,fun _=>q _ H ι Le.refl hr r1,fun z=>absurd rfl z⟩
    have:=Prd.len P
    simp only[Wad] at this hl
    simp only[Wcf]
    omega
   | cons p3 p4 =>
    obtain⟨k1,k2⟩:=Zjl hr P e q
    refine Ztq pins s σ H _ _ v u Q I rx ry ⟨a,b,_,_,rfl,rfl,h1,h2,by simp,?_,fun z=>absurd z (by simp),fun _=>k2⟩
    rw[<- Xp]; exact k1
 ·rename_i n m
  obtain⟨a,rfl,ha⟩:=Zaz.mp r1
  obtain⟨b,rfl,hb⟩:=Zaz.mp r2
  split at e
  ·rename_i as bs e1 e2
   obtain⟨vs,h1,p1⟩:=hr.obj n a _ ha e1
   obtain⟨ws,h2,p2⟩:=hr.obj m b _ hb e2
   obtain⟨k1,k2⟩:=Zge hr (Prd.append p1 p2) e q
   exact Yc7 pins s σ H _ _ v u Q I rx ry ⟨a,b,vs,ws,rfl,rfl,h1,h2,by rw[<- Xp]; exact k1,k2⟩
  ·cases e
nonrec def Zra:F2:=fun x y H=>match x,y with
 | .int i,.int j=>if Zx4 i j then some (.int (i*j),H) else none
 | .ref n,.int k=>match H[n]? with
  | some (.lst a)=>if -(2 ^ 63)<=k/\k<2 ^ 63/\a.length*k.toNat<=sizeLine then mkL (Xq k.toNat a).flatten H else none
  | _=>none
 | .tup a,.int k=>if -(2 ^ 63)<=k/\k<2 ^ 63/\a.length*k.toNat<=sizeLine then mkT (Xq k.toNat a).flatten H else none
 | _,_=>none
theorem Zin:OpF X (Vy .Mult) Zra:=by
 rintro pins s σ H x y v u Q I rx ry ⟨ι,dx,dy,Hd,d,Hd',hr,r1,r2,e,q⟩
 cases dx<;>cases dy<;>simp only[Zra] at e<;>try cases e
 ·simp at r1 r2
  split at e
  ·rename_i hc
   cases e
   exact Ycf pins s σ H x y v u Q I rx ry ⟨_,_,r1,r2,hc,q _ H ι Le.refl hr (by simp)⟩
  ·cases e
 ·rename_i as k
  obtain⟨a,vs,rfl,h1,p1⟩:=Zbc.mp r1
  simp at r2
  split at e
  ·rename_i hc
   have hlen:=Prd.len p1
   obtain⟨k1,k2⟩:=Zjl hr (Prd.rep p1 k.toNat) e q
   refine Yae pins s σ H _ _ v u Q I rx ry ⟨a,k,vs,rfl,r2,h1,hc.1,hc.2.1,by rw[<- hlen]; exact hc.2.2,fun z=>?_,fun _ _=>k2⟩
   obtain⟨_,e'⟩:=Zh5 e
   have hf:(Xq k.toNat as).flatten=as:=by
    rcases z with z | z
    ·have:as=[]:=List.eq_nil_of_length_eq_zero (by rw[hlen,z]; rfl)
     subst this
     simp
    ·subst z
     simp
   rw[hf] at e'
   cases e'
   exact q _ H ι Le.refl hr r1
  ·cases e
 ·rename_i n k
  obtain⟨a,rfl,ha⟩:=Zaz.mp r1
  simp at r2
  split at e
  ·rename_i as e1
   obtain⟨vs,h1,p1⟩:=hr.obj n a _ ha e1
   split at e
   ·rename_i hc
    obtain⟨k1,k2⟩:=Zge hr (Prd.rep p1 _) e q
    exact Ycn pins s σ H _ _ v u Q I rx ry ⟨a,k,vs,rfl,r2,h1,hc.1,hc.2.1,by rw[<- Prd.len p1]; exact hc.2.2,k2⟩
   ·cases e
  ·cases e
nonrec def Zmf:D->HD->Option (List D)
 | .tup xs,_=>some xs
 | .fl xs,_=>some xs
 | .ref n,H=>match H[n]? with
  | some (.lst xs)=>some xs
  | _=>none
 | _,_=>none
theorem Znp {K:Xb} {H:Hp} {ι:List Ve} {Hd:HD} {d:D} {xs:List D} {v:V} (hr:HRep K H ι Hd) (r:Rep K H ι d v) (e:Zmf d Hd=some xs):∃ p vs,v=.ref p/\(SqL K H p vs\/SqT K H p vs)/\Vj (Rep K H ι) xs vs:=by
 cases d with
 | tup ys=>cases e; obtain⟨a,vs,rfl,h,p⟩:=Zbc.mp r; exact⟨a,vs,rfl,.inr h,p⟩
 | fl ys=>cases e; obtain⟨a,vs,rfl,h,p⟩:=Zg0.mp r; exact⟨a,vs,rfl,.inl h.sq,p⟩
 | ref n =>
  obtain⟨a,rfl,ha⟩:=Zaz.mp r
  simp only[Zmf] at e
  split at e
  ·rename_i ys e1
   cases e
   obtain⟨vs,h1,p1⟩:=hr.obj n a _ ha e1
   exact⟨a,vs,rfl,.inl (SqL.of h1),p1⟩
  ·cases e
 | _=>simp[Zmf] at e
theorem Zzz {α β:Type} {F:α->β->Prop} {xs:List α} {us:List β} {i:Int} {x:α} (r:Vj F xs us) (h:atI xs i=some x):∃ u,atI us i=some u/\F x u:=by
 unfold atI at h ⊢
 rw[<- Prd.len r]
 obtain⟨j,h1,h2⟩:=Zo h
 obtain⟨u,h3,h4⟩:=Prd.get r h2
 exact⟨u,by rw[h1]; exact h3,h4⟩
nonrec def ixD:F2:=fun x y H=>match y with
 | .int i=>(Zmf x H).bind fun xs=>(atI xs i).map fun d=>(d,H)
 | _=>none
theorem ixf:IxF X ixD:=by
 rintro va sl pins s σ H x y v u Q I rx ry ⟨ι,dx,dy,Hd,d,Hd',hr,r1,r2,e,q⟩ hs
 cases dy<;>simp only[ixD] at e<;>try cases e
 rename_i i
 simp at r2
 obtain⟨xs,e1,e⟩:=Zo e
 obtain⟨d',e2,e⟩:=Zm e
 obtain⟨rfl,rfl⟩:=Wau.inj e
 obtain⟨p,vs,rfl,h,P⟩:=Znp hr r1 e1
 obtain⟨z,hz,rz⟩:=Zzz P e2
 rcases h with h | h
 ·exact Zyy va sl pins s σ H _ _ v u Q I rx ry ⟨p,vs,i,z,rfl,r2,h,hz,q _ H ι Le.refl hr rz⟩ hs
 ·exact Ycw va sl pins s σ H _ _ v u Q I rx ry ⟨p,vs,i,z,rfl,r2,h,hz,q _ H ι Le.refl hr rz⟩ hs
nonrec def Zn5 (xs:List D) (lo hi:Option Int):List D:=(xs.drop (HT.sIx xs.length 0 lo)).take (HT.sIx xs.length xs.length hi - HT.sIx xs.length 0 lo)
theorem Zlp {K:Xb} {H:Hp} {ι:List Ve} {xs:List D} {vs:List V} (P:Vj (Rep K H ι) xs vs) (lo hi:Option Int):Vj (Rep K H ι) (Zn5 xs lo hi) (Zx0 vs lo hi):=by
 unfold Zn5 Zx0
 rw[<- Prd.len P]
 exact Prd.take _ (Prd.drop _ P)
nonrec abbrev OF:=SD->HD->Option (Option Int×HD)
nonrec def rdO (K:Xb) (f:OF):TO:=fun σ H Q=>∃ ι σd Hd o Hd',SRep K H ι σ σd/\HRep K H ι Hd/\f σd Hd=some (o,Hd')/\∀ H' ι',Le K H ι H' ι'->HRep K H' ι' Hd'->Q o H'
def POf (X:Cx) (e:Option Vv) (f:OF):Prop:=PO X e (rdO X.K f)
nonrec def Zj4:OF:=fun _ H=>some (none,H)
nonrec def Zio (f:EF):OF:=fun σ H=>(f σ H).bind fun p=>match p.1 with
 | .int i=>some (some i,p.2)
 | _=>none
theorem Zgv:POf X none Zj4:=by
 rintro pins s σ H Q I ⟨ι,σd,Hd,o,Hd',sr,hr,e,q⟩
 cases e
 exact Zze pins s σ H Q I (q H ι Le.refl hr)
theorem Zgo {e:Vv} {f:EF} (h:PEf X e f):POf X (some e) (Zio f):=by
 rintro pins s σ H Q I ⟨ι,σd,Hd,o,Hd',sr,hr,e,q⟩
 obtain⟨⟨d,H1⟩,e1,e⟩:=Zo e
 cases d<;>try cases e
 rename_i i
 exact Zy9 h pins s σ H Q I ⟨ι,σd,Hd,_,_,sr,hr,e1,fun v H' ι' l h r=>⟨i,by simpa using r,q H' ι' l h⟩⟩
nonrec def slD (x:D) (lo hi:Option Int) (H:HD):Option (D×HD):=match x with
 | .tup xs=>some (.tup (Zn5 xs lo hi),H)
 | .fl xs=>some (.ref H.length,H++[.lst (Zn5 xs lo hi)])
 | .ref n=>match H[n]? with
  | some (.lst xs)=>some (.ref H.length,H++[.lst (Zn5 xs lo hi)])
  | _=>none
 | _=>none
theorem Zgb {prog:Vh} {w:Vu} {A:Vt} {E:Vb->Vd->Prop} {s:Vd} {t sl:Ve} {items:Array Vb} {vl vu:Vb} {lo hi:Option Int} {Q:Vb->Vd->Prop} (ht:Uem s.heap t items) (hs:s.heap.IsSliceOf sl vl vu .none) (pl:Udp vl lo) (pu:Udp vu hi)
  (hw:HT.sIx items.size 0 lo=0/\HT.sIx items.size items.size hi=items.size) (h:Q (.ref t) s):Vf (Vm prog w) A (Udk (.ref t) (.ref sl)) Q E s:=by
 obtain⟨os,hos,hcs,hds⟩:=id hs
 have hTs:s.TypeIs (.ref sl) "slice" := ⟨os,hos,hcs⟩
 obtain⟨ot,hot,hct,nt,hdt⟩:=id ht
 unfold Udk
 try with_reducible refine Vw ?_
 first | refine Va (Vc ?_) | skip
 refine Va (wpAny_sequenceKey ht.typeIs (by decide) ?_)
 refine Va (Vi (name:=Ua "__getitem__") ht.typeIs Uf
  (Vp Uf ht.typeIs entry_tuple_getitem ?_ (args_tuple_getitem _ _)))
 show Vf _ _ (Tbh (.ref t) >>= _) _ _ s
 refine Va (tupleItemsOf_ ht ?_)
 refine Va (Ucp hTs ?_)
 rw[if_pos (by decide)]
 refine Va (HT.sliceApplied_gen hs pl pu ?_)
 show Vf _ _ (if (((HT.sIx items.size 0 lo:Nat):Int)==0&&(1:Int)==1&&(HT.sIx items.size items.size hi - HT.sIx items.size 0 lo)==items.size)=true then _ else _) _ _ s
 rw[if_pos (by rw[hw.1,hw.2]; simp)]
 show Vf _ _ (Tbj (Uu t) >>= _) _ _ s
 unfold Tbj
 refine Va (Va (Ucp ht.typeIs (Vc ?_)))
 rw[if_pos (by decide)]
 exact Va (Ubi (Vc ⟨_,rfl,Vc h⟩))
theorem Zro {xs:List D} {lo hi:Option Int} (h:HT.sIx xs.length 0 lo=0/\HT.sIx xs.length xs.length hi=xs.length):Zn5 xs lo hi=xs:=by
 unfold Zn5
 rw[h.1,h.2]; simp
nonrec def rdSl (K:Xb):V->Option Int->Option Int->Hp->VK->Prop:=fun x lo hi H Q=>∃ ι dx Hd d Hd',HRep K H ι Hd/\Rep K H ι dx x/\slD dx lo hi Hd=some (d,Hd')/\QE K H ι d Hd' Q
theorem slf:SlR X (rdSl X.K):=by
 rintro pins s σ H x v vl vu lo hi sl Q I rx hs pl pu ⟨ι,dx,Hd,d,Hd',hr,r,e,q⟩
 have lists:∀ {a:Ve} {xs:List D} {vs:List V},x=.ref a->SqL X.K H a vs->Vj (Rep X.K H ι) xs vs->(D.ref Hd.length,Hd++[DO.lst (Zn5 xs lo hi)])=(d,Hd') ->
   ∃ T id,typeLookup (.type T) "__getitem__" = pure (some (.builtin id))/\s.TypeIs v T/\Vf (Vm X.prog X.w) X.A (Udk v (.ref sl)) (EP X pins σ Q) X.xe s:=fun {a xs vs} ex h P e=>by
  obtain⟨_,_,_,hz⟩:=I.list h
  have hz2:(Zn5 xs lo hi).length<=sizeLine:=by
   rw[Prd.len (Zlp P lo hi)]
   exact Wac (Zei vs lo hi) hz
  obtain⟨k1,k2⟩:=Zge hr (Zlp P lo hi) (show mkL (Zn5 xs lo hi) Hd=some (d,Hd') by unfold mkL; rw[if_pos hz2,e]) q
  exact Zzv pins s σ H x v vl vu lo hi sl Q I rx hs pl pu ⟨a,vs,ex,h,k2⟩
 cases dx with
 | tup xs =>
  obtain⟨a,vs,rfl,h,P⟩:=Zbc.mp r
  simp only[slD,Xw.injEq] at e
  obtain⟨its,rv,ht,hz⟩:=I.tuple h
  have hlen:its.toArray.size=vs.length:=by rw[Xm]; exact rv.length.symm
  by_cases hw:HT.sIx vs.length 0 lo=0/\HT.sIx vs.length vs.length hi=vs.length
  ·cases rx
   refine⟨"tuple",_,Uf.lookup,ht.typeIs,Zgb ht hs pl pu (by rw[hlen]; exact hw) ?_⟩
   rw[Zro (by rw[Prd.len P]; exact hw)] at e
   obtain⟨rfl,rfl⟩:=Wau.inj e
   exact⟨.ref a,H,I,rfl,q _ H ι Le.refl hr r⟩
  ·have hz2:(Zn5 xs lo hi).length<=sizeLine:=by
    rw[Prd.len (Zlp P lo hi)]
    exact Wac (Zei vs lo hi) hz
   obtain⟨k1,k2⟩:=Zjl hr (Zlp P lo hi) (show mkT (Zn5 xs lo hi) Hd=some (d,Hd') by unfold mkT; rw[if_pos hz2,e]) q
   exact Yd3 pins s σ H _ v vl vu lo hi sl Q I rx hs pl pu ⟨a,vs,rfl,h,hw,k2⟩
 | fl xs =>
  obtain⟨a,vs,rfl,h,P⟩:=Zg0.mp r
  simp only[slD,Xw.injEq] at e
  exact lists rfl h.sq P e
 | ref n =>
  obtain⟨a,rfl,ha⟩:=Zaz.mp r
  simp only[slD] at e
  split at e
  ·rename_i xs e1
   obtain⟨vs,h1,P⟩:=hr.obj n a _ ha e1
   exact lists rfl (SqL.of h1) P (Xw.inj e)
  ·cases e
 | _=>simp[slD] at e
nonrec def eSl (fe:EF) (fl fh:OF):EF:=fun σ H=>(fe σ H).bind fun p=>(fl σ p.2).bind fun l=>(fh σ l.2).bind fun h=>slD p.1 l.1 h.1 h.2
theorem Ze7 {e:Vv} {lo hi:Option Vv} {fe:EF} {fl fh:OF} {pos p2:Pos} (he:PEf X e fe) (hl:POf X lo fl) (hu:POf X hi fh):PEf X (.Subscript e (.Slice lo hi none p2) pos) (eSl fe fl fh):=by
 refine PEi (Zwe slf he hl hu) fun σ H Q zz=>?_
 obtain⟨ι,σd,Hd,d,Hd',s,hr,e,q⟩:=zz
 obtain⟨⟨x,H1⟩,e1,e⟩:=Zo e
 obtain⟨⟨y,H2⟩,e2,e⟩:=Zo e
 obtain⟨⟨z,H3⟩,e3,e⟩:=Zo e
 exact⟨ι,σd,Hd,x,H1,s,hr,e1,fun v1 H1' ι1 l1 h1 r1=>⟨ι1,σd,H1,y,H2,s.mono l1,h1,e2,fun H2' ι2 l2 h2=>⟨ι2,σd,H2,z,H3,s.mono (l1.trans l2),h2,e3,fun H3' ι3 l3 h3 =>
  ⟨ι3,x,H3,d,Hd',h3,r1.mono (l2.trans l3),e,fun v H' ι' l h r=>q v H' ι' (((l1.trans l2).trans l3).trans l) h r⟩⟩⟩⟩
nonrec def Zev:FF:=fun ds H=>match ds with
 | [.str x]=>if x.length<=sizeLine then some (.int x.length,H) else none
 | [d]=>(Zmf d H).map fun xs=>(.int xs.length,H)
 | _=>none
theorem Zl6 {K:Xb} {H:Hp} {ι:List Ve} {d:D} {vs:List V} (P:Vj (Rep K H ι) [d] vs):∃ v,vs=[v]/\Rep K H ι d v:=by
 cases P with
 | cons r t=>cases t; exact⟨_,rfl,r⟩
theorem Ydc {K:Xb} {H:Hp} {ι:List Ve} {d d':D} {vs:List V} (P:Vj (Rep K H ι) [d,d'] vs):∃ v v',vs=[v,v']/\Rep K H ι d v/\Rep K H ι d' v':=by
 cases P with
 | cons r t=>obtain⟨v,rfl,r'⟩:=Zl6 t; exact⟨_,_,rfl,r,r'⟩
theorem Zi0:Zhw X (.builtin "len") Zev:=by
 rintro pins s σ H xs us Q I rv ⟨ι,ds,Hd,d,Hd',hr,P,e,q⟩
 unfold Zev at e
 split at e
 ·obtain⟨v,rfl,r⟩:=Zl6 P
  simp at r
  subst r
  split at e
  ·rename_i hl
   cases e
   exact Zm0 pins s σ H _ us Q I rv ⟨_,rfl,hl,q _ H ι Le.refl hr (by simp)⟩
  ·cases e
 ·obtain⟨v,rfl,r⟩:=Zl6 P
  obtain⟨ys,e1,e⟩:=Zm e
  obtain⟨rfl,rfl⟩:=Wau.inj e
  obtain⟨p,vs,rfl,h,P2⟩:=Znp hr r e1
  exact Zm4 pins s σ H _ us Q I rv ⟨p,vs,rfl,h,q _ H ι Le.refl hr (by simp[Prd.len P2])⟩
 ·cases e
nonrec def Zw4:FF:=fun ds H=>match ds with
 | [.int i]=>some (.int (if i<0 then -i else i),H)
 | _=>none
theorem Zu7:Zhw X (.builtin "abs") Zw4:=by
 rintro pins s σ H xs us Q I rv ⟨ι,ds,Hd,d,Hd',hr,P,e,q⟩
 unfold Zw4 at e
 split at e
 ·obtain⟨v,rfl,r⟩:=Zl6 P
  simp at r
  subst r
  cases e
  exact Zwz pins s σ H _ us Q I rv ⟨_,rfl,q _ H ι Le.refl hr (by simp)⟩
 ·cases e
nonrec def maxD:FF:=fun ds H=>match ds with
 | [.int i,.int j]=>some (.int (if j > i then j else i),H)
 | _=>none
theorem Zte (hc:X.calm=true):Zhw X (.builtin "max") maxD:=by
 rintro pins s σ H xs us Q I rv ⟨ι,ds,Hd,d,Hd',hr,P,e,q⟩
 unfold maxD at e
 split at e
 ·obtain⟨v,v',rfl,r,r'⟩:=Ydc P
  simp at r r'
  subst r r'
  cases e
  exact Zsn hc pins s σ H _ us Q I rv ⟨_,_,rfl,q _ H ι Le.refl hr (by simp)⟩
 ·cases e
nonrec def Zvo:FF:=fun ds H=>match ds with
 | [.int i]=>some (.int i,H)
 | [.bl b]=>some (.int (if b then 1 else 0),H)
 | _=>none
theorem Zsu:Zhw X (.type "int") Zvo:=by
 rintro pins s σ H xs us Q I rv ⟨ι,ds,Hd,d,Hd',hr,P,e,q⟩
 unfold Zvo at e
 split at e
 ·obtain⟨v,rfl,r⟩:=Zl6 P
  simp at r
  subst r
  cases e
  exact Zne pins s σ H _ us Q I rv (.inl ⟨_,rfl,q _ H ι Le.refl hr (by simp)⟩)
 ·obtain⟨v,rfl,r⟩:=Zl6 P
  simp at r
  subst r
  cases e
  exact Zne pins s σ H _ us Q I rv (.inr ⟨_,rfl,q _ H ι Le.refl hr (by simp)⟩)
 ·cases e
nonrec def Zxj:FF:=fun ds H=>match ds with
 | [d]=>(Zmf d H).map fun xs=>(.ref H.length,H++[.lst xs])
 | _=>none
theorem Zpx {pins:List (Ve×Obj)} {s:Vd} {σ:L2.St} {H:Hp} {p:Ve} {vs:List V} (I:Inv X pins σ H s) (h:SqL X.K H p vs\/SqT X.K H p vs):vs.length<=sizeLine:=by
 rcases h with h | h
 ·obtain⟨_,_,_,z⟩:=I.list h; exact z
 ·obtain⟨_,_,_,z⟩:=I.tuple h; exact z
theorem Zrn:Zhw X (.type "list") Zxj:=by
 rintro pins s σ H xs us Q I rv ⟨ι,ds,Hd,d,Hd',hr,P,e,q⟩
 unfold Zxj at e
 split at e
 ·obtain⟨v,rfl,r⟩:=Zl6 P
  obtain⟨ys,e1,e⟩:=Zm e
  obtain⟨p,vs,rfl,h,P2⟩:=Znp hr r e1
  obtain⟨k1,k2⟩:=Zge hr P2 (show mkL ys Hd=some (d,Hd') by unfold mkL; rw[if_pos (by rw[Prd.len P2]; exact Zpx I h),e]) q
  exact Zmp pins s σ H _ us Q I rv ⟨p,vs,rfl,h,k2⟩
 ·cases e
nonrec def Zfi:FF:=fun ds H=>match ds with
 | [d]=>(Zmf d H).map fun xs=>(.tup xs,H)
 | _=>none
theorem Zob:Zhw X (.type "tuple") Zfi:=by
 rintro pins s σ H xs us Q I rv ⟨ι,ds,Hd,d,Hd',hr,P,e,q⟩
 unfold Zfi at e
 split at e
 ·rename_i d0
  obtain⟨v,rfl,r⟩:=Zl6 P
  obtain⟨ys,e1,e⟩:=Zm e
  obtain⟨p,vs,rfl,h,P2⟩:=Znp hr r e1
  obtain⟨k1,k2⟩:=Zjl hr P2 (show mkT ys Hd=some (d,Hd') by unfold mkT; rw[if_pos (by rw[Prd.len P2]; exact Zpx I h),e]) q
  refine Zl5 pins s σ H _ us Q I rv ⟨p,vs,rfl,?_⟩
  rcases h with h | h
  ·exact .inl ⟨h,k2⟩
  ·obtain⟨rfl,rfl⟩:=Wau.inj e
   exact .inr ⟨h,q _ H ι Le.refl hr (Zbc.mpr ⟨p,vs,rfl,h,P2⟩)⟩
 ·cases e
nonrec def Zci (x:D) (ds:List D) (H:HD):Option (D×HD):=match x,ds with
 | .ref n,[d]=>match H[n]? with
  | some (.lst xs)=>if xs.length<sizeLine then some (.non,H.set n (.lst (xs++[d]))) else none
  | _=>none
 | _,_=>none
theorem Zfq:MtF X "list.append" Zci:=by
 rintro pins s σ H x xs v us Q I rx rv ⟨ι,dx,ds,Hd,d,Hd',hr,r1,P,e,q⟩
 unfold Zci at e
 split at e
 ·rename_i n d1
  obtain⟨a,rfl,ha⟩:=Zaz.mp r1
  obtain⟨z,rfl,rz⟩:=Zl6 P
  split at e
  ·rename_i ys e1
   split at e
   ·rename_i hl
    cases e
    obtain⟨vs,h1,P1⟩:=hr.obj n a _ ha e1
    refine Zie pins s σ H _ _ v us Q I rx rv ⟨a,vs,z,rfl,rfl,h1,by rw[<- Prd.len P1]; exact hl,?_⟩
    have L:Le X.K H ι (upd H a (.lst (vs++[z]))) ι:=Le.upd (Xl ha) h1 trivial _
    exact q _ _ ι L (hr.upd ha h1 trivial ⟨_,Zaq,Prd.append (Prd.mono L P1) (.cons (rz.mono L) .nil)⟩) (by simp)
   ·cases e
  ·cases e
 ·cases e
end
mutual
noncomputable def toP (H:HD):Nat->D->Option Uam
 | _,.non=>some .none
 | _,.bl b=>some (.bool b)
 | _,.int i=>some (.int i)
 | _,.str x=>some (.str x)
 | _,.ty _=>none
 | n,.tup xs=>(Zt7 H n xs).map .tuple
 | n,.fl xs=>(Zt7 H n xs).map .list
 | 0,.ref _=>none
 | n+1,.ref k=>match H[k]? with
  | some (.lst xs)=>(Zt7 H n xs).map .list
  | _=>none
termination_by n d=>(n,sizeOf d)
noncomputable def Zt7 (H:HD):Nat->List D->Option (List Uam)
 | _,[]=>some []
 | n,d::ds=>(toP H n d).bind fun x=>(Zt7 H n ds).map fun r=>x::r
termination_by n ds=>(n,sizeOf ds)
end
section
variable {X:Cx} {pins:List (Ve×Obj)} {σ:L2.St} {H:Hp} {s:Vd} {ι:List Ve} {Hd:HD}
mutual
theorem Zde (I:Inv X pins σ H s) (hr:HRep X.K H ι Hd):∀ (n:Nat) (d:D) {x:Uam} {v:V} {u:Vb},toP Hd n d=some x->Rep X.K H ι d v->Zcg v u->∃ as,Reads s.heap u x as
 | n,.non,x,v,u,e,r,q=>by
  rw[toP] at e; cases e; simp at r; subst r; cases q; exact⟨_,.none⟩
 | n,.bl b,x,v,u,e,r,q=>by
  rw[toP] at e; cases e; simp at r; subst r; cases q; exact⟨_,.bool b⟩
 | n,.int i,x,v,u,e,r,q=>by
  rw[toP] at e; cases e; simp at r; subst r; obtain⟨t,rfl⟩:=q; exact⟨_,.int i t⟩
 | n,.str z,x,v,u,e,r,q=>by
  rw[toP] at e; cases e; simp at r; subst r; obtain⟨t,rfl⟩:=q; exact⟨_,.str z t⟩
 | n,.ty _,x,v,u,e,r,q=>by rw[toP] at e; cases e
 | n,.tup xs,x,v,u,e,r,q=>by
  rw[toP] at e
  obtain⟨ps,e1,rfl⟩:=Zm e
  obtain⟨a,vs,rfl,h,P⟩:=Zbc.mp r
  cases q
  obtain⟨its,rv,⟨o,ho,hc,m,hd⟩,hz⟩:=I.tuple h
  obtain⟨as,ra⟩:=Zem I hr n xs e1 P rv
  exact⟨_,.tuple ho hc hd (by simpa using ra)⟩
 | n,.fl xs,x,v,u,e,r,q=>by
  rw[toP] at e
  obtain⟨ps,e1,rfl⟩:=Zm e
  obtain⟨a,vs,rfl,h,P⟩:=Zg0.mp r
  cases q
  obtain⟨its,rv,pl,hz⟩:=I.list h.sq
  obtain⟨o,ho,hc,m,hd⟩:=pl.isList
  obtain⟨as,ra⟩:=Zem I hr n xs e1 P rv
  exact⟨_,.list ho hc hd (by simpa using ra)⟩
 | 0,.ref k,x,v,u,e,r,q=>by rw[toP] at e; cases e
 | n+1,.ref k,x,v,u,e,r,q=>by
  rw[toP] at e
  split at e
  ·rename_i xs eo
   obtain⟨ps,e1,rfl⟩:=Zm e
   obtain⟨a,rfl,ha⟩:=Zaz.mp r
   cases q
   obtain⟨vs,h1,P⟩:=hr.obj k a _ ha eo
   obtain⟨its,rv,pl,hz⟩:=I.list (SqL.of h1)
   obtain⟨o,ho,hc,m,hd⟩:=pl.isList
   obtain⟨as,ra⟩:=Zem I hr n xs e1 P rv
   exact⟨_,.list ho hc hd (by simpa using ra)⟩
  ·cases e
termination_by n d=>(n,sizeOf d)
theorem Zem (I:Inv X pins σ H s) (hr:HRep X.K H ι Hd):∀ (n:Nat) (ds:List D) {xs:List Uam} {vs:List V} {us:List Vb},Zt7 Hd n ds=some xs->Vj (Rep X.K H ι) ds vs->Zb7 vs us->∃ as,ReadsAll s.heap us xs as
 | n,[],xs,vs,us,e,P,q=>by
  rw[Zt7] at e; cases e; cases P; cases q; exact⟨_,.nil⟩
 | n,d::ds,xs,vs,us,e,P,q=>by
  rw[Zt7] at e
  obtain⟨x,e1,e⟩:=Zo e
  obtain⟨r,e2,rfl⟩:=Zm e
  cases P with
  | cons p P =>
   cases q with
   | cons q Q =>
    obtain⟨as,ra⟩:=Zde I hr n d e1 p q
    obtain⟨bs,rb⟩:=Zem I hr n ds e2 P Q
    exact⟨_,.cons ra rb⟩
termination_by n ds=>(n,sizeOf ds)
end
nonrec def okP (x:Uam):Bool:=x.canLay0&&decide (x.depth<=30)
nonrec def dat (d:D) (H:HD):Option Uam:=(toP H 30 d).bind fun x=>if okP x=true then some x else none
theorem Zdt {d:D} {x:Uam} (e:dat d Hd=some x):toP Hd 30 d=some x/\x.canLay0=true/\x.depth<=30:=by
 obtain⟨y,e1,e⟩:=Zo e
 split at e
 ·rename_i h
  cases e
  rw[okP,Waf,decide_eq_true_eq] at h
  exact⟨e1,h⟩
 ·cases e
nonrec def Zrd:D->D->Option (Str×Str)
 | .str a,.str b=>some (a,b)
 | _,_=>none
theorem Znl {x y:D} {a b:Str} (h:Zrd x y=some (a,b)):x=.str a/\y=.str b:=by
 unfold Zrd at h
 split at h
 ·cases h; exact⟨rfl,rfl⟩
 ·cases h
nonrec def eqD:F2:=fun x y H=>match Zrd x y with
 | some (a,b)=>some (.bl (a==b),H)
 | none=>(dat x H).bind fun p=>(dat y H).map fun q=>(.bl (Uc p q),H)
nonrec def neD:F2:=fun x y H=>match Zrd x y with
 | some (a,b)=>some (.bl (a != b),H)
 | none=>(dat x H).bind fun p=>(dat y H).map fun q=>(.bl (!Uc p q),H)
theorem Zby (hu:X.A.units+64<cLine):OpF X (Vr .Eq) eqD:=by
 rintro pins s σ H x y v u Q I rx ry ⟨ι,dx,dy,Hd,d,Hd',hr,r1,r2,e,q⟩
 unfold eqD at e
 split at e
 ·rename_i a b es
  obtain⟨rfl,rfl⟩:=Znl es
  obtain⟨rfl,rfl⟩:=Wau.inj (Xw.inj e)
  simp at r1 r2
  subst r1 r2
  obtain⟨t1,rfl⟩:=rx
  obtain⟨t2,rfl⟩:=ry
  exact PyProof.Rows.eq_str ⟨.bl _,H,I,rfl,q _ H ι Le.refl hr (by simp)⟩
 ·obtain⟨p,e1,e⟩:=Zo e
  obtain⟨p2,e2,e⟩:=Zm e
  obtain⟨rfl,rfl⟩:=Wau.inj e
  obtain⟨t1,c1,d1⟩:=Zdt e1
  obtain⟨t2,c2,d2⟩:=Zdt e2
  obtain⟨as,ra⟩:=Zde I hr _ _ t1 r1 rx
  obtain⟨bs,rb⟩:=Zde I hr _ _ t2 r2 ry
  exact SeqAt.compareEq_reads ra rb c1 c2 (by omega) ⟨.bl _,H,I,rfl,q _ H ι Le.refl hr (by simp)⟩
theorem Zhq (hu:X.A.units+64<cLine):OpF X (Vr .NotEq) neD:=by
 rintro pins s σ H x y v u Q I rx ry ⟨ι,dx,dy,Hd,d,Hd',hr,r1,r2,e,q⟩
 unfold neD at e
 split at e
 ·rename_i a b es
  obtain⟨rfl,rfl⟩:=Znl es
  obtain⟨rfl,rfl⟩:=Wau.inj (Xw.inj e)
  simp at r1 r2
  subst r1 r2
  obtain⟨t1,rfl⟩:=rx
  obtain⟨t2,rfl⟩:=ry
  exact PyProof.Rows.ne_str ⟨.bl _,H,I,rfl,q _ H ι Le.refl hr (by simp)⟩
 ·obtain⟨p,e1,e⟩:=Zo e
  obtain⟨p2,e2,e⟩:=Zm e
  obtain⟨rfl,rfl⟩:=Wau.inj e
  obtain⟨t1,c1,d1⟩:=Zdt e1
  obtain⟨t2,c2,d2⟩:=Zdt e2
  obtain⟨as,ra⟩:=Zde I hr _ _ t1 r1 rx
  obtain⟨bs,rb⟩:=Zde I hr _ _ t2 r2 ry
  exact SeqAt.compareNe_reads ra rb c1 c2 (by omega) ⟨.bl _,H,I,rfl,q _ H ι Le.refl hr (by simp)⟩
nonrec def Zmi:Uam->Option (List Uam)
 | .list xs=>some xs
 | .tuple xs=>some xs
 | _=>none
nonrec def inD:F2:=fun x y H=>(dat x H).bind fun p=>(dat y H).bind fun q=>(Zmi q).map fun xs=>(.bl (xs.any fun z=>Uc z p),H)
nonrec def niD:F2:=fun x y H=>(dat x H).bind fun p=>(dat y H).bind fun q=>(Zmi q).map fun xs=>(.bl (!xs.any fun z=>Uc z p),H)
theorem Zua (hu:X.A.units+64<cLine):OpF X (Vr .In) inD:=by
 rintro pins s σ H x y v u Q I rx ry ⟨ι,dx,dy,Hd,d,Hd',hr,r1,r2,e,q⟩
 obtain⟨p,e1,e⟩:=Zo e
 obtain⟨p2,e2,e⟩:=Zo e
 obtain⟨xs,e3,e⟩:=Zm e
 obtain⟨rfl,rfl⟩:=Wau.inj e
 obtain⟨t1,c1,d1⟩:=Zdt e1
 obtain⟨t2,c2,d2⟩:=Zdt e2
 obtain⟨as,ra⟩:=Zde I hr _ _ t1 r1 rx
 obtain⟨bs,rb⟩:=Zde I hr _ _ t2 r2 ry
 have fin:EP X pins σ Q (.bool (xs.any fun z=>Uc z p)) s:=⟨.bl _,H,I,rfl,q _ H ι Le.refl hr (by simp)⟩
 cases p2 with
 | list ys =>
  cases e3
  simp only[Tac] at c2
  simp only[Tan] at d2
  exact SeqAt.in_list_reads rb ra c2 c1 (by omega) fin
 | tuple ys =>
  cases e3
  simp only[Tac] at c2
  simp only[Tan] at d2
  exact SeqAt.in_tuple_reads rb ra c2 c1 (by omega) fin
 | _=>simp[Zmi] at e3
theorem Zkg (hu:X.A.units+64<cLine):OpF X (Vr .NotIn) niD:=by
 rintro pins s σ H x y v u Q I rx ry ⟨ι,dx,dy,Hd,d,Hd',hr,r1,r2,e,q⟩
 obtain⟨p,e1,e⟩:=Zo e
 obtain⟨p2,e2,e⟩:=Zo e
 obtain⟨xs,e3,e⟩:=Zm e
 obtain⟨rfl,rfl⟩:=Wau.inj e
 obtain⟨t1,c1,d1⟩:=Zdt e1
 obtain⟨t2,c2,d2⟩:=Zdt e2
 obtain⟨as,ra⟩:=Zde I hr _ _ t1 r1 rx
 obtain⟨bs,rb⟩:=Zde I hr _ _ t2 r2 ry
 have fin:EP X pins σ Q (.bool (!xs.any fun z=>Uc z p)) s:=⟨.bl _,H,I,rfl,q _ H ι Le.refl hr (by simp)⟩
 cases p2 with
 | list ys =>
  cases e3
  simp only[Tac] at c2
  simp only[Tan] at d2
  exact SeqAt.notIn_list_reads rb ra c2 c1 (by omega) fin
 | tuple ys =>
  cases e3
  simp only[Tac] at c2
  simp only[Tan] at d2
  exact SeqAt.notIn_tuple_reads rb ra c2 c1 (by omega) fin
 | _=>simp[Zmi] at e3
nonrec def isB (x y:D):Option Bool:=match y,x with
 | .non,.non=>some true
 | .non,_=>some false
 | .bl b,.bl c=>some (c==b)
 | .bl _,_=>some false
 | _,_=>none
nonrec def isD:F2:=fun x y H=>(isB x y).map fun b=>(.bl b,H)
nonrec def isnD:F2:=fun x y H=>(isB x y).map fun b=>(.bl (!b),H)
theorem Zor {M:Model} {A:Vt} {E:Vb->Vd->Prop} {s:Vd} {Q:Vb->Vd->Prop} {v:Vb} {b:Bool} (hv:∀ i,v≠.builtin i) (h:Q (.bool (v==.bool b)) s):Vf M A (Vr .Is v (.bool b)) Q E s:=by
 cases v<;>first | exact Vc h | exact absurd rfl (hv _)
theorem Zjv {M:Model} {A:Vt} {E:Vb->Vd->Prop} {s:Vd} {Q:Vb->Vd->Prop} {v:Vb} {b:Bool} (hv:∀ i,v≠.builtin i) (h:Q (.bool (!(v==.bool b))) s):Vf M A (Vr .IsNot v (.bool b)) Q E s:=by
 cases v<;>first | exact Vc h | exact absurd rfl (hv _)
theorem Zuu {x:V} {v:Vb} (r:Zcg x v):∀ i,v≠.builtin i:=by
 intro i
 cases x with
 | non=>cases r; intro z; cases z
 | bl _=>cases r; intro z; cases z
 | int _=>obtain⟨t,rfl⟩:=r; intro z; cases z
 | str _=>obtain⟨t,rfl⟩:=r; intro z; cases z
 | byt _=>obtain⟨t,rfl⟩:=r; intro z; cases z
 | flt _=>obtain⟨t,rfl⟩:=r; intro z; cases z
 | ref _=>cases r; intro z; cases z
 | ty _=>cases r; intro z; cases z
theorem Zxz {dx dy:D} {x y:V} {v u:Vb} {b:Bool} (r1:Rep X.K H ι dx x) (r2:Rep X.K H ι dy y) (rx:Zcg x v) (ry:Zcg y u) (e:isB dx dy=some b) :
  (u=.none/\b=(v==.none))\/∃ c,u=.bool c/\b=(v==.bool c):=by
 cases dy with
 | non =>
  simp at r2; subst r2; cases ry
  refine .inl ⟨rfl,?_⟩
  cases dx with
  | non=>simp at r1; subst r1; cases rx; cases e; rfl
  | bl _=>simp at r1; subst r1; cases rx; cases e; rfl
  | int _=>simp at r1; subst r1; obtain⟨t,rfl⟩:=rx; cases e; rfl
  | str _=>simp at r1; subst r1; obtain⟨t,rfl⟩:=rx; cases e; rfl
  | ty _=>rw[Rep] at r1; rcases r1 with ⟨_,rfl⟩ | ⟨_,a,rfl,_⟩<;>(cases rx; cases e; rfl)
  | tup _=>obtain⟨a,_,rfl,_⟩:=Zbc.mp r1; cases rx; cases e; rfl
  | fl _=>obtain⟨a,_,rfl,_⟩:=Zg0.mp r1; cases rx; cases e; rfl
  | ref _=>obtain⟨a,rfl,_⟩:=Zaz.mp r1; cases rx; cases e; rfl
 | bl c =>
  simp at r2; subst r2; cases ry
  refine .inr ⟨c,rfl,?_⟩
  cases dx with
  | non=>simp at r1; subst r1; cases rx; cases e; rfl
  | bl z=>simp at r1; subst r1; cases rx; cases e; cases z<;>cases c<;>rfl
  | int _=>simp at r1; subst r1; obtain⟨t,rfl⟩:=rx; cases e; rfl
  | str _=>simp at r1; subst r1; obtain⟨t,rfl⟩:=rx; cases e; rfl
  | ty _=>rw[Rep] at r1; rcases r1 with ⟨_,rfl⟩ | ⟨_,a,rfl,_⟩<;>(cases rx; cases e; rfl)
  | tup _=>obtain⟨a,_,rfl,_⟩:=Zbc.mp r1; cases rx; cases e; rfl
  | fl _=>obtain⟨a,_,rfl,_⟩:=Zg0.mp r1; cases rx; cases e; rfl
  | ref _=>obtain⟨a,rfl,_⟩:=Zaz.mp r1; cases rx; cases e; rfl
 | _=>simp[isB] at e
theorem Ydu:OpF X (Vr .Is) isD:=by
 rintro pins s σ H x y v u Q I rx ry ⟨ι,dx,dy,Hd,d,Hd',hr,r1,r2,e,q⟩
 obtain⟨b,e1,e⟩:=Zm e
 obtain⟨rfl,rfl⟩:=Wau.inj e
 have fin:EP X pins σ Q (.bool b) s:=⟨.bl _,H,I,rfl,q _ H ι Le.refl hr (by simp)⟩
 rcases Zxz r1 r2 rx ry e1 with ⟨rfl,rfl⟩ | ⟨c,rfl,rfl⟩
 ·exact is_none_gen fin
 ·exact Zor (Zuu rx) fin
theorem Zz5:OpF X (Vr .IsNot) isnD:=by
 rintro pins s σ H x y v u Q I rx ry ⟨ι,dx,dy,Hd,d,Hd',hr,r1,r2,e,q⟩
 obtain⟨b,e1,e⟩:=Zm e
 obtain⟨rfl,rfl⟩:=Wau.inj e
 have fin:EP X pins σ Q (.bool (!b)) s:=⟨.bl _,H,I,rfl,q _ H ι Le.refl hr (by simp)⟩
 rcases Zxz r1 r2 rx ry e1 with ⟨rfl,rfl⟩ | ⟨c,rfl,rfl⟩
 ·exact isnot_none_gen fin
 ·exact Zjv (Zuu rx) fin
nonrec def tyD:D->HD->Option String
 | .non,_=>some "NoneType"
 | .bl _,_=>some "bool"
 | .int _,_=>some "int"
 | .str _,_=>some "str"
 | .tup _,_=>some "tuple"
 | .fl _,_=>some "list"
 | .ref n,H=>match H[n]? with
  | some (.lst _)=>some "list"
  | _=>none
 | _,_=>none
nonrec def Zu0 (c:String):Bool:=c == "bool" || c == "int" || c == "str" || c == "tuple" || c == "list"
nonrec def Zyq:FF:=fun ds H=>match ds with
 | [x,.ty c]=>if Zu0 c=true then (tyD x H).map fun t=>(.bl (t==c||(t == "bool" && c == "int")),H) else none
 | _=>none
nonrec def tys:List String:=["NoneType","bool","int","str","tuple","list"]
theorem Yab {d:D} {t:String} (e:tyD d Hd=some t):t∈tys:=by
 cases d with
 | ref n =>
  simp only[tyD] at e
  split at e
  ·cases e; decide
  ·cases e
 | ty n=>simp[tyD] at e
 | _=>simp only[tyD] at e; cases e; decide
theorem Yb8 (K:Xb) {t c:String} (ht:t∈tys) (hc:Zu0 c=true):PySem.W.kitOne K (.type t) (.type c)=some (t==c||(t == "bool" && c == "int")):=by
 have hc':c = "bool" \/ c = "int" \/ c = "str" \/ c = "tuple" \/ c = "list" := by
  simpa [Zu0,or_assoc] using hc
 simp only[tys,Xj,Wcb,or_false] at ht
 rcases ht with rfl | rfl | rfl | rfl | rfl | rfl<;>rcases hc' with rfl | rfl | rfl | rfl | rfl<;>first | rfl | (with_unfolding_all rfl) | kernel_rfl
theorem Zsi:Zhw X (.builtin "isinstance") Zyq:=by
 rintro pins s σ H xs us Q I rv ⟨ι,ds,Hd,d,Hd',hr,P,e,q⟩
 unfold Zyq at e
 split at e
 ·rename_i x c
  split at e
  ·rename_i hc
   obtain⟨t,e1,e⟩:=Zm e
   obtain⟨rfl,rfl⟩:=Wau.inj e
   obtain⟨v,v',rfl,r,r'⟩:=Ydc P
   obtain⟨u,u',rfl,ru,ru'⟩:=Zxg rv
   have r':=(Zx5 (show Zyw c=true from hc)).mp r'
   subst r'
   cases ru'
   have k:=Yb8 X.K (Yab e1) hc
   have fin:∀ tk,EP X pins σ Q (.bool (t==c||(t == "bool" && c == "int"))) { s with toks:=tk }:=fun tk=>⟨.bl _,H,I.tok tk,rfl,q _ H ι Le.refl hr (by simp)⟩
   cases x with
   | non=>simp at r; subst r; cases ru; cases e1; exact Wbv PySem.W.kitx_none I.kIn Taz k (fun z=>nomatch z) fin
   | bl y=>simp at r; subst r; cases ru; cases e1; exact Wbv PySem.W.kitx_bool I.kIn Taz k (fun z=>nomatch z) fin
   | int y=>simp at r; subst r; obtain⟨t,rfl⟩:=ru; cases e1; exact Wbv PySem.W.kitx_int I.kIn Taz k (fun z=>nomatch z) fin
   | str y=>simp at r; subst r; obtain⟨t,rfl⟩:=ru; cases e1; exact Wbv PySem.W.kitx_str I.kIn Taz k (fun z=>nomatch z) fin
   | ty _=>simp[tyD] at e1
   | tup ys =>
    obtain⟨a,vs,rfl,h,_⟩:=Zbc.mp r
    cases ru; cases e1
    obtain⟨its,_,⟨o,ho,hcl,_⟩,_⟩:=I.tuple h
    exact Wbv PySem.W.kitx_tuple I.kIn ⟨o,ho,hcl⟩ k (fun z=>nomatch z) fin
   | fl ys =>
    obtain⟨a,vs,rfl,h,_⟩:=Zg0.mp r
    cases ru; cases e1
    obtain⟨its,_,pl,_⟩:=I.list h.sq
    obtain⟨o,ho,hcl,_⟩:=pl.isList
    exact Wbv Wff I.kIn ⟨o,ho,hcl⟩ k (fun z=>nomatch z) fin
   | ref n =>
    obtain⟨a,rfl,ha⟩:=Zaz.mp r
    cases ru
    simp only[tyD] at e1
    split at e1
    ·rename_i ys eo
     cases e1
     obtain⟨vs,h1,_⟩:=hr.obj n a _ ha eo
     obtain⟨its,_,pl,_⟩:=I.list (SqL.of h1)
     obtain⟨o,ho,hcl,_⟩:=pl.isList
     exact Wbv Wff I.kIn ⟨o,ho,hcl⟩ k (fun z=>nomatch z) fin
    ·cases e1
  ·cases e
 ·cases e
nonrec def Zhj:List D->Option (List Int)
 | []=>some []
 | .int i::r=>(Zhj r).map fun s=>i::s
 | _=>none
theorem Zme:∀ {xs ys:List Int},xs.Perm ys->xs.Pairwise (· <= ·)->ys.Pairwise (· <= ·)->xs=ys
 | [],ys,p,_,_=>by simpa using p.symm
 | x::xs,[],p,_,_=>by simpa using p
 | x::xs,y::ys,p,h1,h2=>by
  rw[Wdt] at h1 h2
  have a1:y∈x::xs:=p.symm.subset (by simp)
  have a2:x∈y::ys:=p.subset (by simp)
  have e:x=y:=by
   rcases Xj.mp a1 with z | z
   ·exact z.symm
   ·rcases Xj.mp a2 with w | w
    ·exact w
    ·have:=h1.1 y z
     have:=h2.1 x w
     omega
  subst e
  rw[Zme (List.Perm.cons_inv p) h1.2 h2.2]
theorem Zn0 {K:Xb}:∀ {xs:List D} {ns:List Int} {vs:List V},Zhj xs=some ns->Vj (Rep K H ι) xs vs->vs=ns.map V.int
 | [],ns,vs,e,P=>by cases P; cases e; rfl
 | .int i::r,ns,vs,e,P=>by
  simp only[Zhj] at e
  obtain⟨s,e1,rfl⟩:=Zm e
  cases P with
  | cons p P =>
   simp at p
   subst p
   rw[Zn0 e1 P]
   rfl
 | .non::_,_,_,e,_=>by simp[Zhj] at e
 | .bl _::_,_,_,e,_=>by simp[Zhj] at e
 | .str _::_,_,_,e,_=>by simp[Zhj] at e
 | .ty _::_,_,_,e,_=>by simp[Zhj] at e
 | .tup _::_,_,_,e,_=>by simp[Zhj] at e
 | .fl _::_,_,_,e,_=>by simp[Zhj] at e
 | .ref _::_,_,_,e,_=>by simp[Zhj] at e
theorem Zmg:∀ {ns:List Int} {us:List Vb},Ubd us ns->Zb7 (ns.map V.int) us:=by
 intro ns us h
 induction h with
 | nil=>exact .nil
 | cons n t _ ih=>exact .cons ⟨t,rfl⟩ ih
theorem Zml {K:Xb} (ns:List Int):Vj (Rep K H ι) (ns.map D.int) (ns.map V.int):=by
 induction ns with
 | nil=>exact .nil
 | cons n r ih=>exact .cons (by simp) ih
end
section
variable {X:Cx} {tg:Vv}
nonrec def Zi5:D->HD->Option (List D×Zg4)
 | .tup xs,_=>some (xs,[])
 | .fl xs,_=>some (xs,[])
 | .ref n,H=>match H[n]? with
  | some (.lst xs)=>some (xs,[(n,.lst xs)])
  | _=>none
 | _,_=>none
def Zpo (i:Int):Prop := -(2 ^ 62)<=i/\i<2 ^ 62
instance (i:Int):Decidable (Zpo i):=by unfold Zpo; exact inferInstance
nonrec def Zbk (lo:Int) (n:Nat):List D:=(Wdl n).map fun k:Nat=>.int (lo+(k:Int))
theorem Zqz {lo:Int} {n i:Nat} {d:D} (h:(Zbk lo n)[i]? = some d):i<n/\d=.int (lo+i):=by
 unfold Zbk at h
 rw[Xn] at h
 obtain⟨k,h1,rfl⟩:=Zm h
 rw[Xc] at h1
 obtain⟨hl,h1⟩:=h1
 simp at h1 hl
 subst h1
 exact⟨hl,rfl⟩
theorem Zvl {K:Xb} {H0:Hp} {ι0:List Ve} (lo:Int) (n:Nat):ItRep K (Itr lo n) (Zbk lo n) [] H0 ι0:=by
 refine⟨fun i H2 ι2 Hd2 l2 h2 _ hi=>(show i<n by simpa [Zbk] using hi),fun i H2 ι2 Hd2 d x H3 l2 h2 _ hd y=>?_,fun i H2 ι2 Hd2 l2 h2 _ hi=>(show n<=i by simpa [Zbk] using hi)⟩
 obtain⟨rfl,rfl⟩:=y
 obtain⟨_,rfl⟩:=Zqz hd
 exact⟨ι2,Le.refl,h2,by simp⟩
nonrec def iR1 (f:AF):ItF:=fun σ H=>(f σ H).bind fun p=>match p.1 with
 | [.int j]=>if Zpo j then some ((Zbk 0 j.toNat,[]),p.2) else none
 | _=>none
theorem Zrq {a:Vv} {f:AF} {p pos:Pos} (hg:Gl X "range") (hm:X.mg "range" = none) (ha:PAf X [a] f) (hs:Vg [a] X.env=[(false,eval a X.env)]:=by rfl):PIf X tg (.Call (.Name "range" p) [a] [] pos) (iR1 f):=by
 refine PIi (Zsw hg hm ha hs) fun σ H R zz=>?_
 obtain⟨ι,σd,Hd,xs,own,Hd',s,hr,e,q⟩:=zz
 obtain⟨⟨ds,H1⟩,e1,e⟩:=Zo e
 dsimp only at e
 split at e
 ·rename_i j
  split at e
  ·rename_i hj
   cases e
   refine⟨ι,σd,Hd,_,_,s,hr,e1,fun vs H' ι' l h P=>?_⟩
   obtain⟨v,rfl,r⟩:=Zl6 P
   simp at r
   subst r
   exact⟨j,rfl,hj.1,hj.2,q _ H' ι' l h (Zvl 0 _)⟩
  ·cases e
 ·cases e
end
open Builtin.SmallTypes (nextOf)
section
variable {prog:Vh} {w:Vu} {A:Vt} {E:Vb->Vd->Prop} {s:Vd}
theorem Zpu {j t:Ve} {i:Nat} {its:Array Vb} {x:Vb} {Q:Vb->Vd->Prop} (hj:s.heap.IsTupleIter j t i) (ht:s.heap.IsTuple t its) (hx:its[i]? = some x)
  (hQ:∀ h',h'.IsTupleIter j t (i+1)->Xy j s.heap h'->Q x { s with heap:=h' }):Vf (Vm prog w) A (nextOf (.ref j)) Q E s:=by
 obtain⟨oj,ho,hcj,hdj⟩:=id hj
 obtain⟨ot,hot,_,nt,hdt⟩:=ht
 unfold nextOf
 refine Va (Vi (name:=Ua "__next__") hj.typeIs Ur (Vp Ur hj.typeIs Tbc ?_ (Taw _)))
 show Vf _ _ (Udl (.ref j) 0 >>= _) _ _ s
 refine Va (Vn ho hdj (x:=.ref t) rfl ?_)
 show Vf _ _ (if (Uu t==Um)=true then _ else _) _ _ s
 rw[if_neg (show ¬ ((Uu t==Um)=true) by intro z; cases z)]
 show Vf _ _ (Udl (.ref j) 1 >>= _) _ _ s
 refine Va (Vn ho hdj (x:=.int i 0) rfl ?_)
 show Vf _ _ (seqItems? (.ref t) >>= _) _ _ s
 refine Va (Uah hot hdt ?_)
 simp only[Wal,hx]
 refine Va (Ubv ho hdj (by simp) (Vc ⟨x,rfl,Vc (hQ _ ⟨_,Wda _ ho (Tbv (Tap hdj _)),(Tcj ..).trans hcj,?_⟩ (Xy.update ..))⟩))
 rw[Tap hdj]; simp[Uaa]
theorem Zu2 {j t:Ve} {i:Nat} {its:Array Vb} {Q:Vb->Vd->Prop} (hh:A.handled=none) (hj:s.heap.IsTupleIter j t i) (ht:s.heap.IsTuple t its) (hx:its[i]? = none)
  (hE:∀ h' e,Wdo j s.heap h'->(∃ o,h'.get? e=some o/\o.cls=.type "StopIteration")->E (.ref e) { s with heap:=h' }):Vf (Vm prog w) A (nextOf (.ref j)) Q E s:=by
 obtain⟨oj,ho,hcj,hdj⟩:=id hj
 obtain⟨ot,hot,_,nt,hdt⟩:=ht
 unfold nextOf
 refine Va (Vi (name:=Ua "__next__") hj.typeIs Ur (Vp Ur hj.typeIs Tbc ?_ (Taw _)))
 show Vf _ _ (Udl (.ref j) 0 >>= _) _ _ s
 refine Va (Vn ho hdj (x:=.ref t) rfl ?_)
 show Vf _ _ (if (Uu t==Um)=true then _ else _) _ _ s
 rw[if_neg (show ¬ ((Uu t==Um)=true) by intro z; cases z)]
 show Vf _ _ (Udl (.ref j) 1 >>= _) _ _ s
 refine Va (Vn ho hdj (x:=.int i 0) rfl ?_)
 show Vf _ _ (seqItems? (.ref t) >>= _) _ _ s
 refine Va (Uah hot hdt ?_)
 simp only[Wal,hx]
 refine Va (Ubi (Va (Ubv ho hdj (by simp) ?_)))
 show Vf _ _ (newExc (.type "StopIteration") [] >>= _) _ _ _
 refine Va ?_
 simp only[newExc,newTuple]
 refine Va (Vs ?_ (by size_fits))
 refine Va (m:=Ubw _ _) (Ueh (a:=Um) (by first | rfl | (simp only[Ubw]; rfl)) (Vs ?_ (by size_fits)))
 simp only[raiseNew]
 refine Va (wpAny_handled ?_)
 first | rw[show A.in1.handled=none from hh] | rw[hh]
 exact Va (Vc (wpAny_throw (hE _ _ (((Xy.update ..).extBut.push _).push _) ⟨_,Xd _ rfl,rfl⟩)))
theorem Zuk {e j t:Ve} {i:Nat} {c:Int} {its:Array Vb} {x old:Vb} {Q:Option Vb->Vd->Prop} (he:Uau s.heap e j c old) (hj:s.heap.IsTupleIter j t i) (ht:s.heap.IsTuple t its) (hx:its[i]? = some x) (hne:e≠j)
  (hQ:∀ h' tk,Ucq h' e j (c+1) x s.heap.objs.size->h'.IsTupleIter j t (i+1)->h'.get? s.heap.objs.size=some { cls:=.type "tuple",data:=.seq #[.int c tk,x] }->h'.objs.size=s.heap.objs.size+1 ->
   (∀ b o,b≠e->b≠j->s.heap.get? b=some o->h'.get? b=some o)->Q (some (.ref s.heap.objs.size)) { s with heap:=h',toks:=s.toks+1 }) :
  Vf (Vm prog w) A (Ubj (.ref e)) Q E s:=by
 have hT:s.TypeIs (.ref e) "enumerate" := ⟨_,he,rfl⟩
 unfold Ubj
 refine Va (Uan (Vi (name:=Ua "__next__") hT Ui (Vp Ui hT Tae ?_ (Tab _))))
 obtain⟨hp,g,d,tk,os⟩:=s
 show Vf _ _ (Udl (.ref e) 2 >>= _) _ _ _
 refine Va (Vn he rfl (x:=.ref j) rfl (Va (Zpu hj ht hx fun h1 j1 s1=>?_)))
 replace s1:Xy j hp h1:=s1
 have e1:Uau h1 e j c old:=(s1.2 e hne).trans he
 show Vf _ _ (Udl (.ref e) 3 >>= _) _ _ ⟨h1,g,d,tk,os⟩
 refine Va (Vn e1 rfl (x:=Uaa c) rfl ?_)
 show Vf _ _ (Udl (.ref e) 4 >>= _) _ _ ⟨h1,g,d,tk,os⟩
 refine Va (Vn e1 rfl (x:=.none) rfl ?_)
 show Vf _ _ (mkInt c >>= _) _ _ ⟨h1,g,d,tk,os⟩
 refine Va (Uei ?_)
 show Vf _ _ (Udr (.ref e) 3 (Uaa (c+1)) >>= _) _ _ ⟨h1,g,d,tk+1,os⟩
 refine Va (Vk e1 (by simp) fun h2 e2 s2=>?_)
 replace s2:Xy e h1 h2:=s2
 replace e2:Uau h2 e j (c+1) old:=e2
 show Vf _ _ (Udr (.ref e) 4 .none >>= _) _ _ ⟨h2,g,d,tk+1,os⟩
 refine Va (Vk e2 (by simp) fun h3 e3 s3=>?_)
 replace s3:Xy e h2 h3:=s3
 replace e3:Uau h3 e j (c+1) old:=e3
 show Vf _ _ (newTuple [.int c tk,x] >>= _) _ _ ⟨h3,g,d,tk+1,os⟩
 refine Va (Ude ?_)
 have e4:Uau (h3.push { cls:=.type "tuple",data:=.seq #[.int c tk,x] }) e j (c+1) old:=Xa _ e3
 generalize q4:h3.push { cls:=.type "tuple",data:=.seq #[.int c tk,x] }=h4 at e4
 have zz:h3.objs.size=hp.objs.size:=by rw[s3.1,s2.1,s1.1]
 have lt:e<hp.objs.size:=Xf he
 have t4:h4.get? hp.objs.size=some { cls:=.type "tuple",data:=.seq #[.int c tk,x] }:=by rw[<- q4,<- zz]; exact Xd _ rfl
 have z4:h4.objs.size=hp.objs.size+1:=by rw[<- q4,Wan,zz]
 have k4:∀ b o,b≠e->b≠j->hp.get? b=some o->h4.get? b=some o:=fun b o n1 n2 q=>by
  rw[<- q4]; exact Xa _ (s3.extBut b o n1 (s2.extBut b o n1 (s1.extBut b o n2 q)))
 have j4:h4.IsTupleIter j t (i+1):=by
  obtain⟨o,ho,r⟩:=id j1
  exact⟨o,by rw[<- q4]; exact Xa _ (s3.extBut j o (Ul hne) (s2.extBut j o (Ul hne) ho)),r⟩
 show Vf _ _ (Ub (.ref e) >>= _) _ _ ⟨h4,g,d,tk+1,os⟩
 rw[zz]
 clear q4 e3 s3 e2 s2 e1 s1 j1 zz h3 h2 h1
 refine Va ?_
 unfold Ub
 refine Va (Vn e4 rfl (x:=.none) rfl (Vc ?_))
 simp only[if_true]
 refine Va (Ubi (Va (Vn e4 rfl (x:=old) rfl (Va (Vk e4 (by simp) fun h5 e5 s5=>?_)))))
 replace s5:Xy e h4 h5:=s5
 replace e5:Uau h5 e j (c+1) x:=e5
 show Vf _ _ (Ud (.ref e) (.ref hp.objs.size) >>= _) _ _ ⟨h5,g,d,tk+1,os⟩
 refine Va ?_
 unfold Ud
 refine Va (Vk e5 (by simp) fun h6 e6 s6=>?_)
 replace s6:Xy e h5 h6:=s6
 replace e6:Ucq h6 e j (c+1) x hp.objs.size:=e6
 refine Vk e6 (by simp) fun h7 e7 s7=>?_
 replace s7:Xy e h6 h7:=s7
 replace e7:Ucq h7 e j (c+1) x hp.objs.size:=e7
 have up:∀ b o,b≠e->h4.get? b=some o->h7.get? b=some o:=fun b o n q=>s7.extBut b o n (s6.extBut b o n (s5.extBut b o n q))
 refine Va (Ubp (Vc ⟨_,rfl,Vc (hQ h7 tk e7 ?_ (up _ _ (Wbn lt) t4) (by rw[s7.1,s6.1,s5.1,z4]) fun b o n1 n2 q=>up b o n1 (k4 b o n1 n2 q))⟩))
 obtain⟨o,ho,r⟩:=id j4
 exact⟨o,up j o (Ul hne) ho,r⟩
theorem Zr8 {e j t:Ve} {i:Nat} {c:Int} {its:Array Vb} {old:Vb} {Q:Option Vb->Vd->Prop} (hh:A.handled=none) (he:Uau s.heap e j c old) (hj:s.heap.IsTupleIter j t i) (ht:s.heap.IsTuple t its) (hx:its[i]? = none)
  (hQ:∀ h',Wdo j s.heap h'->Q none { s with heap:=h' }):Vf (Vm prog w) A (Ubj (.ref e)) Q E s:=by
 have hT:s.TypeIs (.ref e) "enumerate" := ⟨_,he,rfl⟩
 unfold Ubj
 refine Va (Uan (Vi (name:=Ua "__next__") hT Ui (Vp Ui hT Tae ?_ (Tab _))))
 show Vf _ _ (Udl (.ref e) 2 >>= _) _ _ _
 refine Va (Vn he rfl (x:=.ref j) rfl (Va (Zu2 hh hj ht hx fun h' z he' zz=>?_)))
 obtain⟨o,ho,hc⟩:=zz
 exact Va (Ubk (T := "StopIteration") (b:=true) ⟨o,ho,hc⟩ Ubx (Vc (hQ _ he')))
open AutoSeq1 (wpAny_loadPart') in
theorem Zsx (t:Ve) (its:Array Vb) (n:Nat) (dct:Option Ve) (sl:Array (Option Vb)) :
  Uek (Builtin.«enumerate.__new__» ⟨[.type "enumerate",.ref t],[]⟩) (fun _ R s=>s.heap.get? t=some { cls:=.type "tuple",dict:=dct,data:=.seq its n,slots:=sl } /\
   R (.ok (.ret (.ref (s.heap.push { cls:=.type "tuple_iterator",data:=.fields #[.ref t,.int 0 0] }).objs.size)))
    { s with heap:=(s.heap.push { cls:=.type "tuple_iterator",data:=.fields #[.ref t,.int 0 0] }).push { cls:=.type "enumerate",data:=.fields #[.none,.bool false,.ref s.heap.objs.size,Uaa 0,.none,.none] } }) :=
 .of_wp fun prog w A R s h=>by
  obtain⟨hp,g,d,tk,os⟩:=s; obtain⟨hl,h⟩:=h
  have hsub:=Uds
  have hL:Heap.IsTuple (Tbq ⟨hp,g,d,tk,os⟩) t its:=⟨_,hl,rfl,n,rfl⟩
  wp_walk using Vo hl
  refine Ucr fun st=>Vc ?_
  split
  ·rename_i k _ _ _ _ _
   cases (k==Tbn "enumerate")<;>(wp_walk using Vo hl,Uag hL; exact⟨_,rfl,h⟩)
  ·wp_walk using Vo hl,Uag hL
   exact⟨_,rfl,h⟩
theorem Zqq {t:Ve} {its:Array Vb} {Q:Vb->Vd->Prop} (hL:s.heap.IsTuple t its)
  (h:∀ h',Uau h' (s.heap.objs.size+1) s.heap.objs.size 0 .none->h'.IsTupleIter s.heap.objs.size t 0->h'.objs.size=s.heap.objs.size+2 ->
   (∀ b o,s.heap.get? b=some o->h'.get? b=some o)->Q (.ref (s.heap.objs.size+1)) { s with heap:=h' }) :
  Vf (Vm prog w) A (call (.type "enumerate") [.ref t]) Q E s:=by
 obtain⟨⟨k,dct,dt,sl⟩,hl,hc,n,hd⟩:=hL
 replace hc:k=.type "tuple" := hc
 replace hd:dt=.seq its n:=hd
 subst hc hd
 refine Udy Taf (by decide) (Tbu _) (Tbw _) (fun obj=>Tcd obj _) Tar (Zsx t its n dct sl) ⟨hl,?_⟩
 have hz:(s.heap.push { cls:=.type "tuple_iterator",data:=.fields #[.ref t,.int 0 0] }).objs.size=s.heap.objs.size+1:=Wan ..
 show _/\_
 rw[hz]
 have he:Uau ((s.heap.push { cls:=.type "tuple_iterator",data:=.fields #[.ref t,.int 0 0] }).push { cls:=.type "enumerate",data:=.fields #[.none,.bool false,.ref s.heap.objs.size,Uaa 0,.none,.none] }) (s.heap.objs.size+1) s.heap.objs.size 0 .none:=by
  have q:=Xd (s.heap.push { cls:=.type "tuple_iterator",data:=.fields #[.ref t,.int 0 0] }) (o:={ cls:=.type "enumerate",data:=.fields #[.none,.bool false,.ref s.heap.objs.size,Uaa 0,.none,.none] }) rfl
  rw[hz] at q; exact q
 exact⟨⟨_,he,rfl⟩,h _ he ⟨_,Xa _ (Xd _ rfl),rfl,rfl⟩ (by rw[Wan,hz]) fun b o x=>Xa _ (Xa _ x)⟩
end
nonrec def Yba (K:Xb) (c:Int) (a:Ve):It :=
 ⟨fun i H=>∃ xs x,SqT K H a xs/\xs[i]? = some x,fun i H v H'=>∃ p x,H p=none/\v=.ref p/\H'=upd H p (.tup [.int (c+i),x])/\∀ xs,SqT K H a xs->xs[i]? = some x,fun i H=>∃ xs,SqT K H a xs/\xs.length<=i⟩
theorem Zki {P:Vh} {w:Vu} {K:Xb} {es:List Vv} {k:Nat} {pos:Pos} (a e j:Ve) (c:Int) (hne:e≠j):Turn P w K (.Tuple es k pos) (Yba K c a) [e,j] e (fun i h=>∃ old,Uau h e j (c+i) old/\h.IsTupleIter j a i) where
 mem:=by simp
 obj:=fun i h st b hb=>by
  obtain⟨old,he,o,ho,hc,hd⟩:=st
  rcases Xj.mp hb with rfl | hb
  ·exact⟨_,he,fun v z=>by cases z⟩
  ·have:b=j:=by simpa using hb
   subst this
   exact⟨o,ho,fun v z=>by rw[hd] at z; cases z⟩
 keep:=fun i h h' st kk=>by
  obtain⟨old,he,o,ho,r⟩:=st
  exact⟨old,kk e (by simp) _ he,o,kk j (by simp) o ho,r⟩
 item:=by
  intro X hP hw hK hc i pins s σ H E I hf st hg
  subst hP hw hK
  obtain⟨xs,x,hq,hx⟩:=hg
  obtain⟨old,he,hj⟩:=st
  obtain⟨its,rv,p,hz⟩:=I.tuple hq
  obtain⟨u,hu,ru⟩:=rv.get hx
  have fe:=hf e (by simp)
  have fj:=hf j (by simp)
  refine Zuk he hj (show s.heap.IsTuple a its.toArray from p) (x:=u) (by simpa using hu) hne fun h' tk eo j' t' z' kk=>?_
  refine⟨_,rfl,Ubr (s:={ s with heap:=h',toks:=s.toks+1 }) eo fun h2 e2 s2=>?_⟩
  replace s2:Xy e h' h2:=s2
  have le:e<s.heap.objs.size:=Xf he
  have ne2:s.heap.objs.size≠e:=Wbn le
  -- the iterator's two records have turned, the pair is new
  have t2:h2.get? s.heap.objs.size=some { cls:=.type "tuple",data:=.seq #[.int (c+i) tk,u] }:=s2.extBut _ _ ne2 t'
  have hp0:H s.heap.objs.size=none:=I.hok.fresh (Xe _)
  have up:∀ b o,b∉[e,j]->s.heap.get? b=some o->h2.get? b=some o:=fun b o hb q =>
   s2.extBut b o (fun z=>hb (by simp[z])) (kk b o (fun z=>hb (by simp[z])) (fun z=>hb (by simp[z])) q)
  have I2:Inv X pins σ (upd H s.heap.objs.size (.tup [.int (c+i),x])) { s with heap:=h2,toks:=s.toks+1 }:=by
   refine I.step (g':=s.gens) (d':=s.drawn) (t':=s.toks+1) (ch:=[e,j]) (fun b hb=>?_) (fun b o _ _ hb q n=>up b o hb q) (fun b o _ _ hb q n=>⟨o.slots,up b o hb q⟩) (fun b o _ q n=>?_) (fun b o hb q=>⟨o,up b o hb q⟩) (fun b ys q=>?_) (fun b o y q=>?_) (fun b ps q=>⟨#[],?_⟩) (fun m hm=>?_) (fun b o q=>?_) I.bare
   ·have:=hf b hb; exact⟨this.2.2.2.1,this.2.1,this.2.2.2.2.1,this.2.2.2.2.2⟩
   ·rw[Zag (Xh (Xf q))]; exact n
   ·rw[Zag (Zai q hp0)]; exact q
   ·rw[Zag (Zai q hp0)]; exact q
   ·rw[Zag (Zai q hp0),q]; simp
   ·obtain⟨o,es',ep,ho,r⟩:=hm
    exact⟨o,es',ep,s2.extBut _ o (Ul fe.2.1) (kk _ o (Ul fe.2.1) (Ul fj.2.1) ho),r⟩
   ·by_cases hb:b=s.heap.objs.size
    ·subst hb
     rw[Zaq] at q
     cases q
     exact⟨(by show 2<=sizeLine; decide),[.int (c+i) tk,u],.cons ⟨tk,rfl⟩ (.cons ru .nil),_,t2,rfl,⟨_,rfl⟩,rfl⟩
    ·rw[Zag hb] at q
     refine(I.hok b o q).stay (fun d v hd z=>up d v (fun hm=>?_) z) (fun d z=>by rw[Zag (Zai z hp0)]; exact z) fun d ys z=>by rw[Zag (Zai z hp0)]; exact z
     have:H d≠none:=by
      rcases hd with rfl | hd
      ·rw[q]; simp
      ·rw[hd]; simp
     exact this (hf d hm).1
  refine⟨.ref s.heap.objs.size,_,I2,rfl,⟨_,x,hp0,rfl,rfl,fun ys hy=>by rw[I.tuple_inj hy hq]; exact hx⟩,?_,fun b hb=>?_⟩
  ·obtain⟨o,ho,r⟩:=id j'
   have ec:c+((i+1:Nat):Int)=c+(i:Int)+1:=by push_cast; omega
   exact⟨u,by rw[ec]; exact e2,o,s2.extBut j o (Ul hne) ho,r⟩
  ·have hb2:b≠s.heap.objs.size:=by
    rcases Xj.mp hb with rfl | hb
    ·exact Xh le
    ·have:b=j:=by simpa using hb
     subst this
     obtain⟨o,ho,_⟩:=id hj
     exact Xh (Xf ho)
   rw[Zag hb2]; exact(hf b hb).1
 done:=by
  intro X hP hw hK hc i pins s σ H E I hf st hg
  subst hP hw hK
  obtain⟨xs,hq,hx⟩:=hg
  obtain⟨old,he,hj⟩:=st
  obtain⟨its,rv,p,hz⟩:=I.tuple hq
  obtain⟨f0,f1,f2,f3,f4,f5⟩:=hf j (by simp)
  have hl:=rv.length
  exact Zr8 (I.ok.hd hc) he hj (show s.heap.IsTuple a its.toArray from p) (by simp; omega) fun h' eb=>⟨rfl,I.turned (t':=s.toks) (fun b o hb q=>eb b o hb q) f0 f1 f3 f4 f5⟩
 self:=fun _ _ _ _ _ st h=>by
  obtain⟨old,he,_⟩:=st
  exact Uas he h
section
variable {X:Cx}
nonrec def Zdp (c:Int):List D->List D
 | []=>[]
 | x::r=>.tup [.int c,x]::Zdp (c+1) r
theorem Zfb:∀ (xs:List D) (c:Int),(Zdp c xs).length=xs.length
 | [],_=>rfl
 | x::r,c=>by simp[Zdp,Zfb r]
theorem Zig:∀ {xs:List D} {c:Int} {i:Nat} {d:D},(Zdp c xs)[i]? = some d->∃ x,xs[i]? = some x/\d=.tup [.int (c+i),x]
 | [],c,i,d,h=>by simp[Zdp] at h
 | x::r,c,0,d,h=>by simp[Zdp] at h; exact⟨x,rfl,by rw[<- h]; simp⟩
 | x::r,c,i+1,d,h=>by
  simp only[Zdp,Wby] at h
  obtain⟨y,h1,h2⟩:=Zig h
  refine⟨y,by simpa using h1,?_⟩
  rw[h2]
  have:c+1+(i:Int)=c+((i+1:Nat):Int):=by push_cast; omega
  rw[this]
theorem Zqg {K:Xb} {H0:Hp} {ι0:List Ve} {a:Ve} {c:Int} {xs:List D} {vs:List V} (hS:SqT K H0 a vs) (P:Vj (Rep K H0 ι0) xs vs)
  (inj:∀ (i:Nat) (H:Hp) (x:V),(∀ ys,SqT K H a ys->ys[i]? = some x)->SqT K H a vs->vs[i]? = some x):ItRep K (Yba K c a) (Zdp c xs) [] H0 ι0:=by
 refine⟨fun i H2 ι2 Hd2 l2 h2 _ hi=>?_,fun i H2 ι2 Hd2 d v H3 l2 h2 _ hd y=>?_,fun i H2 ι2 Hd2 l2 h2 _ hi=>⟨vs,l2.tup a vs hS,by rw[<- Prd.len P,<- Zfb xs c]; exact hi⟩⟩
 ·exact⟨vs,vs[i]'(by rw[<- Prd.len P,<- Zfb xs c]; exact hi),l2.tup a vs hS,by simp⟩
 ·obtain⟨p,x,hp,rfl,rfl,y⟩:=y
  obtain⟨x',hx',rfl⟩:=Zig hd
  obtain⟨u,hu,ru⟩:=Prd.get P hx'
  have:=y vs (l2.tup a vs hS)
  rw[hu] at this
  cases this
  refine⟨ι2,Le.fresh hp _,h2.tup hp _,Zbc.mpr ⟨p,_,rfl,SqT.of Zaq,.cons (by simp) (.cons ((ru.mono l2).mono (Le.fresh hp _)) .nil)⟩⟩
nonrec def Zwy (f:AF):ItF:=fun σ H=>(f σ H).bind fun p=>match p.1 with
 | [.tup xs]=>some ((Zdp 0 xs,[]),p.2)
 | _=>none
theorem Zxl {es:List Vv} {k:Nat} {tp p pos:Pos} {a:Vv} {f:AF} (hg:Gl X "enumerate") (hm:X.mg "enumerate" = none) (ha:PAf X [a] f) (hs:Vg [a] X.env=[(false,eval a X.env)]:=by rfl):PIf X (.Tuple es k tp) (.Call (.Name "enumerate" p) [a] [] pos) (Zwy f):=by
 rintro pins s σ H R I ⟨ι,σd,Hd,xs,own,Hd',sr,hr,e,q⟩
 obtain⟨⟨ds,H1⟩,e1,e⟩:=Zo e
 dsimp only at e
 split at e
 ·rename_i ys
  cases e
  refine Call_ (Zeb I hg hm Udf (Ug (thn (ha pos pins s σ H (fun vs H'=>∃ a ws,vs=[.ref a]/\SqT X.K H' a ws/\∀ (J:It) (H2:Hp),H2=H'->J=Yba X.K 0 a->R J H2) I ⟨ι,σd,Hd,_,_,sr,hr,e1,fun vs H' ι' l h P=>?_⟩) fun us s1 ⟨vs,H2,I2,r2,q2⟩=>?_) hs rfl))
  ·obtain⟨v,rfl,r⟩:=Zl6 P
   obtain⟨ad,ws,rfl,hS,P2⟩:=Zbc.mp r
   refine⟨ad,ws,rfl,hS,fun J H2 e2 e3=>?_⟩
   subst e2 e3
   exact q _ _ ι' l h (Zqg hS P2 fun i H x y h=>y ws h)
  ·obtain⟨ad,ws,rfl,hS,q2⟩:=q2
   obtain⟨u,rfl,ru⟩:=Zh2 r2
   cases ru
   obtain⟨its,rv,p,hz⟩:=I2.tuple hS
   refine Zqq (show s1.heap.IsTuple ad its.toArray from p) fun h' he hj z' kk=>?_
   have I3:Inv X pins σ H2 { s1 with heap:=h' }:=I2.kept (t':=s1.toks) kk
   refine Uas (s:={ s1 with heap:=h' }) he ?_
   have ne:s1.heap.objs.size+1≠s1.heap.objs.size:=Wee _
   refine⟨s1.heap.objs.size+1,[s1.heap.objs.size+1,s1.heap.objs.size],_,Yba X.K 0 ad,H2,rfl,I3,Zki ad _ _ 0 ne,⟨.none,by simpa using he,hj⟩,fun b hb=>?_,q2 _ _ rfl rfl⟩
   have:s1.heap.objs.size<=b:=by
    rcases Xj.mp hb with rfl | hb
    ·exact Wec _
    ·have:b=s1.heap.objs.size:=by simpa using hb
     rw[this]; exact Xe _
   have fp:=I2.fpOk (b:=b) (H':=H2) this (I2.hok.fresh this)
   exact fp
 ·cases e
theorem Zwb {pins:List (Ve×Obj)} {σ:L2.St} {H:Hp} {s:Vd} {ch:List Ve} {h2:Vz} {tk:Nat} {vs:List V} {us:List Vb} {n:Nat} (I:Inv X pins σ H s) (hf:∀ b∈ch,Zk7 X pins H b)
  (up:∀ b o,b∉ch->s.heap.get? b=some o->h2.get? b=some o) (t2:h2.get? s.heap.objs.size=some { cls:=.type "tuple",data:=.seq us.toArray n }) (r:Zb7 vs us) (hz:vs.length<=sizeLine) :
  Inv X pins σ (upd H s.heap.objs.size (.tup vs)) { s with heap:=h2,toks:=tk }:=by
 have hp0:H s.heap.objs.size=none:=I.hok.fresh (Xe _)
 refine I.step (g':=s.gens) (d':=s.drawn) (t':=tk) (ch:=ch) (fun b hb=>?_) (fun b o _ _ hb q n=>up b o hb q) (fun b o _ _ hb q n=>⟨o.slots,up b o hb q⟩) (fun b o _ q n=>?_) (fun b o hb q=>⟨o,up b o hb q⟩) (fun b ys q=>?_) (fun b o y q=>?_) (fun b ps q=>⟨#[],?_⟩) (fun m hm=>?_) (fun b o q=>?_) I.bare
 ·have:=hf b hb; exact⟨this.2.2.2.1,this.2.1,this.2.2.2.2.1,this.2.2.2.2.2⟩
 ·rw[Zag (Xh (Xf q))]; exact n
 ·rw[Zag (Zai q hp0)]; exact q
 ·rw[Zag (Zai q hp0)]; exact q
 ·rw[Zag (Zai q hp0),q]; simp
 ·obtain⟨o,es',ep,ho,r⟩:=hm
  exact⟨o,es',ep,up _ o (fun z=>(hf _ z).2.1 rfl) ho,r⟩
 ·by_cases hb:b=s.heap.objs.size
  ·subst hb
   rw[Zaq] at q
   cases q
   exact⟨hz,us,r,_,t2,rfl,⟨_,rfl⟩,rfl⟩
  ·rw[Zag hb] at q
   refine(I.hok b o q).stay (fun d v hd z=>up d v (fun hm=>?_) z) (fun d z=>by rw[Zag (Zai z hp0)]; exact z) fun d ys z=>by rw[Zag (Zai z hp0)]; exact z
   have:H d≠none:=by
    rcases hd with rfl | hd
    ·rw[q]; simp
    ·rw[hd]; simp
   exact this (hf d hm).1
theorem Zwg {pins:List (Ve×Obj)} {σ:L2.St} {H:Hp} {s:Vd} {ch:List Ve} {h2:Vz} {tk:Nat} (I:Inv X pins σ H s) (hf:∀ b∈ch,Zk7 X pins H b)
  (up:∀ b o,b∉ch->s.heap.get? b=some o->h2.get? b=some o):Inv X pins σ H { s with heap:=h2,toks:=tk }:=by
 refine I.step (g':=s.gens) (d':=s.drawn) (t':=tk) (ch:=ch) (fun b hb=>?_) (fun b o _ _ hb q n=>up b o hb q) (fun b o _ _ hb q n=>⟨o.slots,up b o hb q⟩) (fun b o _ q n=>n) (fun b o hb q=>⟨o,up b o hb q⟩) (fun b ys q=>q) (fun b o y q=>q) (fun b ps q=>⟨#[],by rw[q]; simp⟩) (fun m hm=>?_) (fun b o q=>?_) I.bare
 ·have:=hf b hb; exact⟨this.2.2.2.1,this.2.1,this.2.2.2.2.1,this.2.2.2.2.2⟩
 ·obtain⟨o,es',ep,ho,r⟩:=hm
  exact⟨o,es',ep,up _ o (fun z=>(hf _ z).2.1 rfl) ho,r⟩
 ·refine(I.hok b o q).stay (fun d v hd z=>up d v (fun hm=>?_) z) (fun d z=>z) fun d ys z=>z
  have:H d≠none:=by
   rcases hd with rfl | hd
   ·rw[q]; simp
   ·rw[hd]; simp
  exact this (hf d hm).1
end
structure Five (z a b c d:Ve):Prop where
 az:a≠z
 bz:b≠z
 cz:c≠z
 dz:d≠z
 ab:a≠b
 ac:a≠c
 ad:a≠d
 bc:b≠c
 bd:b≠d
 cd:c≠d
section
variable {X:Cx}
nonrec def Zqe:List D->List D->List D
 | x::xs,y::ys=>.tup [x,y]::Zqe xs ys
 | _,_=>[]
theorem Zle:∀ (xs ys:List D),(Zqe xs ys).length=min xs.length ys.length
 | [],_=>by simp[Zqe]
 | _::_,[]=>by simp[Zqe]
 | x::xs,y::ys=>by simp[Zqe,Zle xs ys]
theorem Zqb:∀ {xs ys:List D} {i:Nat} {d:D},(Zqe xs ys)[i]? = some d->∃ x y,xs[i]? = some x/\ys[i]? = some y/\d=.tup [x,y]
 | [],_,i,d,h=>by simp[Zqe] at h
 | _::_,[],i,d,h=>by simp[Zqe] at h
 | x::xs,y::ys,0,d,h=>by simp[Zqe] at h; exact⟨x,y,rfl,rfl,h.symm⟩
 | x::xs,y::ys,i+1,d,h=>by
  simp only[Zqe,Wby] at h
  obtain⟨u,v,h1,h2,h3⟩:=Zqb h
  exact⟨u,v,by simpa using h1,by simpa using h2,h3⟩
nonrec def It3 (lo c:Int) (n:Nat):It:=⟨fun i _=>i<n,fun i H x H'=>H'=H/\x=.int (lo+i*c),fun i _=>n<=i⟩
theorem Zow {P:Vh} {w:Vu} {K:Xb} {tg:Vv} (it:Ve) (lo c:Int) (n:Nat):Turn P w K tg (It3 lo c n) [it] it (fun i h=>Udj h it (lo+(i:Nat)*c) ((n:Int) - (i:Nat)) c) where
 mem:=by simp
 obj:=fun i h st b hb=>by
  have e:b=it:=by simpa using hb
  subst e
  exact⟨_,st,fun v z=>by
   have z':Data.fields _=Data.cell v:=z
   cases z'⟩
 keep:=fun i h h' st k=>k it (by simp) _ st
 item:=by
  intro X hP hw hK hc i pins s σ H E I hf st hg
  subst hP hw hK
  obtain⟨f0,f1,f2,f3,f4,f5⟩:=hf it (by simp)
  have W:=Walks.range (prog:=X.prog) (w:=X.w) (I.ok.hd hc) it lo c n
  refine W.item i s _ _ hg st fun v h' tk hv st' kk=>?_
  obtain⟨t,rfl⟩:=hv
  have I1:Inv X pins σ H { s with heap:=h',toks:=tk }:=I.turned (fun b o hb e=>kk b o (by simpa using hb) e) f0 f1 f3 f4 f5
  exact⟨_,rfl,Zu9 (s:={ s with heap:=h',toks:=tk }) (n := "range_iterator") st' rfl rfl (by decide) ⟨.int (lo+i*c),H,I1,⟨t,rfl⟩,⟨rfl,rfl⟩,st',fun b hb=>(hf b hb).1⟩⟩
 done:=by
  intro X hP hw hK hc i pins s σ H E I hf st hg
  subst hP hw hK
  obtain⟨f0,f1,f2,f3,f4,f5⟩:=hf it (by simp)
  exact Ucd (I.ok.hd hc) st (by have:n<=i:=hg; omega) fun h' eb=>⟨rfl,I.turned (t':=s.toks) (fun b o hb e=>eb b o hb e) f0 f1 f3 f4 f5⟩
 self:=fun _ _ _ _ _ st h=>Uce st h
nonrec def Zf8 (lo c:Int) (n:Nat):List D:=(Wdl n).map fun k:Nat=>.int (lo+(k:Int)*c)
end
structure Fn (P:Vh) (w:Vu) (K:Xb) (mg:Str->Option Vb) (base:Vz) (k:Nat) (x:Str) (ps:List Str) (F:FF):Prop where
 ex:∃ f fd,FnOk P w K mg base CX0 k f fd ps (spF K ps.length F)/\Zo2 K fd ps []/\Wcc K (.ref f)=true/\mg x=some (.ref f)/\∃ (oc:Vb) (od:Option Ve) (osl:Array (Option Vb)),K.lookup f=some ⟨oc,od,.func fd,osl⟩
theorem Zal {X:Cx} {k n:Nat} {ps:List Str} {x:Str} {p pos:Pos} {F:FF} {fa:AF} {e:Vv} {es:List Vv} (G:Fn X.prog X.w X.K X.mg X.base k x ps F) (hr:Room k X.A) (hg:Gl X x)
  (ha:PAf X (e::es) fa) (hdb:(x==("__debug__" : Str))=false:=by decide) (he:Vg (e::es) X.env=(false,eval e X.env)::Vg es X.env:=by exact Zb0 rfl) (hpl:(Ual pos (Vg es X.env)).any (·.1)=false:=by exact Zc0 rfl) (hn:ps.length=n:=by rfl) :
  PEf X (.Call (.Name x p) (e::es) [] pos) (Zak n F fa):=by
 subst hn
 obtain⟨f,fd,G1,hb,hk,hm,_⟩:=G.ex
 exact Zv0 G1 hr hg hm hk hb ha hdb he hpl
def Tf (K:Xb) (mg:Str->Option Vb) (x:Str) (st:Uab):Prop:=∃ f fd,Fun K x x st f fd/\mg x=some (.ref f)
theorem us0 {us:List Vb} (h:us.length=0):us=[]:=Wcs.mp h
theorem us1 {us:List Vb} (h:us.length=1):∃ a,us=[a]:=by
 obtain⟨a,r⟩:=Wae h
 obtain⟨t,rfl⟩:=r
 rw[us0 (us:=t) (by simpa using h)]
 exact⟨a,rfl⟩
theorem us2 {us:List Vb} (h:us.length=2):∃ a b,us=[a,b]:=by
 obtain⟨a,t,rfl⟩:=Wae h
 obtain⟨b,rfl⟩:=us1 (us:=t) (by simpa using h)
 exact⟨a,b,rfl⟩
theorem us3 {us:List Vb} (h:us.length=3):∃ a b c,us=[a,b,c]:=by
 obtain⟨a,t,rfl⟩:=Wae h
 obtain⟨b,c,rfl⟩:=us2 (us:=t) (by simpa using h)
 exact⟨a,b,c,rfl⟩
theorem us4 {us:List Vb} (h:us.length=4):∃ a b c d,us=[a,b,c,d]:=by
 obtain⟨a,t,rfl⟩:=Wae h
 obtain⟨b,c,d,rfl⟩:=us3 (us:=t) (by simpa using h)
 exact⟨a,b,c,d,rfl⟩
theorem us5 {us:List Vb} (h:us.length=5):∃ a b c d e,us=[a,b,c,d,e]:=by
 obtain⟨a,t,rfl⟩:=Wae h
 obtain⟨b,c,d,e,rfl⟩:=us4 (us:=t) (by simpa using h)
 exact⟨a,b,c,d,e,rfl⟩
theorem tf_mk {K:Xb} {h:Vz} {mg:Str->Option Vb} {x:Str} {st:Uab} {f:Ve} {oc:Vb} {od an:Option Ve} {osl:Array (Option Vb)} {kV doc pm cdv ct:Vb} (X:K.In h) (G:h.Ns Vl mg)
  (a:Wcn K Vl x=some (some (.ref f))) (l:K.lookup f=some ⟨oc,od,.func (Wav x x (Zcn st) (Za6 st) (Zad st) .none kV doc pm an cdv ct),osl⟩)
  (c:Wcj K cdv x=true) (k:Wcc K (.ref f)=true):Tf K mg x st:=⟨f,_,Zx6 l c k,Wex X G a⟩
theorem Zba {P:Vh} {w:Vu} {K:Xb} {mg:Str->Option Vb} {base:Vz} {x:Str} {st:Uab} {N ps:List Str} {k:Nat} {b:SF} (T:Tf K mg x st) (S:FnScope N ps (Zad st))
  (hbd:∀ (kV doc pm:Vb) (an:Option Ve) (cdv ct:Vb) (us:List Vb),us.length=ps.length->Uby (Wav x x (Zcn st) (Za6 st) (Zad st) .none kV doc pm an cdv ct) ⟨us,[]⟩=pure (ps.zip us))
  (hb:∀ (f:Ve) (cdv:Vb) (A:Vt) (outer:List Env) (s:Vd) (H:Hp) (E:XK),Room k (A.deeper (Ubc x (Zad st) s.heap.objs.size f cdv)) ->
   Zo3 (Zl8 CX0 P w K mg base N x (Zad st) f cdv A outer s H E).nox (Za6 st) b):Fn P w K mg base (k+1) x ps (Za7 ps.length N.length b):=by
 obtain⟨f,fd,F,hm⟩:=T
 refine⟨f,fd,fn_f F S fun cdv A outer s H E hr=>hb f cdv A outer s H E hr,F.binds hbd,F.kp,hm,?_⟩
 obtain⟨oc,od,kV,doc,pm,an,cdv,ct,osl,rfl,lk,hcd⟩:=F.ex
 exact⟨oc,od,osl,lk⟩
nonrec def blkB (sc scope:Ubm) (N:List Str) (x:Str) (cn:List Str) (ci:List Nat):Bool :=
 (scope.kind==.function)&&scope.names.all (fun y=>y.2 != .cell)&&scope.names.all (fun y=>y.2 != .local||scope.names.lookup y.1==some .local)&&(scope.names.lookup x==some .local) &&
 scope.names.all (fun y=>y.2 != .free||sc.names.lookup y.1==some .cell)&&decide (x::cn).Nodup&&(ci.length==cn.length) &&
 (cn.zip ci).all (fun p=>N[p.2]? == some p.1&&scope.names.lookup p.1==some .free&&sc.names.lookup p.1==some .cell)
theorem Zg2 {P:Vh} {w:Vu} {K:Xb} {mg:Str->Option Vb} {base:Vz} {N:List Str} {qual:Str} {sc scope:Ubm} {f:Ve} {cdv:Vb} {A:Vt} {outer:List Env} {s:Vd} {H:Hp} {E:XK} {x:Str} {cn:List Str} {ci:List Nat}
  (h:blkB sc scope N x cn ci=true):BlkOk (Zl8 CX0 P w K mg base N qual sc f cdv A outer s H E).nox scope x cn ci:=by
 unfold blkB at h
 simp only[Waf,Xv,Wek,bne_iff_ne,ne_eq,beq_iff_eq,decide_eq_true_eq] at h
 obtain⟨⟨⟨⟨⟨⟨⟨h1,h2⟩,h3⟩,h4⟩,h5⟩,h6⟩,h7⟩,h8⟩:=h
 refine⟨h1,fun y hy=>h2 y hy,fun y hy hl=>(h3 y hy).resolve_left fun z=>z hl,h4,fun y hy hf=>?_,h6,h7,fun j y hj=>?_⟩
 ·have:=(h5 y hy).resolve_left fun z=>z hf
  obtain⟨c,hc⟩:=Zh7 (n:=s.heap.objs.size+1) this
  exact Wai.mpr ⟨c,hc⟩
 ·have hl:j<ci.length:=by rw[h7]; exact(Xc.mp hj).1
  have hm:(y,ci[j])∈cn.zip ci:=by
   refine Wbq.mpr ⟨j,?_⟩
   rw[Wdw]
   exact⟨hj,by simp[hl]⟩
  obtain⟨⟨k1,k2⟩,k3⟩:=h8 _ hm
  exact⟨ci[j],by simp[hl],k1,k2,.inl k3⟩
theorem Zny:Vq "len" = some (.builtin "len"):=by decide +kernel
theorem Zux:Vq "abs" = some (.builtin "abs"):=by decide +kernel
theorem Ybd:Vq "max" = some (.builtin "max"):=by decide +kernel
theorem Zmz:Vq "sorted" = some (.builtin "sorted"):=by decide +kernel
theorem Zk9:Vq "isinstance" = some (.builtin "isinstance"):=by decide +kernel
theorem Zx3:Vq "all" = some (.builtin "all"):=by decide +kernel
theorem Zym:Vq "int" = some (.type "int"):=by decide +kernel
theorem Zpw:Vq "tuple" = some (.type "tuple"):=by decide +kernel
theorem Yar:Vq "list" = some (.type "list"):=by decide +kernel
theorem Yay:Vq "bool" = some (.type "bool"):=by decide +kernel
section
variable {X:Cx} {tg:Vv}
theorem Zzu {K:Xb} {H0:Hp} {ι0:List Ve} {a:Ve} {xs:List D} {vs:List V} (hS:SqT K H0 a vs) (P:Vj (Rep K H0 ι0) xs vs):ItRep K (Itt K a) xs [] H0 ι0:=by
 refine⟨fun i H2 ι2 Hd2 l2 h2 _ hi=>?_,fun i H2 ι2 Hd2 d x H3 l2 h2 _ hd y=>?_,fun i H2 ι2 Hd2 l2 h2 _ hi=>⟨vs,l2.tup a vs hS,by rw[<- Prd.len P]; exact hi⟩⟩
 ·exact⟨vs,vs[i]'(by rw[<- Prd.len P]; exact hi),l2.tup a vs hS,by simp⟩
 ·obtain⟨rfl,y⟩:=y
  obtain⟨u,hu,ru⟩:=Prd.get P hd
  have:=y vs (l2.tup a vs hS)
  rw[hu] at this
  cases this
  exact⟨ι2,Le.refl,h2,ru.mono l2⟩
theorem Ybi {K:Xb} {H0:Hp} {ι0:List Ve} {a:Ve} {xs:List D} {vs:List V} (hS:FzL K H0 a vs) (P:Vj (Rep K H0 ι0) xs vs):ItRep K (Itl K a) xs [] H0 ι0:=by
 refine⟨fun i H2 ι2 Hd2 l2 h2 _ hi=>?_,fun i H2 ι2 Hd2 d x H3 l2 h2 _ hd y=>?_,fun i H2 ι2 Hd2 l2 h2 _ hi=>⟨vs,(l2.fz a vs hS).sq,by rw[<- Prd.len P]; exact hi⟩⟩
 ·exact⟨vs,vs[i]'(by rw[<- Prd.len P]; exact hi),(l2.fz a vs hS).sq,by simp⟩
 ·obtain⟨rfl,y⟩:=y
  obtain⟨u,hu,ru⟩:=Prd.get P hd
  have:=y vs (l2.fz a vs hS).sq
  rw[hu] at this
  cases this
  exact⟨ι2,Le.refl,h2,ru.mono l2⟩
theorem Zzi {K:Xb} {H0:Hp} {ι0:List Ve} {a:Ve} {n:Nat} {xs:List D} (ha:ι0[n]? = some a):ItRep K (Itl K a) xs [(n,.lst xs)] H0 ι0:=by
 have now:∀ {H2:Hp} {ι2:List Ve} {Hd2:HD},Le K H0 ι0 H2 ι2->HRep K H2 ι2 Hd2->Zcd [(n,DO.lst xs)] Hd2->∃ ws,H2 a=some (.lst ws)/\Vj (Rep K H2 ι2) xs ws:=fun {H2 ι2 Hd2} l2 h2 ok =>
  h2.obj n a _ (l2.get ha) (ok (n,.lst xs) (by simp))
 refine⟨fun i H2 ι2 Hd2 l2 h2 ok hi=>?_,fun i H2 ι2 Hd2 d x H3 l2 h2 ok hd y=>?_,fun i H2 ι2 Hd2 l2 h2 ok hi=>?_⟩
 ·obtain⟨ws,h3,P3⟩:=now l2 h2 ok
  exact⟨ws,ws[i]'(by rw[<- Prd.len P3]; exact hi),SqL.of h3,by simp⟩
 ·obtain⟨ws,h3,P3⟩:=now l2 h2 ok
  obtain⟨rfl,y⟩:=y
  obtain⟨u,hu,ru⟩:=Prd.get P3 hd
  have:=y ws (SqL.of h3)
  rw[hu] at this
  cases this
  exact⟨ι2,Le.refl,h2,ru⟩
 ·obtain⟨ws,h3,P3⟩:=now l2 h2 ok
  exact⟨ws,SqL.of h3,by rw[<- Prd.len P3]; exact hi⟩
nonrec def iSq (f:EF):ItF:=fun σ H=>(f σ H).bind fun p=>(Zi5 p.1 p.2).map fun r=>(r,p.2)
theorem Zfo {l:Vv} {f:EF} (hl:PEf X l f):PIf X tg l (iSq f):=by
 rintro pins s σ H R I ⟨ι,σd,Hd,xs,own,Hd',sr,hr,e,q⟩
 obtain⟨⟨d,H1⟩,e1,e⟩:=Zo e
 obtain⟨⟨ys,ow⟩,e2,e⟩:=Zm e
 obtain⟨e3,rfl⟩:=Wau.inj e
 obtain⟨rfl,rfl⟩:=Wau.inj e3
 refine thn (hl pins s σ H (fun v H1=>∃ a,v=.ref a/\(((∃ xs,SqL X.K H1 a xs)/\R (Itl X.K a) H1)\/((∃ xs,SqT X.K H1 a xs)/\R (Itt X.K a) H1))) I ⟨ι,σd,Hd,_,_,sr,hr,e1,fun v H' ι' l h r=>?_⟩) fun v s1 ⟨x,H2,I2,r2,q2⟩=>?_
 ·cases d with
  | tup zs =>
   cases e2
   obtain⟨a,vs,rfl,hS,P⟩:=Zbc.mp r
   exact⟨a,rfl,.inr ⟨⟨vs,hS⟩,q _ H' ι' l h (Zzu hS P)⟩⟩
  | fl zs =>
   cases e2
   obtain⟨a,vs,rfl,hS,P⟩:=Zg0.mp r
   exact⟨a,rfl,.inl ⟨⟨vs,hS.sq⟩,q _ H' ι' l h (Ybi hS P)⟩⟩
  | ref n =>
   simp only[Zi5] at e2
   split at e2
   ·rename_i zs eo
    obtain⟨e5,e6⟩:=Wau.inj (Xw.inj e2)
    subst e5 e6
    obtain⟨a,rfl,ha⟩:=Zaz.mp r
    obtain⟨vs,h1,P⟩:=h.obj n a _ ha eo
    exact⟨a,rfl,.inl ⟨⟨vs,SqL.of h1⟩,q _ H' ι' l h (Zzi ha)⟩⟩
   ·cases e2
  | _=>simp[Zi5] at e2
 ·obtain⟨a,rfl,q2⟩:=q2
  cases r2
  have fp:∀ b∈[s1.heap.objs.size],Zk7 X pins H2 b:=fun b hb=>by
   have e:b=s1.heap.objs.size:=by simpa using hb
   subst e
   exact I2.fpOk (Xe _) (I2.hok.fresh (Xe _))
  rcases q2 with ⟨⟨xs,hq⟩,q2⟩ | ⟨⟨xs,hq⟩,q2⟩
  ·obtain⟨its,rv,p,hz⟩:=I2.list hq
   exact Uak p.isList ⟨s1.heap.objs.size,[s1.heap.objs.size],_,_,H2,rfl,I2.kept (t':=s1.toks) fun b o e=>Xa _ e,Ztv a _,⟨_,Xd _ rfl,rfl,rfl⟩,fp,q2⟩
  ·obtain⟨its,rv,p,hz⟩:=I2.tuple hq
   exact Uag (show s1.heap.IsTuple a its.toArray from p) ⟨s1.heap.objs.size,[s1.heap.objs.size],_,_,H2,rfl,I2.kept (t':=s1.toks) fun b o e=>Xa _ e,Zqy a _,⟨_,Xd _ rfl,rfl,rfl⟩,fp,q2⟩
end
theorem Zaw {X:Cx} {e:Vv} {es:List Vv} {f:EF} {g:AF} (ha:PEf X e f) (hr:PAf X es g) (hs:Zqh e=true):PAf X (e::es) (Zab f g):=Zxm ha hr (Zb0 hs)
nonrec def Yd0 (F:FF) (K:Xb):Sp:=spF K 1 F
variable {X:Cx}
nonrec def Zzf:List D->Option (List Bool)
 | []=>some []
 | .bl b::r=>(Zzf r).map fun x=>b::x
 | _::_=>none
theorem Zjk {K:Xb} {H:Hp} {ι:List Ve}:∀ {xs:List D} {bs:List Bool} {vs:List V} {us:List Vb},Zzf xs=some bs->Vj (Rep K H ι) xs vs->Zb7 vs us->us=bs.map .bool
 | [],bs,vs,us,e,P,q=>by cases e; cases P; cases q; rfl
 | d::r,bs,vs,us,e,P,q=>by
  cases P with
  | cons p P =>
   cases q with
   | cons q Q =>
    cases d<;>simp only[Zzf] at e<;>try cases e
    obtain⟨y,e1,rfl⟩:=Zm e
    simp at p
    subst p
    cases q
    rw[Zjk e1 P Q]
    rfl
theorem Zpz (bs:List Bool):Zzf (bs.map .bl)=some bs:=by
 induction bs with
 | nil=>rfl
 | cons b r ih=>simp[Zzf,ih]
nonrec def Zyg:FF:=fun ds H=>match ds with
 | [.ref n]=>match H[n]? with
  | some (.lst xs)=>(Zzf xs).map fun bs=>(.bl (bs.all id),H)
  | _=>none
 | _=>none
theorem Zs4 (bs:List Bool):((Wdl bs.length).all fun i=>(bs[i]?).getD true)=bs.all id:=by
 rw[Wel,Xv,Xv]
 constructor
 ·intro h x hx
  obtain⟨i,hi,rfl⟩:=Wer hx
  have:=h i (by simpa using hi)
  simpa [hi] using this
 ·intro h i hi
  have hi:i<bs.length:=by simpa using hi
  have:=h _ (Wab hi)
  simpa [hi] using this
theorem Zmx (hc:X.calm=true):Zhw X (.builtin "all") Zyg:=by
 rintro pins s σ H xs us Q I rv ⟨ι,ds,Hd,d,Hd',hr,P,e,q⟩
 unfold Zyg at e
 split at e
 ·rename_i n
  split at e
  ·rename_i ys eo
   obtain⟨bs,e1,e⟩:=Zm e
   obtain⟨rfl,rfl⟩:=Wau.inj e
   obtain⟨v,rfl,r⟩:=Zl6 P
   obtain⟨a,rfl,ha⟩:=Zaz.mp r
   obtain⟨vs,h1,P2⟩:=hr.obj n a _ ha eo
   cases rv with
   | cons rx rv =>
    cases rv
    cases rx
    obtain⟨its,rv2,p,hz⟩:=I.list (SqL.of h1)
    have eits:=Zjk e1 P2 rv2
    have hlt:a<s.heap.objs.size:=by
     obtain⟨o,ho,_⟩:=p.isList
     exact Xf ho
    refine call_all_walk (Uak p.isList ⟨s.heap.objs.size,[s.heap.objs.size,a],[s.heap.objs.size],its.toArray.size,_,_,fun i=>(bs[i]?).getD true,rfl,
     Walks.list (A:=X.A.in1) (show X.A.in1.handled=none from I.ok.hd hc) s.heap.objs.size a (Xh hlt) its.toArray,⟨⟨_,Xd _ rfl,rfl,rfl⟩,p.isList.at fun o z=>Xa _ z⟩,?_,fun h' tk k=>?_⟩)
    ·intro i v s2 Q2 E2 hv hq
     rw[eits] at hv
     have hv2:(bs.map Tca)[i]? = some v:=by simpa using hv
     rw[Xn] at hv2
     obtain⟨b,hb,rfl⟩:=Zm hv2
     refine Uaf ?_
     simpa [hb] using hq
    ·have hn:its.toArray.size=bs.length:=by rw[eits]; simp
     rw[hn,Zs4]
     refine⟨.bl (bs.all id),H,I.kept (t':=tk) fun b o z=>k b o ?_ (Xa _ z),rfl,q _ H ι Le.refl hr (by simp)⟩
     intro hm
     have:b=s.heap.objs.size:=by simpa using hm
     exact absurd (this ▸ Xf z) (Was _)
  ·cases e
 ·cases e
variable {X:Cx}
section
variable {a b c:Vv} {pos:Pos}
nonrec def eCh (g g':F2) (fa fb fc:EF):EF:=fun σ H=>(fa σ H).bind fun p=>(fb σ p.2).bind fun q=>(g p.1 q.1 q.2).bind fun z=>(blD z.1).bind fun k=>if k=true then (fc σ z.2).bind fun w=>g' q.1 w.1 w.2 else some (.bl false,z.2)
theorem Zwj {fa fb fc:EF} {g g':F2} {σ:L2.St} {H:Hp} {Q:VK} {K:Xb} (h:rdE K (eCh g g' fa fb fc) σ H Q):Zx8 (rd2 K g) (rd2 K g') (rdE K fa) (rdE K fb) (rdE K fc) σ H Q:=by
 obtain⟨ι,σd,Hd,d,Hd',s,hr,e,q⟩:=h
 obtain⟨⟨x,H1⟩,e1,e⟩:=Zo e
 obtain⟨⟨y,H2⟩,e2,e⟩:=Zo e
 obtain⟨⟨z,H3⟩,e3,e⟩:=Zo e
 obtain⟨k,e4,e⟩:=Zo e
 refine⟨ι,σd,Hd,x,H1,s,hr,e1,fun v1 H1' ι1 l1 h1 r1=>⟨ι1,σd,H1,y,H2,s.mono l1,h1,e2,fun v2 H2' ι2 l2 h2 r2=>⟨ι2,x,y,H2,z,H3,h2,r1.mono l2,r2,e3,fun v3 H3' ι3 l3 h3 r3=>⟨k,Zlg e4 r3,?_⟩⟩⟩⟩
 cases k with
 | true =>
  rw[if_pos rfl] at e ⊢
  obtain⟨⟨u,H4⟩,e5,e⟩:=Zo e
  exact⟨ι3,σd,H3,u,H4,s.mono ((l1.trans l2).trans l3),h3,e5,fun v4 H4' ι4 l4 h4 r4=>⟨ι4,y,u,H4,d,Hd',h4,r2.mono (l3.trans l4),r4,e,fun v H' ι' l h r=>q v H' ι' ((((l1.trans l2).trans l3).trans l4).trans l) h r⟩⟩
 | false =>
  rw[if_neg (by simp)] at e ⊢
  obtain⟨rfl,rfl⟩:=Wau.inj (Xw.inj e)
  exact q _ H3' ι3 ((l1.trans l2).trans l3) h3 (by simp)
theorem Zmb {op op':CmpOp} {g g':F2} {fa fb fc:EF} (ho:OpF X (Vr op) g) (ho':OpF X (Vr op') g') (ha:PEf X a fa) (hb:PEf X b fb) (hc:PEf X c fc)
  (hm:lastMarks [op,op'] [b,c]=false):PEf X (.Compare a [op,op'] [b,c] pos) (eCh g g' fa fb fc) :=
 PEi (Zxa ho ho' ha hb hc hm) fun _ _ _ h=>Zwj h
end
def Gc (K:Xb) (mg:Str->Option Vb) (x:Str) (d:D):Prop:=∃ u v,mg x=some u/\Zcg v u/\∀ H ι,Rep K H ι d v
theorem Zmj {x:Str} {d:D} {pos:Pos} (hg:Gl X x) (h:Gc X.K X.mg x d) (hd:(x==("__debug__" : Str))=false:=by decide):PEf X (.Name x pos) (eC d):=by
 obtain⟨u,v,hm,r,rp⟩:=h
 exact Zoy (Zr1 (v:=v) hg hm r hd) rp
variable {X:Cx}
nonrec def Zbf (kvs:List (D×D)) (k:List Int):Option D:=(kvs.find? fun p=>nk p.1==some k).map (·.2)
nonrec def Zn6 (kvs:List (D×D)) (kd:D) (k:List Int) (vd:D):List (D×D) :=
 if (Zbf kvs k).isSome then kvs.map (fun p=>if nk p.1=some k then (p.1,vd) else p) else kvs++[(kd,vd)]
section
variable {K:Xb} {H:Hp} {ι:List Ve}
theorem Ziq {kvs:List (D×D)} {xs:List (List Int×Ve×Vb)} (h:Vj (Zrx K H ι) kvs xs) (k:List Int) :
  (Zbf kvs k=none/\atKey xs k=none)\/∃ vd b u v,Zbf kvs k=some vd/\atKey xs k=some (b,u)/\Zcg v u/\Rep K H ι vd v:=by
 unfold Zbf atKey
 induction h with
 | nil=>exact .inl ⟨rfl,rfl⟩
 | @cons p x ps ys r t ih =>
  obtain⟨r1,r2,v,r3,r4⟩:=r
  by_cases hk:x.1=k
  ·have e1:(nk p.1==some k)=true:=by rw[r1,hk]; simp
   refine .inr ⟨p.2,x.2.1,x.2.2,v,?_,?_,r3,r4⟩
   ·rw[Wbw]; simp only[e1]; rfl
   ·rw[Wbw]; simp only[hk,decide_true]; rfl
  ·have e1:¬ (nk p.1==some k)=true:=by rw[r1]; simpa using hk
   have e1':(nk p.1==some k)=false:=by simpa using e1
   have e2':decide (x.1=k)=false:=decide_eq_false hk
   rw[Wbw,Wbw]
   simp only[e1',e2']
   exact ih
theorem Zvv {kvs:List (D×D)} {xs:List (List Int×Ve×Vb)} {kd vd:D} {k:List Int} {b:Ve} {u:Vb} {v:V} (h:Vj (Zrx K H ι) kvs xs) (h1:nk kd=some k) (h2:Rep K H ι kd (.ref b)) (rv:Zcg v u) (r:Rep K H ι vd v) :
  Vj (Zrx K H ι) (Zn6 kvs kd k vd) (Uej xs k b u):=by
 have all:∀ {ls:List (D×D)} {ys:List (List Int×Ve×Vb)},Vj (Zrx K H ι) ls ys->Vj (Zrx K H ι) (ls.map (fun p=>if nk p.1=some k then (p.1,vd) else p)) (ys.map (putAt k u)):=by
  intro ls ys q
  induction q with
  | nil=>exact .nil
  | @cons p x ps zs r' t ih =>
   refine .cons ?_ ih
   obtain⟨r1,r2,r3⟩:=r'
   unfold putAt
   by_cases hk:x.1=k
   ·have e:nk p.1=some k:=by rw[r1,hk]
    show Zrx K H ι (if nk p.1=some k then (p.1,vd) else p) (if x.1=k then (x.1,x.2.1,u) else x)
    rw[if_pos hk,if_pos e]
    exact⟨r1,r2,v,rv,r⟩
   ·have e:¬ nk p.1=some k:=by rw[r1]; simpa using hk
    show Zrx K H ι (if nk p.1=some k then (p.1,vd) else p) (if x.1=k then (x.1,x.2.1,u) else x)
    rw[if_neg hk,if_neg e]
    exact⟨r1,r2,r3⟩
 unfold Zn6 Uej
 rcases Ziq h k with ⟨e1,e2⟩ | ⟨_,_,_,_,e1,e2,_⟩
 ·rw[e1,e2]
  exact Prd.append h (.cons ⟨h1,h2,v,rv,r⟩ .nil)
 ·rw[e1,e2]
  exact all h
theorem Zwm (kvs:List (D×D)) (kd:D) (k:List Int) (vd:D):(Zn6 kvs kd k vd).length<=kvs.length+1:=by
 unfold Zn6; split<;>simp
end
section
variable {pins:List (Ve×Obj)} {σ:L2.St} {H:Hp} {s:Vd} {ι:List Ve} {Hd:HD}
theorem Ydi {d:D} {v:V} {u:Vb} {k:Int} {K:Xb} (e:nkOf d=some k) (r:Rep K H ι d v) (q:Zcg v u):Znf k u=true:=by
 cases d with
 | bl b=>cases e; simp at r; subst r; cases q; simp[Znf,Zsg]
 | int i=>cases e; simp at r; subst r; obtain⟨t,rfl⟩:=q; simp[Znf,Zsg]
 | _=>cases e
theorem Zmm {P:Vh} {w:Vu} {K:Xb}:∀ {ds:List D} {vs:List V} {us:List Vb} {ks:List Int},Zk3 ds=some ks->Vj (Rep K H ι) ds vs->Zb7 vs us->ItemsAre (Zcp P w) ks us
 | [],vs,us,ks,e,p,q=>by cases e; cases p; cases q; exact .nil
 | d::ds,vs,us,ks,e,p,q=>by
  cases p with
  | cons p1 p2 =>
   cases q with
   | cons q1 q2 =>
    simp only[Zk3] at e
    obtain⟨k,e1,e⟩:=Zo e
    obtain⟨r,e2,rfl⟩:=Zm e
    exact .cons (Ydi e1 p1 q1) (Zmm e2 p2 q2)
theorem Znz (I:Inv X pins σ H s) {d:D} {k:List Int} {b:Ve} (e:nk d=some k) (r:Rep X.K H ι d (.ref b)):(Uaz (Zcp X.prog X.w)).is s.heap k b:=by
 cases d<;>simp only[nk] at e<;>try cases e
 rename_i ds
 obtain⟨a,vs,ea,h,P⟩:=Zbc.mp r
 cases ea
 obtain⟨its,rv,ht,hz⟩:=I.tuple h
 obtain⟨o,h1,h2,n,h3⟩:=ht
 exact⟨o,its.toArray,n,h1,h2,h3,by simpa using Zmm e P rv⟩
theorem Zi8 (I:Inv X pins σ H s) {a:Ve} {kvs:List (D×D)} {fz:Bool} (h:Zrj X.K H ι a (.dic kvs fz)):(a==Uae)=false/\kvs.length<=sizeLine/\∃ xs,(if fz=true then ∃ o,H a=some (.frz o (.ext (Zc9 a xs))) else H a=some (.ext (Zc9 a xs)))/\Vj (Zrx X.K H ι) kvs xs/\s.heap.DictOfH (Uaz (Zcp X.prog X.w)) a xs:=by
 obtain⟨h1,h2,xs,e,p⟩:=h
 have rd:Rd H a (.ext (Zc9 a xs)):=by
  cases fz with
  | true=>rw[if_pos rfl] at e; exact .inr e
  | false=>rw[if_neg (by simp)] at e; exact .inl e
 obtain⟨⟨o,es,ep,g1,g2,g3,g4,g5⟩,_⟩:=(show Zc5 X.prog X.w H s.heap a (.ext (Zc9 a xs)) from rd.ok I.hok)
 refine⟨h1,h2,xs,e,p,o,es,ep,g1,g2,g3,g4,?_,g5⟩
 have all:∀ {l:List (D×D)} {m:List (List Int×Ve×Vb)},Vj (Zrx X.K H ι) l m->∀ x∈m,(Uaz (Zcp X.prog X.w)).is s.heap x.1 x.2.1:=by
  intro l m q
  induction q with
  | nil=>intro x hx; exact nomatch hx
  | @cons p x ps qs hq t ih =>
   intro y hy
   rcases Xj.mp hy with e | hy
   ·subst e
    exact Znz I hq.1 hq.2.1
   ·exact ih y hy
 exact all p
end
nonrec def Zvt (x:D) (H:HD):Option (List (D×D)):=match x with
 | .ref n=>match H[n]? with
  | some (.dic kvs _)=>some kvs
  | _=>none
 | _=>none
theorem Ziu {x:D} {Hd:HD} {kvs:List (D×D)} (e:Zvt x Hd=some kvs):∃ n fz,x=.ref n/\Hd[n]? = some (.dic kvs fz):=by
 cases x<;>simp only[Zvt] at e<;>try cases e
 rename_i n
 split at e
 ·rename_i fz h; cases e; exact⟨n,fz,rfl,h⟩
 ·cases e
nonrec def Zfx:F2:=fun x y H=>(Zvt x H).bind fun kvs=>(nk y).bind fun k=>(Zbf kvs k).map fun v=>(v,H)
theorem Zp3 {K:Xb} {H:Hp} {ι:List Ve} {d:D} {k:List Int} {v:V} (e:nk d=some k) (r:Rep K H ι d v):∃ b,v=.ref b:=by
 cases d<;>simp only[nk] at e<;>try cases e
 obtain⟨a,vs,rfl,_⟩:=Zbc.mp r
 exact⟨a,rfl⟩
theorem Zqo (hu:X.A.units+64<cLine):IxF X Zfx:=by
 rintro va sl pins s σ H x y v u Q I rx ry ⟨ι,dx,dy,Hd,d,Hd',hr,r1,r2,e,q⟩ hs
 obtain⟨kvs,e1,e⟩:=Zo e
 obtain⟨k,e2,e⟩:=Zo e
 obtain⟨vd,e3,e⟩:=Zm e
 obtain⟨rfl,rfl⟩:=Wau.inj e
 obtain⟨n,fz,rfl,hn⟩:=Ziu e1
 obtain⟨a,rfl,ha⟩:=Zaz.mp r1
 obtain⟨b,rfl⟩:=Zp3 e2 r2
 cases rx
 cases ry
 obtain⟨h1,h2,xs,h3,P,dd⟩:=Zi8 I (hr.obj n a _ ha hn)
 have key:=Znz I e2 r2
 rcases Ziq P k with ⟨z,_⟩ | ⟨vd',b',u',v',z1,z2,z3,z4⟩
 ·rw[z] at e3; cases e3
 ·rw[z1] at e3; cases e3
  have ty:s.TypeIs (.ref a) "dict" := dd.typeIs
  refine tail_any (ops:=[.ref a,.ref b]) ty PySem.F.slot_dict_getitem.lookup (wpAny_getItem_heap (knd:=Uaz (Zcp X.prog X.w)) (Ubt (by omega)) key dd z2 ?_) hs
  exact⟨v',H,I.tok _,z3,q _ H ι Le.refl hr z4⟩
nonrec def dinD:F2:=fun x y H=>(Zvt y H).bind fun kvs=>(nk x).map fun k=>(.bl (Zbf kvs k).isSome,H)
theorem dinf (hu:X.A.units+64<cLine):OpF X (Vr .In) dinD:=by
 rintro pins s σ H x y v u Q I rx ry ⟨ι,dx,dy,Hd,d,Hd',hr,r1,r2,e,q⟩
 obtain⟨kvs,e1,e⟩:=Zo e
 obtain⟨k,e2,e⟩:=Zm e
 obtain⟨rfl,rfl⟩:=Wau.inj e
 obtain⟨n,fz,rfl,hn⟩:=Ziu e1
 obtain⟨a,rfl,ha⟩:=Zaz.mp r2
 obtain⟨b,rfl⟩:=Zp3 e2 r1
 cases rx
 cases ry
 obtain⟨h1,h2,xs,h3,P,dd⟩:=Zi8 I (hr.obj n a _ ha hn)
 refine wpAny_in_heap (knd:=Uaz (Zcp X.prog X.w)) (Ubt (by omega)) (Znz I e2 r1) h1 dd ?_
 have e3:(atKey xs k).isSome=(Zbf kvs k).isSome:=by
  rcases Ziq P k with ⟨z1,z2⟩ | ⟨_,_,_,_,z1,z2,_⟩<;>rw[z1,z2]<;>rfl
 rw[e3]
 exact⟨.bl _,H,I.tok _,rfl,q _ H ι Le.refl hr (by simp)⟩
nonrec def eDN:EF:=fun _ H=>some (.ref H.length,H++[.dic [] false])
theorem Zlx {pos:Pos}:PEf X (.Dict [] [] pos) eDN:=by
 rintro pins s σ H Q I ⟨ι,σd,Hd,d,Hd',sr,hr,e,q⟩
 cases e
 have hb:Uae<s.heap.objs.size:=Nat.lt_trans (by decide) (show Vl<s.heap.objs.size from(I.mod.glob.keeps I.bk).lt)
 have hp:=I.hok.fresh (Xe s.heap.objs.size)
 have ok:Zc5 X.prog X.w (upd H s.heap.objs.size (.ext (Zc9 s.heap.objs.size []))) (s.heap.push { cls:=.type "dict",data:=.dict #[] }) s.heap.objs.size (.ext (Zc9 s.heap.objs.size [])) :=
  ⟨⟨_,#[],0,Xd _ rfl,⟨rfl,rfl,rfl⟩,rfl,rfl,List.nodup_nil⟩,⟨_,Xd _ rfl⟩,fun h1 h2 d k=>Zc9.keep d k⟩
 refine wpAny_Dict_empty ⟨.ref s.heap.objs.size,_,I.laid (a:=s.heap.objs.size) (o:=.ext (Zc9 s.heap.objs.size [])) (t':=s.toks) (fun _ _ q=>Xa _ q) (Xe _) ok,rfl,?_⟩
 have hl:ι.length=Hd.length:=hr.len
 refine q _ _ (ι++[s.heap.objs.size]) (Le.fresh1 hp _) (hr.new hp ⟨beq_eq_false_iff_ne.mpr (Ul (Xh hb)),Wbg _,[],by rw[if_neg (by simp)]; exact Zaq,.nil⟩) (Zaz.mpr ⟨_,rfl,by rw[<- hl]; simp⟩)
nonrec def Znk:Yam:=fun o i v H=>match o with
 | .ref n=>match H[n]? with
  | some (.dic kvs false)=>(nk i).bind fun k=>if kvs.length<sizeLine then some (H.set n (.dic (Zn6 kvs i k v) false)) else none
  | _=>none
 | _=>none
theorem Zm6 {pins:List (Ve×Obj)} {σ:L2.St} {H:Hp} {s:Vd} {a:Ve} {xs xs':List (List Int×Ve×Vb)} {h':Vz} {t':Nat} (I:Inv X pins σ H s) (h3:H a=some (.ext (Zc9 a xs))) (dd:h'.DictOfH (Uaz (Zcp X.prog X.w)) a xs') (hs:Xy a s.heap h') :
  Inv X pins σ (upd H a (.ext (Zc9 a xs'))) { s with heap:=h',toks:=t' }:=by
 obtain⟨o,es,ep,g1,g2,g3,g4,_,g5⟩:=dd
 have ok:Zc5 X.prog X.w (upd H a (.ext (Zc9 a xs'))) h' a (.ext (Zc9 a xs')):=⟨⟨o,es,ep,g1,g2,g3,g4,g5⟩,⟨o,g1⟩,fun h1 h2 d k=>Zc9.keep d k⟩
 exact I.write (x:=a) (e:=a) (by rw[h3]; exact Taz) (.inl rfl) (fun b q hb z=>(hs.2 b hb).trans z) ⟨o,g1⟩ ok
theorem Zu4 {H:Hp} {ι:List Ve} {Hd:HD} {n:Nat} {a:Ve} {kvs:List (D×D)} {xs:List (List Int×Ve×Vb)} {kd vd:D} {k:List Int} {b:Ve} {u:Vb} {v:V} (hr:HRep X.K H ι Hd) (ha:ι[n]? = some a) (h1:(a==Uae)=false) (hl:kvs.length<sizeLine) (h3:H a=some (.ext (Zc9 a xs))) (P:Vj (Zrx X.K H ι) kvs xs) (e2:nk kd=some k) (r2:Rep X.K H ι kd (.ref b)) (rv:Zcg v u) (r3:Rep X.K H ι vd v) :
  Le X.K H ι (upd H a (.ext (Zc9 a (Uej xs k b u)))) ι/\HRep X.K (upd H a (.ext (Zc9 a (Uej xs k b u)))) ι (Hd.set n (.dic (Zn6 kvs kd k vd) false)):=by
 have L:Le X.K H ι (upd H a (.ext (Zc9 a (Uej xs k b u)))) ι:=Le.upd (Xl ha) h3 trivial _
 refine⟨L,hr.upd ha h3 trivial ⟨h1,?_,_,by rw[if_neg (by simp)]; exact Zaq,?_⟩⟩
 ·have:=Zwm kvs kd k vd; omega
 ·refine Zvv (Prd.imp P fun p x _ z=>⟨z.1,z.2.1.mono L,let ⟨v,z1,z2⟩:=z.2.2; ⟨v,z1,z2.mono L⟩⟩) e2 (r2.mono L) rv (r3.mono L)
theorem Yea (hu:X.A.units+64<cLine):Zyz X Znk:=by
 rintro pins s σ H o i v ov iv u Q I ro ri rv ⟨ι,od,id,vd,Hd,Hd',hr,r1,r2,r3,e,q⟩
 cases od<;>simp only[Znk] at e<;>try cases e
 rename_i n
 split at e
 ·rename_i kvs hn
  obtain⟨k,e2,e⟩:=Zo e
  split at e
  ·rename_i hl
   cases e
   obtain⟨a,rfl,ha⟩:=Zaz.mp r1
   obtain⟨b,rfl⟩:=Zp3 e2 r2
   cases ro
   cases ri
   obtain⟨h1,h2,xs,h3,P,dd⟩:=Zi8 I (hr.obj n a _ ha hn)
   rw[if_neg (by simp)] at h3
   have hz:xs.length<=sizeLine:=by rw[<- Prd.len P]; exact h2
   refine wpAny_setItem_heap (knd:=Uaz (Zcp X.prog X.w)) (hsz:=hz) (Ubt (by omega)) (Znz I e2 r2) dd fun h' dd' hs=>?_
   obtain⟨L,hr'⟩:=Zu4 hr ha h1 hl h3 P e2 r2 rv r3
   exact⟨_,Zm6 I h3 dd' hs,q _ ι L hr'⟩
  ·cases e
 ·cases e
section
variable {prog:Vh} {w:Vu} {kd:HeapKind prog w (List Int)} {A:Vt} {E:Vb->Vd->Prop} {s:Vd}
theorem Zoc {d b:Ve} {xs:List (List Int×Ve×Vb)} {k:List Int} {v:Vb} {Q:Vb->Vd->Prop} (rm:kd.room A) (key:kd.is s.heap k b) (dm:s.heap.DictOfH kd d xs) (sz:xs.length<=sizeLine)
  (old:∀ p,atKey xs k=some p->Q p.2 { s with toks:=s.toks+kd.draws k })
  (new:atKey xs k=none->∀ h2,h2.DictOfH kd d (Uej xs k b v)->Xy d s.heap h2->Q v { s with heap:=h2,toks:=s.toks+kd.draws k }) :
  Vf (Vm prog w) A (Udg d (.ref b) v) Q E s:=by
 obtain⟨ob,es,ep,g1,g2,g3,g4,g5,g6⟩:=dm
 unfold Udg
 refine Vw (Va (kd.pyHash rm key (Va (wpAny_dictFind_heap (s:={ s with toks:=s.toks+kd.draws k }) rm key g1 g3 g4 g5 g6 (fun no=>?_) (fun j p hj=>?_)))))
 ·have em:=atKey_none_of_get no
  have sm:∀ f,Xy d s.heap (s.heap.update d f):=fun f=>Xy.update ..
  have len:=size_of_entries g4
  refine Va (Ubi (Va (wpAny_updateDictKeys (s:={ s with toks:=s.toks+kd.draws k }) (hz:=by omega) g1 g3 (Vc (new em _ ?_ (sm _))))))
  refine⟨_,_,ep+1,Wda _ g1 (Obj.isFreed_of_dict (Tce g3 _)),g2.mapDictKeys _,Tce g3 _,?_⟩
  rw[storedH_new em]
  refine⟨by simp[g4,entryOfKey],fun x hx=>?_,?_⟩
  ·have one:kd.is s.heap x.1 x.2.1:=by
    rcases Xx.mp hx with hx | hx
    ·exact g5 x hx
    ·rw[Wbb.mp hx]; exact key
   exact kd.keeps one g1 g3 (sm _)
  ·have nm:=not_mem_keys_of_get no
   rw[Wap,Way]
   refine⟨g6,by simp,fun x hx y hy e=>nm ?_⟩
   have yk:y=k:=by simpa using hy
   rw[<- yk,<- e]
   exact hx
 ·have ae:=entry_at g4 j
  rw[hj] at ae
  refine Va (Uat (s:={ s with toks:=s.toks+kd.draws k }) g1 g3 ?_)
  rw[ae]
  exact Va (Ubi (Vc (old p (atKey_of_get g6 hj))))
end
nonrec def Zj0 (x:D) (ds:List D) (H:HD):Option (D×HD):=match x,ds with
 | .ref n,[y,v]=>match H[n]? with
  | some (.dic kvs false)=>(nk y).bind fun k=>if kvs.length<sizeLine then match Zbf kvs k with
   | some z=>some (z,H)
   | none=>some (v,H.set n (.dic (Zn6 kvs y k v) false))
   else none
  | _=>none
 | _,_=>none
theorem Yan (hu:X.A.units+64<cLine):MtF X "dict.setdefault" Zj0:=by
 rintro pins s σ H x xs v us Q I rx rv ⟨ι,dx,ds,Hd,d,Hd',hr,r1,P1,e,q⟩
 unfold Zj0 at e
 split at e
 ·rename_i n y vd
  split at e
  ·rename_i kvs hn
   obtain⟨k,e2,e⟩:=Zo e
   split at e
   ·rename_i hl
    obtain⟨a,rfl,ha⟩:=Zaz.mp r1
    obtain⟨v1,v2,rfl,ry,rd⟩:=Ydc P1
    obtain⟨b,rfl⟩:=Zp3 e2 ry
    cases rx
    cases rv with
    | cons q1 rv =>
     cases rv with
     | cons q2 rv =>
      cases rv
      cases q1
      rename_i u2
      obtain⟨h1,h2,ys,h3,P,dd⟩:=Zi8 I (hr.obj n a _ ha hn)
      rw[if_neg (by simp)] at h3
      have hz:ys.length<=sizeLine:=by rw[<- Prd.len P]; exact h2
      have ty:s.TypeIs (.ref a) "dict" := dd.typeIs
      have body:Vf (Vm X.prog X.w) X.A.in1 (Builtin.«dict.setdefault» ⟨[.ref a,.ref b,u2],[]⟩) (fun fin s'=>∃ r,fin=.done (.ret r)/\EP X pins σ Q r s') X.xe s:=by
       unfold Builtin.«dict.setdefault» Builtin.Dict.keyAndDefault
       refine Va (Va (Ucs ty (Vc ?_)))
       show Vf _ _ (if (a==Uae)=true then _ else (Udg a (.ref b) u2 >>= _)) _ _ s
       rw[if_neg (by rw[h1]; decide)]
       refine Va (Zoc (kd:=Uaz (Zcp X.prog X.w)) (show (Uaz (Zcp X.prog X.w)).room X.A.in1 from(by show X.A.units+1<cLine; omega)) (Znz I e2 ry) dd hz (fun p hp=>?_) (fun hp h2' dd' hs=>?_))
       ·rcases Ziq P k with ⟨_,z⟩ | ⟨vd',b',u',v',z1,z2,z3,z4⟩
        ·rw[z] at hp; cases hp
        ·rw[z2] at hp; cases hp
         rw[z1] at e; cases e
         exact Vc ⟨_,rfl,v',H,I.tok _,z3,q _ H ι Le.refl hr z4⟩
       ·rcases Ziq P k with ⟨z,_⟩ | ⟨vd',b',u',v',z1,z2,z3,z4⟩
        ·rw[z] at e; cases e
         obtain⟨L,hr'⟩:=Zu4 hr ha h1 hl h3 P e2 ry q2 rd
         exact Vc ⟨_,rfl,v2,_,Zm6 I h3 dd' hs,q2,q _ _ ι L hr' (rd.mono L)⟩
        ·rw[z2] at hp; cases hp
      exact Vp Uo ty PySem.F.entry_dict_setdefault body (PySem.F.args_dict_setdefault_3 _ _ _)
   ·cases e
  ·cases e
 ·cases e
nonrec def Zoe:D->HD->Bool
 | .ref n,H=>match H[n]? with
  | some (.dic _ _)=>true
  | _=>false
 | _,_=>false
nonrec def eDM (g:D->List D->HD->Option (D×HD)) (fo:EF) (f:AF):EF:=fun σ H=>(fo σ H).bind fun o=>if Zoe o.1 o.2=true then (f σ o.2).bind fun p=>g o.1 p.1 p.2 else none
theorem Zw1 {pins:List (Ve×Obj)} {σ:L2.St} {H:Hp} {s:Vd} {ι:List Ve} {Hd:HD} {x:D} {v:V} {u:Vb} (I:Inv X pins σ H s) (hr:HRep X.K H ι Hd) (r:Rep X.K H ι x v) (rv:Zcg v u) (e:Zoe x Hd=true) :
  s.TypeIs u "dict" /\ ∀ b,u=.ref b->∃ ob,s.heap.get? b=some ob/\ob.dict=none:=by
 cases x<;>simp only[Zoe] at e<;>try cases e
 rename_i n
 split at e
 ·rename_i kvs fz hn
  obtain⟨a,rfl,ha⟩:=Zaz.mp r
  cases rv
  obtain⟨_,_,xs,_,_,dd⟩:=Zi8 I (hr.obj n a _ ha hn)
  refine⟨dd.typeIs,fun b eb=>?_⟩
  cases eb
  obtain⟨ob,_,_,g1,g2,_⟩:=dd
  exact⟨ob,g1,g2.2.1⟩
 ·cases e
theorem Zup {e o:Vv} {es:List Vv} {name:Str} {apos cpos:Pos} {id:String} {g:D->List D->HD->Option (D×HD)} {fo:EF} {f:AF} (slot:Slot "dict" name id) (hty:typeOf (.builtin id)=pure (.type "method_descriptor")) (hm:MtF X id g) (ho:PEf X o fo) (ha:PAf X (e::es) f)
  (hbase:Udq o name X.env (eval o X.env)=eval o X.env:=by rfl)
  (hfew:((Ual cpos (Vg (e::es) X.env)).all (fun x => !x.1)&&(Ucw cpos (Ubh [] X.env)).all (fun x=>x.1.isSome)
   && decide ((e::es).length+([]:List Ubz).length+(if ([]:List Ubz).isEmpty then 0 else 1)<30))=true:=by exact Zpv rfl (by decide))
  (hline:(apos.endLine==cpos.line)=true:=by rfl) (hs:Vg (e::es) X.env=(false,eval e X.env)::Vg es X.env:=by exact Zb0 rfl) (hplain:(Ual cpos (Vg es X.env)).any (·.1)=false:=by exact Zc0 rfl) :
  PEf X (.Call (.Attribute o name apos) (e::es) [] cpos) (eDM g fo f):=by
 rintro pins s σ H Q I ⟨ι,σd,Hd,d,Hd',sr,hr,e0,q⟩
 obtain⟨⟨x,H1⟩,e1,e0⟩:=Zo e0
 dsimp only at e0
 split at e0
 ·rename_i hl
  obtain⟨⟨y,H2⟩,e2,e0⟩:=Zo e0
  let P1:VK:=fun v1 H1'=>∃ ι1,Le X.K H ι H1' ι1/\HRep X.K H1' ι1 H1/\Rep X.K H1' ι1 x v1
  refine Ucg hbase hfew hline rfl (thn (ho pins s σ H P1 I ⟨ι,σd,Hd,x,H1,sr,hr,e1,fun v1 H1' ι1 l1 h1 r1=>⟨ι1,l1,h1,r1⟩⟩) fun v s1 zz=>?_)
  obtain⟨xv,H1',I1,rx,ι1,l1,h1,r1⟩:=zz
  obtain⟨t1,t2⟩:=Zw1 I1 h1 r1 rx hl
  refine⟨"dict",id,PySem.F.plainAttrs_dict,slot,hty,t1,t2,?_⟩
  let P2:List V->Hp->Prop:=fun vs H2'=>∃ ι2,Le X.K H ι H2' ι2/\HRep X.K H2' ι2 H2/\Rep X.K H2' ι2 x xv/\Vj (Rep X.K H2' ι2) y vs
  have hA:=ha cpos pins s1 σ H1' P2 I1 ⟨ι1,σd,H1,y,H2,sr.mono l1,h1,e2,fun vs H2' ι2 l2 h2 r2=>⟨ι2,l1.trans l2,h2,r1.mono l2,r2⟩⟩
  rw[hs] at hA ⊢
  refine Tbt (by show (false||(Ual cpos (Vg es X.env)).any (·.1))=false; rw[hplain]<;>rfl) (Tcc ?_)
  exact thn hA fun us s2 ⟨vs,H2',I2,r2,ι2,l2,h2,rx2,rp⟩=>hm pins s2 σ H2' xv vs v us Q I2 rx r2 ⟨ι2,x,y,H2,d,Hd',h2,rx2,rp,e0,fun v H' ι' l h r=>q v H' ι' (l2.trans l) h r⟩
 ·cases e0
nonrec def Zlu:FF:=fun ds H=>match ds with
 | [x]=>(Zvt x H).map fun kvs=>(.int kvs.length,H)
 | _=>none
theorem Zkf:Zhw X (.builtin "len") Zlu:=by
 rintro pins s σ H xs us Q I rv ⟨ι,ds,Hd,d,Hd',hr,P,e,q⟩
 unfold Zlu at e
 split at e
 ·rename_i x
  obtain⟨kvs,e1,e⟩:=Zm e
  obtain⟨rfl,rfl⟩:=Wau.inj e
  obtain⟨n,fz,rfl,hn⟩:=Ziu e1
  obtain⟨v,rfl,r⟩:=Zl6 P
  obtain⟨a,rfl,ha⟩:=Zaz.mp r
  cases rv with
  | cons q1 rv =>
   cases rv
   cases q1
   obtain⟨h1,h2,ys,_,PK,dd⟩:=Zi8 I (hr.obj n a _ ha hn)
   have ty:s.TypeIs (.ref a) "dict" := dd.typeIs
   obtain⟨ob,es,ep,g1,g2,g3,g4,_⟩:=dd
   have sz:es.size=kvs.length:=by
    have a1:=size_of_entries g4
    have a2:=Prd.len PK
    omega
   have l63:(kvs.length:Int)<2 ^ 63:=by rw[Uw] at h2; omega
   have ask:∀ A' E',Vf (Vm X.prog X.w) A' (Builtin.«dict.__len__» ⟨[.ref a],[]⟩) (fun fin s'=>∃ r,fin=.done (.ret r)/\r=.int kvs.length s.toks/\s'={ s with toks:=s.toks+1 }) E' s:=by
    intro A' E'
    show Vf _ _ (dictSize a >>= _) _ _ s
    unfold dictSize
    refine Va (Va (Uat g1 g3 (Vc (Va (wpAny_pendingCount_other h1 (wpAny_ret_mkInt ?_))))))
    rw[Wfl,sz]
    exact⟨rfl,rfl⟩
   refine Calls.call_function_entry kind_len plain_len entry_len (args_len1 _) ?_
   unfold Builtin.«len»
   refine Va (m:=oneArg "len" _) (Vc (Va (m:=callSpecial? (.ref a) (Ua "__len__")) (Vi (name:=Ua "__len__") ty Tbx
    (Vp Tbx ty PySem.F.entry_dict_len (thn (ask _ _) fun fin s' ⟨r,f1,f2,f3⟩=>⟨r,f1,?_⟩) (PySem.F.args_dict_len_1 _)))))
   subst f2 f3
   refine Va (Vw (Vc (Va (Ubp ?_))))
   show Vf _ _ (if ((kvs.length:Nat):Int)<0 then _ else if ((kvs.length:Nat):Int) ≥ 2 ^ 63 then _ else _) _ _ _
   rw[if_neg (by omega),if_neg (by omega)]
   exact Va (Uei (Vc ⟨_,rfl,.int kvs.length,H,I.tok _,⟨_,rfl⟩,q _ H ι Le.refl hr (by simp)⟩))
 ·cases e
section
variable {prog:Vh} {w:Vu} {A:Vt} {E:Vb->Vd->Prop} {s:Vd}
theorem Zpm {d:Ve} {ob:Obj} {es:Array Uaj} {ep:Nat} {Q:Vb->Vd->Prop} (h0:(d==Uae)=false) (g1:s.heap.get? d=some ob) (g2:ob.ExactDict) (g3:ob.data=.dict es ep)
  (q:Q (.ref s.heap.objs.size) { s with heap:=s.heap.push { cls:=.type "dict_keyiterator",data:=.fields #[.ref d,.int 0 0,.int es.size 0,.int ep 0] } }):Vf (Vm prog w) A (pyIter (.ref d)) Q E s:=by
 have ty:s.TypeIs (.ref d) "dict" := ⟨ob,g1,g2.1⟩
 refine wpAny_pyIter_slot ty F.slot_dict_iter (Vp F.slot_dict_iter ty F.entry_dict_iter ?_ (F.args_dict_iter_1 _))
 unfold Builtin.«dict.__iter__» Builtin.Dict.dictSlotNone
 refine Va (Va (Ucs ty (Vc ?_)))
 show Vf _ _ (Tby d >>= _) _ _ s
 unfold Tby
 rw[if_neg (by rw[h0]; decide)]
 refine Va (Vc (Va (Uat g1 g3 (Va (Uct g1 g3 (Va (Vs (Vc ?_))))))))
 exact⟨_,rfl,"dict_keyiterator",_,⟨_,Xd _ rfl,rfl⟩,Uk.lookup,by simpa [Uaa] using q⟩
theorem Zsm {d it:Ve} {ob:Obj} {es:Array Uaj} {i ep:Nat} {Q:Option Vb->Vd->Prop} (hit:s.heap.IsKeyIter it d i es.size ep) (g1:s.heap.get? d=some ob) (g3:ob.data=.dict es ep) (lt:i<es.size)
  (q:∀ h2,h2.IsKeyIter it d (i+1) es.size ep->Xy it s.heap h2->Q (some es[i].key) { s with heap:=h2 }):Vf (Vm prog w) A (Ubj (.ref it)) Q E s:=by
 have ty:=hit.typeIs
 obtain⟨oi,i1,i2,i3⟩:=id hit
 have own:Tax "dict_keyiterator" = false:=by decide
 unfold Ubj
 refine Va (Uan (Vi (name:=Ua "__next__") ty Uk (Vp Uk ty Tau ?_ (Tas _))))
 refine Va (Vc (Va (Va ?_)))
 refine Va (Uac ty (Vc (Va (wpAny_fieldsOf i1 i3 ?_))))
 simp only[own,Wam,if_false]
 show Vf _ _ (if (Uu d==Um)=true then _ else _) _ _ s
 have nn:¬ ((Uu d==Um)=true):=Waz
 rw[if_neg nn]
 refine Va (Vc (Va (Uat g1 g3 ?_)))
 rw[if_neg (by simp)]
 refine Va (Vc (Va (Uct g1 g3 ?_)))
 rw[if_neg (by simp)]
 refine Vc ?_
 have neg:¬ ((i:Int)<0):=by omega
 simp only[neg,if_false,Wal,Wck lt]
 refine Va (Va (Uac ty (Vc (Va (Ucu ty ?_)))))
 show Vf _ _ (Udr (.ref it) 1 (Uaa ((i:Int)+1)) >>= _) _ _ s
 let h2:=s.heap.update it (Obj.mapFields (·.setIfInBounds 1 (Uaa ((i:Int)+1))))
 have it2:h2.IsKeyIter it d (i+1) es.size ep :=
  ⟨_,Wda _ i1 (Tbv (Tap i3 _)),(Tcj ..).trans i2,by rw[Tap i3]; simp[Uaa]⟩
 refine Va (Ubv i1 i3 (by simp) (Va (Vw (Va (Ucu (s:={ s with heap:=h2 }) it2.typeIs ?_)))))
 show Vf _ _ (pure es[i].key) _ _ _
 exact Vc (Vc ⟨_,rfl,Vc (q h2 it2 (Xy.update ..))⟩)
theorem Zpy {d it:Ve} {ob:Obj} {es:Array Uaj} {i ep:Nat} {Q:Option Vb->Vd->Prop} (hh:A.handled=none) (hit:s.heap.IsKeyIter it d i es.size ep) (g1:s.heap.get? d=some ob) (g3:ob.data=.dict es ep) (ge:es.size<=i)
  (q:∀ h2,Wdo it s.heap h2->Q none { s with heap:=h2 }):Vf (Vm prog w) A (Ubj (.ref it)) Q E s:=by
 have ty:=hit.typeIs
 obtain⟨oi,i1,i2,i3⟩:=id hit
 have own:Tax "dict_keyiterator" = false:=by decide
 unfold Ubj
 refine Va (Uan (Vi (name:=Ua "__next__") ty Uk (Vp Uk ty Tau ?_ (Tas _))))
 refine Va (Vc (Va (Va ?_)))
 refine Va (Uac ty (Vc (Va (wpAny_fieldsOf i1 i3 ?_))))
 simp only[own,Wam,if_false]
 show Vf _ _ (if (Uu d==Um)=true then _ else _) _ _ s
 have nn:¬ ((Uu d==Um)=true):=Waz
 rw[if_neg nn]
 refine Va (Vc (Va (Uat g1 g3 ?_)))
 rw[if_neg (by simp)]
 refine Va (Vc (Va (Uct g1 g3 ?_)))
 rw[if_neg (by simp)]
 refine Vc ?_
 have neg:¬ ((i:Int)<0):=by omega
 simp only[neg,if_false,Wal,Wcv ge]
 refine Va (Va (Uac ty (Vc ?_)))
 show Vf _ _ (Udr (.ref it) 0 .none >>= _) _ _ s
 refine Va (Ubv i1 i3 (by simp) ?_)
 show Vf _ _ (newExc (.type "StopIteration") [] >>= _) _ _ _
 simp only[newExc,newTuple]
 refine Va (Va (Vs (Va (m:=Ubw _ _) (Ueh (a:=Um) (by first | rfl | (simp only[Ubw]; rfl)) (Vs ?_ (by size_fits)))) (by size_fits)))
 simp only[raiseNew]
 refine Va (wpAny_handled ?_)
 have hh1:A.in1.handled=none:=hh
 rw[hh1]
 refine Va (Vc (wpAny_throw ?_))
 refine Va (Ubk (T := "StopIteration") (b:=true) (by exact⟨_,Xd _ rfl,rfl⟩) Ubx ?_)
 exact Vc (q _ (((Xy.update ..).extBut.push _).push _))
end
nonrec def Itd (a:Ve) (ob:Obj) (u:HO) (ks:List Ve):It :=
 ⟨fun i H=>H a=some (.frz ob u)/\i<ks.length,fun i H x H'=>H'=H/\∃ b,ks[i]? = some b/\x=.ref b,fun i H=>H a=some (.frz ob u)/\ks.length<=i⟩
theorem Zw8 {P:Vh} {w:Vu} {K:Xb} {tg:Vv} (a it:Ve) {ob:Obj} {u:HO} {es:Array Uaj} {ep:Nat} {ks:List Ve} (g3:ob.data=.dict es ep) (hk:es.toList.map (·.key)=ks.map Uu) :
  Turn P w K tg (Itd a ob u ks) [it] it (fun i h=>h.IsKeyIter it a i es.size ep) where
 mem:=by simp
 obj:=fun i h st b hb=>by
  have e:b=it:=by simpa using hb
  subst e
  obtain⟨o,e,c,d⟩:=st
  exact⟨o,e,fun v z=>by rw[d] at z; cases z⟩
 keep:=fun i h h' st k=>st.at fun o e=>k it (by simp) o e
 item:=by
  intro X hP hw hK hc i pins s σ H E I hf st hg
  subst hP hw hK
  obtain⟨hq,hx⟩:=hg
  obtain⟨g1,_⟩:=(show Zc5 X.prog X.w H s.heap a (.frz ob u) from I.hok a _ hq)
  obtain⟨f0,f1,f2,f3,f4,f5⟩:=hf it (by simp)
  have hl:es.size=ks.length:=by
   have:=congrArg Wbl hk
   simpa using this
  have lt:i<es.size:=by omega
  have key:es[i].key=Uu ks[i]:=by
   have e1:(es.toList.map (·.key))[i]? = some es[i].key:=by simp[lt]
   rw[hk,Xn,Xk hx] at e1
   exact(Xw.inj e1).symm
  refine Zsm st g1 g3 lt fun h' st' sb=>?_
  have I1:Inv X pins σ H { s with heap:=h' }:=I.turned (t':=s.toks) (fun b o hb e=>(sb.2 b hb).trans e) f0 f1 f3 f4 f5
  obtain⟨o,e,c,d⟩:=id st'
  exact⟨_,rfl,Zu9 (s:={ s with heap:=h' }) e c d (by decide) ⟨.ref ks[i],H,I1,key,⟨rfl,ks[i],Xk hx,rfl⟩,st',fun b hb=>(hf b hb).1⟩⟩
 done:=by
  intro X hP hw hK hc i pins s σ H E I hf st hg
  subst hP hw hK
  obtain⟨hq,hx⟩:=hg
  obtain⟨g1,_⟩:=(show Zc5 X.prog X.w H s.heap a (.frz ob u) from I.hok a _ hq)
  obtain⟨f0,f1,f2,f3,f4,f5⟩:=hf it (by simp)
  have hl:es.size=ks.length:=by
   have:=congrArg Wbl hk
   simpa using this
  exact Zpy (I.ok.hd hc) st g1 g3 (by omega) fun h' eb=>⟨rfl,I.turned (t':=s.toks) (fun b o hb e=>eb b o hb e) f0 f1 f3 f4 f5⟩
 self:=fun _ _ _ _ _ st h=>Ucz st h
variable {X:Cx} {tg:Vv}
nonrec def Zy1 (f:EF):ItF:=fun σ H=>(f σ H).bind fun p=>match p.1 with
 | .ref n=>match p.2[n]? with
  | some (.dic kvs _)=>some ((kvs.map (·.1),[(n,.dic kvs true)]),p.2.set n (.dic kvs true))
  | _=>none
 | _=>none
theorem Zsz {K:Xb} {H:Hp} {ι:List Ve} {kvs:List (D×D)} {xs:List (List Int×Ve×Vb)} (h:Vj (Zrx K H ι) kvs xs):Vj (Rep K H ι) (kvs.map (·.1)) (xs.map fun x=>V.ref x.2.1):=by
 induction h with
 | nil=>exact .nil
 | cons r t ih=>exact .cons r.2.1 ih
theorem Zsh {l:Vv} {f:EF} (hl:PEf X l f):PIf X tg l (Zy1 f):=by
 rintro pins s σ H R I ⟨ι,σd,Hd,xs,own,Hd',sr,hr,e,q⟩
 obtain⟨⟨x,H1⟩,e1,e⟩:=Zo e
 obtain⟨n,rfl⟩:∃ n,x=.ref n:=by cases x<;>first | exact⟨_,rfl⟩ | cases e
 let P1:VK:=fun v1 H1'=>∃ ι1,Le X.K H ι H1' ι1/\HRep X.K H1' ι1 H1/\Rep X.K H1' ι1 (.ref n) v1
 refine thn (hl pins s σ H P1 I ⟨ι,σd,Hd,.ref n,H1,sr,hr,e1,fun v1 H1' ι1 l1 h1 r1=>⟨ι1,l1,h1,r1⟩⟩) fun v s1 zz=>?_
 obtain⟨xv,H1',I1,rx,ι1,l1,h1,r1⟩:=zz
 simp only at e
 split at e
 ·rename_i kvs fz hn
  cases e
  obtain⟨a,rfl,ha⟩:=Zaz.mp r1
  cases rx
  obtain⟨z1,z2,ys,z3,PK,dd⟩:=Zi8 I1 (h1.obj n a _ ha hn)
  obtain⟨ob,es,ep,g1,g2,g3,g4,g5,g6⟩:=dd
  refine Zpm z1 g1 g2 g3 ?_
  let u:HO:=.ext (Zc9 a ys)
  let H2:Hp:=upd H1' a (.frz ob u)
  have keys:es.toList.map (·.key)=(ys.map fun x=>x.2.1).map Uu:=by rw[g4,Wbj,Wbj]; rfl
  have da:Zc9 a ys s1.heap:=⟨ob,es,ep,g1,g2,g3,g4,g6⟩
  have okN:∀ Hx,Zc5 X.prog X.w Hx s1.heap a (.frz ob u):=fun Hx=>⟨g1,da,⟨ob,g1⟩,fun h1 h2 d k=>Zc9.keep d k⟩
  have froz:Inv X pins σ H2 s1/\Le X.K H1' ι1 H2 ι1:=by
   cases fz with
   | false =>
    rw[if_neg (by simp)] at z3
    exact⟨I1.write (t':=s1.toks) (h':=s1.heap) (x:=a) (e:=a) (by rw[z3]; exact Taz) (.inl rfl) (fun b q hb z=>z) ⟨ob,g1⟩ (okN _),Le.upd (Xl ha) z3 trivial _⟩
   | true =>
    rw[if_pos rfl] at z3
    obtain⟨o2,z3⟩:=z3
    obtain⟨g1',_⟩:=(show Zc5 X.prog X.w H1' s1.heap a (.frz o2 (.ext (Zc9 a ys))) from I1.hok a _ z3)
    have eo:o2=ob:=Xw.inj (g1'.symm.trans g1)
    have eH:H2=H1':=by
     funext b
     by_cases hb:b=a
     ·subst hb; show upd H1' b (.frz ob u) b=H1' b; rw[Zaq,z3,eo]
     ·exact Zag hb
    rw[eH]
    exact⟨I1,Le.refl⟩
  obtain⟨I2,L2'⟩:=froz
  have hr2:HRep X.K H2 ι1 (H1.set n (.dic kvs true)):=by
   refine⟨by simp[h1.len],h1.nd,fun m b oc m1 m2=>?_⟩
   by_cases hm:n=m
   ·subst hm
    rw[ha] at m1; cases m1
    rw[Wcx] at m2
    rw[if_pos rfl] at m2
    split at m2
    ·cases m2
     exact⟨z1,z2,ys,by rw[if_pos rfl]; exact⟨ob,Zaq⟩,Prd.imp PK fun p x _ z=>⟨z.1,z.2.1.mono L2',let ⟨v,w1,w2⟩:=z.2.2; ⟨v,w1,w2.mono L2'⟩⟩⟩
    ·cases m2
   ·rw[Wak hm] at m2
    have hb:b≠a:=fun z=>by
     subst z
     exact hm ((Wfe (Xc.mp ha).1 h1.nd).mp (ha.trans m1.symm))
    exact(h1.obj m b oc m1 m2).step L2'.toLw (Zag hb)
  have I3:Inv X pins σ H2 { s1 with heap:=s1.heap.push { cls:=.type "dict_keyiterator",data:=.fields #[.ref a,.int 0 0,.int es.size 0,.int ep 0] } }:=I2.kept (t':=s1.toks) fun b o e=>Xa _ e
  refine⟨s1.heap.objs.size,[s1.heap.objs.size],_,Itd a ob u (ys.map fun x=>x.2.1),H2,rfl,I3,Zw8 a _ g3 keys,⟨_,Xd _ rfl,rfl,rfl⟩,fun b hb=>?_,?_⟩
  ·have e:b=s1.heap.objs.size:=by simpa using hb
   subst e
   exact I2.fpOk (Xe _) (I2.hok.fresh (Xe _))
  ·have fa:H2 a=some (.frz ob u):=Zaq
   have pk:=Zsz PK
   refine q _ H2 ι1 (l1.trans L2') hr2 ⟨fun i H3 ι3 Hd3 l3 h3 _ hi=>⟨l3.fr _ _ _ fa,?_⟩,fun i H3 ι3 Hd3 d x H4 l3 h3 _ hd y=>?_,fun i H3 ι3 Hd3 l3 h3 _ hi=>⟨l3.fr _ _ _ fa,?_⟩⟩
   ·have:=Prd.len PK; simp only[Xu] at hi ⊢; omega
   ·obtain⟨rfl,b,hb,rfl⟩:=y
    obtain⟨v,hv,rv⟩:=Prd.get pk hd
    have ev:v=.ref b:=by
     rw[Xn] at hv hb
     cases hy:ys[i]? with
     | none=>rw[hy] at hv; cases hv
     | some yv=>rw[hy] at hv hb; cases hv; cases hb; rfl
    subst ev
    exact⟨ι3,Le.refl,h3,(rv.mono L2').mono l3⟩
   ·have:=Prd.len PK; simp only[Xu] at hi ⊢; omega
 ·cases e
nonrec def Zzx (n N:Nat) (b:FF->SF):Nat->FF
 | 0=>Za7 n N fun _ _=>none
 | j+1=>Za7 n N (b (Zzx n N b j))
theorem Zx1 {P:Vh} {w:Vu} {K:Xb} {mg:Str->Option Vb} {base:Vz} {x:Str} {st:Uab} {N ps:List Str} {k:Nat} {b:FF->SF} (T:Tf K mg x st) (S:FnScope N ps (Zad st))
  (hbd:∀ (kV doc pm:Vb) (an:Option Ve) (cdv ct:Vb) (us:List Vb),us.length=ps.length->Uby (Wav x x (Zcn st) (Za6 st) (Zad st) .none kV doc pm an cdv ct) ⟨us,[]⟩=pure (ps.zip us))
  (hb:∀ (F:FF) (j:Nat),Fn P w K mg base (k+1+j) x ps F->∀ (f:Ve) (cdv:Vb) (A:Vt) (outer:List Env) (s:Vd) (H:Hp) (E:XK),Room (k+1+j) (A.deeper (Ubc x (Zad st) s.heap.objs.size f cdv)) ->
   Zo3 (Zl8 CX0 P w K mg base N x (Zad st) f cdv A outer s H E).nox (Za6 st) (b F)):∀ j,Fn P w K mg base (k+1+j) x ps (Zzx ps.length N.length b j)
 | 0=>Zba (k:=k) T S hbd fun f cdv A outer s H E _=>by
  rintro pins s' σ H' E' I ⟨ι,σd,Hd,fl,σd',Hd',_,_,e,_⟩
  cases e
 | j+1=>Zba (k:=k+1+j) T S hbd fun f cdv A outer s H E hr=>hb _ j (Zx1 T S hbd hb j) f cdv A outer s H E hr
theorem Zr5 {K:Xb} {h:Vz} {mg:Str->Option Vb} {x:Str} {b1 b2:Bool} {p:Ve} {n:Nat} {osl:Array (Option Vb)} (X:K.In h) (G:h.Ns Vl mg) (a:Wcn K Vl x=some (some (.ref p)))
  (l:K.lookup p=some ⟨.type "tuple",none,.seq #[.bool b1,.bool b2] n,osl⟩):Gc K mg x (.tup [.bl b1,.bl b2]):=by
 refine⟨_,.ref p,Wex X G a,rfl,fun H ι=>Zbc.mpr ⟨p,[.bl b1,.bl b2],rfl,.inr ⟨_,_,_,l,rfl,rfl,?_,?_,rfl⟩,?_⟩⟩
 ·show 2<=sizeLine
  rw[Uw]; omega
 ·exact .cons rfl (.cons rfl .nil)
 ·exact .cons (by simp) (.cons (by simp) .nil)
section
variable {prog:Vh} {w:Vu} {A:Vt} {E:Vb->Vd->Prop} {s:Vd}
theorem Zz0 {T newId:String} {self a:Vb} {kw:List (Str×Vb)} (hl:typeLookup (.type T) "__init__" = pure (some (.builtin "object.__init__")))
  (hm:Bind.madeBy (.type T)=pure (some newId)) (hne:(some newId != some "object.__new__")=true) :
  Uek (Builtin.«object.__init__» ⟨[self,a],kw⟩) (fun _ R s=>s.TypeIs self T/\R (.ok (.ret .none)) s):=by
 refine Meets.of_wp fun prog w A R s zz=>?_
 obtain⟨hT,hq⟩:=zz
 repeat (any_goals (first | assumption | wp_step))
 exact⟨_,rfl,hq⟩
theorem tc_kw (a v:Vb):checkTypeCall "enumerate" ⟨[a],[("start",v)]⟩=pure ():=by kernel_rfl
theorem nc_kw (a v:Vb):checkBuiltinCall "enumerate.__new__" ⟨[.type "enumerate",a],[("start",v)]⟩=pure ():=by kernel_rfl
open AutoSeq1 (wpAny_loadPart') in
theorem Zry (t:Ve) (its:Array Vb) (n:Nat) (dct:Option Ve) (sl:Array (Option Vb)) (tk0:Tok) :
  Uek (Builtin.«enumerate.__new__» ⟨[.type "enumerate",.ref t],[("start",.int 1 tk0)]⟩) (fun _ R s=>s.heap.get? t=some { cls:=.type "tuple",dict:=dct,data:=.seq its n,slots:=sl } /\
   R (.ok (.ret (.ref (s.heap.push { cls:=.type "tuple_iterator",data:=.fields #[.ref t,.int 0 0] }).objs.size)))
    { s with heap:=(s.heap.push { cls:=.type "tuple_iterator",data:=.fields #[.ref t,.int 0 0] }).push { cls:=.type "enumerate",data:=.fields #[.none,.bool false,.ref s.heap.objs.size,Uaa 1,.none,.none] } }) :=
 .of_wp fun prog w A R s h=>by
  obtain⟨hp,g,d,tk,os⟩:=s; obtain⟨hl,h⟩:=h
  have hsub:=Uds
  have hL:Heap.IsTuple (Tbq ⟨hp,g,d,tk,os⟩) t its:=⟨_,hl,rfl,n,rfl⟩
  wp_walk using Vo hl
  refine Ucr fun st=>Vc ?_
  split
  ·rename_i k _ _ _ _ _
   cases (k==Tbn "enumerate")<;>(wp_walk using Vo hl,Uag hL; exact⟨_,rfl,h⟩)
  ·wp_walk using Vo hl,Uag hL
   exact⟨_,rfl,h⟩
end
section
variable {prog:Vh} {w:Vu} {A:Vt} {E:Vb->Vd->Prop} {s:Vd}
theorem Zz9 {args:List Vb} {kw:List (Str×Vb)} {newId:String} {Bn:Builtin} {T:String} {S:Tad} {Q:Vb->Vd->Prop} (ft:TypeCalled T newId "object.__init__") (hne:(some newId != some "object.__new__")=true)
  (hct:checkTypeCall T ⟨args,kw⟩=pure ()) (hcn:checkBuiltinCall newId ⟨.type T::args,kw⟩=pure ()) (entryN:entryFor table newId=some Bn) (g:Uek (Bn ⟨.type T::args,kw⟩) S)
  (hok:∀ obj,argsOk "object.__init__" ⟨obj::args,kw⟩) (gi:∀ obj,Uek (Builtin.«object.__init__» ⟨obj::args,kw⟩) (fun _ R s=>s.TypeIs obj T/\R (.ok (.ret .none)) s))
  (h:S A.in1 (wants (fun obj s₁=>s₁.TypeIs obj T/\Q obj s₁) E) s):Vf (Vm prog w) A (call (.type T) args kw) Q E s:=by
 obtain⟨c,tl,hmro⟩:=ft.mro
 have hmade:=ft.made
 have hsub:=ft.sub
 have n1:=ft.notType
 have n2:=ft.canCreate
 refine wpAny_call (codeAny_of_tree (show Vf _ _ (callAny (.type T) _) _ _ _ from Vc ⟨Tbl _ (by decide +kernel),Ube F.entry_type_call ?_⟩))
 rw[Around.under_plain (weight_type_call_type T args kw) (units_type_call_type T args kw)]
 repeat (any_goals (first | assumption | wp_step))
 refine Uax (Uda ft.plain entryN (Ueh hcn (g prog w A.in1 _ s h))) fun r s₁ hr=>?_
 cases r with
 | error e=>exact hr
 | ok fl =>
  cases fl with
  | ret obj =>
   obtain⟨hT,hq⟩:s₁.TypeIs obj T/\Q obj s₁:=hr
   have hli:=ft.init.lookup
   have hbi:=ft.init.bind obj
   repeat (any_goals (first | assumption | wp_step))
   refine Uax (Uda ft.init.plain F.entry_object_init (ft.init.check _ _ _ _ _ _ _ _ hT (hok obj) (gi obj prog w A.in1 (wants (fun r s₂=>r=.none/\Q obj s₂) E) s₁ ⟨hT,rfl,hq⟩))) fun r₂ s₂ hr₂=>?_
   cases r₂ with
   | error e=>exact hr₂
   | ok fl₂ =>
    cases fl₂ with
    | ret r =>
     obtain⟨rfl,hq2⟩:=hr₂
     repeat (any_goals (first | assumption | wp_step))
    | _=>exact hr₂.elim
  | _=>exact hr.elim
theorem Zjx {M:Model} {pos:Pos} {T:String} {args:List (Bool×Sem Vb)} {kws:List (Option Str×Sem Vb)} {Q:Vb->Vd->Prop} (h1:args.any (·.1)=false) (h2:kws.any (·.1.isNone)=false)
  (h:Vf M A (evalArgs (.type T) true args kws) (fun a s₁=>Vf M A (call (.type T) a.pos a.kw) Q E s₁) E s):Vf M A (Ueb pos (.type T) [] args kws) Q E s:=by
 unfold Ueb
 refine Va (Vw (thn h fun a s₁ q=>Va (Ubn ?_)))
 simp only[h1,h2,Bool.or_false]
 exact Va (Vc (Va (thn q fun r s₂ q2=>Va (Vw (wpAny_point (Vc q2))))))
theorem Zu8 (a b v:Vb):argsOk "object.__init__" ⟨[a,b],[("start",v)]⟩:=by
 unfold argsOk
 first | decide +kernel | kernel_rfl | (intro _; kernel_rfl)
theorem Zqt {t:Ve} {its:Array Vb} {tk:Tok} {Q:Vb->Vd->Prop} (hL:s.heap.IsTuple t its)
  (h:∀ h',Uau h' (s.heap.objs.size+1) s.heap.objs.size 1 .none->h'.IsTupleIter s.heap.objs.size t 0->h'.objs.size=s.heap.objs.size+2 ->
   (∀ b o,s.heap.get? b=some o->h'.get? b=some o)->Q (.ref (s.heap.objs.size+1)) { s with heap:=h' }) :
  Vf (Vm prog w) A (call (.type "enumerate") [.ref t] [("start",.int 1 tk)]) Q E s:=by
 obtain⟨⟨k,dct,dt,sl⟩,hl,hc,n,hd⟩:=hL
 replace hc:k=.type "tuple" := hc
 replace hd:dt=.seq its n:=hd
 subst hc hd
 refine Zz9 Taf (by decide) (tc_kw _ _) (nc_kw _ _) Tar (Zry t its n dct sl tk) (fun obj=>Zu8 _ _ _) (fun obj=>Zz0 Taf.init.lookup Taf.made (by decide)) ⟨hl,?_⟩
 have hz:(s.heap.push { cls:=.type "tuple_iterator",data:=.fields #[.ref t,.int 0 0] }).objs.size=s.heap.objs.size+1:=Wan ..
 show _/\_
 rw[hz]
 have he:Uau ((s.heap.push { cls:=.type "tuple_iterator",data:=.fields #[.ref t,.int 0 0] }).push { cls:=.type "enumerate",data:=.fields #[.none,.bool false,.ref s.heap.objs.size,Uaa 1,.none,.none] }) (s.heap.objs.size+1) s.heap.objs.size 1 .none:=by
  have q:=Xd (s.heap.push { cls:=.type "tuple_iterator",data:=.fields #[.ref t,.int 0 0] }) (o:={ cls:=.type "enumerate",data:=.fields #[.none,.bool false,.ref s.heap.objs.size,Uaa 1,.none,.none] }) rfl
  rw[hz] at q; exact q
 exact⟨⟨_,he,rfl⟩,h _ he ⟨_,Xa _ (Xd _ rfl),rfl,rfl⟩ (by rw[Wan,hz]) fun b o x=>Xa _ (Xa _ x)⟩
end
variable {X:Cx}
nonrec def Zp2 (f:AF):ItF:=fun σ H=>(f σ H).bind fun p=>match p.1 with
 | [.tup xs]=>some ((Zdp 1 xs,[]),p.2)
 | _=>none
theorem Zt8 {es:List Vv} {k:Nat} {tp p pos kp cp:Pos} {cj:Nat} {a:Vv} {f:AF} (hg:Gl X "enumerate") (hm:X.mg "enumerate" = none) (ha:PAf X [a] f) (hs:Vg [a] X.env=[(false,eval a X.env)]:=by rfl) :
  PIf X (.Tuple es k tp) (.Call (.Name "enumerate" p) [a] [⟨some "start",.Constant (.int 1) cj cp,kp⟩] pos) (Zp2 f):=by
 rintro pins s σ H R I ⟨ι,σd,Hd,xs,own,Hd',sr,hr,e,q⟩
 obtain⟨⟨ds,H1⟩,e1,e⟩:=Zo e
 dsimp only at e
 split at e
 ·rename_i ys
  cases e
  show Vf _ _ (do Ueb pos (<- eval (.Name "enumerate" p) X.env) [] (Ual pos (Vg [a] X.env)) (Ucw pos (Ubh [⟨some "start",.Constant (.int 1) cj cp,kp⟩] X.env))) _ _ _
  let P1:List V->Hp->Prop:=fun vs H'=>∃ ad ws,vs=[.ref ad]/\SqT X.K H' ad ws/\∀ (J:It) (H2:Hp),H2=H'->J=Yba X.K 1 ad->R J H2
  refine Va (Zeb I hg hm Udf (Zjx (by rw[hs]; rfl) rfl ?_))
  have hA:=ha pos pins s σ H P1 I ⟨ι,σd,Hd,_,_,sr,hr,e1,fun vs H' ι' l h P=>by
   obtain⟨v,rfl,r⟩:=Zl6 P
   obtain⟨ad,ws,rfl,hS,P2⟩:=Zbc.mp r
   refine⟨ad,ws,rfl,hS,fun J H2 e2 e3=>?_⟩
   subst e2 e3
   exact q _ _ ι' l h (Zqg hS P2 fun i H x y h=>y ws h)⟩
  rw[hs] at hA ⊢
  refine Udz rfl (thn hA fun us s1 zz=>?_)
  obtain⟨vs,H2,I2,r2,ad,ws,e2,hS,q2⟩:=zz
  subst e2
  obtain⟨u,rfl,ru⟩:=Zh2 r2
  cases ru
  refine kws_cons (thn (Zyh pins s1 σ H2 (fun x H'=>x=.int 1/\H'=H2) I2 ⟨rfl,rfl⟩) fun v s2 ⟨x,H3,I3,rx,ex,eH⟩=>kws_nil ?_)
  subst ex eH
  obtain⟨t,rfl⟩:=rx
  obtain⟨its,rv,p,hz⟩:=I3.tuple hS
  show Vf _ _ (call (.type "enumerate") [.ref ad] [("start",.int 1 t)]) _ _ _
  refine Zqt (show s2.heap.IsTuple ad its.toArray from p) fun h' he hj z' kk=>?_
  have I4:Inv X pins σ H3 { s2 with heap:=h' }:=I3.kept (t':=s2.toks) kk
  refine Uas (s:={ s2 with heap:=h' }) he ?_
  have ne:s2.heap.objs.size+1≠s2.heap.objs.size:=Wee _
  refine⟨s2.heap.objs.size+1,[s2.heap.objs.size+1,s2.heap.objs.size],_,Yba X.K 1 ad,H3,rfl,I4,Zki ad _ _ 1 ne,⟨.none,by simpa using he,hj⟩,fun b hb=>?_,q2 _ _ rfl rfl⟩
  have:s2.heap.objs.size<=b:=by
   rcases Xj.mp hb with rfl | hb
   ·exact Wec _
   ·have:b=s2.heap.objs.size:=by simpa using hb
    rw[this]; exact Xe _
  exact I3.fpOk (b:=b) (H':=H3) this (I3.hok.fresh this)
 ·cases e
variable {X:Cx} {tg:Vv}
nonrec def Zdv (n1 N1 n2 N2:Nat) (a b:FF->FF->SF):Nat->FF×FF
 | 0=>(Za7 n1 N1 fun _ _=>none,Za7 n2 N2 fun _ _=>none)
 | j+1=>(Za7 n1 N1 (a (Zdv n1 N1 n2 N2 a b j).1 (Zdv n1 N1 n2 N2 a b j).2),Za7 n2 N2 (b (Zdv n1 N1 n2 N2 a b j).1 (Zdv n1 N1 n2 N2 a b j).2))
theorem Zo0 {P:Vh} {w:Vu} {K:Xb} {mg:Str->Option Vb} {base:Vz} {x y:Str} {st su:Uab} {N1 ps N2 qs:List Str} {k:Nat} {a b:FF->FF->SF} (T:Tf K mg x st) (S:FnScope N1 ps (Zad st))
  (hbd:∀ (kV doc pm:Vb) (an:Option Ve) (cdv ct:Vb) (us:List Vb),us.length=ps.length->Uby (Wav x x (Zcn st) (Za6 st) (Zad st) .none kV doc pm an cdv ct) ⟨us,[]⟩=pure (ps.zip us))
  (T2:Tf K mg y su) (S2:FnScope N2 qs (Zad su))
  (hbd2:∀ (kV doc pm:Vb) (an:Option Ve) (cdv ct:Vb) (us:List Vb),us.length=qs.length->Uby (Wav y y (Zcn su) (Za6 su) (Zad su) .none kV doc pm an cdv ct) ⟨us,[]⟩=pure (qs.zip us))
  (hb:∀ (F1 F2:FF) (j:Nat),Fn P w K mg base (k+1+j) x ps F1->Fn P w K mg base (k+1+j) y qs F2->∀ (f:Ve) (cdv:Vb) (A:Vt) (outer:List Env) (s:Vd) (H:Hp) (E:XK),Room (k+1+j) (A.deeper (Ubc x (Zad st) s.heap.objs.size f cdv)) ->
   Zo3 (Zl8 CX0 P w K mg base N1 x (Zad st) f cdv A outer s H E).nox (Za6 st) (a F1 F2))
  (hb2:∀ (F1 F2:FF) (j:Nat),Fn P w K mg base (k+1+j) x ps F1->Fn P w K mg base (k+1+j) y qs F2->∀ (f:Ve) (cdv:Vb) (A:Vt) (outer:List Env) (s:Vd) (H:Hp) (E:XK),Room (k+1+j) (A.deeper (Ubc y (Zad su) s.heap.objs.size f cdv)) ->
   Zo3 (Zl8 CX0 P w K mg base N2 y (Zad su) f cdv A outer s H E).nox (Za6 su) (b F1 F2)) :
  ∀ j,Fn P w K mg base (k+1+j) x ps (Zdv ps.length N1.length qs.length N2.length a b j).1/\Fn P w K mg base (k+1+j) y qs (Zdv ps.length N1.length qs.length N2.length a b j).2
 | 0=>by
  rw[Zdv]
  dsimp only
  refine⟨Zba (k:=k) T S hbd fun f cdv A outer s H E _=>?_,Zba (k:=k) T2 S2 hbd2 fun f cdv A outer s H E _=>?_⟩
  ·rintro pins s' σ H' E' I ⟨ι,σd,Hd,fl,σd',Hd',_,_,e,_⟩
   cases e
  ·rintro pins s' σ H' E' I ⟨ι,σd,Hd,fl,σd',Hd',_,_,e,_⟩
   cases e
 | j+1=>by
  obtain⟨h1,h2⟩:=Zo0 T S hbd T2 S2 hbd2 hb hb2 j
  rw[Zdv]
  dsimp only
  exact⟨Zba (k:=k+1+j) T S hbd fun f cdv A outer s H E hr=>hb _ _ j h1 h2 f cdv A outer s H E hr,Zba (k:=k+1+j) T2 S2 hbd2 fun f cdv A outer s H E hr=>hb2 _ _ j h1 h2 f cdv A outer s H E hr⟩
nonrec def sWh (t:TF) (b:SF):Nat->SF
 | 0=>fun _ _=>none
 | n+1=>fun σ H=>(t σ H).bind fun p=>if p.1=true then (b σ p.2).bind fun q=>match q.1 with
   | .nx=>sWh t b n q.2.1 q.2.2
   | .ct=>sWh t b n q.2.1 q.2.2
   | .bk=>some (.nx,q.2.1,q.2.2)
   | .rt d=>some (.rt d,q.2.1,q.2.2)
  else some (.nx,σ,p.2)
section
variable {X:Cx} {c:Vv} {pos:Pos}
theorem Zun {body:List Uab} {t:TF} {b:SF} {n:Nat} (hp:Uee (Vm X.prog X.w) X.A X.env X.xe) (hc:PTf X c t) (hb:Zo3 X body b):PSf X (.While c body [] pos) (sWh t b n):=by
 refine PSi (Zwa hp hc hb) fun E σ H zz=>?_
 obtain⟨ι,σd,Hd,fl,σf,Hf,s,hr,e,q⟩:=zz
 refine⟨fun m σ' H'=>∃ ι' σd' Hd',Le X.K H ι H' ι'/\SRep X.K H' ι' σ' σd'/\HRep X.K H' ι' Hd'/\sWh t b m σd' Hd'=some (fl,σf,Hf),⟨n,ι,σd,Hd,Le.refl,s,hr,e⟩,?_⟩
 rintro m σ1 H1 ⟨ι1,σd1,Hd1,l1,s1,h1,e1⟩
 cases m with
 | zero=>cases e1
 | succ m =>
  rw[sWh] at e1
  obtain⟨⟨x,H2⟩,e2,e1⟩:=Zo e1
  refine⟨ι1,σd1,Hd1,x,H2,s1,h1,e2,fun H3 ι3 l3 h3=>?_⟩
  cases x with
  | true =>
   rw[if_pos rfl]
   dsimp only at e1
   rw[if_pos rfl] at e1
   obtain⟨⟨f4,σ4,H4⟩,e4,e1⟩:=Zo e1
   refine⟨fun σ' H'=>∃ ι' σd' Hd',Le X.K H ι H' ι'/\SRep X.K H' ι' σ' σd'/\HRep X.K H' ι' Hd'/\sWh t b m σd' Hd'=some (fl,σf,Hf),fun σ' H' p=>⟨m,Nat.lt_succ_self m,p⟩,?_⟩
   refine⟨ι3,σd1,H2,f4,σ4,H4,s1.mono l3,h3,e4,fun σ6 H6 ι6 l6 h6 s6=>?_⟩
   have L:Le X.K H ι H6 ι6:=(l1.trans l3).trans l6
   cases f4 with
   | nx=>exact⟨ι6,σ4,H4,L,s6,h6,e1⟩
   | ct=>exact⟨ι6,σ4,H4,L,s6,h6,e1⟩
   | bk=>cases e1; exact q σ6 H6 ι6 L h6 s6
   | rt d=>cases e1; exact q σ6 H6 ι6 L h6 s6
  | false =>
   rw[if_neg (by simp)]
   dsimp only at e1
   rw[if_neg (by simp)] at e1
   cases e1
   exact q σ1 H3 ι3 (l1.trans l3) h3 (s1.mono l3)
end
nonrec def Zkj (h:Vz) (L:Ve):List (Ve×Obj):=(Wdl h.objs.size).filterMap fun a=>if a=L then none else (h.get? a).map fun o=>(a,o)
theorem Znw {h:Vz} {L b:Ve} {o:Obj} (hb:b≠L) (e:h.get? b=some o):(b,o)∈Zkj h L:=by
 refine Wco.mpr ⟨b,Wci.mpr (Xf e),?_⟩
 rw[if_neg hb,e]; rfl
theorem Zee {h:Vz} {L:Ve} {p:Ve×Obj} (hp:p∈Zkj h L):h.get? p.1=some p.2/\p.1≠L:=by
 obtain⟨a,_,e⟩:=Wco.mp hp
 split at e
 ·cases e
 ·rename_i ne
  obtain⟨o,e1,rfl⟩:=Zm e
  exact⟨e1,ne⟩
theorem Zhh (b:Ve):({}:Vz).get? b=none:=by
 cases e:({}:Vz).get? b with
 | none=>rfl
 | some o=>exact absurd (Xf e) (Wft _)
nonrec def Zg7 (i:Int):Int:=if i<0 then -i else i
section
variable {prog:Vh} {w:Vu} {A:Vt} {E:Vb->Vd->Prop} {s:Vd}
theorem Zwv {l L:Ve} {vs:List Vb} {ns:List Int} {m:Str->Option Vb} {Q:Vb->Vd->Prop} (hn:s.heap.Ns L m) (hI:Ubd vs ns) (h64:vs.length<64)
  (hcol:∀ R:List Vb->Vd->Prop,R vs { s with heap:=(s.heap.push (Uav "list" #[] 0)).update s.heap.objs.size (Tay (· ++ vs.toArray)) }->Vf (Vm prog w) A.in1 (collect (.ref l)) R E s)
  (h:∀ h' tk out c,h'.Ns L m->(∀ b o,b≠L->s.heap.get? b=some o->h'.get? b=some o)->h'.get? (s.heap.objs.size+1)=some (Uav "list" out c)->KskOut false (ns.map Zg7) vs out.toList->Q (.ref (s.heap.objs.size+1)) { s with heap:=h',toks:=tk }) :
  Vf (Vm prog w) A (call (.builtin "sorted") [.ref l] [(Ua "key",.builtin "abs")]) Q E s:=by
 have sl:vs.length<=sizeLine:=by rw[Ubf]; omega
 have le:ns.length=vs.length:=hI.length.symm
 have lt:=hn.lt
 let h1:Vz:=(s.heap.push (Uav "list" #[] 0)).update s.heap.objs.size (Tay (· ++ vs.toArray))
 have z1:h1.objs.size=s.heap.objs.size+1:=(Heap.size_update ..).trans (size_push' ..)
 have at2:(h1.push (Uav "list" vs.toArray 0)).get? (s.heap.objs.size+1)=some (Uav "list" vs.toArray 0):=by rw[<- z1]; exact Xd _ rfl
 have kp:∀ b o,s.heap.get? b=some o->(h1.push (Uav "list" vs.toArray 0)).get? b=some o:=fun b o q=>by
  have hb:b<s.heap.objs.size:=Xf q
  refine Xa _ ?_
  show Heap.get? (Heap.update _ _ _) b=some o
  rw[Heap.get?_update_ne _ _ _ _ (Xh hb)]
  exact Xa _ q
 have F0:Fr {} L s.heap m:=⟨hn,fun b o e=>absurd ((Zhh b).symm.trans e) (by simp),Wbg _⟩
 have N0:News {} L s.heap (Zkj s.heap L):=fun p hp=>⟨(Zee hp).1,(Zee hp).2,Zhh _⟩
 refine Uci kind_sorted plain_sorted entry_sorted (ksk_s1 _ _) ?_
 unfold Builtin.«sorted»
 refine Va (m:=checkCount "sorted" 1 1 _) (Vc (Va (hcol _ (Va (Uca ?_ sl)))))
 show Vf _ _ _ _ _ { s with heap:=h1.push (Uav "list" vs.toArray 0) }
 rw[show ((s.heap.push (Uav "list" #[] 0)).update s.heap.objs.size (Tay (· ++ vs.toArray))).objs.size=s.heap.objs.size+1 from z1]
 refine Va (Vw (Udm slot_list_sort ⟨_,at2,rfl⟩ entry_list_sort ?body (ksk_l1 _ _)))
 case body =>
  show Vf (Vm prog w) A.in1.in1 (Builtin.«list.sort» ⟨[.ref (s.heap.objs.size+1)],[(Ua "key",.builtin "abs")]⟩) _ _ _
  rw[ksk_t4]
  refine ksk_sort (s:={ s with heap:=h1.push (Uav "list" vs.toArray 0) }) (kz:=ns.map Zg7) (news:=Zkj s.heap L) (F0.kept kp) (N0.grown kp) at2 (Wbn (Wbu lt)) (Zhh _) (fun p hp=>Xh (Wbu (Xf (Zee hp).1)))
   (by rw[Xu]; exact le) h64 (fun i v k hv hk hh tk own F N=>?_) fun h' tk out c F' N' K'=>⟨_,rfl,?_⟩
  ·obtain⟨n,t,rfl,e⟩:=hI.at i v hv
   rw[Xn,e] at hk
   cases hk
   exact Udw fun u tk'=>Tcu F N fun p hp=>hp
  ·refine Vc ⟨_,rfl,h h' tk out c F'.ns (fun b o hb e=>?_) ?_ K'⟩
   ·exact(N' _ (Waj _ (Znw hb e))).1
   ·exact(N' _ (Wcd ..)).1
theorem Zo1 {l:Ve} {vs:List Vb} {R:List Vb->Vd->Prop} (ht:Uem s.heap l vs.toArray) (hz:vs.length<=sizeLine)
  (h:R vs { s with heap:=(s.heap.push (Uav "list" #[] 0)).update s.heap.objs.size (Tay (· ++ vs.toArray)) }):Vf (Vm prog w) A (collect (.ref l)) R E s:=by
 obtain⟨o,ho,hc,n,hd⟩:=ht
 have ho2:(s.heap.push (Uav "list" #[] 0)).get? l=some o:=Xa _ ho
 have hN:(s.heap.push (Uav "list" #[] 0)).get? s.heap.objs.size=some (Uav "list" #[] 0):=Xd _ rfl
 unfold collect
 refine Va (wpAny_runValue (Ube Udb (show Vf _ _ (do again (.builtin "list.__iadd__" ⟨[<- Uen [],.ref l],[]⟩)) _ _ s from Va (Uca (Vc ⟨Tbl _ (by decide +kernel),Ube entry_list_iadd' ?_⟩)))))
 show Vf _ _ (Uq (.ref s.heap.objs.size) (.ref l) (.ref s.heap.objs.size)) _ _ { s with heap:=_ }
 unfold Uq
 refine Va (Ucp (T := "tuple") ⟨o,ho2,hc⟩ ?_)
 rw[if_pos (by simp)]
 refine Va (listItems_at ho2 hd (Va (listItems_at (xs := #[]) (n:=0) hN rfl ?_)))
 rw[if_neg (by simp)]
 refine Va (listUpdate_at (xs := #[]) (n:=0) hN rfl (Vc ?_) (Wbg _) (by show ((#[]:Array Vb)++vs.toArray).size<=sizeLine+1; rw[Array.size_append,Xm]; exact Wac (by simp) (Nat.le_succ_of_le hz)))
 refine Va (wpAny_load (get?_update_seq hN _) ?_)
 show Vf _ _ (pure (((#[]:Array Vb)++vs.toArray).toList)) R E _
 rw[Wey,List.toList_toArray]
 exact Vc h
end
theorem Zzr {vs:List Vb} {ns:List Int} (h:Ubd vs ns):∀ p∈(ns.map Zg7).zip vs,∃ n t,p=(Zg7 n,.int n t):=by
 induction h with
 | nil=>intro p hp; simp at hp
 | cons n t _ ih =>
  intro p hp
  rw[Xo,Wce] at hp
  rcases Xj.mp hp with rfl | hp
  ·exact⟨n,t,rfl⟩
  ·exact ih p hp
nonrec def Ya6 (p:Int×Vb):Int:=match p.2 with
 | .int n _=>n
 | _=>0
theorem Yap {vs:List Vb} {ns:List Int} (h:Ubd vs ns):((ns.map Zg7).zip vs).map Ya6=ns:=by
 induction h with
 | nil=>rfl
 | cons n t _ ih=>rw[Xo,Wce,Xo,ih]; rfl
theorem Zp5:∀ ps:List (Int×Vb),(∀ p∈ps,∃ n t,p=(Zg7 n,.int n t))->Ubd (ps.map Prod.snd) (ps.map Ya6)/\(ps.map Ya6).map Zg7=ps.map Prod.fst
 | [],_=>⟨.nil,rfl⟩
 | p::ps,h=>by
  obtain⟨n,t,rfl⟩:=h p (by simp)
  obtain⟨a,b⟩:=Zp5 ps fun q hq=>h q (by simp[hq])
  exact⟨.cons n t a,by rw[Xo,Xo,Xo,b]; rfl⟩
nonrec def Zdo (ns:List Int):List Int:=ns.mergeSort fun a b=>decide (Zg7 a<=Zg7 b)
theorem Zcf (ns:List Int):(Zdo ns).Perm ns:=List.mergeSort_perm ..
theorem Zqd (ns:List Int):(Zdo ns).Pairwise fun a b=>Zg7 a<=Zg7 b:=by
 have h:=List.pairwise_mergeSort (le:=fun a b:Int=>decide (Zg7 a<=Zg7 b)) (by intro a b c h1 h2; simp at *; omega) (by intro a b; simp; omega) ns
 exact h.imp (by intro a b h; simpa using h)
theorem Zy8 {x y:List Int} (h:x.map Zg7=y.map Zg7) (hi:∀ a∈x,∀ b∈y,Zg7 a=Zg7 b->a=b):x=y:=by
 induction x generalizing y with
 | nil=>cases y with
  | nil=>rfl
  | cons _ _=>cases h
 | cons a x ih=>cases y with
  | nil=>cases h
  | cons b y =>
   rw[Xo,Xo] at h
   obtain⟨h1,h2⟩:=Wbo.inj h
   rw[hi a (by simp) b (by simp) h1,ih h2 fun c hc d hd=>hi c (by simp[hc]) d (by simp[hd])]
theorem Ztm {ns:List Int} (h:(ns.map Zg7).Nodup):∀ a∈ns,∀ b∈ns,Zg7 a=Zg7 b->a=b:=by
 induction ns with
 | nil=>intro a ha; cases ha
 | cons n r ih =>
  rw[Xo,Wba] at h
  intro a ha b hb e
  rcases Xj.mp ha with h1 | h1<;>rcases Xj.mp hb with h2 | h2
  ·rw[h1,h2]
  ·exact absurd (Waa.mpr ⟨b,h2,by rw[<- e,h1]⟩) h.1
  ·exact absurd (Waa.mpr ⟨a,h1,by rw[e,h2]⟩) h.1
  ·exact ih h.2 a h1 b h2 e
theorem Zyp {vs out:List Vb} {ns:List Int} (h:Ubd vs ns) (hn:(ns.map Zg7).Nodup) (k:KskOut false (ns.map Zg7) vs out):Ubd out (Zdo ns):=by
 obtain⟨ps,hp,rfl,hw⟩:=k
 obtain⟨a,b⟩:=Zp5 ps fun p hp'=>Zzr h p (hp.mem_iff.mp hp')
 have c:(ps.map Ya6).Perm ns:=by rw[<- Yap h]; exact hp.map Ya6
 have d:ps.map Ya6=Zdo ns:=by
  refine Zy8 (Zme ((c.map Zg7).trans ((Zcf ns).map Zg7).symm) ?_ ?_) fun x hx y hy e=>Ztm hn x (c.mem_iff.mp hx) y ((Zcf ns).mem_iff.mp hy) e
  ·rw[b,Wea]; simpa using hw
  ·rw[Wea]; exact Zqd ns
 rw[<- d]; exact a
theorem Zn2 {X:Cx} {pins:List (Ve×Obj)} {σ:L2.St} {H:Hp} {s:Vd} {h':Vz} {a:Ve} {o:HO} {t':Nat} (I:Inv X pins σ H s) (k:∀ b u,b≠X.env.locals->s.heap.get? b=some u->h'.get? b=some u)
  (ns:∀ m,s.heap.Ns X.env.locals m->h'.Ns X.env.locals m) (hp:s.heap.objs.size<=a) (new:Zc5 X.prog X.w (upd H a o) h' a o):Inv X pins σ (upd H a o) { s with heap:=h',toks:=t' }:=by
 have hn:=I.hok.fresh hp
 have there:∀ b u,s.heap.get? b=some u->∃ o',h'.get? b=some o':=fun b u e=>by
  by_cases hb:b=X.env.locals
  ·subst hb
   obtain⟨m,hm,_⟩:=I.loc
   obtain⟨o,_,_,ho,_⟩:=ns m hm
   exact⟨o,ho⟩
  ·exact⟨u,k b u hb e⟩
 refine I.step (g':=s.gens) (d':=s.drawn) (ch:=[]) (fun _ z=>nomatch z) (fun b u hb _ _ e _=>k b u hb e) (fun b u hb _ _ e _=>⟨u.slots,k b u hb e⟩) (fun b u _ e n=>?_) (fun b u _ e=>there b u e) (fun b xs q=>?_) (fun b u xs q=>?_) (fun b ps q=>⟨#[],?_⟩) ns (fun b u e=>?_) I.bare
 ·rw[Zag (Xh (Xi (Xf e) hp))]; exact n
 ·rw[Zag (Zai q hn)]; exact q
 ·rw[Zag (Zai q hn)]; exact q
 ·rw[Zag (Zai q hn),q]; simp
 ·by_cases hb:b=a
  ·subst hb; rw[Zaq] at e; cases e; exact new
  ·rw[Zag hb] at e
   have nL:∀ c,(c=b\/H c=some (.own b))->c≠X.env.locals:=fun c hc z=>by
    subst z
    have:=I.free
    rcases hc with rfl | hc
    ·rw[this] at e; cases e
    ·rw[this] at hc; cases hc
   exact(I.hok b u e).stay (fun c v hc q=>k c v (nL c hc) q) (fun c q=>by rw[Zag (Zai q hn)]; exact q) fun c xs q=>by rw[Zag (Zai q hn)]; exact q
nonrec def Znh:FF:=fun ds H=>match ds with
 | [d]=>(Zmf d H).bind fun xs=>(Zhj xs).bind fun ns=>if ns.length<64/\(ns.map Zg7).Nodup then some (.ref H.length,H++[.lst ((Zdo ns).map .int)]) else none
 | _=>none
theorem Zvb {X:Cx} {a:Vv} {f:AF} {p p2 kp pos:Pos} (hg:Gl X "sorted") (hm:X.mg "sorted" = none) (hg2:Gl X "abs") (hm2:X.mg "abs" = none) (ha:PAf X [a] f) (hs:Vg [a] X.env=[(false,eval a X.env)]:=by rfl) :
  PEf X (.Call (.Name "sorted" p) [a] [⟨some "key",.Name "abs" p2,kp⟩] pos) (eCB Znh f):=by
 rintro pins s σ H Q I ⟨ι,σd,Hd,d,Hd',sr,hr,e,q⟩
 obtain⟨⟨ds,H1⟩,e1,e⟩:=Zo e
 dsimp only at e
 unfold Znh at e
 split at e
 ·rename_i d0
  obtain⟨ys,e2,e⟩:=Zo e
  obtain⟨ns,e3,e⟩:=Zo e
  split at e
  ·rename_i hc
   show Vf _ _ (do Ueb pos (<- eval (.Name "sorted" p) X.env) [] (Ual pos (Vg [a] X.env)) (Ucw pos (Ubh [⟨some "key",.Name "abs" p2,kp⟩] X.env))) _ _ _
   refine Va (Zeb I hg hm Zmz (Udc (by rw[hs]; rfl) rfl ?_))
   have hA:=ha pos pins s σ H (fun vs H'=>∃ ι',Le X.K H ι H' ι'/\HRep X.K H' ι' H1/\Vj (Rep X.K H' ι') [d0] vs) I ⟨ι,σd,Hd,_,_,sr,hr,e1,fun vs H' ι' l h P=>⟨ι',l,h,P⟩⟩
   rw[hs] at hA ⊢
   refine Udz rfl (thn hA fun us s1 ⟨vs,H2,I2,r2,ι2,l2,h2,P2⟩=>kws_cons (Zeb I2 hg2 hm2 Zux (kws_nil ?_)))
   obtain⟨v,rfl,r⟩:=Zl6 P2
   obtain⟨u,rfl,ru⟩:=Zh2 r2
   obtain⟨ad,ws,rfl,hq,P3⟩:=Znp h2 r e2
   cases ru
   have ev:=Zn0 e3 P3
   subst ev
   show Vf _ _ (call (.builtin "sorted") [.ref ad] [(Ua "key",.builtin "abs")]) _ _ _
   obtain⟨m,hn,_⟩:=I2.loc
   have Zju:∃ its:List Vb,Zb7 (ns.map V.int) its/\(∀ R:List Vb->Vd->Prop,R its { s1 with heap:=(s1.heap.push (Uav "list" #[] 0)).update s1.heap.objs.size (Tay (· ++ its.toArray)) }->Vf (Vm X.prog X.w) X.A.in1 (collect (.ref ad)) R X.xe s1):=by
    rcases hq with hq | hq
    ·obtain⟨its,ri,pl,hz⟩:=I2.list hq
     exact⟨its,ri,fun R hR=>collect_list pl.isList hR (by rw[<- ri.length]; exact hz)⟩
    ·obtain⟨its,ri,pl,hz⟩:=I2.tuple hq
     exact⟨its,ri,fun R hR=>Zo1 pl (by rw[<- ri.length]; exact hz) hR⟩
   obtain⟨its,ri,hcol⟩:=Zju
   have il:its.length=ns.length:=by rw[<- ri.length,Xu]
   refine Zwv hn (Zj6 ri) (by omega) hcol fun h' tk out c hn' kk hat K'=>?_
   have hO:=Zyp (Zj6 ri) hc.2 K'
   have hl:((Zdo ns).map V.int).length<=sizeLine:=by
    rw[Xu,(Zcf ns).length_eq]
    have:sizeLine=16777216:=Ubf
    omega
   have hp0:H2 (s1.heap.objs.size+1)=none:=I2.hok.fresh (Wec _)
   refine⟨.ref (s1.heap.objs.size+1),_,Zn2 (o:=.lst ((Zdo ns).map V.int)) I2 kk (fun m' hm'=>by rw[hm'.eq_nsMap,<- hn.eq_nsMap]; exact hn') (Wec _) ⟨hl,out.toList,c,Zmg hO,by simpa using hat⟩,rfl,?_⟩
   have hz2:((Zdo ns).map D.int).length<=sizeLine:=by simpa using hl
   exact(Zge h2 (Zml (Zdo ns)) (show mkL ((Zdo ns).map D.int) H1=some (d,Hd') by unfold mkL; rw[if_pos hz2,e]) (fun v H' ι' l h r=>q v H' ι' (l2.trans l) h r)).2 _ hp0
  ·cases e
 ·cases e
open Builtin.SmallTypes (nextOf)
def SqI (b:Bool) (h:Vz) (i l:Ve) (n:Nat):Prop:=∃ o,h.get? i=some o/\o.cls=.type (if b then "list_iterator" else "tuple_iterator")/\o.data=.fields #[.ref l,.int n 0]
def SqX (b:Bool) (h:Vz) (l:Ve) (xs:Array Vb):Prop:=∃ o,h.get? l=some o/\o.cls=.type (if b then "list" else "tuple")/\∃ n,o.data=.seq xs n
theorem SqI.mv {b:Bool} {h h':Vz} {i l:Ve} {n:Nat} (x:SqI b h i l n) (k:∀ o,h.get? i=some o->h'.get? i=some o):SqI b h' i l n:=let ⟨o,e,r⟩:=x; ⟨o,k o e,r⟩
theorem SqX.mv {b:Bool} {h h':Vz} {l:Ve} {xs:Array Vb} (x:SqX b h l xs) (k:∀ o,h.get? l=some o->h'.get? l=some o):SqX b h' l xs:=let ⟨o,e,r⟩:=x; ⟨o,k o e,r⟩
theorem SqI.lt {b:Bool} {h:Vz} {i l:Ve} {n:Nat} (x:SqI b h i l n):i<h.objs.size:=let ⟨_,e,_⟩:=x; Xf e
section
variable {prog:Vh} {w:Vu} {A:Vt} {E:Vb->Vd->Prop} {s:Vd}
theorem Zk8 {b:Bool} {i l:Ve} {n:Nat} {xs:Array Vb} {x:Vb} {Q:Vb->Vd->Prop} (hi:SqI b s.heap i l n) (hl:SqX b s.heap l xs) (hx:xs[n]? = some x)
  (hQ:∀ h',SqI b h' i l (n+1)->Xy i s.heap h'->Q x { s with heap:=h' }):Vf (Vm prog w) A (nextOf (.ref i)) Q E s:=by
 cases b
 ·exact Zpu hi hl hx hQ
 ·exact wpAny_nextOf_list_item hi hl hx hQ
theorem Zvd {b:Bool} {i l:Ve} {n:Nat} {xs:Array Vb} {Q:Vb->Vd->Prop} (hh:A.handled=none) (hi:SqI b s.heap i l n) (hl:SqX b s.heap l xs) (hx:xs[n]? = none)
  (hE:∀ h' e,Wdo i s.heap h'->(∃ o,h'.get? e=some o/\o.cls=.type "StopIteration")->E (.ref e) { s with heap:=h' }):Vf (Vm prog w) A (nextOf (.ref i)) Q E s:=by
 cases b
 ·exact Zu2 hh hi hl hx hE
 ·exact wpAny_nextOf_list_end hh hi hl hx hE
variable {z TI TO i1 i2 l1 l2:Ve} {k1 k2:Nat} {xs ys:Array Vb} {b1 b2:Bool}
theorem Yde {x y a b:Vb} {Q:Vb->Vd->Prop} (D:Udt z TI TO i1 i2 l1 l2) (hz:Udn s.heap z TI TO .none) (hTI:Uaw s.heap TI (.ref i1) (.ref i2)) (hTO:Uaw s.heap TO a b)
  (h1:SqI b1 s.heap i1 l1 k1) (h2:SqI b2 s.heap i2 l2 k2) (hl1:SqX b1 s.heap l1 xs) (hl2:SqX b2 s.heap l2 ys) (hx:xs[k1]? = some x) (hy:ys[k2]? = some y)
  (hQ:∀ h',Udn h' z TI TO (Uaa s.heap.objs.size)->Uaw h' TO x y->SqI b1 h' i1 l1 (k1+1)->SqI b2 h' i2 l2 (k2+1)->Uaw h' s.heap.objs.size x y->h'.objs.size=s.heap.objs.size+1 ->
   (∀ c o,c≠z->c≠TO->c≠i1->c≠i2->s.heap.get? c=some o->h'.get? c=some o)->Q (.ref s.heap.objs.size) { s with heap:=h' }) :
  Vf (Vm prog w) A (Builtin.«zip.__next__» ⟨[.ref z],[]⟩) (fun fin s'=>∃ v,fin=.done (.ret v)/\Q v s') E s:=by
 show Vf _ _ (Udl (.ref z) 2 >>= _) _ _ s
 refine Va (Vn hz rfl (x:=.bool false) rfl (show Vf _ _ (Udl (.ref z) 3 >>= _) _ _ _ from Va (Vn hz rfl (x:=.ref TI) rfl (Va (Uah hTI rfl ?_)))))
 show Vf _ _ (Ub (.ref z) >>= _) _ E s
 unfold Ub
 refine Va (Va (Vn hz rfl (x:=.none) rfl (Vc ?_)))
 simp only[if_true]
 refine Va (Ubi (Va (Vn hz rfl (x:=.ref TO) rfl (Va (Vk hz (by simp) fun g1 (e1:Udn g1 z TI TO .ellipsis) t1=>Va ?_)))))
 simp only[Wfq,Wfu,Wei,Wfx]
 refine Va (Va (Ucb (show Vf _ _ (nextOf (.ref i1) >>= _) _ _ _ from Va (Zk8 (h1.mv fun o e=>t1.extBut _ _ D.i1z e) (hl1.mv fun o e=>t1.extBut _ _ D.l1z e) hx fun g2 n2 t2=>Vc ?_))))
 have p2:Uaw g2 TO a b:=t2.extBut _ _ D.TOi1 (t1.extBut _ _ D.TOz hTO)
 refine Va (Uah p2 rfl (Va (Ubl p2 fun g3 (p3:Uaw g3 TO x b) t3=>Va (Ubp (Vc ?_)))))
 refine Va (Va (Ucb (show Vf _ _ (nextOf (.ref i2) >>= _) _ _ _ from Va (Zk8 (h2.mv fun o e=>t3.extBut _ _ D.TOi2.symm (t2.extBut _ _ D.i12.symm (t1.extBut _ _ D.i2z e))) (hl2.mv fun o e=>t3.extBut _ _ D.l2TO (t2.extBut _ _ D.l2i1 (t1.extBut _ _ D.l2z e))) hy fun g4 n4 t4=>Vc ?_))))
 have p4:Uaw g4 TO x b:=t4.extBut _ _ D.TOi2 p3
 refine Va (Uah p4 rfl (Va (Ubl p4 fun g5 (p5:Uaw g5 TO x y) t5=>Va (Ubp (Vc (Vc ?_))))))
 have sz:g5.objs.size=s.heap.objs.size:=by rw[t5.1,t4.1,t3.1,t2.1,t1.1]
 have e5:Udn g5 z TI TO .ellipsis:=t5.extBut _ _ D.TOz.symm (t4.extBut _ _ D.i2z.symm (t3.extBut _ _ D.TOz.symm (t2.extBut _ _ D.i1z.symm e1)))
 have kp5:∀ c o,c≠z->c≠TO->c≠i1->c≠i2->s.heap.get? c=some o->g5.get? c=some o:=fun c o c1 c2 c3 c4 e=>t5.extBut _ _ c2 (t4.extBut _ _ c4 (t3.extBut _ _ c2 (t2.extBut _ _ c3 (t1.extBut _ _ c1 e))))
 have n15:SqI b1 g5 i1 l1 (k1+1):=n2.mv fun o e=>t5.extBut _ _ D.TOi1.symm (t4.extBut _ _ D.i12 (t3.extBut _ _ D.TOi1.symm e))
 have n25:SqI b2 g5 i2 l2 (k2+1):=n4.mv fun o e=>t5.extBut _ _ D.TOi2.symm e
 have zl:z<g5.objs.size:=Xf e5
 refine Va (Uah p5 rfl (Va (Ude ?_)))
 show Vf _ _ (Ud (.ref z) (.ref g5.objs.size) >>= _) _ _ { s with heap:=_ }
 have e6:Udn (g5.push { cls:=.type "tuple",data:=.seq #[x,y] }) z TI TO .ellipsis:=Xa _ e5
 unfold Ud
 refine Va (Va (Vk e6 (by simp) fun g7 (e7:Udn g7 z TI TO (Uaa g5.objs.size)) t7=>Vk e7 (by simp) fun g8 (e8:Udn g8 z TI TO (Uaa g5.objs.size)) t8=>?_))
 have up:∀ c o,c≠z->g5.get? c=some o->g8.get? c=some o:=fun c o c1 e=>t8.extBut _ _ c1 (t7.extBut _ _ c1 (Xa _ e))
 have p8:Uaw g8 g5.objs.size x y:=t8.extBut _ _ (Wbn zl) (t7.extBut _ _ (Wbn zl) (Xd _ rfl))
 have s8:g8.objs.size=g5.objs.size+1:=by rw[t8.1,t7.1,Wan]
 rw[sz] at e8 p8 s8
 refine Vc ⟨.ref g5.objs.size,rfl,?_⟩
 rw[sz]
 exact hQ g8 e8 (up _ _ D.TOz p5) (n15.mv fun o e=>up _ o D.i1z e) (n25.mv fun o e=>up _ o D.i2z e) p8 s8 fun c o c1 c2 c3 c4 e=>up c o c1 (kp5 c o c1 c2 c3 c4 e)
theorem Yb6 {a b:Vb} {Q:PySem.Fin->Vd->Prop} (hh:A.handled=none) (D:Udt z TI TO i1 i2 l1 l2) (hz:Udn s.heap z TI TO .none) (hTI:Uaw s.heap TI (.ref i1) (.ref i2)) (hTO:Uaw s.heap TO a b)
  (h1:SqI b1 s.heap i1 l1 k1) (h2:SqI b2 s.heap i2 l2 k2) (hl1:SqX b1 s.heap l1 xs) (hl2:SqX b2 s.heap l2 ys) (hend:xs[k1]? = none\/ys[k2]? = none)
  (hE:∀ h' e,(∀ c o,c≠z->c≠TO->c≠i1->c≠i2->s.heap.get? c=some o->h'.get? c=some o)->(∃ o,h'.get? e=some o/\o.cls=.type "StopIteration")->E (.ref e) { s with heap:=h' }) :
  Vf (Vm prog w) A (Builtin.«zip.__next__» ⟨[.ref z],[]⟩) Q E s:=by
 show Vf _ _ (Udl (.ref z) 2 >>= _) _ _ s
 refine Va (Vn hz rfl (x:=.bool false) rfl (show Vf _ _ (Udl (.ref z) 3 >>= _) _ _ _ from Va (Vn hz rfl (x:=.ref TI) rfl (Va (Uah hTI rfl ?_)))))
 show Vf _ _ (Ub (.ref z) >>= _) _ E s
 unfold Ub
 refine Va (Va (Vn hz rfl (x:=.none) rfl (Vc ?_)))
 simp only[if_true]
 refine Va (Ubi (Va (Vn hz rfl (x:=.ref TO) rfl (Va (Vk hz (by simp) fun g1 (e1:Udn g1 z TI TO .ellipsis) t1=>Va ?_)))))
 simp only[Wfq,Wfu,Wei,Wfx]
 refine Va (Va (Ucb (show Vf _ _ (nextOf (.ref i1) >>= _) _ _ _ from ?_)))
 have hi1:=h1.mv (h':=g1) fun o e=>t1.extBut _ _ D.i1z e
 have hq1:=hl1.mv (h':=g1) fun o e=>t1.extBut _ _ D.l1z e
 cases hx:xs[k1]? with
 | none =>
  refine Va (Zvd hh hi1 hq1 hx fun g2 e t2 zz=>?_)
  obtain⟨oe,ho,hc⟩:=zz
  have e2:Udn g2 z TI TO .ellipsis:=t2 _ _ D.i1z.symm e1
  have ne:e≠z:=fun q=>by subst q; rw[e2] at ho; cases ho; simp at hc
  exact Vk e2 (by simp) fun g3 _ t3=>hE g3 e (fun c o c1 _ c3 _ q=>t3.extBut _ _ c1 (t2 _ _ c3 (t1.extBut _ _ c1 q))) ⟨oe,t3.extBut _ _ ne ho,hc⟩
 | some x =>
  have hy:ys[k2]? = none:=hend.resolve_left fun q=>by rw[hx] at q; cases q
  refine Va (Zk8 hi1 hq1 hx fun g2 n2 t2=>Vc ?_)
  have p2:Uaw g2 TO a b:=t2.extBut _ _ D.TOi1 (t1.extBut _ _ D.TOz hTO)
  refine Va (Uah p2 rfl (Va (Ubl p2 fun g3 _ t3=>Va (Ubp (Vc ?_)))))
  refine Va (Va (Ucb (show Vf _ _ (nextOf (.ref i2) >>= _) _ _ _ from Va (Zvd hh (h2.mv fun o e=>t3.extBut _ _ D.TOi2.symm (t2.extBut _ _ D.i12.symm (t1.extBut _ _ D.i2z e))) (hl2.mv fun o e=>t3.extBut _ _ D.l2TO (t2.extBut _ _ D.l2i1 (t1.extBut _ _ D.l2z e))) hy fun g4 e t4 zz=>?_))))
  obtain⟨oe,ho,hc⟩:=zz
  have e4:Udn g4 z TI TO .ellipsis:=t4 _ _ D.i2z.symm (t3.extBut _ _ D.TOz.symm (t2.extBut _ _ D.i1z.symm e1))
  have ne:e≠z:=fun q=>by subst q; rw[e4] at ho; cases ho; simp at hc
  exact Vk e4 (by simp) fun g5 _ t5=>hE g5 e (fun c o c1 c2 c3 c4 q=>t5.extBut _ _ c1 (t4 _ _ c4 (t3.extBut _ _ c2 (t2.extBut _ _ c3 (t1.extBut _ _ c1 q))))) ⟨oe,t5.extBut _ _ ne ho,hc⟩
theorem Yca {x y a b:Vb} {Q:Option Vb->Vd->Prop} (D:Udt z TI TO i1 i2 l1 l2) (hz:Udn s.heap z TI TO .none) (hTI:Uaw s.heap TI (.ref i1) (.ref i2)) (hTO:Uaw s.heap TO a b)
  (h1:SqI b1 s.heap i1 l1 k1) (h2:SqI b2 s.heap i2 l2 k2) (hl1:SqX b1 s.heap l1 xs) (hl2:SqX b2 s.heap l2 ys) (hx:xs[k1]? = some x) (hy:ys[k2]? = some y)
  (hQ:∀ h',Udn h' z TI TO (Uaa s.heap.objs.size)->Uaw h' TO x y->SqI b1 h' i1 l1 (k1+1)->SqI b2 h' i2 l2 (k2+1)->Uaw h' s.heap.objs.size x y->h'.objs.size=s.heap.objs.size+1 ->
   (∀ c o,c≠z->c≠TO->c≠i1->c≠i2->s.heap.get? c=some o->h'.get? c=some o)->Q (some (.ref s.heap.objs.size)) { s with heap:=h' }):Vf (Vm prog w) A (Ubj (.ref z)) Q E s:=by
 have ty:s.TypeIs (.ref z) "zip" := ⟨_,hz,rfl⟩
 unfold Ubj
 exact Va (Uan (Vi (name:=Ua "__next__") ty Tbd (Vp Tbd ty F.entry_zip_next (Yde D hz hTI hTO h1 h2 hl1 hl2 hx hy fun h' a1 a2 a3 a4 a5 a6 a7=>Vc (hQ h' a1 a2 a3 a4 a5 a6 a7)) (Tck _))))
theorem Ybq {a b:Vb} {Q:Option Vb->Vd->Prop} (hh:A.handled=none) (D:Udt z TI TO i1 i2 l1 l2) (hz:Udn s.heap z TI TO .none) (hTI:Uaw s.heap TI (.ref i1) (.ref i2)) (hTO:Uaw s.heap TO a b)
  (h1:SqI b1 s.heap i1 l1 k1) (h2:SqI b2 s.heap i2 l2 k2) (hl1:SqX b1 s.heap l1 xs) (hl2:SqX b2 s.heap l2 ys) (hend:xs[k1]? = none\/ys[k2]? = none)
  (hQ:∀ h',(∀ c o,c≠z->c≠TO->c≠i1->c≠i2->s.heap.get? c=some o->h'.get? c=some o)->Q none { s with heap:=h' }):Vf (Vm prog w) A (Ubj (.ref z)) Q E s:=by
 have ty:s.TypeIs (.ref z) "zip" := ⟨_,hz,rfl⟩
 unfold Ubj
 refine Va (Uan (Vi (name:=Ua "__next__") ty Tbd (Vp Tbd ty F.entry_zip_next (Yb6 hh D hz hTI hTO h1 h2 hl1 hl2 hend fun h' e hk ⟨o,ho,hc⟩=>?_) (Tck _))))
 exact Va (Ubk (T := "StopIteration") (b:=true) ⟨o,ho,hc⟩ Ubx (Vc (hQ _ hk)))
nonrec def itO (b:Bool) (l:Ve):Obj:={ cls:=.type (if b then "list_iterator" else "tuple_iterator"),data:=.fields #[.ref l,.int 0 0] }
theorem Zud {b:Bool} {l:Ve} {xs:Array Vb} {Q:Vb->Vd->Prop} (hl:SqX b s.heap l xs) (h:Q (.ref s.heap.objs.size) { s with heap:=s.heap.push (itO b l) }):Vf (Vm prog w) A (pyIter (.ref l)) Q E s:=by
 cases b
 ·exact Uag hl h
 ·exact Uak hl h
nonrec def zh2 (h:Vz) (b1 b2:Bool) (l1 l2:Ve):Vz:=(h.push (itO b1 l1)).push (itO b2 l2)
nonrec def zh4 (h:Vz) (b1 b2:Bool) (l1 l2:Ve):Vz:=((zh2 h b1 b2 l1 l2).push { cls:=.type "tuple",data:=.seq #[.ref h.objs.size,.ref (h.push (itO b1 l1)).objs.size] }).push { cls:=.type "tuple",data:=.seq #[.none,.none] }
nonrec def zh5 (h:Vz) (b1 b2:Bool) (l1 l2:Ve):Vz:=(zh4 h b1 b2 l1 l2).push { cls:=.type "zip",data:=.fields #[.none,.bool false,.bool false,.ref (zh2 h b1 b2 l1 l2).objs.size,.ref ((zh2 h b1 b2 l1 l2).push { cls:=.type "tuple",data:=.seq #[.ref h.objs.size,.ref (h.push (itO b1 l1)).objs.size] }).objs.size] }
theorem Zwq (b1 b2:Bool) (l1 l2:Ve) (xs ys:Array Vb):Uek (Builtin.«zip.__new__» ⟨[.type "zip",.ref l1,.ref l2],[]⟩) (fun _ R s=>SqX b1 s.heap l1 xs/\SqX b2 s.heap l2 ys/\R (.ok (.ret (.ref (zh4 s.heap b1 b2 l1 l2).objs.size))) { s with heap:=zh5 s.heap b1 b2 l1 l2 }) :=
 .of_wp fun prog w A R s h=>by
  obtain⟨hp,g,d,tk,os⟩:=s; obtain⟨m1,m2,h⟩:=h
  have sb:=sub_zip
  have M1:SqX b1 (Tbq ⟨hp,g,d,tk,os⟩) l1 xs:=m1
  have M2:SqX b2 (Tbq ⟨hp.push (itO b1 l1),g,d,tk,os⟩) l2 ys:=m2.mv fun o e=>Xa _ e
  wp_walk using Zud M1,Zud M2
  exact⟨_,rfl,h⟩
theorem Zr4 {b1 b2:Bool} {l1 l2:Ve} {xs ys:Array Vb} {Q:Vb->Vd->Prop} (m1:SqX b1 s.heap l1 xs) (m2:SqX b2 s.heap l2 ys)
  (h:∀ h',Udn h' (s.heap.objs.size+4) (s.heap.objs.size+2) (s.heap.objs.size+3) .none->Uaw h' (s.heap.objs.size+2) (.ref s.heap.objs.size) (.ref (s.heap.objs.size+1))->Uaw h' (s.heap.objs.size+3) .none .none ->
   SqI b1 h' s.heap.objs.size l1 0->SqI b2 h' (s.heap.objs.size+1) l2 0->(∀ c o,s.heap.get? c=some o->h'.get? c=some o)->Q (.ref (s.heap.objs.size+4)) { s with heap:=h' }) :
  Vf (Vm prog w) A (call (.type "zip") [.ref l1,.ref l2]) Q E s:=by
 refine Udy F.called_zip (by decide) (F.typeCall_zip_2 _ _) (F.newCall_zip_2 _ _) (fun obj=>F.args_object_init_3 obj _ _) F.entry_zip_new (Zwq b1 b2 l1 l2 xs ys) ⟨m1,m2,?_⟩
 let n:=s.heap.objs.size
 have s1:(s.heap.push (itO b1 l1)).objs.size=n+1:=Wan ..
 have s2:(zh2 s.heap b1 b2 l1 l2).objs.size=n+2:=(Wan ..).trans (by rw[s1])
 have s3:((zh2 s.heap b1 b2 l1 l2).push { cls:=.type "tuple",data:=.seq #[.ref s.heap.objs.size,.ref (s.heap.push (itO b1 l1)).objs.size] }).objs.size=n+3:=(Wan ..).trans (by rw[s2])
 have s4:(zh4 s.heap b1 b2 l1 l2).objs.size=n+4:=(Wan ..).trans (by rw[s3])
 have g5:(zh5 s.heap b1 b2 l1 l2).get? (zh4 s.heap b1 b2 l1 l2).objs.size=some _:=Xd _ rfl
 have g4:(zh5 s.heap b1 b2 l1 l2).get? ((zh2 s.heap b1 b2 l1 l2).push { cls:=.type "tuple",data:=.seq #[.ref s.heap.objs.size,.ref (s.heap.push (itO b1 l1)).objs.size] }).objs.size=some _:=Xa _ (Xd _ rfl)
 have g3:(zh5 s.heap b1 b2 l1 l2).get? (zh2 s.heap b1 b2 l1 l2).objs.size=some _:=Xa _ (Xa _ (Xd _ rfl))
 have g2:(zh5 s.heap b1 b2 l1 l2).get? (s.heap.push (itO b1 l1)).objs.size=some (itO b2 l2):=Xa _ (Xa _ (Xa _ (Xd _ rfl)))
 have g1:(zh5 s.heap b1 b2 l1 l2).get? s.heap.objs.size=some (itO b1 l1):=Xa _ (Xa _ (Xa _ (Xa _ (Xd _ rfl))))
 show _/\_
 rw[s2,s3,s4] at g5
 rw[s1,s2] at g3
 rw[s3] at g4
 rw[s1] at g2
 rw[s4]
 exact⟨⟨_,g5,rfl⟩,h _ g5 g3 g4 ⟨_,g1,rfl,rfl⟩ ⟨_,g2,rfl,rfl⟩ fun c o e=>Xa _ (Xa _ (Xa _ (Xa _ (Xa _ e))))⟩
end
def SqB (K:Xb) (b:Bool) (H:Hp) (l:Ve) (xs:List V):Prop:=if b=true then H l=some (.lst xs) else SqT K H l xs
nonrec def Zvq (d:D) (H:HD):Option (List D×Zg4):=match d with
 | .tup xs=>some (xs,[])
 | .ref n=>match H[n]? with
  | some (.lst xs)=>some (xs,[(n,.lst xs)])
  | _=>none
 | _=>none
theorem Zo9 {d:D} {H:HD} {xs:List D} {own:Zg4} (e:Zvq d H=some (xs,own)):Zcd own H:=by
 unfold Zvq at e
 split at e
 ·cases e; intro p hp; cases hp
 ·split at e
  ·rename_i eo
   cases e
   intro p hp
   simp at hp; subst hp; exact eo
  ·cases e
 ·cases e
theorem Zx9 {K:Xb} {H:Hp} {ι:List Ve} {Hd:HD} {d:D} {v:V} {xs:List D} {own:Zg4} (r:Rep K H ι d v) (e:Zvq d Hd=some (xs,own)) :
  ∃ b l,v=.ref l/\∀ H2 ι2 Hd2,Le K H ι H2 ι2->HRep K H2 ι2 Hd2->Zcd own Hd2->∃ ws,SqB K b H2 l ws/\Vj (Rep K H2 ι2) xs ws:=by
 unfold Zvq at e
 split at e
 ·cases e
  obtain⟨a,vs,rfl,h,p⟩:=Zbc.mp r
  refine⟨false,a,rfl,fun H2 ι2 Hd2 l2 h2 _=>?_⟩
  obtain⟨a',ws,ea,h',p'⟩:=Zbc.mp (r.mono l2)
  cases ea
  exact⟨ws,h',p'⟩
 ·rename_i n
  split at e
  ·rename_i ys eo
   cases e
   obtain⟨a,rfl,ha⟩:=Zaz.mp r
   refine⟨true,a,rfl,fun H2 ι2 Hd2 l2 h2 ok=>?_⟩
   obtain⟨ws,g,p⟩:=h2.obj n a _ (l2.get ha) (ok (n,.lst xs) (by simp))
   exact⟨ws,g,p⟩
  ·cases e
 ·cases e
section
variable {X:Cx} {pins:List (Ve×Obj)} {σ:L2.St} {H:Hp} {s:Vd} {b:Bool} {l:Ve} {xs ys:List V}
theorem Zhg (I:Inv X pins σ H s) (h:SqB X.K b H l xs):∃ its:List Vb,Zb7 xs its/\SqX b s.heap l its.toArray:=by
 cases b with
 | true =>
  obtain⟨its,r,p,_⟩:=I.list (SqL.of (K:=X.K) (show H l=some (.lst xs) from h))
  exact⟨its,r,p.isList⟩
 | false =>
  obtain⟨its,r,p,_⟩:=I.tuple (show SqT X.K H l xs from h)
  exact⟨its,r,p⟩
theorem Zsc (I:Inv X pins σ H s) (h:SqB X.K b H l xs) (h':SqB X.K b H l ys):xs=ys:=by
 cases b with
 | true =>
  have e1:H l=some (.lst xs):=h
  have e2:H l=some (.lst ys):=h'
  rw[e1] at e2; cases e2; rfl
 | false=>exact I.tuple_inj (show SqT X.K H l xs from h) h'
theorem Zp9 (I:Inv X pins σ H s) (h:SqB X.K b H l xs) {q:Ve} (f:Zk7 X pins H q):l≠q:=fun e=>by
 subst e
 have n0:=f.1
 cases b with
 | true =>
  have e1:H l=some (.lst xs):=h
  rw[n0] at e1; cases e1
 | false =>
  rcases(show SqT X.K H l xs from h) with h | ⟨o,its,n,hk,_⟩
  ·rcases h with h | ⟨o,h⟩<;>rw[n0] at h<;>cases h
  ·have e1:=I.ok.mod.kin l o hk
   rcases f.2.2.2.1 with z | z
   ·exact I.ok.noex l o e1 z
   ·exact absurd (Xi (Xf (I.ok.bs l o e1).1) z) (Was _)
end
nonrec def ItzS (K:Xb) (b1 b2:Bool) (l m:Ve):It :=
 ⟨fun i H=>∃ xs ys x y,SqB K b1 H l xs/\SqB K b2 H m ys/\xs[i]? = some x/\ys[i]? = some y,
  fun i H v H'=>∃ p x y,H p=none/\v=.ref p/\H'=upd H p (.tup [x,y])/\(∀ xs,SqB K b1 H l xs->xs[i]? = some x)/\∀ ys,SqB K b2 H m ys->ys[i]? = some y,
  fun i H=>∃ xs ys,SqB K b1 H l xs/\SqB K b2 H m ys/\(xs.length<=i\/ys.length<=i)⟩
theorem Zuw {P:Vh} {w:Vu} {K:Xb} {es:List Vv} {k:Nat} {pos:Pos} (b1 b2:Bool) (l m z a b c d:Ve) (F5:Five z a b c d) :
  Turn P w K (.Tuple es k pos) (ItzS K b1 b2 l m) [z,a,b,c,d] z (fun i h=>Udn h z a b .none/\Uaw h a (.ref c) (.ref d)/\(∃ u v,Uaw h b u v)/\SqI b1 h c l i/\SqI b2 h d m i) where
 mem:=by simp
 obj:=fun i h st y hy=>by
  obtain⟨h1,h2,⟨u,v,h3⟩,⟨o4,h4,_,d4⟩,o5,h5,_,d5⟩:=st
  simp only[Xj,Wcb,or_false] at hy
  rcases hy with rfl | rfl | rfl | rfl | rfl
  ·exact⟨_,h1,fun v z=>by cases z⟩
  ·exact⟨_,h2,fun v z=>by cases z⟩
  ·exact⟨_,h3,fun v z=>by cases z⟩
  ·exact⟨o4,h4,fun v z=>by rw[d4] at z; cases z⟩
  ·exact⟨o5,h5,fun v z=>by rw[d5] at z; cases z⟩
 keep:=fun i h h' st kk=>by
  obtain⟨h1,h2,⟨u,v,h3⟩,⟨o4,h4,r4⟩,o5,h5,r5⟩:=st
  exact⟨kk z (by simp) _ h1,kk a (by simp) _ h2,⟨u,v,kk b (by simp) _ h3⟩,⟨o4,kk c (by simp) _ h4,r4⟩,o5,kk d (by simp) _ h5,r5⟩
 item:=by
  intro X hP hw hK hc i pins s σ H E I hf st hg
  subst hP hw hK
  obtain⟨xs,ys,x,y,hl,hm,hx,hy⟩:=hg
  obtain⟨h1,h2,⟨u,v,h3⟩,h4,h5⟩:=st
  obtain⟨its,rv,p1⟩:=Zhg I hl
  obtain⟨jts,rw',p2⟩:=Zhg I hm
  obtain⟨ux,hux,rux⟩:=rv.get hx
  obtain⟨uy,huy,ruy⟩:=rw'.get hy
  have nl:∀ q∈[z,a,b,c,d],l≠q:=fun q hq=>Zp9 I hl (hf q hq)
  have nm:∀ q∈[z,a,b,c,d],m≠q:=fun q hq=>Zp9 I hm (hf q hq)
  have Ap:Udt z a b c d l m:=⟨F5.az,F5.bz,F5.cz,F5.dz,F5.ab,F5.ac,F5.ad,F5.bc,F5.bd,F5.cd,nl z (by simp),nl b (by simp),nl c (by simp),nl d (by simp),nm z (by simp),nm b (by simp),nm c (by simp),nm d (by simp)⟩
  refine Yca Ap h1 h2 h3 h4 h5 p1 p2 (x:=ux) (y:=uy) (by simpa using hux) (by simpa using huy) fun h' g1 g3 g4 g5 g6 g7 kk=>?_
  refine⟨_,rfl,wpAny_letOwnedTupleGo_zip (s:={ s with heap:=h' }) g1 fun h2' g1' s2=>?_⟩
  replace s2:Xy z h' h2':=s2
  have up:∀ q o,q∉[z,b,c,d]->s.heap.get? q=some o->h2'.get? q=some o:=fun q o hq e =>
   s2.extBut q o (fun e=>hq (by simp[e])) (kk q o (fun e=>hq (by simp[e])) (fun e=>hq (by simp[e])) (fun e=>hq (by simp[e])) (fun e=>hq (by simp[e])) e)
  have nz:s.heap.objs.size≠z:=Wbn (Xf h1)
  have hf':∀ q∈[z,b,c,d],Zk7 X pins H q:=fun q hq=>hf q (by simp at hq ⊢; rcases hq with rfl | rfl | rfl | rfl<;>simp)
  have t2:h2'.get? s.heap.objs.size=some { cls:=.type "tuple",data:=.seq [ux,uy].toArray 0 }:=s2.extBut _ _ nz g6
  have I2:=Zwb (tk:=s.toks) (vs:=[x,y]) I hf' up t2 (.cons rux (.cons ruy .nil)) (by show 2<=sizeLine; decide)
  have hp0:H s.heap.objs.size=none:=I.hok.fresh (Xe _)
  refine⟨.ref s.heap.objs.size,_,I2,rfl,⟨_,x,y,hp0,rfl,rfl,fun zs hz=>?_,fun zs hz=>?_⟩,⟨g1',?_,⟨ux,uy,?_⟩,?_,?_⟩,fun q hq=>?_⟩
  ·rw[<- Zsc I hl hz]; exact hx
  ·rw[<- Zsc I hm hz]; exact hy
  ·exact up a _ (by simp[F5.az,F5.ab,F5.ac,F5.ad]) h2
  ·exact s2.extBut _ _ F5.bz g3
  ·exact g4.mv fun o e=>s2.extBut _ _ F5.cz e
  ·exact g5.mv fun o e=>s2.extBut _ _ F5.dz e
  ·have hb2:q≠s.heap.objs.size:=by
    have lt:∀ {q o},s.heap.get? q=some o->q≠s.heap.objs.size:=fun e=>Xh (Xf e)
    simp only[Xj,Wcb,or_false] at hq
    rcases hq with rfl | rfl | rfl | rfl | rfl
    ·exact lt h1
    ·exact lt h2
    ·exact lt h3
    ·exact Xh h4.lt
    ·exact Xh h5.lt
   rw[Zag hb2]; exact(hf q hq).1
 done:=by
  intro X hP hw hK hc i pins s σ H E I hf st hg
  subst hP hw hK
  obtain⟨xs,ys,hl,hm,hx⟩:=hg
  obtain⟨h1,h2,⟨u,v,h3⟩,h4,h5⟩:=st
  obtain⟨its,rv,p1⟩:=Zhg I hl
  obtain⟨jts,rw',p2⟩:=Zhg I hm
  have nl:∀ q∈[z,a,b,c,d],l≠q:=fun q hq=>Zp9 I hl (hf q hq)
  have nm:∀ q∈[z,a,b,c,d],m≠q:=fun q hq=>Zp9 I hm (hf q hq)
  have Ap:Udt z a b c d l m:=⟨F5.az,F5.bz,F5.cz,F5.dz,F5.ab,F5.ac,F5.ad,F5.bc,F5.bd,F5.cd,nl z (by simp),nl b (by simp),nl c (by simp),nl d (by simp),nm z (by simp),nm b (by simp),nm c (by simp),nm d (by simp)⟩
  have e1:=rv.length
  have e2:=rw'.length
  refine Ybq (I.ok.hd hc) Ap h1 h2 h3 h4 h5 p1 p2 (by simp; omega) fun h' kk=>⟨rfl,Zwg (tk:=s.toks) (ch:=[z,b,c,d]) I (fun q hq=>hf q (by simp at hq ⊢; rcases hq with rfl | rfl | rfl | rfl<;>simp)) fun q o hq e=>?_⟩
  exact kk q o (fun e=>hq (by simp[e])) (fun e=>hq (by simp[e])) (fun e=>hq (by simp[e])) (fun e=>hq (by simp[e])) e
 self:=fun _ _ _ _ _ st h=>wpAny_pyIter_zip st.1 h
nonrec def Zse (f:AF):ItF:=fun σ H=>(f σ H).bind fun p=>match p.1 with
 | [d1,d2]=>(Zvq d1 p.2).bind fun a=>(Zvq d2 p.2).map fun b=>((Zqe a.1 b.1,a.2++b.2),p.2)
 | _=>none
theorem Zpd {X:Cx} {es:List Vv} {k:Nat} {tp p pos:Pos} {a b:Vv} {f:AF} (hg:Gl X "zip") (hm:X.mg "zip" = none) (ha:PAf X [a,b] f) (hs:Vg [a,b] X.env=[(false,eval a X.env),(false,eval b X.env)]:=by rfl) (hs2:Vg [b] X.env=[(false,eval b X.env)]:=by rfl) :
  PIf X (.Tuple es k tp) (.Call (.Name "zip" p) [a,b] [] pos) (Zse f):=by
 rintro pins s σ H R I ⟨ι,σd,Hd,xs,own,Hd',sr,hr,e,q⟩
 obtain⟨⟨ds,H1⟩,e1,e⟩:=Zo e
 dsimp only at e
 split at e
 ·rename_i d1 d2
  obtain⟨⟨us,ow1⟩,en,e⟩:=Zo e
  obtain⟨⟨vs,ow2⟩,em,e⟩:=Zm e
  cases e
  refine Call_ (Zeb I hg hm boot_zip (Ug (thn (ha pos pins s σ H (fun vs H'=>∃ b1 b2 l m xs ys,vs=[.ref l,.ref m]/\SqB X.K b1 H' l xs/\SqB X.K b2 H' m ys/\R (ItzS X.K b1 b2 l m) H') I ⟨ι,σd,Hd,_,_,sr,hr,e1,fun ws H' ι' l h P=>?_⟩) fun us s1 ⟨vs,H2,I2,r2,q2⟩=>?_) (by rw[hs,hs2]) (by rw[hs2]; rfl)))
  ·obtain⟨v,v',rfl,r,r'⟩:=Ydc P
   obtain⟨c1,l1,rfl,at1⟩:=Zx9 r en
   obtain⟨c2,l2,rfl,at2⟩:=Zx9 r' em
   obtain⟨xs1,o1,P1⟩:=at1 H' ι' Hd' Le.refl h (Zo9 en)
   obtain⟨xs2,o2,P2⟩:=at2 H' ι' Hd' Le.refl h (Zo9 em)
   have ok1:∀ {Hd2:HD},Zcd (ow1++ow2) Hd2->Zcd ow1 Hd2:=fun ok p hp=>ok p (by simp[hp])
   have ok2:∀ {Hd2:HD},Zcd (ow1++ow2) Hd2->Zcd ow2 Hd2:=fun ok p hp=>ok p (by simp[hp])
   refine⟨c1,c2,l1,l2,xs1,xs2,rfl,o1,o2,q _ H' ι' l h ⟨fun i H2 ι2 Hd2 l2' h2 ok hi=>?_,fun i H2 ι2 Hd2 d x H3 l2' h2 ok hd y=>?_,fun i H2 ι2 Hd2 l2' h2 ok hi=>?_⟩⟩
   ·obtain⟨ws1,g1,Q1⟩:=at1 H2 ι2 Hd2 l2' h2 (ok1 ok)
    obtain⟨ws2,g2,Q2⟩:=at2 H2 ι2 Hd2 l2' h2 (ok2 ok)
    rw[Zle] at hi
    dsimp only at hi
    have z1:=Prd.len Q1
    have z2:=Prd.len Q2
    exact⟨ws1,ws2,ws1[i]'(by omega),ws2[i]'(by omega),g1,g2,by simp,by simp⟩
   ·obtain⟨ws1,g1,Q1⟩:=at1 H2 ι2 Hd2 l2' h2 (ok1 ok)
    obtain⟨ws2,g2,Q2⟩:=at2 H2 ι2 Hd2 l2' h2 (ok2 ok)
    obtain⟨p,u1,u2,hp,rfl,rfl,y1,y2⟩:=y
    obtain⟨d1,d2,w1,w2,rfl⟩:=Zqb hd
    obtain⟨c1,k1,t1⟩:=Prd.get Q1 w1
    obtain⟨c2,k2,t2⟩:=Prd.get Q2 w2
    have x1:=y1 _ g1
    have x2:=y2 _ g2
    rw[k1] at x1
    rw[k2] at x2
    cases x1
    cases x2
    exact⟨ι2,Le.fresh hp _,h2.tup hp _,Zbc.mpr ⟨p,_,rfl,SqT.of Zaq,.cons (t1.mono (Le.fresh hp _)) (.cons (t2.mono (Le.fresh hp _)) .nil)⟩⟩
   ·obtain⟨ws1,g1,Q1⟩:=at1 H2 ι2 Hd2 l2' h2 (ok1 ok)
    obtain⟨ws2,g2,Q2⟩:=at2 H2 ι2 Hd2 l2' h2 (ok2 ok)
    rw[Zle] at hi
    dsimp only at hi
    have z1:=Prd.len Q1
    have z2:=Prd.len Q2
    exact⟨ws1,ws2,g1,g2,by omega⟩
  ·obtain⟨c1,c2,l,m,xs,ys,rfl,o1,o2,q2⟩:=q2
   obtain⟨u1,u2,rfl,ru1,ru2⟩:=Zxg r2
   cases ru1
   cases ru2
   obtain⟨its,_,p1⟩:=Zhg I2 o1
   obtain⟨jts,_,p2⟩:=Zhg I2 o2
   refine Zr4 p1 p2 fun h' hz ha hb hc hd kk=>?_
   have I3:Inv X pins σ H2 { s1 with heap:=h' }:=I2.kept (t':=s1.toks) kk
   refine wpAny_pyIter_zip (s:={ s1 with heap:=h' }) hz ?_
   have ne:∀ {i j:Nat},i≠j->(s1.heap.objs.size+i:Nat)≠s1.heap.objs.size+j:=fun h z=>h (Nat.add_left_cancel z)
   have F5:Five (s1.heap.objs.size+4) (s1.heap.objs.size+2) (s1.heap.objs.size+3) s1.heap.objs.size (s1.heap.objs.size+1) :=
    ⟨ne (by decide),ne (by decide),ne (i:=0) (by decide),ne (by decide),ne (by decide),ne (j:=0) (by decide),ne (by decide),ne (j:=0) (by decide),ne (by decide),ne (i:=0) (by decide)⟩
   refine⟨s1.heap.objs.size+4,[s1.heap.objs.size+4,s1.heap.objs.size+2,s1.heap.objs.size+3,s1.heap.objs.size,s1.heap.objs.size+1],_,ItzS X.K c1 c2 l m,H2,rfl,I3,Zuw c1 c2 l m _ _ _ _ _ F5,⟨hz,ha,⟨_,_,hb⟩,hc,hd⟩,fun b hb=>?_,q2⟩
   have:s1.heap.objs.size<=b:=by
    simp only[Xj,Wcb,or_false] at hb
    rcases hb with rfl | rfl | rfl | rfl | rfl<;>first | exact Nat.le_add_right _ _ | exact Xe _
   exact I2.fpOk (b:=b) (H':=H2) this (I2.hok.fresh this)
 ·cases e
section
variable {X:Cx} {e:Vv} {pos:Pos}
nonrec def sErr:SF:=fun _ _=>none
theorem Zth {st:Uab}:PSf X st sErr:=by
 rintro pins s σ H E I ⟨ι,σd,Hd,fl,σd',Hd',_,_,e,_⟩
 cases e
nonrec def Zv8:D->Option Int
 | .int i=>some i
 | _=>none
nonrec def sAug (g:Int->Int->Int) (i:Nat) (f:EF):SF:=fun σ H=>((σ[i]?).join.bind Zv8).bind fun a=>(f σ H).bind fun p=>(Zv8 p.1).map fun b=>(.nx,σ.set i (some (.int (g a b))),p.2)
theorem Zkn {d:D} {i:Int} (h:Zv8 d=some i):d=.int i:=by
 cases d<;>simp[Zv8] at h
 rw[h]
theorem Zy3 {i:Nat} {x:Str} {f:EF} {op:Uea} {g:Int->Int->Int} {pos':Pos} (ho:PIp X op (ipI g)) (hN:X.N.Nodup) (hi:X.N[i]? = some x) (hx:Loc X.env.scope x) (he:PEf X e f)
  (hf:X.fn x=true\/X.env.scope.names.lookup x=some .local:=by first | exact .inl rfl | exact .inr rfl | assumption):PSf X (.AugAssign (.Name x pos') op e pos) (sAug g i f):=by
 refine PSi (Yd9 hN hi hx he ho hf) fun E σ H zz=>?_
 obtain⟨ι,σd,Hd,fl,σd',Hd',s,hr,e,q⟩:=zz
 obtain⟨a,e0,e⟩:=Zo e
 obtain⟨d,e1,e2⟩:=Zo e0
 have:=Zkn e2
 subst this
 obtain⟨⟨y,H1⟩,e3,e⟩:=Zo e
 obtain⟨b,e4,e⟩:=Zm e
 have:=Zkn e4
 dsimp only at this e
 subst this
 cases e
 have hv:σd[i]? = some (some (.int a)):=by
  cases hx:σd[i]? with
  | none=>rw[hx] at e1; cases e1
  | some o=>rw[hx] at e1; exact congrArg some e1
 obtain⟨v,h1,h2⟩:=s.var i _ hv
 simp at h2
 subst h2
 refine⟨_,h1,ι,σd,Hd,_,_,s,hr,e3,fun v H' ι' l h r=>?_⟩
 simp at r
 subst r
 refine⟨a,b,rfl,rfl,q _ H' ι' l h ((s.mono l).set (by simp) i)⟩
end
structure BlkOk2 (X:Cx) (scope:Ubm) (x y:Str) (cn:List Str) (ci:List Nat):Prop where
 kind:scope.kind=.function
 nocell:∀ y∈scope.names,y.2≠.cell
 names:∀ y∈scope.names,y.2=.local->scope.names.lookup y.1=some .local
 tgt:scope.names.lookup x=some .local
 tgt2:scope.names.lookup y=some .local
 free:∀ y∈scope.names,y.2=.free->(X.env.cells.lookup y.1).isSome=true
 nd:(x::y::cn).Nodup
 len:ci.length=cn.length
 cap:∀ (j:Nat) (y:Str),cn[j]? = some y->∃ i,ci[j]? = some i/\X.N[i]? = some y/\scope.names.lookup y=some .free/\(X.env.kindOf y=some .cell\/X.env.kindOf y=some .free)
section
variable {X:Cx} {pins:List (Ve×Obj)} {σ:L2.St} {H:Hp} {s:Vd} {scope:Ubm} {x y0:Str} {cn:List Str} {ci:List Nat} {fp:List Ve}
theorem Zwo {h₁:Vz} {tk:Nat} {o₁:Obj} (I:Inv X pins σ H s) (B:BlkOk2 X scope x y0 cn ci) (hf:∀ b∈fp,Zk7 X pins H b) (hlt:∀ b∈fp,b<s.heap.objs.size)
  (hns:h₁.Ns s.heap.objs.size (fun _=>none)) (hsb:Xy s.heap.objs.size (s.heap.push o₁) h₁) :
  Inv (blk X scope (x::y0::cn) (Zhz X.env scope.names []) s.heap.objs.size s H fp (X.pn++pins)) [] (none::none::Zjt ci σ) H { s with heap:=h₁,toks:=tk }:=by
 have old:∀ b o,s.heap.get? b=some o->h₁.get? b=some o:=fun b o e=>hsb.extBut b o (Xh (Xf e)) (Xa _ e)
 have sub:=Zgx X.env scope.names [] (by intro x c h; simp at h)
 have has:∀ y,(y,Ue)∈scope.names->∃ c,(Zhz X.env scope.names []).lookup y=some c:=fun y hy =>
  Wai.mp (Zkz X.env scope.names [] y (.inr ⟨hy,B.free _ hy rfl⟩))
 refine⟨⟨I.ok.mod,B.kind,I.ok.glob,I.ok.blt,Xe _,fun y z c h1 h2=>I.ok.inj y z c (sub y c h1) (sub z c h2),fun y hy=>has y (Zfg B.nocell hy),fun y c hy=>absurd hy (by show ¬ (false=true); simp),I.ok.hd,I.ok.frames,.inl rfl,
   fun b hb=>⟨Xh (hlt b hb),fun y c e=>(hf b hb).2.2.2.2.1 y c (sub y c e)⟩,I.bs,Wac I.ok.bsz I.sz,fun b o e hb=>?_,fun b hb z=>?_,I.stack,I.stkFree⟩,
  rfl,I.bare,Un.kept old,⟨_,hns,fun i y v h1 h2 h3=>?_⟩,fun y c e=>?_,I.hok.fresh (Xe _),fun y c e=>(I.freeC y c (sub y c e)).imp id fun z=>⟨rfl,z.2⟩,fun p hp=>?_,I.hok.kept old,?_⟩
 ·rcases(hf b hb).2.2.2.1 with z | z
  ·exact I.ok.noex b o e z
  ·exact absurd (Xi (Xf e) (Wac I.ok.bsz z)) (Was _)
 ·exact(Xj.mp (I.stkSub b z)).elim (hf b hb).2.1 (hf b hb).2.2.1
 ·match i,h1,h2 with
  | 0,h1,h2=>simp at h2
  | 1,h1,h2=>simp at h2
  | j+2,h1,h2 =>
   have h1':cn[j]? = some y:=by simpa [blk] using h1
   have h2':(Zjt ci σ)[j]? = some (some v):=by simpa using h2
   obtain⟨i,e1,e2,e3,e4⟩:=B.cap j y h1'
   have e5:σ[i]? = some (some v):=by
    unfold Zjt at h2'
    rw[Xn,e1] at h2'
    simp at h2'
    cases e:σ[i]? with
    | none=>rw[e] at h2'; cases h2'
    | some o=>rw[e] at h2'; simp at h2'; rw[h2']
   obtain⟨m,hn,hl⟩:=I.loc
   have hv:Vis X.env.scope y:=by
    rcases e4 with e4 | e4
    ·exact .inr (.inl e4)
    ·exact .inr (.inr e4)
   obtain⟨u,r,l⟩:=hl i y v e2 e5 hv
   refine⟨u,r,.inr ⟨Zf5 e3,?_⟩⟩
   obtain⟨c,ec⟩:=has y (Uh e3)
   refine⟨c,ec,?_⟩
   rcases l with ⟨l,_⟩ | ⟨_,c',ec',hc⟩
   ·rcases e4 with e4 | e4<;>rw[e4] at l<;>cases l
   ·rw[sub y c ec] at ec'
    cases ec'
    obtain⟨ob,q1,q2⟩:=hc
    exact⟨ob,old _ _ q1,q2⟩
 ·obtain⟨v,ob,q1,q2⟩:=I.cell y c (sub y c e)
  exact⟨v,ob,old _ _ q1,q2⟩
 ·have hp':p∈X.pn++pins:=by simpa [blk] using hp
  obtain⟨q1,q2,q3,q4,q5⟩:=I.pin p hp'
  refine⟨old _ _ q1,q2,Xh (Xf q1),fun z=>?_,q5⟩
  exact(Xj.mp (I.stkSub p.1 z)).elim q3 q4
 ·simp[blk,Zjt,B.len]
def LcW2 (K:Xb) (J:It) (ci:List Nat) (tt:TT) (te:TE) (σ:L2.St) (Q:VK) (H1:Hp):Prop:=∀ p,H1 p=none->∃ W:Nat->Nat->List V->Hp->Prop,(∃ m,W 0 m [] (upd H1 p (.lst [])))/\∀ i m ys H,W i m ys H ->
 H p=some (.lst ys)/\((J.stop i H/\Q (.ref p) H)\/(J.go i H/\∀ v H',J.yld i H v H'->∃ a v1 v2,v=.ref a/\SqT K H' a [v1,v2]/\tt (some v1::some v2::Zjt ci σ) H' fun b H2 =>
  if b=true then te (some v1::some v2::Zjt ci σ) H2 fun y H3=>H3 p=some (.lst ys)/\ys.length<sizeLine/\∃ m',m'<m/\W (i+1) m' (ys++[y]) (upd H3 p (.lst (ys++[y])))
  else ∃ m',m'<m/\W (i+1) m' ys H2))
theorem Zs5 {elt iter:Vv} {px py pt pos:Pos} {kt:Nat} {ifs:List Vv} {tt:TT} {te:TE} {Q:VK} {E:Vb->Vd->Prop} {RR:Vb->Ve->Result->Vd->Prop} {it:Ve} {tn:Nat->Vz->Prop} {J:It}
  (I:Inv X pins σ H s) (hc:X.calm=true) (B:BlkOk2 X scope x y0 cn ci) (T:Turn X.prog X.w X.K (.Tuple [.Name x px,.Name y0 py] kt pt) J fp it tn) (st:tn 0 s.heap) (hf:∀ b∈fp,Zk7 X pins H b)
  (ht:∀ cl C s H fp pn,PTs (blk X scope (x::y0::cn) cl C s H fp pn) ifs tt) (he:∀ cl C s H fp pn,PE (blk X scope (x::y0::cn) cl C s H fp pn) elt te)
  (hw:LcW2 X.K J ci tt te σ Q H) (hRR:∀ p C H' s',Inv X pins σ H' s'->Gone X pins H' s' C->Q (.ref p) H'->RR (.ref p) C (.ok .next) s') :
  Vf (Vm X.prog X.w) X.A (Uen []) (fun acc s₃=>Vf (Vm X.prog X.w) X.A (newFunctionEnv scope X.env.globals (Zhz X.env scope.names []) [] X.env.qual none .none (some X.env)) (fun cenv s₄ =>
   Ucn (Vm X.prog X.w) X.A (.compStart (.ListComp elt [⟨.Tuple [.Name x px,.Name y0 py] kt pt,iter,ifs,0⟩] scope pos) 0 (.ref it) acc { cenv with scope:=relabel scope X.env }) (RR acc cenv.locals) s₄) E s₃) E s:=by
 have hp0:H s.heap.objs.size=none:=I.hok.fresh (Xe _)
 obtain⟨W,⟨m0,w0⟩,turn⟩:=hw _ hp0
 refine Vs (Ucy B.nocell (by intro y hy; simp at hy) (fun h₁ hns₁ hsb₁=>?_) B.kind)
 dsimp only at hns₁ hsb₁ ⊢
 have I3:Inv X pins σ (upd H s.heap.objs.size (.lst [])) { s with heap:=s.heap.push { cls:=.type "list",dict:=none,data:=.seq ([]:List Vb).toArray } } :=
  I.laid (t':=s.toks) (fun b u e=>Xa _ e) (Xe _) ⟨Wbg _,[],0,.nil,Xd _ rfl⟩
 generalize hH3:s.heap.push { cls:=.type "list",dict:=none,data:=.seq ([]:List Vb).toArray }=hp3 at hns₁ hsb₁ I3 ⊢
 have flt:∀ b∈fp,b<s.heap.objs.size:=fun b hb=>by
  obtain⟨o,e,_⟩:=T.obj 0 _ st b hb
  exact Xf e
 have sz3:hp3.objs.size=s.heap.objs.size+1:=by rw[<- hH3,Wan]
 have f3:∀ b∈fp,Zk7 X pins (upd H s.heap.objs.size (.lst [])) b:=fun b hb=>⟨by rw[Zag (Xh (flt b hb))]; exact(hf b hb).1,(hf b hb).2⟩
 have old3:∀ b o,s.heap.get? b=some o->hp3.get? b=some o:=fun b o e=>by rw[<- hH3]; exact Xa _ e
 have I4:=Zwo (s:={ s with heap:=hp3 }) (tk:=s.toks+([]:List (Str×Vb)).length) I3 B f3 (fun b hb=>by show b<hp3.objs.size; rw[sz3]; exact Wbu (flt b hb)) (by simpa using hns₁) hsb₁
 have old4:∀ b o,hp3.get? b=some o->h₁.get? b=some o:=fun b o e=>hsb₁.extBut b o (Xh (Xf e)) (Xa _ e)
 generalize hX':blk X scope (x::y0::cn) (Zhz X.env scope.names []) hp3.objs.size { s with heap:=hp3 } (upd H s.heap.objs.size (.lst [])) fp (X.pn++pins)=X' at I4
 have ePr:X'.prog=X.prog:=by rw[<- hX']; rfl
 have eW:X'.w=X.w:=by rw[<- hX']; rfl
 have eK:X'.K=X.K:=by rw[<- hX']; rfl
 have eA:X'.A=X.A:=by rw[<- hX']; rfl
 have eEnv:X'.env=Ubs scope (Zhz X.env scope.names []) hp3.objs.size X.env:=by rw[<- hX']; rfl
 have eEx:X'.ex=fp:=by rw[<- hX']; rfl
 have ht':PTs X' ifs tt:=by rw[<- hX']; exact ht _ _ _ _ _ _
 have he':PE X' elt te:=by rw[<- hX']; exact he _ _ _ _ _ _
 have eXe:X'.xe=fun _ _=>False:=by rw[<- hX']; rfl
 have hg':PG X' (.Tuple [.Name x px,.Name y0 py] kt pt) (gTup X.K 2 (Zsb (Zlb 0) (Zsb (Zlb 1) gNil))):=by
  rw[<- hX']
  exact Zxn (X:=blk X scope (x::y0::cn) _ _ _ _ _ _) hc (Zlc (Zlf (X:=blk X scope (x::y0::cn) _ _ _ _ _ _) B.nd rfl (.inl (Uad B.tgt)) (.inr (Uad B.tgt))) (Zlc (Zlf (X:=blk X scope (x::y0::cn) _ _ _ _ _ _) B.nd rfl (.inl (Uad B.tgt2)) (.inr (Uad B.tgt2))) Zvf))
 -- the iterator's objects, seen from the block
 have stat:∀ {H':Hp},(∀ b∈fp,H' b=none)->∀ b∈fp,Zk7 X' [] H' b:=fun {H'} hn b hb=>by
  rw[<- hX']
  refine⟨hn b hb,(by show b≠hp3.objs.size; rw[sz3]; exact Xh (Wbu (flt b hb))),fun z=>(Xj.mp (I3.stkSub b z)).elim (hf b hb).2.1 (hf b hb).2.2.1,.inl hb,fun y c e=>?_,fun p hp=>?_⟩
  ·exact(hf b hb).2.2.2.2.1 y c (Zgx X.env scope.names [] (by intro x c h; simp at h) y c e)
  ·exact(hf b hb).2.2.2.2.2 p (by simpa [blk] using hp)
 have back:∀ {σ':L2.St} {H':Hp} {s':Vd},Inv X' [] σ' H' s'->Inv X pins σ H' s'/\Gone X pins H' s' hp3.objs.size:=fun {σ' H' s'} I5=>by
  have u:Un (frs X.stack) fp (upd H s.heap.objs.size (.lst [])) H' hp3 s'.heap:=by
   have:=I5.base
   rw[<- hX'] at this
   exact this
  have hok:HOk X.prog X.w H' s'.heap:=by have:=I5.hok; rw[ePr,eW] at this; exact this
  have ho:s'.os=s.os:=by have:=I5.os; rw[<- hX'] at this; exact this
  refine⟨I3.call' ho u hok I5.bare fun b hb=>⟨(hf b hb).2.2.2.1,(hf b hb).2.1,(hf b hb).2.2.2.2.1,(hf b hb).2.2.2.2.2⟩,?_,?_,?_,?_,fun y c e z=>?_,fun p hp z=>?_⟩
  ·obtain⟨m,hn,_⟩:=I5.loc
   rw[eEnv] at hn
   exact⟨m,hn⟩
  ·have:=I5.free
   rw[eEnv] at this
   exact this
  ·exact Wbn (I3.lt)
  ·exact I3.sz
  ·obtain⟨v,q⟩:=I3.cell y c e
   exact absurd (Xi q.lt (by rw[z]; exact Xe _)) (Was _)
  ·have:=Xf (I3.pin p hp).1
   rw[z] at this
   exact Was _ this
 have loop:Ucn (Vm X.prog X.w) X.A (.compLoop (.ListComp elt [⟨.Tuple [.Name x px,.Name y0 py] kt pt,iter,ifs,0⟩] scope pos) 0 (.ref it) (.ref s.heap.objs.size) (Ubs scope (Zhz X.env scope.names []) hp3.objs.size X.env))
   (RR (.ref s.heap.objs.size) hp3.objs.size) { s with heap:=h₁,toks:=s.toks+([]:List (Str×Vb)).length }:=by
  refine codeAny_loop rfl (fun n s'=>∃ i o o2 ys H',Inv X' [] (o::o2::Zjt ci σ) H' s'/\tn i s'.heap/\(∀ b∈fp,H' b=none)/\W i n ys H') (fun n s' hI=>?_) m0
   ⟨0,none,none,[],_,I4,T.keep _ _ _ st (fun b hb o e=>old4 b o (old3 b o e)),fun b hb=>(f3 b hb).1,w0⟩
  obtain⟨i,o,o2,ys,H',I5,st5,fr5,w5⟩:=hI
  show Vf _ X.A ((compTurn (.ListComp elt [⟨.Tuple [.Name x px,.Name y0 py] kt pt,iter,ifs,0⟩] scope pos) 0 (.ref it) (.ref s.heap.objs.size) (Ubs scope (Zhz X.env scope.names []) hp3.objs.size X.env)).onRaise (fun x=>do noteFrame x (Ubs scope (Zhz X.env scope.names []) hp3.objs.size X.env); theTreesLotGoes x)) _ _ s'
  refine wpAny_noted ?_
  rw[compTurn_list,<- eEnv,<- ePr,<- eW,<- eA]
  refine Uao (E:=fun _ _=>False) ?_ (fun _ _ q=>q) (fun _ _ z=>z.elim)
  obtain⟨hpl,wt⟩:=turn i n ys H' w5
  refine Va (Ubn (Va ?_))
  rcases wt with ⟨stop,q⟩ | ⟨go,step⟩
  ·have z:=T.done X' ePr eW eK (by rw[<- hX']; exact hc) i [] s' _ H' (fun _ _=>False) I5 (stat fr5) st5 stop
   rw[<- ePr,<- eW] at z
   refine thn z fun r s6 zz=>?_
   obtain⟨hr,I6⟩:=zz
   subst hr
   obtain⟨J1,g1⟩:=back I6
   exact Vc (hRR _ _ H' s6 J1 g1 q)
  ·have z:=T.item X' ePr eW eK (by rw[<- hX']; exact hc) i [] s' _ H' (fun _ _=>False) I5 (stat fr5) st5 go
   rw[<- ePr,<- eW] at z
   refine thn z fun r s6 zz=>?_
   obtain⟨u,hr,h6⟩:=zz
   subst hr
   refine Va (thn h6 fun _ s7 zz=>?_)
   obtain⟨v,H7,I7,r7,y7,st7,fr7⟩:=zz
   have I7':=I7.pinned (stat fr7) (T.obj _ _ st7)
   rw[<- eXe]
   obtain⟨a7,v1,v2,ev,sq,step7⟩:=step v _ y7
   refine Va (thn (hg' _ s7 _ H7 v u _ I7' r7 (show gTup X.K 2 (Zsb (Zlb 0) (Zsb (Zlb 1) gNil)) v (o::o2::Zjt ci σ) H7 (fun σ8 H8=>σ8=some v1::some v2::Zjt ci σ/\H8=H7) from⟨a7,[v1,v2],ev,sq,rfl,⟨v1,[v2],rfl,v2,[],rfl,rfl,rfl,rfl⟩⟩)) fun _ s8 zz=>?_)
   obtain⟨σ8,H8,I8,e8,e8'⟩:=zz
   subst e8 e8'
   refine Va (thn (ht' _ s8 _ _ _ I8 step7) fun b s9 zz=>?_)
   obtain⟨H9,I9,q9⟩:=zz
   have tnK:∀ {σ':L2.St} {H':Hp} {s':Vd},Inv X' (([]:List (Ve×Obj))++Zkq fp s7.heap) σ' H' s'->tn (i+1) s'.heap/\∀ b∈fp,H' b=none:=fun {σ' H' s'} I' =>
    ⟨T.keep _ _ _ st7 fun b hb o e=>(I'.pin (b,o) (Xs _ (Xs _ (Zdg hb e)))).1,fun b hb=>by
     obtain⟨ob,e,d⟩:=T.obj _ _ st7 b hb
     exact(I'.pin (b,ob) (Xs _ (Xs _ (Zdg hb e)))).2.1⟩
   cases b with
   | false =>
    obtain⟨m',hm,w9⟩:=q9
    obtain⟨t9,f9⟩:=tnK I9
    exact Vc ⟨rfl,m',hm,i+1,_,_,ys,H9,I9.unpinned,t9,f9,w9⟩
   | true =>
    refine Va (Va (thn (he' _ s9 _ _ _ I9 q9) fun yv s10 zz=>?_))
    obtain⟨y,H10,I10,r10,hp10,hz10,m',hm,w10⟩:=zz
    refine Va (thn (Zie (X:=X') _ s10 _ H10 (.ref s.heap.objs.size) [y] (.ref s.heap.objs.size) [yv] (fun _ H11=>H11=upd H10 s.heap.objs.size (.lst (ys++[y]))) I10 rfl (.cons r10 .nil) ⟨_,ys,y,rfl,rfl,hp10,hz10,rfl⟩) fun _ s11 zz=>?_)
    obtain⟨_,H11,I11,_,e11⟩:=zz
    subst e11
    obtain⟨t11,f11⟩:=tnK I11
    exact Vc (Vc ⟨rfl,m',hm,i+1,_,_,ys++[y],_,I11.unpinned,t11,f11,w10⟩)
 exact Uch loop (T.self _ 0 _ _ _ (T.keep _ _ _ st (fun b hb o e=>old4 b o (old3 b o e))) loop)
nonrec def tLC2 (K:Xb) (wi:TI) (ci:List Nat) (tt:TT) (te:TE):TE:=fun σ H Q=>wi σ H fun J H1=>LcW2 K J ci tt te σ Q H1
theorem Ybs {elt iter:Vv} {px py pt pos:Pos} {kt:Nat} {ifs:List Vv} {wi:TI} {tt:TT} {te:TE} (hc:X.calm=true) (B:BlkOk2 X scope x y0 cn ci) (hi:PI X (.Tuple [.Name x px,.Name y0 py] kt pt) iter wi)
  (ht:∀ cl C s H fp pn,PTs (blk X scope (x::y0::cn) cl C s H fp pn) ifs tt) (he:∀ cl C s H fp pn,PE (blk X scope (x::y0::cn) cl C s H fp pn) elt te)
  (hs:∀ x,Vx iter X.env x=pure x:=by rintro _; rfl):PE X (.ListComp elt [⟨.Tuple [.Name x px,.Name y0 py] kt pt,iter,ifs,0⟩] scope pos) (tLC2 X.K wi ci tt te):=by
 intro pins s σ H Q I h
 rw[eval_ListComp]
 refine Uay (use:=none) rfl hs (Zhd X.env scope B.free) B.kind B.names ?_
 refine thn (hi pins s σ H _ I h) fun v s1 h1=>thn h1 fun itv s2 h2=>?_
 obtain⟨it,fp,tn,J,H2,e,I2,T,st2,f2,w2⟩:=h2
 subst e
 refine Zs5 (RR:=fun acc C=>compPost (Vm X.prog X.w) X.A X.xe none (EP X pins σ Q) acc C) I2 hc B T st2 f2 ht he w2 fun p C H' s' I' g q=>?_
 obtain⟨m,hn⟩:=g.ns
 exact⟨m,hn,fun h' hs'=>⟨.ref p,H',g.go I' hs',rfl,q⟩⟩
end
nonrec def Yc1 (sc scope:Ubm) (N:List Str) (x y:Str) (cn:List Str) (ci:List Nat):Bool :=
 (scope.kind==.function)&&scope.names.all (fun y=>y.2 != .cell)&&scope.names.all (fun y=>y.2 != .local||scope.names.lookup y.1==some .local)&&(scope.names.lookup x==some .local)&&(scope.names.lookup y==some .local) &&
 scope.names.all (fun y=>y.2 != .free||sc.names.lookup y.1==some .cell)&&decide (x::y::cn).Nodup&&(ci.length==cn.length) &&
 (cn.zip ci).all (fun p=>N[p.2]? == some p.1&&scope.names.lookup p.1==some .free&&sc.names.lookup p.1==some .cell)
theorem Ya3 {P:Vh} {w:Vu} {K:Xb} {mg:Str->Option Vb} {base:Vz} {N:List Str} {qual:Str} {sc scope:Ubm} {f:Ve} {cdv:Vb} {A:Vt} {outer:List Env} {s:Vd} {H:Hp} {E:XK} {x y0:Str} {cn:List Str} {ci:List Nat}
  (h:Yc1 sc scope N x y0 cn ci=true):BlkOk2 (Zl8 CX0 P w K mg base N qual sc f cdv A outer s H E).nox scope x y0 cn ci:=by
 unfold Yc1 at h
 simp only[Waf,Xv,Wek,bne_iff_ne,ne_eq,beq_iff_eq,decide_eq_true_eq] at h
 obtain⟨⟨⟨⟨⟨⟨⟨⟨h1,h2⟩,h3⟩,h4⟩,h4b⟩,h5⟩,h6⟩,h7⟩,h8⟩:=h
 refine⟨h1,fun y hy=>h2 y hy,fun y hy hl=>(h3 y hy).resolve_left fun z=>z hl,h4,h4b,fun y hy hf=>?_,h6,h7,fun j y hj=>?_⟩
 ·have:=(h5 y hy).resolve_left fun z=>z hf
  obtain⟨c,hc⟩:=Zh7 (n:=s.heap.objs.size+1) this
  exact Wai.mpr ⟨c,hc⟩
 ·have hl:j<ci.length:=by rw[h7]; exact(Xc.mp hj).1
  have hm:(y,ci[j])∈cn.zip ci:=by
   refine Wbq.mpr ⟨j,?_⟩
   rw[Wdw]
   exact⟨hj,by simp[hl]⟩
  obtain⟨⟨k1,k2⟩,k3⟩:=h8 _ hm
  exact⟨ci[j],by simp[hl],k1,k2,.inl k3⟩
open Builtin.SmallTypes (nextOf)
section
variable {prog:Vh} {w:Vu} {A:Vt} {E:Vb->Vd->Prop} {s:Vd}
theorem Zub {j t:Ve} {i:Nat} {its:Array Vb} {x:Vb} {Q:Vb->Vd->Prop} (hj:s.heap.IsListIter j t i) (ht:s.heap.IsList t its) (hx:its[i]? = some x)
  (hQ:∀ h',h'.IsListIter j t (i+1)->Xy j s.heap h'->Q x { s with heap:=h' }):Vf (Vm prog w) A (nextOf (.ref j)) Q E s :=
 Zk8 (b:=true) hj ht hx hQ
theorem Zv9 {j t:Ve} {i:Nat} {its:Array Vb} {Q:Vb->Vd->Prop} (hh:A.handled=none) (hj:s.heap.IsListIter j t i) (ht:s.heap.IsList t its) (hx:its[i]? = none)
  (hE:∀ h' e,Wdo j s.heap h'->(∃ o,h'.get? e=some o/\o.cls=.type "StopIteration")->E (.ref e) { s with heap:=h' }):Vf (Vm prog w) A (nextOf (.ref j)) Q E s :=
 Zvd (b:=true) hh hj ht hx hE
theorem Zql {e j t:Ve} {i:Nat} {c:Int} {its:Array Vb} {x old:Vb} {Q:Option Vb->Vd->Prop} (he:Uau s.heap e j c old) (hj:s.heap.IsListIter j t i) (ht:s.heap.IsList t its) (hx:its[i]? = some x) (hne:e≠j)
  (hQ:∀ h' tk,Ucq h' e j (c+1) x s.heap.objs.size->h'.IsListIter j t (i+1)->h'.get? s.heap.objs.size=some { cls:=.type "tuple",data:=.seq #[.int c tk,x] }->h'.objs.size=s.heap.objs.size+1 ->
   (∀ b o,b≠e->b≠j->s.heap.get? b=some o->h'.get? b=some o)->Q (some (.ref s.heap.objs.size)) { s with heap:=h',toks:=s.toks+1 }) :
  Vf (Vm prog w) A (Ubj (.ref e)) Q E s:=by
 have hT:s.TypeIs (.ref e) "enumerate" := ⟨_,he,rfl⟩
 unfold Ubj
 refine Va (Uan (Vi (name:=Ua "__next__") hT Ui (Vp Ui hT Tae ?_ (Tab _))))
 obtain⟨hp,g,d,tk,os⟩:=s
 show Vf _ _ (Udl (.ref e) 2 >>= _) _ _ _
 refine Va (Vn he rfl (x:=.ref j) rfl (Va (Zub hj ht hx fun h1 j1 s1=>?_)))
 replace s1:Xy j hp h1:=s1
 have e1:Uau h1 e j c old:=(s1.2 e hne).trans he
 show Vf _ _ (Udl (.ref e) 3 >>= _) _ _ ⟨h1,g,d,tk,os⟩
 refine Va (Vn e1 rfl (x:=Uaa c) rfl ?_)
 show Vf _ _ (Udl (.ref e) 4 >>= _) _ _ ⟨h1,g,d,tk,os⟩
 refine Va (Vn e1 rfl (x:=.none) rfl ?_)
 show Vf _ _ (mkInt c >>= _) _ _ ⟨h1,g,d,tk,os⟩
 refine Va (Uei ?_)
 show Vf _ _ (Udr (.ref e) 3 (Uaa (c+1)) >>= _) _ _ ⟨h1,g,d,tk+1,os⟩
 refine Va (Vk e1 (by simp) fun h2 e2 s2=>?_)
 replace s2:Xy e h1 h2:=s2
 replace e2:Uau h2 e j (c+1) old:=e2
 show Vf _ _ (Udr (.ref e) 4 .none >>= _) _ _ ⟨h2,g,d,tk+1,os⟩
 refine Va (Vk e2 (by simp) fun h3 e3 s3=>?_)
 replace s3:Xy e h2 h3:=s3
 replace e3:Uau h3 e j (c+1) old:=e3
 show Vf _ _ (newTuple [.int c tk,x] >>= _) _ _ ⟨h3,g,d,tk+1,os⟩
 refine Va (Ude ?_)
 have e4:Uau (h3.push { cls:=.type "tuple",data:=.seq #[.int c tk,x] }) e j (c+1) old:=Xa _ e3
 generalize q4:h3.push { cls:=.type "tuple",data:=.seq #[.int c tk,x] }=h4 at e4
 have zz:h3.objs.size=hp.objs.size:=by rw[s3.1,s2.1,s1.1]
 have lt:e<hp.objs.size:=Xf he
 have t4:h4.get? hp.objs.size=some { cls:=.type "tuple",data:=.seq #[.int c tk,x] }:=by rw[<- q4,<- zz]; exact Xd _ rfl
 have z4:h4.objs.size=hp.objs.size+1:=by rw[<- q4,Wan,zz]
 have k4:∀ b o,b≠e->b≠j->hp.get? b=some o->h4.get? b=some o:=fun b o n1 n2 q=>by
  rw[<- q4]; exact Xa _ (s3.extBut b o n1 (s2.extBut b o n1 (s1.extBut b o n2 q)))
 have j4:h4.IsListIter j t (i+1):=by
  obtain⟨o,ho,r⟩:=id j1
  exact⟨o,by rw[<- q4]; exact Xa _ (s3.extBut j o (Ul hne) (s2.extBut j o (Ul hne) ho)),r⟩
 show Vf _ _ (Ub (.ref e) >>= _) _ _ ⟨h4,g,d,tk+1,os⟩
 rw[zz]
 clear q4 e3 s3 e2 s2 e1 s1 j1 zz h3 h2 h1
 refine Va ?_
 unfold Ub
 refine Va (Vn e4 rfl (x:=.none) rfl (Vc ?_))
 simp only[if_true]
 refine Va (Ubi (Va (Vn e4 rfl (x:=old) rfl (Va (Vk e4 (by simp) fun h5 e5 s5=>?_)))))
 replace s5:Xy e h4 h5:=s5
 replace e5:Uau h5 e j (c+1) x:=e5
 show Vf _ _ (Ud (.ref e) (.ref hp.objs.size) >>= _) _ _ ⟨h5,g,d,tk+1,os⟩
 refine Va ?_
 unfold Ud
 refine Va (Vk e5 (by simp) fun h6 e6 s6=>?_)
 replace s6:Xy e h5 h6:=s6
 replace e6:Ucq h6 e j (c+1) x hp.objs.size:=e6
 refine Vk e6 (by simp) fun h7 e7 s7=>?_
 replace s7:Xy e h6 h7:=s7
 replace e7:Ucq h7 e j (c+1) x hp.objs.size:=e7
 have up:∀ b o,b≠e->h4.get? b=some o->h7.get? b=some o:=fun b o n q=>s7.extBut b o n (s6.extBut b o n (s5.extBut b o n q))
 refine Va (Ubp (Vc ⟨_,rfl,Vc (hQ h7 tk e7 ?_ (up _ _ (Wbn lt) t4) (by rw[s7.1,s6.1,s5.1,z4]) fun b o n1 n2 q=>up b o n1 (k4 b o n1 n2 q))⟩))
 obtain⟨o,ho,r⟩:=id j4
 exact⟨o,up j o (Ul hne) ho,r⟩
theorem Zq0 {e j t:Ve} {i:Nat} {c:Int} {its:Array Vb} {old:Vb} {Q:Option Vb->Vd->Prop} (hh:A.handled=none) (he:Uau s.heap e j c old) (hj:s.heap.IsListIter j t i) (ht:s.heap.IsList t its) (hx:its[i]? = none)
  (hQ:∀ h',Wdo j s.heap h'->Q none { s with heap:=h' }):Vf (Vm prog w) A (Ubj (.ref e)) Q E s:=by
 have hT:s.TypeIs (.ref e) "enumerate" := ⟨_,he,rfl⟩
 unfold Ubj
 refine Va (Uan (Vi (name:=Ua "__next__") hT Ui (Vp Ui hT Tae ?_ (Tab _))))
 show Vf _ _ (Udl (.ref e) 2 >>= _) _ _ _
 refine Va (Vn he rfl (x:=.ref j) rfl (Va (Zv9 hh hj ht hx fun h' z he' zz=>?_)))
 obtain⟨o,ho,hc⟩:=zz
 exact Va (Ubk (T := "StopIteration") (b:=true) ⟨o,ho,hc⟩ Ubx (Vc (hQ _ he')))
open AutoSeq1 (wpAny_loadPart') in
theorem Zty (t:Ve) (its:Array Vb) (n:Nat) (dct:Option Ve) (sl:Array (Option Vb)) :
  Uek (Builtin.«enumerate.__new__» ⟨[.type "enumerate",.ref t],[]⟩) (fun _ R s=>s.heap.get? t=some { cls:=.type "list",dict:=dct,data:=.seq its n,slots:=sl } /\
   R (.ok (.ret (.ref (s.heap.push { cls:=.type "list_iterator",data:=.fields #[.ref t,.int 0 0] }).objs.size)))
    { s with heap:=(s.heap.push { cls:=.type "list_iterator",data:=.fields #[.ref t,.int 0 0] }).push { cls:=.type "enumerate",data:=.fields #[.none,.bool false,.ref s.heap.objs.size,Uaa 0,.none,.none] } }) :=
 .of_wp fun prog w A R s h=>by
  obtain⟨hp,g,d,tk,os⟩:=s; obtain⟨hl,h⟩:=h
  have hsub:=Uds
  have hL:Heap.IsList (Tbq ⟨hp,g,d,tk,os⟩) t its:=⟨_,hl,rfl,n,rfl⟩
  wp_walk using Vo hl
  refine Ucr fun st=>Vc ?_
  split
  ·rename_i k _ _ _ _ _
   cases (k==Tbn "enumerate")<;>(wp_walk using Vo hl,Uak hL; exact⟨_,rfl,h⟩)
  ·wp_walk using Vo hl,Uak hL
   exact⟨_,rfl,h⟩
theorem Zrg {t:Ve} {its:Array Vb} {Q:Vb->Vd->Prop} (hL:s.heap.IsList t its)
  (h:∀ h',Uau h' (s.heap.objs.size+1) s.heap.objs.size 0 .none->h'.IsListIter s.heap.objs.size t 0->h'.objs.size=s.heap.objs.size+2 ->
   (∀ b o,s.heap.get? b=some o->h'.get? b=some o)->Q (.ref (s.heap.objs.size+1)) { s with heap:=h' }) :
  Vf (Vm prog w) A (call (.type "enumerate") [.ref t]) Q E s:=by
 obtain⟨⟨k,dct,dt,sl⟩,hl,hc,n,hd⟩:=hL
 replace hc:k=.type "list" := hc
 replace hd:dt=.seq its n:=hd
 subst hc hd
 refine Udy Taf (by decide) (Tbu _) (Tbw _) (fun obj=>Tcd obj _) Tar (Zty t its n dct sl) ⟨hl,?_⟩
 have hz:(s.heap.push { cls:=.type "list_iterator",data:=.fields #[.ref t,.int 0 0] }).objs.size=s.heap.objs.size+1:=Wan ..
 show _/\_
 rw[hz]
 have he:Uau ((s.heap.push { cls:=.type "list_iterator",data:=.fields #[.ref t,.int 0 0] }).push { cls:=.type "enumerate",data:=.fields #[.none,.bool false,.ref s.heap.objs.size,Uaa 0,.none,.none] }) (s.heap.objs.size+1) s.heap.objs.size 0 .none:=by
  have q:=Xd (s.heap.push { cls:=.type "list_iterator",data:=.fields #[.ref t,.int 0 0] }) (o:={ cls:=.type "enumerate",data:=.fields #[.none,.bool false,.ref s.heap.objs.size,Uaa 0,.none,.none] }) rfl
  rw[hz] at q; exact q
 exact⟨⟨_,he,rfl⟩,h _ he ⟨_,Xa _ (Xd _ rfl),rfl,rfl⟩ (by rw[Wan,hz]) fun b o x=>Xa _ (Xa _ x)⟩
end
nonrec def IteL (c:Int) (a:Ve):It :=
 ⟨fun i H=>∃ xs x,H a=some (.lst xs)/\xs[i]? = some x,fun i H v H'=>∃ p x,H p=none/\v=.ref p/\H'=upd H p (.tup [.int (c+i),x])/\∀ xs,H a=some (.lst xs)->xs[i]? = some x,fun i H=>∃ xs,H a=some (.lst xs)/\xs.length<=i⟩
theorem Zqm {P:Vh} {w:Vu} {K:Xb} {es:List Vv} {k:Nat} {pos:Pos} (a e j:Ve) (c:Int) (hne:e≠j):Turn P w K (.Tuple es k pos) (IteL c a) [e,j] e (fun i h=>∃ old,Uau h e j (c+i) old/\h.IsListIter j a i) where
 mem:=by simp
 obj:=fun i h st b hb=>by
  obtain⟨old,he,o,ho,hc,hd⟩:=st
  rcases Xj.mp hb with rfl | hb
  ·exact⟨_,he,fun v z=>by cases z⟩
  ·have:b=j:=by simpa using hb
   subst this
   exact⟨o,ho,fun v z=>by rw[hd] at z; cases z⟩
 keep:=fun i h h' st kk=>by
  obtain⟨old,he,o,ho,r⟩:=st
  exact⟨old,kk e (by simp) _ he,o,kk j (by simp) o ho,r⟩
 item:=by
  intro X hP hw hK hc i pins s σ H E I hf st hg
  subst hP hw hK
  obtain⟨xs,x,hq,hx⟩:=hg
  obtain⟨old,he,hj⟩:=st
  obtain⟨its,rv,p,hz⟩:=I.list (SqL.of hq)
  obtain⟨u,hu,ru⟩:=rv.get hx
  have fe:=hf e (by simp)
  have fj:=hf j (by simp)
  refine Zql he hj p.isList (x:=u) (by simpa using hu) hne fun h' tk eo j' t' z' kk=>?_
  refine⟨_,rfl,Ubr (s:={ s with heap:=h',toks:=s.toks+1 }) eo fun h2 e2 s2=>?_⟩
  replace s2:Xy e h' h2:=s2
  have le:e<s.heap.objs.size:=Xf he
  have ne2:s.heap.objs.size≠e:=Wbn le
  -- the iterator's two records have turned, the pair is new
  have t2:h2.get? s.heap.objs.size=some { cls:=.type "tuple",data:=.seq #[.int (c+i) tk,u] }:=s2.extBut _ _ ne2 t'
  have hp0:H s.heap.objs.size=none:=I.hok.fresh (Xe _)
  have up:∀ b o,b∉[e,j]->s.heap.get? b=some o->h2.get? b=some o:=fun b o hb q =>
   s2.extBut b o (fun z=>hb (by simp[z])) (kk b o (fun z=>hb (by simp[z])) (fun z=>hb (by simp[z])) q)
  have I2:Inv X pins σ (upd H s.heap.objs.size (.tup [.int (c+i),x])) { s with heap:=h2,toks:=s.toks+1 }:=by
   refine I.step (g':=s.gens) (d':=s.drawn) (t':=s.toks+1) (ch:=[e,j]) (fun b hb=>?_) (fun b o _ _ hb q n=>up b o hb q) (fun b o _ _ hb q n=>⟨o.slots,up b o hb q⟩) (fun b o _ q n=>?_) (fun b o hb q=>⟨o,up b o hb q⟩) (fun b ys q=>?_) (fun b o y q=>?_) (fun b ps q=>⟨#[],?_⟩) (fun m hm=>?_) (fun b o q=>?_) I.bare
   ·have:=hf b hb; exact⟨this.2.2.2.1,this.2.1,this.2.2.2.2.1,this.2.2.2.2.2⟩
   ·rw[Zag (Xh (Xf q))]; exact n
   ·rw[Zag (Zai q hp0)]; exact q
   ·rw[Zag (Zai q hp0)]; exact q
   ·rw[Zag (Zai q hp0),q]; simp
   ·obtain⟨o,es',ep,ho,r⟩:=hm
    exact⟨o,es',ep,s2.extBut _ o (Ul fe.2.1) (kk _ o (Ul fe.2.1) (Ul fj.2.1) ho),r⟩
   ·by_cases hb:b=s.heap.objs.size
    ·subst hb
     rw[Zaq] at q
     cases q
     exact⟨(by show 2<=sizeLine; decide),[.int (c+i) tk,u],.cons ⟨tk,rfl⟩ (.cons ru .nil),_,t2,rfl,⟨_,rfl⟩,rfl⟩
    ·rw[Zag hb] at q
     refine(I.hok b o q).stay (fun d v hd z=>up d v (fun hm=>?_) z) (fun d z=>by rw[Zag (Zai z hp0)]; exact z) fun d ys z=>by rw[Zag (Zai z hp0)]; exact z
     have:H d≠none:=by
      rcases hd with rfl | hd
      ·rw[q]; simp
      ·rw[hd]; simp
     exact this (hf d hm).1
  refine⟨.ref s.heap.objs.size,_,I2,rfl,⟨_,x,hp0,rfl,rfl,fun ys hy=>by rw[hq] at hy; cases hy; exact hx⟩,?_,fun b hb=>?_⟩
  ·obtain⟨o,ho,r⟩:=id j'
   have ec:c+((i+1:Nat):Int)=c+(i:Int)+1:=by push_cast; omega
   exact⟨u,by rw[ec]; exact e2,o,s2.extBut j o (Ul hne) ho,r⟩
  ·have hb2:b≠s.heap.objs.size:=by
    rcases Xj.mp hb with rfl | hb
    ·exact Xh le
    ·have:b=j:=by simpa using hb
     subst this
     obtain⟨o,ho,_⟩:=id hj
     exact Xh (Xf ho)
   rw[Zag hb2]; exact(hf b hb).1
 done:=by
  intro X hP hw hK hc i pins s σ H E I hf st hg
  subst hP hw hK
  obtain⟨xs,hq,hx⟩:=hg
  obtain⟨old,he,hj⟩:=st
  obtain⟨its,rv,p,hz⟩:=I.list (SqL.of hq)
  obtain⟨f0,f1,f2,f3,f4,f5⟩:=hf j (by simp)
  have hl:=rv.length
  exact Zq0 (I.ok.hd hc) he hj p.isList (by simp; omega) fun h' eb=>⟨rfl,I.turned (t':=s.toks) (fun b o hb q=>eb b o hb q) f0 f1 f3 f4 f5⟩
 self:=fun _ _ _ _ _ st h=>by
  obtain⟨old,he,_⟩:=st
  exact Uas he h
nonrec def two2:D->Option (D×D)
 | .tup [a,b]=>some (a,b)
 | _=>none
theorem Zvc {x a b:D} (h:two2 x=some (a,b)):x=.tup [a,b]:=by
 unfold two2 at h
 split at h
 ·cases h; rfl
 ·cases h
open Classical in
nonrec def Zd3 (own:Zg4) (c0:SD) (tt:TF) (te:EF):List D->HD->Option (List D×HD)
 | [],H=>if Zcd own H then some ([],H) else none
 | x::r,H=>(two2 x).bind fun ab=>if Zcd own H then (tt (some ab.1::some ab.2::c0) H).bind fun t=>if t.1=true then (te (some ab.1::some ab.2::c0) t.2).bind fun e=>(Zd3 own c0 tt te r e.2).map fun q=>(e.1::q.1,q.2) else Zd3 own c0 tt te r t.2 else none
nonrec def Yb5 (it:ItF) (ci:List Nat) (tt:TF) (te:EF):EF:=fun σ H=>(it σ H).bind fun p=>(Zd3 p.1.2 (Zvn ci σ) tt te p.1.1 p.2).bind fun q=>mkL q.1 q.2
theorem Zq3 {own:Zg4} {c0:SD} {tt:TF} {te:EF} {x:D} {r:List D} {H:HD} {z:List D×HD} (h:Zd3 own c0 tt te (x::r) H=some z):∃ a b,x=.tup [a,b]/\Zcd own H/\((tt (some a::some b::c0) H).bind fun t=>if t.1=true then (te (some a::some b::c0) t.2).bind fun e=>(Zd3 own c0 tt te r e.2).map fun q=>(e.1::q.1,q.2) else Zd3 own c0 tt te r t.2)=some z:=by
 rw[Zd3] at h
 obtain⟨⟨a,b⟩,e,h⟩:=Zo h
 split at h
 ·rename_i ok
  exact⟨a,b,Zvc e,ok,h⟩
 ·cases h
section
variable {X:Cx} {scope:Ubm} {x y0:Str} {cn:List Str} {ci:List Nat}
theorem Yb0 {α β:Type} {F:α->β->Prop} {a b:α} {us:List β} (h:Vj F [a,b] us):∃ u v,us=[u,v]/\F a u/\F b v:=by
 cases h with
 | cons p P=>cases P with
  | cons q P=>cases P; exact⟨_,_,rfl,p,q⟩
theorem SRep.cap2 {K:Xb} {H:Hp} {ι:List Ve} {σ:L2.St} {σd:SD} {d e:D} {v u:V} (s:SRep K H ι σ σd) (r:Rep K H ι d v) (r2:Rep K H ι e u):SRep K H ι (some v::some u::Zjt ci σ) (some d::some e::Zvn ci σd):=by
 have c:=SRep.cap (ci:=ci) s r2
 refine⟨by simpa using c.len,fun i z h=>?_⟩
 cases i with
 | zero=>simp at h; subst h; exact⟨v,rfl,r⟩
 | succ j =>
  rw[Wby] at h ⊢
  exact c.var j z h
theorem Ycv {K:Xb} {it:ItF} {tt:TF} {te:EF} {σ:L2.St} {H:Hp} {Q:VK} (h:rdE K (Yb5 it ci tt te) σ H Q):tLC2 K (rdI K it) ci (rdT K tt) (rdE K te) σ H Q:=by
 obtain⟨ι,σd,Hd,d,Hd',s,hr,e,q⟩:=h
 obtain⟨⟨⟨xs,own⟩,H1⟩,e1,e⟩:=Zo e
 obtain⟨⟨ds,H2⟩,e2,e⟩:=Zo e
 obtain⟨hz,e⟩:=Zlt e
 cases e
 dsimp only at e2 hz
 refine⟨ι,σd,Hd,xs,own,H1,s,hr,e1,fun J H0 ι0 l0 h0 itr p hp=>?_⟩
 have s0:=s.mono l0
 refine⟨fun i m ys H=>m=xs.length - i/\i<=xs.length/\H p=some (.lst ys)/\∃ ι Hd done rest,Le K H0 ι0 H ι/\p∉ι/\HRep K H ι Hd/\Vj (Rep K H ι) done ys/\Zd3 own (Zvn ci σd) tt te (xs.drop i) Hd=some (rest,H2)/\ds=done++rest,
  ⟨xs.length,by simp,Wbg _,Zaq,ι0,H1,[],ds,Le.fresh hp _,h0.fresh hp,h0.tup hp _,.nil,by simpa using e2,by simp⟩,?_⟩
 rintro i m ys H5 ⟨rfl,hi,hpl,ι5,Hd5,done,rest,l5,np5,h5,pd5,e5,eds⟩
 refine⟨hpl,?_⟩
 by_cases hlt:i<xs.length
 ·have ed:xs.drop i=xs[i]::xs.drop (i+1):=Wao hlt
  rw[ed] at e5
  obtain⟨a1,a2,ex,ok,e5⟩:=Zq3 e5
  obtain⟨⟨b6,H6⟩,e6,e5⟩:=Zo e5
  refine .inr ⟨itr.go i H5 ι5 Hd5 l5 h5 ok hlt,fun v H' y=>?_⟩
  obtain⟨ι6,l6,h6,r6⟩:=itr.yld i H5 ι5 Hd5 xs[i] v H' l5 h5 ok (by simp[hlt]) y
  obtain⟨hp6,np6⟩:=l6.frame p _ hpl np5
  rw[ex] at r6
  obtain⟨a6,ws6,ev6,sq6,P6⟩:=Zbc.mp r6
  obtain⟨u1,u2,rfl,p1,p2⟩:=Yb0 P6
  have s6:=SRep.cap2 (ci:=ci) (s0.mono (l5.trans l6)) p1 p2
  refine⟨a6,u1,u2,ev6,sq6,ι6,_,Hd5,b6,H6,s6,h6,e6,fun H7 ι7 l7 h7=>?_⟩
  obtain⟨hp7,np7⟩:=l7.frame p _ hp6 np6
  have L7:=(l5.trans l6).trans l7
  cases b6 with
  | true =>
   rw[if_pos rfl]
   dsimp only at e5
   rw[if_pos rfl] at e5
   obtain⟨⟨d8,H8⟩,e8,e5⟩:=Zo e5
   obtain⟨⟨r9,H9⟩,e9,e5⟩:=Zm e5
   cases e5
   refine⟨ι7,_,H6,d8,H8,s6.mono l7,h7,e8,fun v8 H8' ι8 l8 h8 rr8=>?_⟩
   obtain⟨hp8,np8⟩:=l8.frame p _ hp7 np7
   have ly:ys.length<sizeLine:=by
    rw[<- Prd.len pd5]
    rw[eds] at hz
    simp at hz
    omega
   have w8:Lw K H8' ι8 (upd H8' p (.lst (ys++[v8]))) ι8:=Lw.side hp8 _
   refine⟨hp8,ly,xs.length - (i+1),by omega,rfl,hlt,Zaq,ι8,H8,done++[d8],r9,(L7.trans l8).side hp hp8 _,np8,h8.keep w8 (fun a ha=>Zag fun z=>by subst z; exact np8 ha),?_,e9,by rw[eds]; simp⟩
   exact Prd.append (Prd.monoW w8 (Prd.mono ((l6.trans l7).trans l8) pd5)) (.cons (Rep.monoW w8 rr8) .nil)
  | false =>
   rw[if_neg (by simp)]
   dsimp only at e5
   rw[if_neg (by simp)] at e5
   exact⟨xs.length - (i+1),by omega,rfl,hlt,hp7,ι7,H6,done,rest,L7,np7,h7,Prd.mono (l6.trans l7) pd5,e5,eds⟩
 ·rw[Wcu (by omega),Zd3] at e5
  split at e5
  ·rename_i ok
   have e6:(([]:List D),Hd5)=(rest,H2):=Xw.inj e5
   obtain⟨rfl,rfl⟩:=Wau.inj e6
   refine .inl ⟨itr.stop i H5 ι5 _ l5 h5 ok (by omega),?_⟩
   have w5:Lw K H5 ι5 H5 (ι5++[p]):=⟨fun _ _ z=>z,fun _ _ z=>z,⟨[p],rfl⟩,fun _ _ _ z=>z⟩
   have L:=l0.trans l5
   simp at eds
   subst eds
   refine q _ H5 (ι5++[p]) ⟨L.toLw.trans w5,fun a o ha na=>?_⟩ (h5.add np5 ⟨ys,hpl,Prd.monoW w5 pd5⟩) (Zaz.mpr ⟨p,rfl,by rw[<- h5.len]; simp⟩)
   obtain⟨q1,q2⟩:=L.frame a o ha na
   refine⟨q1,?_⟩
   have:a≠p:=fun z=>by
    subst z
    have:=(l0.frame a o ha na).1
    rw[hp] at this; cases this
   simp[q2,this]
  ·cases e5
theorem Zzt {elt iter:Vv} {px py pt pos:Pos} {kt:Nat} {ifs:List Vv} {it:ItF} {tt:TF} {te:EF} (hc:X.calm=true) (B:BlkOk2 X scope x y0 cn ci) (hi:PIf X (.Tuple [.Name x px,.Name y0 py] kt pt) iter it)
  (ht:∀ cl C s H fp pn,Yc3 (blk X scope (x::y0::cn) cl C s H fp pn) ifs tt) (he:∀ cl C s H fp pn,PEf (blk X scope (x::y0::cn) cl C s H fp pn) elt te)
  (hs:∀ x,Vx iter X.env x=pure x:=by rintro _; rfl):PEf X (.ListComp elt [⟨.Tuple [.Name x px,.Name y0 py] kt pt,iter,ifs,0⟩] scope pos) (Yb5 it ci tt te) :=
 PEi (Ybs (tt:=rdT X.K tt) (te:=rdE X.K te) hc B hi ht he hs) fun _ _ _ h=>Ycv h
nonrec def Zpt (f:AF):ItF:=fun σ H=>(f σ H).bind fun p=>match p.1 with
 | [.ref n]=>match p.2[n]? with
  | some (.lst xs)=>some ((Zdp 0 xs,[(n,.lst xs)]),p.2)
  | _=>none
 | _=>none
theorem Zsa {K:Xb} {H0:Hp} {ι0:List Ve} {a:Ve} {n:Nat} {c:Int} {xs:List D} (ha:ι0[n]? = some a):ItRep K (IteL c a) (Zdp c xs) [(n,.lst xs)] H0 ι0:=by
 have now:∀ {H2:Hp} {ι2:List Ve} {Hd2:HD},Le K H0 ι0 H2 ι2->HRep K H2 ι2 Hd2->Zcd [(n,DO.lst xs)] Hd2->∃ ws,H2 a=some (.lst ws)/\Vj (Rep K H2 ι2) xs ws:=fun {H2 ι2 Hd2} l2 h2 ok =>
  h2.obj n a _ (l2.get ha) (ok (n,.lst xs) (by simp))
 refine⟨fun i H2 ι2 Hd2 l2 h2 ok hi=>?_,fun i H2 ι2 Hd2 d v H3 l2 h2 ok hd y=>?_,fun i H2 ι2 Hd2 l2 h2 ok hi=>?_⟩
 ·obtain⟨ws,h3,P3⟩:=now l2 h2 ok
  exact⟨ws,ws[i]'(by rw[<- Prd.len P3,<- Zfb xs c]; exact hi),h3,by simp⟩
 ·obtain⟨ws,h3,P3⟩:=now l2 h2 ok
  obtain⟨p,x,hp,rfl,rfl,y⟩:=y
  obtain⟨x',hx',rfl⟩:=Zig hd
  obtain⟨u,hu,ru⟩:=Prd.get P3 hx'
  have:=y ws h3
  rw[hu] at this
  cases this
  exact⟨ι2,Le.fresh hp _,h2.tup hp _,Zbc.mpr ⟨p,_,rfl,SqT.of Zaq,.cons (by simp) (.cons (ru.mono (Le.fresh hp _)) .nil)⟩⟩
 ·obtain⟨ws,h3,P3⟩:=now l2 h2 ok
  exact⟨ws,h3,by rw[<- Prd.len P3,<- Zfb xs c]; exact hi⟩
theorem Ztl {es:List Vv} {k:Nat} {tp p pos:Pos} {a:Vv} {f:AF} (hg:Gl X "enumerate") (hm:X.mg "enumerate" = none) (ha:PAf X [a] f) (hs:Vg [a] X.env=[(false,eval a X.env)]:=by rfl):PIf X (.Tuple es k tp) (.Call (.Name "enumerate" p) [a] [] pos) (Zpt f):=by
 rintro pins s σ H R I ⟨ι,σd,Hd,xs,own,Hd',sr,hr,e,q⟩
 obtain⟨⟨ds,H1⟩,e1,e⟩:=Zo e
 dsimp only at e
 split at e
 ·rename_i n
  split at e
  ·rename_i ys eo
   cases e
   refine Call_ (Zeb I hg hm Udf (Ug (thn (ha pos pins s σ H (fun vs H'=>∃ a ws,vs=[.ref a]/\H' a=some (.lst ws)/\∀ (J:It) (H2:Hp),H2=H'->J=IteL 0 a->R J H2) I ⟨ι,σd,Hd,_,_,sr,hr,e1,fun vs H' ι' l h P=>?_⟩) fun us s1 ⟨vs,H2,I2,r2,q2⟩=>?_) hs rfl))
   ·obtain⟨v,rfl,r⟩:=Zl6 P
    obtain⟨ad,rfl,had⟩:=Zaz.mp r
    obtain⟨ws,hS,P2⟩:=h.obj n ad _ had eo
    refine⟨ad,ws,rfl,hS,fun J H2 e2 e3=>?_⟩
    subst e2 e3
    exact q _ _ ι' l h (Zsa had)
   ·obtain⟨ad,ws,rfl,hS,q2⟩:=q2
    obtain⟨u,rfl,ru⟩:=Zh2 r2
    cases ru
    obtain⟨its,rv,p,hz⟩:=I2.list (SqL.of hS)
    refine Zrg p.isList fun h' he hj z' kk=>?_
    have I3:Inv X pins σ H2 { s1 with heap:=h' }:=I2.kept (t':=s1.toks) kk
    refine Uas (s:={ s1 with heap:=h' }) he ?_
    have ne:s1.heap.objs.size+1≠s1.heap.objs.size:=Wee _
    refine⟨s1.heap.objs.size+1,[s1.heap.objs.size+1,s1.heap.objs.size],_,IteL 0 ad,H2,rfl,I3,Zqm ad _ _ 0 ne,⟨.none,by simpa using he,hj⟩,fun b hb=>?_,q2 _ _ rfl rfl⟩
    have:s1.heap.objs.size<=b:=by
     rcases Xj.mp hb with rfl | hb
     ·exact Wec _
     ·have:b=s1.heap.objs.size:=by simpa using hb
      rw[this]; exact Xe _
    exact I2.fpOk (b:=b) (H':=H2) this (I2.hok.fresh this)
  ·cases e
 ·cases e
end
nonrec def Zkx (kvs:List (Int×D)) (k:Int) (v:D):List (Int×D):=if kvs.any (fun p=>p.1=k)=true then kvs.map (fun p=>if p.1=k then (p.1,v) else p) else kvs++[(k,v)]
nonrec def Zfy (kvs:List (Int×D)) (k:Int):Option D:=(kvs.find? fun p=>p.1=k).map (·.2)
nonrec def Ya5 (x:D) (H:HD):Option (List (Int×D)):=match x with
 | .ref n=>match H[n]? with
  | some (.dci kvs)=>some kvs
  | _=>none
 | _=>none
nonrec def Zuf:F2:=fun x y H=>(Ya5 x H).bind fun kvs=>match y with
 | .int k=>(Zfy kvs k).map fun v=>(v,H)
 | _=>none
nonrec def iinD:F2:=fun x y H=>(Ya5 y H).bind fun kvs=>match x with
 | .int k=>some (.bl (Zfy kvs k).isSome,H)
 | _=>none
theorem Zmt {x:D} {Hd:HD} {kvs:List (Int×D)} (e:Ya5 x Hd=some kvs):∃ n,x=.ref n/\Hd[n]? = some (.dci kvs):=by
 cases x<;>simp only[Ya5] at e<;>try cases e
 rename_i n
 split at e
 ·rename_i h; cases e; exact⟨n,rfl,h⟩
 ·cases e
section
variable {K:Xb} {H:Hp} {ι:List Ve}
theorem Zv5 {kvs:List (Int×D)} {xs:List (Int×Vb)} (h:Vj (Zwi K H ι) kvs xs) (k:Int):kvs.any (fun p=>p.1=k)=xs.any (fun p=>p.1=k):=by
 induction h with
 | nil=>rfl
 | cons a b ih=>rw[Wdk,Wdk,ih,a.1]
theorem Zxi {kvs:List (Int×D)} {xs:List (Int×Vb)} {k:Int} {d:D} {v:V} {u:Vb} (h:Vj (Zwi K H ι) kvs xs) (r:Zcg v u) (q:Rep K H ι d v):Vj (Zwi K H ι) (kvs.map (fun p=>if p.1=k then (p.1,d) else p)) (xs.map (fun p=>if p.1=k then (p.1,u) else p)):=by
 induction h with
 | nil=>exact .nil
 | cons a b ih =>
  refine .cons ?_ ih
  dsimp only
  rw[a.1]
  split
  ·exact⟨rfl,v,r,q⟩
  ·exact a
theorem Zw7 {kvs:List (Int×D)} {xs:List (Int×Vb)} {k:Int} {d:D} {v:V} {u:Vb} (h:Vj (Zwi K H ι) kvs xs) (r:Zcg v u) (q:Rep K H ι d v):Vj (Zwi K H ι) (Zkx kvs k d) (Uel xs k u):=by
 unfold Zkx Uel
 rw[Zv5 h k]
 split
 ·exact Zxi h r q
 ·exact Prd.append h (.cons ⟨rfl,v,r,q⟩ .nil)
theorem Zm5 {kvs:List (Int×D)} {xs:List (Int×Vb)} (h:Vj (Zwi K H ι) kvs xs) (k:Int):(Zfy kvs k=none/\valueAt xs k=none)\/∃ d v u,Zfy kvs k=some d/\valueAt xs k=some u/\Zcg v u/\Rep K H ι d v:=by
 unfold Zfy valueAt
 induction h with
 | nil=>exact .inl ⟨rfl,rfl⟩
 | cons a b ih =>
  rename_i p x ps xs'
  by_cases e:p.1=k
  ·have e2:x.1=k:=by rw[<- a.1]; exact e
   obtain⟨_,v,r,q⟩:=a
   exact .inr ⟨p.2,v,x.2,by rw[Wcw (by simpa using e)]; rfl,by rw[Wcw (by simpa using e2)]; rfl,r,q⟩
  ·have e2:¬ x.1=k:=by rw[<- a.1]; exact e
   rw[Wbp (by simpa using e),Wbp (by simpa using e2)]
   exact ih
end
theorem Zv6 {p p2:Vh} {w w2:Vu} {es:List Uaj} {xs:List (Int×Vb)} (e:Pairs (Zvu p w) es xs):Pairs (Zvu p2 w2) es xs:=by
 induction e with
 | nil=>exact .nil
 | cons a b c ih=>exact .cons a b ih
theorem Zqn {h:Vz} {a:Ve} {xs:List (Int×Vb)} {p:Vh} {w:Vu} (d:h.DictOf (Zvu p w) a xs):Zey a xs h:=fun p2 w2=>by
 obtain⟨o,es,ep,e1,e2,e3,e4,e5,e6⟩:=d
 refine⟨o,es,ep,e1,e2,e3,e4,?_,e6⟩
 exact Zv6 e5
section
variable {X:Cx}
theorem Zt4 {pins:List (Ve×Obj)} {σ:L2.St} {H:Hp} {s:Vd} {ι:List Ve} (I:Inv X pins σ H s) {a:Ve} {kvs:List (Int×D)} (h:Zrj X.K H ι a (.dci kvs)):(a==Uae)=false/\∃ xs,Vj (Zwi X.K H ι) kvs xs/\s.heap.DictOf (Zvu X.prog X.w) a xs:=by
 obtain⟨h1,h2,xs,h3,P⟩:=h
 exact⟨h1,xs,P,(I.hok a _ h3).1 X.prog X.w⟩
theorem Ybg:IxF X Zuf:=by
 rintro va sl pins s σ H x y v u Q I rx ry ⟨ι,dx,dy,Hd,d,Hd',hr,r1,r2,e,q⟩ hs
 obtain⟨kvs,e1,e⟩:=Zo e
 split at e
 ·rename_i k _
  obtain⟨vd,e3,e⟩:=Zm e
  obtain⟨rfl,rfl⟩:=Wau.inj e
  obtain⟨n,rfl,hn⟩:=Zmt e1
  obtain⟨a,rfl,ha⟩:=Zaz.mp r1
  simp at r2
  subst r2
  obtain⟨tok,rfl⟩:=ry
  cases rx
  obtain⟨h1,xs,P,dd⟩:=Zt4 I (hr.obj n a _ ha hn)
  rcases Zm5 P _ with ⟨z,_⟩ | ⟨d',v',u',z1,z2,z3,z4⟩
  ·rw[z] at e3; cases e3
  ·rw[z1] at e3; cases e3
   refine tail_any (ops:=[.ref a,.int k tok]) dd.typeIs PySem.F.slot_dict_getitem.lookup (wpAny_getItem_of (knd:=Zvu X.prog X.w) (k:=k) (Zjp (k:=k) (t:=tok)) dd.mapOf z2 ?_) hs
   exact⟨v',H,I.tok _,z3,q _ H ι Le.refl hr z4⟩
 ·cases e
end
section
variable {X:Cx}
theorem iinf:OpF X (Vr .In) iinD:=by
 rintro pins s σ H x y v u Q I rx ry ⟨ι,dx,dy,Hd,d,Hd',hr,r1,r2,e,q⟩
 obtain⟨kvs,e1,e⟩:=Zo e
 split at e
 ·rename_i k _
  obtain⟨rfl,rfl⟩:=Wau.inj (Xw.inj e)
  obtain⟨n,rfl,hn⟩:=Zmt e1
  obtain⟨a,rfl,ha⟩:=Zaz.mp r2
  simp at r1
  subst r1
  obtain⟨tok,rfl⟩:=rx
  cases ry
  obtain⟨h1,xs,P,dd⟩:=Zt4 I (hr.obj n a _ ha hn)
  refine wpAny_in_of (knd:=Zvu X.prog X.w) (k:=k) (Zjp (k:=k) (t:=tok)) h1 dd.mapOf ?_
  have e3:(valueAt xs k).isSome=(Zfy kvs k).isSome:=by
   rcases Zm5 P k with ⟨z1,z2⟩ | ⟨_,_,_,z1,z2,_⟩<;>rw[z1,z2]<;>rfl
  rw[e3]
  exact⟨.bl _,H,I.tok _,rfl,q _ H ι Le.refl hr (by simp)⟩
 ·cases e
end
section
variable {X:Cx}
nonrec def Zg8 (i j:Int):Nat:=(i - j).toNat
def Zkp (i j c:Int):Prop := -(2 ^ 60)<=i/\i<2 ^ 60 /\ -(2 ^ 60)<=j/\j<2 ^ 60/\c = -1
instance (i j c:Int):Decidable (Zkp i j c):=by unfold Zkp; exact inferInstance
nonrec def iRB (f:AF):ItF:=fun σ H=>(f σ H).bind fun p=>match p.1 with
 | [.int i,.int j,.int c]=>if Zkp i j c then some ((Zf8 i c (Zg8 i j),[]),p.2) else none
 | _=>none
theorem Zpi {i j c:Int} (h:Zkp i j c):Uz i j c=(Zg8 i j:Nat):=by
 obtain⟨_,_,_,_,rfl⟩:=h
 unfold Uz Zg8
 rw[if_neg (by decide)]
 split
 ·rw[show -(-1:Int)=1 from rfl,Int.ediv_one]; omega
 ·omega
theorem Zvk {i j c:Int} (h:Zkp i j c):Tcf i j c=true:=by
 have e:=Zpi h
 obtain⟨h1,h2,h3,h4,rfl⟩:=h
 have hb:(Zg8 i j:Int)<=2 ^ 61:=by unfold Zg8; omega
 unfold Tcf
 rw[e]
 have hp:¬ ((-1:Int) > 0):=by decide
 simp only[Builtin.Range.rangeFitsLong,Waf,Wek,decide_eq_true_eq,beq_iff_eq,hp,if_false]
 unfold Zg8
 omega
theorem Zrc {tg:Vv} {a b c:Vv} {f:AF} {p pos:Pos} (hg:Gl X "range") (hm:X.mg "range" = none) (ha:PAf X [a,b,c] f) (hs:Vg [a,b,c] X.env=(false,eval a X.env)::Vg [b,c] X.env:=by rfl) (hpl:(Ual pos (Vg [b,c] X.env)).any (·.1)=false:=by rfl) :
  PIf X tg (.Call (.Name "range" p) [a,b,c] [] pos) (iRB f):=by
 rintro pins s σ H R I ⟨ι,σd,Hd,xs,own,Hd',sr,hr,e,q⟩
 obtain⟨⟨ds,H1⟩,e1,e⟩:=Zo e
 dsimp only at e
 split at e
 ·rename_i i j k
  split at e
  ·rename_i hk
   cases e
   refine Call_ (Zeb I hg hm boot_range (Ug (thn (ha pos pins s σ H (fun vs H'=>vs=[.int i,.int j,.int k]/\R (It3 i k (Zg8 i j)) H') I ⟨ι,σd,Hd,_,_,sr,hr,e1,fun ws H' ι' l h P=>?_⟩) fun us s1 ⟨vs,H2,I2,r2,q2⟩=>?_) hs hpl))
   ·cases P with
    | cons r1 P =>
     obtain⟨v,v',rfl,r,r'⟩:=Ydc P
     simp at r1 r r'
     subst r1 r r'
     refine⟨rfl,q _ H' ι' l h ⟨fun i H2 ι2 Hd2 l2 h2 _ hi=>(show i<_ by simpa [Zf8] using hi),fun i' H2 ι2 Hd2 d x H3 l2 h2 _ hd y=>?_,fun i H2 ι2 Hd2 l2 h2 _ hi=>(show _<=i by simpa [Zf8] using hi)⟩⟩
     obtain⟨rfl,rfl⟩:=y
     unfold Zf8 at hd
     rw[Xn] at hd
     obtain⟨k',h1',rfl⟩:=Zm hd
     rw[Xc] at h1'
     obtain⟨hl',h1'⟩:=h1'
     simp at h1'
     subst h1'
     exact⟨ι2,Le.refl,h2,by simp⟩
   ·obtain⟨rfl,q2⟩:=q2
    cases r2 with
    | cons r1 r2 =>
     obtain⟨u1,u2,rfl,ru1,ru2⟩:=Zxg r2
     obtain⟨t1,rfl⟩:=r1
     obtain⟨t2,rfl⟩:=ru1
     obtain⟨t3,rfl⟩:=ru2
     have hc:=hk
     obtain⟨b1,b2,b3,b4,b5⟩:=hk
     refine call_range_3 (by omega) ?_ (.inl (Tbs (by omega)))
     refine wpAny_pyIter_range (Tcv ..) (Zvk hc) ?_
     have I1:Inv X pins σ H2 { s1 with heap:=s1.heap.push { cls:=.type "range",data:=.fields #[.int i t1,.int j t2,.int k t3] } }:=I2.kept (t':=s1.toks) fun b o e=>Xa _ e
     refine⟨_,[_],_,It3 i k (Zg8 i j),H2,rfl,I1.kept (t':=s1.toks) fun b o e=>Xa _ e,Zow _ i k _,?_,fun b hb=>?_,q2⟩
     ·have z1:i+((0:Nat):Int)*k=i:=by simp
      have z2:((Zg8 i j:Nat):Int) - ((0:Nat):Int)=Uz i j k:=by rw[Zpi hc]; simp
      show Udj _ _ (i+((0:Nat):Int)*k) (((Zg8 i j:Nat):Int) - ((0:Nat):Int)) k
      rw[z1,z2]
      exact Xd _ rfl
     ·have e:b=(s1.heap.push { cls:=.type "range",data:=.fields #[.int i t1,.int j t2,.int k t3] }).objs.size:=by simpa using hb
      subst e
      exact I1.fpOk (Xe _) (I1.hok.fresh (Xe _))
  ·cases e
 ·cases e
end
theorem Zwk (kvs:List (Int×D)) (k:Int) (v:D):(Zkx kvs k v).length<=kvs.length+1:=by unfold Zkx; split<;>simp
nonrec def Zru:Yam:=fun o i v H=>match o,i with
 | .ref n,.int k=>match H[n]? with
  | some (.dci kvs)=>if kvs.length<sizeLine then some (H.set n (.dci (Zkx kvs k v))) else none
  | _=>none
 | _,_=>none
section
variable {X:Cx}
theorem Ybo:Zyz X Zru:=by
 rintro pins s σ H o i v ov iv u Q I ro ri rv ⟨ι,od,id,vd,Hd,Hd',hr,r1,r2,r3,e,q⟩
 have hx:∃ n k kvs,od=.ref n/\id=.int k/\Hd[n]? = some (.dci kvs)/\kvs.length<sizeLine/\Hd'=Hd.set n (.dci (Zkx kvs k vd)):=by
  unfold Zru at e
  split at e
  ·rename_i n k
   split at e
   ·rename_i kvs hn
    split at e
    ·rename_i hl; cases e; exact⟨n,k,kvs,rfl,rfl,hn,hl,rfl⟩
    ·cases e
   ·cases e
  ·cases e
 obtain⟨n,k,kvs,rfl,rfl,hn,hl,rfl⟩:=hx
 obtain⟨a,rfl,ha⟩:=Zaz.mp r1
 have r2:i=.int k:=by simpa using r2
 subst r2
 cases ro
 obtain⟨tk,rfl⟩:=ri
 obtain⟨h1,h2,xs,h3,P⟩:=hr.obj n a _ ha hn
 have dd:Zey a xs s.heap:=((show Zc5 X.prog X.w H s.heap a (.ext (Zey a xs)) from I.hok a _ h3)).1
 have hz:xs.length<=sizeLine:=by rw[<- Prd.len P]; exact h2
 refine wpAny_setItem_pairs (knd:=Zvu X.prog X.w) (k:=k) (hsz:=hz) (Zjp (k:=k) (t:=tk)) (dd X.prog X.w) fun h' dd' hs=>?_
 have L:Le X.K H ι (upd H a (.ext (Zey a (Uel xs k u)))) ι:=Le.upd (Xl ha) h3 trivial _
 have dA:Zey a (Uel xs k u) h':=Zqn dd'
 obtain⟨ob,es,ep,g1,_⟩:=id dd'
 have ok:Zc5 X.prog X.w (upd H a (.ext (Zey a (Uel xs k u)))) h' a (.ext (Zey a (Uel xs k u))):=⟨dA,⟨ob,g1⟩,fun h1 h2 d k=>Zey.keep d k⟩
 have hr':HRep X.K (upd H a (.ext (Zey a (Uel xs k u)))) ι (Hd.set n (.dci (Zkx kvs k vd))):=by
  refine hr.upd ha h3 trivial ⟨h1,?_,_,Zaq,?_⟩
  ·have:=Zwk kvs k vd; omega
  ·exact Zw7 (Prd.imp P fun p x _ z=>⟨z.1,let ⟨v,z1,z2⟩:=z.2; ⟨v,z1,z2.mono L⟩⟩) rv (r3.mono L)
 exact⟨_,I.write (x:=a) (e:=a) (by rw[h3]; exact Taz) (.inl rfl) (fun b q hb z=>(hs.2 b hb).trans z) ⟨ob,g1⟩ ok,q _ ι L hr'⟩
nonrec def eDI:EF:=fun _ H=>some (.ref H.length,H++[.dci []])
theorem Zm9 {pos:Pos}:PEf X (.Dict [] [] pos) eDI:=by
 rintro pins s σ H Q I ⟨ι,σd,Hd,d,Hd',sr,hr,e,q⟩
 cases e
 have hb:Uae<s.heap.objs.size:=Nat.lt_trans (by decide) (show Vl<s.heap.objs.size from(I.mod.glob.keeps I.bk).lt)
 have hp:=I.hok.fresh (Xe s.heap.objs.size)
 have dn:Zey s.heap.objs.size [] (s.heap.push { cls:=.type "dict",data:=.dict #[] }):=fun p w=>Heap.DictOf.new (knd:=Zvu p w) s.heap
 have ok:Zc5 X.prog X.w (upd H s.heap.objs.size (.ext (Zey s.heap.objs.size []))) (s.heap.push { cls:=.type "dict",data:=.dict #[] }) s.heap.objs.size (.ext (Zey s.heap.objs.size [])):=⟨dn,⟨_,Xd _ rfl⟩,fun h1 h2 d k=>Zey.keep d k⟩
 refine wpAny_Dict_empty ⟨.ref s.heap.objs.size,_,I.laid (a:=s.heap.objs.size) (o:=.ext (Zey s.heap.objs.size [])) (t':=s.toks) (fun _ _ q=>Xa _ q) (Xe _) ok,rfl,?_⟩
 have hl:ι.length=Hd.length:=hr.len
 exact q _ _ (ι++[s.heap.objs.size]) (Le.fresh1 hp _) (hr.new hp ⟨beq_eq_false_iff_ne.mpr (Ul (Xh hb)),Wbg _,[],Zaq,.nil⟩) (Zaz.mpr ⟨_,rfl,by rw[<- hl]; simp⟩)
end
open PySem.W (KasT kas_rev kas_asc kas_desc kas_tail3 kas_descPart kas_count kas_place kas_bin kas_sort)
section
variable {n:Nat}
variable (h0:0<n)
include h0
end
open PySem.W (KdlSrc)
def Zzp (d:Ve) (es:Array Uaj) (ep:Nat) (h:Vz):Prop:=(d==Uae)=false/\∃ o,h.get? d=some o/\o.ExactDict/\o.data=.dict es ep
theorem Zzp.mv {d:Ve} {es:Array Uaj} {ep:Nat} {h h':Vz} (x:Zzp d es ep h) (k:∀ o,h.get? d=some o->h'.get? d=some o):Zzp d es ep h':=let ⟨a,o,e,r⟩:=x; ⟨a,o,k o e,r⟩
section
variable {prog:Vh} {w:Vu} {A:Vt} {E:Vb->Vd->Prop} {s:Vd}
theorem Zwh (hh:A.handled=none) (I d:Ve) (ne:d≠I) (es:Array Uaj) (ep:Nat) :
  Walks prog w A I [I,d] [I] es.size (fun i v=>∃ e,es[i]? = some e/\v=e.key) (fun i h=>h.IsKeyIter I d i es.size ep/\Zzp d es ep h) where
 sub:=fun b hb=>by simp at hb; simp[hb]
 frame:=fun _ _ _ st hk=>⟨st.1.at fun o e=>hk I (by simp) o e,st.2.mv fun o e=>hk d (by simp) o e⟩
 item:=fun i s _ _ hi st hQ=>by
  obtain⟨_,ob,g1,g2,g3⟩:=st.2
  refine Zsm st.1 g1 g3 hi fun h' hit' hs'=>?_
  exact hQ _ h' s.toks ⟨es[i],by simp[hi],rfl⟩ ⟨hit',st.2.mv fun o e=>hs'.extBut d o ne e⟩ fun b o hb e=>hs'.extBut b o (fun h=>hb (by simp[h])) e
 done:=fun s Q E st hQ=>by
  obtain⟨_,ob,g1,g2,g3⟩:=st.2
  exact Zpy hh st.1 g1 g3 (Xe _) fun h' he'=>hQ h' s.toks fun b o hb e=>he' b o (fun h=>hb (by simp[h])) e
 self:=fun _ _ _ _ st r=>Ucz st.1 r
theorem Yc8 {d:Ve} {es:Array Uaj} {ep:Nat}:KdlSrc prog w "dict" d d es.size (fun i v=>∃ e,es[i]? = some e/\v=e.key) (Zzp d es ep) where
 type:=fun _ ⟨_,o,e,x,_⟩=>⟨o,e,x.1⟩
 there:=fun _ ⟨_,o,e,_⟩=>⟨Xf e,Xf e⟩
 keep:=fun _ _ x k=>x.mv fun o e=>k d (.inl rfl) o e
 notList:=by decide
 notTuple:=by decide
 hint:=fun _ _ _ _ ⟨_,o,e,x,_⟩ r=>PySem.W.kdl_hint_dict ⟨o,e,x.1⟩ r
 iter:=fun _ s hh x=>by
  obtain⟨h0,ob,g1,g2,g3⟩:=id x
  exact⟨_,_,(fun _ _ hq=>Zpm h0 g1 g2 g3 hq),Zwh hh _ d (Xh (Xf g1)) es ep,⟨⟨_,Xd _ rfl,rfl,rfl⟩,x.mv fun o e=>Xa _ e⟩⟩
theorem Zox {d:Ve} {es:Array Uaj} {ep:Nat} {R:List Vb->Vd->Prop} (hh:A.handled=none) (x:Zzp d es ep s.heap) (hz:es.size<=sizeLine)
  (h:∀ h' tk,(∀ b o,s.heap.get? b=some o->h'.get? b=some o)->s.heap.objs.size<=h'.objs.size->R (es.toList.map (·.key)) { s with heap:=h',toks:=tk }):Vf (Vm prog w) A (collect (.ref d)) R E s:=by
 have hN:(s.heap.push (Uav "list" #[] 0)).get? s.heap.objs.size=some (Uav "list" #[] 0):=Xd _ rfl
 have dl:d<s.heap.objs.size:=let ⟨_,_,e,_⟩:=x; Xf e
 unfold collect
 refine Va (wpAny_runValue (Ube Udb (show Vf _ _ (do again (.builtin "list.__iadd__" ⟨[<- Uen [],.ref d],[]⟩)) _ _ s from Va (Uca (Vc ⟨Tbl _ (by decide +kernel),Ube entry_list_iadd' ?_⟩)))))
 show Vf _ _ (Uq (.ref s.heap.objs.size) (.ref d) (.ref s.heap.objs.size)) _ _ { s with heap:=s.heap.push (Uav "list" #[] 0) }
 rw[Around.under_plainId (show plainId "list.__iadd__" = true by decide +kernel)]
 have E1:Vf (Vm prog w) A.in1 (Uq (.ref s.heap.objs.size) (.ref d) (.ref s.heap.objs.size)) _ _ { s with heap:=s.heap.push (Uav "list" #[] 0) }:=PySem.W.kdl_extend (s:={ s with heap:=s.heap.push (Uav "list" #[] 0) }) (R:=fun r s'=>r=.ok (.ret (.ref s.heap.objs.size))/\Vf (Vm prog w) A (load s.heap.objs.size) (fun o s2=>∃ xs ep,o.data=.seq xs ep/\R xs.toList s2) E s') (Yc8 (ep:=ep)) hh (x.mv fun o e=>Xa _ e) s.heap.objs.size (Ul (Xh dl)) (Ul (Xh dl)) (.ref s.heap.objs.size) 0 hN (fun h' tk acc c k1 k2 hi=>by
  have ea:acc.toList=es.toList.map (·.key):=by
   apply Wfg
   intro i
   rw[Xn,Wem,Wem]
   by_cases hl:i<es.size
   ·have la:i<acc.size:=by rw[hi.1]; exact hl
    obtain⟨e,e1,e2⟩:=hi.2 i acc[i] (Wck la)
    rw[Wck la,e1,e2]
    rfl
   ·rw[Wcv (by rw[hi.1]; omega),Wcv (by omega)]
    rfl
  refine⟨rfl,wpAny_load k2 ⟨acc,c,rfl,?_⟩⟩
  rw[ea]
  exact h h' tk (fun b o e=>k1 b o (Xh (Xf e)) (Xa _ e)) (Wds (Xf k2))) hz
 have fin:∀ s',Vf (Vm prog w) A (load s.heap.objs.size) (fun o s2=>∃ xs ep,o.data=.seq xs ep/\R xs.toList s2) E s'->Vf (Vm prog w) A (do match (<- load s.heap.objs.size).data with | .seq xs _=>pure xs.toList | _=>unsupported "internal:collect") R E s':=fun s' z=>by
  refine Va (Uao z (fun o s2 ⟨xs,ep,e1,e2⟩=>?_) fun _ _ x=>x)
  rw[e1]
  exact Vc e2
 refine Uao E1 (fun f s' z=>?_) (fun e s' z=>?_)
 ·cases f with
  | done f =>
   obtain⟨z1,z2⟩:=z
   cases z1
   exact fin s' z2
  | again c =>
   refine⟨z.1,Uax z.2 fun r s2 z=>?_⟩
   obtain⟨rfl,z2⟩:=z
   exact fin s2 z2
 ·cases z.1
end
end DL
namespace DL
open PySem PySem.Spec PyProof.Rows L2 PySem.W
def Fv (K:Frag) (mg:Str->Option Vb) (x:String):Prop:=∃ f,mg (Ua x)=some (.ref f)/\nsIn K Vl (Ua x)=some (some (.ref f))
theorem Ybp {K:Frag} {hp:Vz} {mg:Str->Option Vb} {x:String} {f:Ve} (X:K.In hp) (G:hp.Ns Vl mg) (a:nsIn K Vl (Ua x)=some (some (.ref f))):Fv K mg x:=⟨f,mg_of X G a,a⟩
nonrec def Zke (i n:Nat) (x:String) (F:FF) (f:AF):EF:=fun σ H=>match σ[i]? with
 | some (some (.ty y))=>if y=x then Zak n F f σ H else none
 | _=>none
section
variable {X:Cx} {k n i:Nat} {ps:List Str} {x:String} {v:Str} {p pos:Pos} {F:FF} {fa:AF} {e:Vv} {es:List Vv}
theorem Zx2 (h:Fv X.K X.mg x) (ht:Zyw x=false:=by decide) (hg:Gl X (Ua x):=by rfl) (hd:(Ua x==("__debug__" : Str))=false:=by decide):PEf X (.Name (Ua x) pos) (eC (.ty x)):=by
 obtain⟨f,h1,h2⟩:=h
 exact Zoy (Zr1 (v:=.ref f) hg h1 rfl hd) fun _ _=>(Zyo ht).mpr ⟨f,rfl,h2⟩
theorem Zm7 (G:Fn X.prog X.w X.K X.mg X.base k (Ua x) ps F) (hf:Fv X.K X.mg x) (hr:Room k X.A) (hv:PE X (.Name v p) (Yb4 i)) (ha:PAf X (e::es) fa) (ht:Zyw x=false:=by decide)
  (he:Vg (e::es) X.env=(false,eval e X.env)::Vg es X.env:=by exact Zb0 rfl) (hpl:(Ual pos (Vg es X.env)).any (·.1)=false:=by exact Zc0 rfl) (hn:ps.length=n:=by rfl) :
  PEf X (.Call (.Name v p) (e::es) [] pos) (Zke i n x F fa):=by
 subst hn
 intro pins s σ H Q I z
 obtain⟨ι,σd,Hd,d,Hd',ss,hr0,eq,q⟩:=z
 unfold Zke at eq
 split at eq
 ·rename_i y hy
  split at eq
  ·rename_i ey
   subst ey
   obtain⟨v0,h1,r⟩:=ss.var i _ hy
   obtain⟨a,rfl,hns⟩:=(Zyo ht).mp r
   obtain⟨f',hm',hns'⟩:=hf
   rw[hns] at hns'
   cases hns'
   obtain⟨f,fd,G1,hb,hk,hm,_⟩:=G.ex
   rw[hm'] at hm
   cases hm
   refine Uaq (thn (hv pins s σ H (fun v' H'=>v'=.ref a/\H'=H) I ⟨_,h1,rfl,rfl⟩) fun u s1 z=>?_)
   obtain⟨v',H',I1,rv,rfl,rfl⟩:=z
   have rv:u=.ref a:=rv
   subst rv
   have t:Ydv (spF X.K ps.length F) [] E0 (rdA X.K fa) σ H' Q:=by
    obtain⟨⟨x,H1⟩,e1,e⟩:=Zo eq
    refine⟨ι,σd,Hd,x,H1,ss,hr0,e1,fun vs H' ι' l h r=>?_⟩
    dsimp only at e
    split at e
    ·rename_i hl
     exact⟨ι',x,H1,d,Hd',hl,h,by simpa using r,e,fun v2 H2 ι2 l2 h2 r2=>q v2 H2 ι2 (l.trans l2) h2 r2⟩
    ·cases e
   refine Wev (h₀:=X.base) I1.ok.mod.kin hk (thn (ha pos pins s1 σ H' _ I1 t) fun us s2 ⟨vs,H1,I2,r,q⟩=>⟨I2.kIn,?_⟩) he hpl
   exact Zyk G1 hr hb .nil Ydb I2 r q
  ·cases eq
 ·cases eq
end
end DL
namespace DL
open PySem PySem.Spec PyProof.Rows L2
section
variable {prog:Vh} {w:Vu} {A:Vt} {E:Vb->Vd->Prop} {s:Vd}
theorem Zuo {d L:Ve} {m:Str->Option Vb} {es:Array Uaj} {ep:Nat} {ns:List Int} {Q:Vb->Vd->Prop} (hn:s.heap.Ns L m) (hh:A.handled=none) (x:Zzp d es ep s.heap) (hI:Ubd (es.toList.map (·.key)) ns) (h64:es.size<64)
  (h:∀ h' tk D out c,h'.Ns L m->(∀ b o,b≠L->s.heap.get? b=some o->h'.get? b=some o)->s.heap.objs.size<=D->h'.get? D=some (Uav "list" out c)->KskOut false (ns.map Zg7) (es.toList.map (·.key)) out.toList->Q (.ref D) { s with heap:=h',toks:=tk }) :
  Vf (Vm prog w) A (call (.builtin "sorted") [.ref d] [(Ua "key",.builtin "abs")]) Q E s:=by
 have sz:sizeLine=16777216:=Ubf
 have lt:=hn.lt
 refine Uci kind_sorted plain_sorted entry_sorted (ksk_s1 _ _) ?_
 unfold Builtin.«sorted»
 refine Va (m:=checkCount "sorted" 1 1 _) (Vc (Va (Zox (show A.in1.handled=none from hh) x (by omega) fun h1 tk k1 le=>Va (Uca ?_ (by simp; omega)))))
 generalize ev:es.toList.map (·.key)=vs at *
 have lv:vs.length=es.size:=by rw[<- ev]; simp
 let h2:Vz:=h1.push (Uav "list" vs.toArray 0)
 have at2:h2.get? h1.objs.size=some (Uav "list" vs.toArray 0):=Xd _ rfl
 have kp:∀ b o,s.heap.get? b=some o->h2.get? b=some o:=fun b o e=>Xa _ (k1 b o e)
 have ltD:∀ b o,s.heap.get? b=some o->b≠h1.objs.size:=fun b o e=>Xh (Xi (Xf e) le)
 have LD:h1.objs.size≠L:=Ul (Xh (Xi lt le))
 have F0:Fr {} L s.heap m:=⟨hn,fun b o e=>absurd ((Zhh b).symm.trans e) (by simp),Wbg _⟩
 have N0:News {} L s.heap (Zkj s.heap L):=fun p hp=>⟨(Zee hp).1,(Zee hp).2,Zhh _⟩
 have ln:ns.length=vs.length:=hI.length.symm
 show Vf _ _ _ _ _ { s with heap:=h2,toks:=tk }
 refine Va (Vw (Udm (s:={ s with heap:=h2,toks:=tk }) slot_list_sort ⟨_,at2,rfl⟩ entry_list_sort ?body (ksk_l1 _ _)))
 case body =>
  show Vf (Vm prog w) A.in1.in1 (Builtin.«list.sort» ⟨[.ref h1.objs.size],[(Ua "key",.builtin "abs")]⟩) _ _ _
  rw[ksk_t4]
  refine ksk_sort (s:={ s with heap:=h2,toks:=tk }) (kz:=ns.map Zg7) (news:=Zkj s.heap L) (F0.kept kp) (N0.grown kp) at2 LD (Zhh _) (fun p hp=>ltD _ _ (Zee hp).1)
   (by rw[Xu]; exact ln) (by omega) (fun i v k hv hk hh tk own F N=>?_) fun h' tk out c F' N' K'=>⟨_,rfl,?_⟩
  ·obtain⟨n,t,rfl,e⟩:=hI.at i v hv
   rw[Xn,e] at hk
   cases hk
   exact Udw fun u tk'=>Tcu F N fun p hp=>hp
  ·refine Vc ⟨_,rfl,h h' tk _ out c F'.ns (fun b o hb e=>?_) le ?_ K'⟩
   ·exact(N' _ (Waj _ (Znw hb e))).1
   ·exact(N' _ (Wcd ..)).1
end
nonrec def Zi7:FF:=fun ds H=>match ds with
 | [.ref n]=>match H[n]? with
  | some (.dci kvs)=>if kvs.length<64/\((kvs.map (·.1)).map Zg7).Nodup then some (.ref H.length,H++[.lst ((Zdo (kvs.map (·.1))).map .int)]) else none
  | _=>none
 | _=>none
theorem Zrr {p:Vh} {w:Vu} {es:List Uaj} {xs:List (Int×Vb)} (e:Pairs (Zvu p w) es xs):Ubd (es.map (·.key)) (xs.map (·.1)):=by
 induction e with
 | nil=>exact .nil
 | cons a b c ih =>
  obtain⟨t,q⟩:=Zkd a
  rw[Xo,Xo,q]
  exact .cons _ t ih
theorem Zt9 {K:Xb} {H:Hp} {ι:List Ve} {kvs:List (Int×D)} {xs:List (Int×Vb)} (P:Vj (Zwi K H ι) kvs xs):kvs.map (·.1)=xs.map (·.1):=by
 induction P with
 | nil=>rfl
 | cons a b ih=>rw[Xo,Xo,a.1,ih]
theorem Zqx {X:Cx} {a:Vv} {f:AF} {p p2 kp pos:Pos} (hcm:X.calm=true) (hg:Gl X "sorted") (hm:X.mg "sorted" = none) (hg2:Gl X "abs") (hm2:X.mg "abs" = none) (ha:PAf X [a] f) (hs:Vg [a] X.env=[(false,eval a X.env)]:=by rfl) :
  PEf X (.Call (.Name "sorted" p) [a] [⟨some "key",.Name "abs" p2,kp⟩] pos) (eCB Zi7 f):=by
 rintro pins s σ H Q I ⟨ι,σd,Hd,d,Hd',sr,hr,e,q⟩
 obtain⟨⟨ds,H1⟩,e1,e⟩:=Zo e
 dsimp only at e
 unfold Zi7 at e
 split at e
 ·rename_i n
  split at e
  ·rename_i kvs eo
   split at e
   ·rename_i hc
    show Vf _ _ (do Ueb pos (<- eval (.Name "sorted" p) X.env) [] (Ual pos (Vg [a] X.env)) (Ucw pos (Ubh [⟨some "key",.Name "abs" p2,kp⟩] X.env))) _ _ _
    refine Va (Zeb I hg hm Zmz (Udc (by rw[hs]; rfl) rfl ?_))
    have hA:=ha pos pins s σ H (fun vs H'=>∃ ι',Le X.K H ι H' ι'/\HRep X.K H' ι' H1/\Vj (Rep X.K H' ι') [.ref n] vs) I ⟨ι,σd,Hd,_,_,sr,hr,e1,fun vs H' ι' l h P=>⟨ι',l,h,P⟩⟩
    rw[hs] at hA ⊢
    refine Udz rfl (thn hA fun us s1 ⟨vs,H2,I2,r2,ι2,l2,h2,P2⟩=>kws_cons (Zeb I2 hg2 hm2 Zux (kws_nil ?_)))
    obtain⟨v,rfl,r⟩:=Zl6 P2
    obtain⟨u,rfl,ru⟩:=Zh2 r2
    obtain⟨ad,rfl,had⟩:=Zaz.mp r
    cases ru
    obtain⟨h3,xs,PK,dd⟩:=Zt4 I2 (h2.obj n ad _ had eo)
    obtain⟨o,es,ep,g1,g2,g3,g4,g5,g6⟩:=dd
    show Vf _ _ (call (.builtin "sorted") [.ref ad] [(Ua "key",.builtin "abs")]) _ _ _
    obtain⟨m,hn,_⟩:=I2.loc
    have hI:=Zrr g5
    rw[<- Zt9 PK] at hI
    have les:es.size=kvs.length:=by
     have:=hI.length
     simpa using this
    refine Zuo hn (I2.ok.hd hcm) ⟨h3,o,g1,g2,g3⟩ hI (by omega) fun h' tk Da out c hn' kk hD hat K'=>?_
    have hO:=Zyp hI hc.2 K'
    have hl:((Zdo (kvs.map (·.1))).map V.int).length<=sizeLine:=by
     rw[Xu,(Zcf (kvs.map (·.1))).length_eq,Xu]
     have:sizeLine=16777216:=Ubf
     omega
    refine⟨.ref Da,_,Zn2 (o:=.lst ((Zdo (kvs.map (·.1))).map V.int)) I2 kk (fun m' hm'=>by rw[hm'.eq_nsMap,<- hn.eq_nsMap]; exact hn') hD ⟨hl,out.toList,c,Zmg hO,by simpa using hat⟩,rfl,?_⟩
    have hz2:((Zdo (kvs.map (·.1))).map D.int).length<=sizeLine:=by simpa using hl
    exact(Zge h2 (Zml (Zdo (kvs.map (·.1)))) (show mkL ((Zdo (kvs.map (·.1))).map D.int) H1=some (d,Hd') by unfold mkL; rw[if_pos hz2,e]) (fun v H' ι' l h r=>q v H' ι' (l2.trans l) h r)).2 _ (I2.hok.fresh hD)
   ·cases e
  ·cases e
 ·cases e
section
variable {X:Cx}
theorem Yb9:Vq "any" = some (.builtin "any"):=by decide +kernel
nonrec def Yee:FF:=fun ds H=>match ds with
 | [.ref n]=>match H[n]? with
  | some (.lst xs)=>(Zzf xs).map fun bs=>(.bl (bs.any id),H)
  | _=>none
 | _=>none
theorem Zss (bs:List Bool):((Wdl bs.length).any fun i=>(bs[i]?).getD false)=bs.any id:=by
 rw[Wel,War,War]
 constructor
 ·rintro⟨i,hi,h⟩
  have hi:i<bs.length:=by simpa using hi
  exact⟨bs[i],Wab hi,by simpa [hi] using h⟩
 ·rintro⟨x,hx,h⟩
  obtain⟨i,hi,rfl⟩:=Wer hx
  exact⟨i,by simpa using hi,by simpa [hi] using h⟩
theorem Zs9 (hc:X.calm=true):Zhw X (.builtin "any") Yee:=by
 rintro pins s σ H xs us Q I rv ⟨ι,ds,Hd,d,Hd',hr,P,e,q⟩
 unfold Yee at e
 split at e
 ·rename_i n
  split at e
  ·rename_i ys eo
   obtain⟨bs,e1,e⟩:=Zm e
   obtain⟨rfl,rfl⟩:=Wau.inj e
   obtain⟨v,rfl,r⟩:=Zl6 P
   obtain⟨a,rfl,ha⟩:=Zaz.mp r
   obtain⟨vs,h1,P2⟩:=hr.obj n a _ ha eo
   cases rv with
   | cons rx rv =>
    cases rv
    cases rx
    obtain⟨its,rv2,p,hz⟩:=I.list (SqL.of h1)
    have eits:=Zjk e1 P2 rv2
    have hlt:a<s.heap.objs.size:=by
     obtain⟨o,ho,_⟩:=p.isList
     exact Xf ho
    refine call_any_walk (Uak p.isList ⟨s.heap.objs.size,[s.heap.objs.size,a],[s.heap.objs.size],its.toArray.size,_,_,fun i=>(bs[i]?).getD false,rfl,
     Walks.list (A:=X.A.in1) (show X.A.in1.handled=none from I.ok.hd hc) s.heap.objs.size a (Xh hlt) its.toArray,⟨⟨_,Xd _ rfl,rfl,rfl⟩,p.isList.at fun o z=>Xa _ z⟩,?_,fun h' tk k=>?_⟩)
    ·intro i v s2 Q2 E2 hv hq
     rw[eits] at hv
     have hv2:(bs.map Tca)[i]? = some v:=by simpa using hv
     rw[Xn] at hv2
     obtain⟨b,hb,rfl⟩:=Zm hv2
     refine Uaf ?_
     simpa [hb] using hq
    ·have hn:its.toArray.size=bs.length:=by rw[eits]; simp
     rw[hn,Zss]
     refine⟨.bl (bs.any id),H,I.kept (t':=tk) fun b o z=>k b o ?_ (Xa _ z),rfl,q _ H ι Le.refl hr (by simp)⟩
     intro hm
     have:b=s.heap.objs.size:=by simpa using hm
     exact absurd (this ▸ Xf z) (Was _)
  ·cases e
 ·cases e
end
end DL
namespace DL
open PySem PySem.Spec PyProof.Rows L2 PySem.W
nonrec def Zxx (f g:EF):EF:=fun σ H=>match f σ H with
 | some r=>some r
 | none=>g σ H
theorem Ztx {X:Cx} {e:Vv} {f g:EF} (h1:PEf X e f) (h2:PEf X e g):PEf X e (Zxx f g):=by
 intro pins s σ H Q I z
 obtain⟨ι,σd,Hd,d,Hd',ss,hr0,eq,q⟩:=z
 unfold Zxx at eq
 split at eq
 ·rename_i r hr
  cases eq
  exact h1 pins s σ H Q I ⟨ι,σd,Hd,d,Hd',ss,hr0,hr,q⟩
 ·exact h2 pins s σ H Q I ⟨ι,σd,Hd,d,Hd',ss,hr0,eq,q⟩
nonrec def cxCl (P:Vh) (w:Vu) (K:Xb) (mg:Str->Option Vb) (base:Vz) (N:List Str) (qual:Str) (scope:Ubm) (f:Ve) (cd:Vb) (cl:List (Str×Ve)) (A:Vt) (outer:List Env) (s:Vd) (H:Hp):Cx where
 prog:=P
 w:=w
 K:=K
 mg:=mg
 base:=base
 A:=A.deeper (envX qual scope s.heap.objs.size f cd cl)
 N:=N
 s₀:=s
 H₀:=H
 env:=envX qual scope s.heap.objs.size f cd cl
 outer:=outer
 stack:=envX qual scope s.heap.objs.size f cd cl::outer
 ex:=[]
 calm:=true
 fn:=fun _=>false
 pn:=[]
 xe:=fun _ _=>False
structure ClScope (N ps:List Str) (x:Str) (sc:Ubm):Prop where
 kind:sc.kind=.function
 co:sc.isCoroutine=false
 gen:sc.isGenerator=false
 nd:N.Nodup
 pre:N.take (ps.length+1)=ps++[x]
 par:∀ p∈ps,sc.names.lookup p=some .local
 nocell:∀ y∈sc.names,y.2≠.cell
 fx:sc.names.lookup x=some .free
 fo:∀ y∈sc.names,y.2=.free->y.1=x
nonrec def Zht (N:List Str) (vs:List V) (w:V):L2.St:=(vs++[w]).map some++Xq (N.length - (vs.length+1)) none
theorem Zp6 {y:Str}:∀ {ps:List Str} {us:List Vb},y∉ps->(ps.zip us).reverse.lookup y=none
 | [],_,_=>rfl
 | _::_,[],_=>rfl
 | p::ps,u::us,h=>by
  rw[Wce,Web,Wdu,Zp6 (fun z=>h (by simp[z])),Wag]
  have:(y==p)=false:=by rw[beq_eq_false_iff_ne]; exact fun z=>h (by simp[z])
  rw[this]
  rfl
theorem Zqj {y:Str} {u:Vb}:∀ {ps:List Str} {us:List Vb} {i:Nat},ps.Nodup->ps[i]? = some y->us[i]? = some u->(ps.zip us).reverse.lookup y=some u
 | [],_,_,_,h,_=>by simp at h
 | _::_,[],_,_,_,h=>by simp at h
 | p::ps,v::us,0,nd,h1,h2=>by
  simp at h1 h2
  subst h1 h2
  rw[Wce,Web,Wdu,Zp6 (Wba.mp nd).1,Wag]
  simp
 | p::ps,v::us,i+1,nd,h1,h2=>by
  rw[Wce,Web,Wdu,Zqj (Wba.mp nd).2 (by simpa using h1) (by simpa using h2)]
  rfl
section
variable {P:Vh} {w:Vu} {K:Xb} {mg:Str->Option Vb} {base:Vz} {N ps:List Str} {x qual:Str} {scope:Ubm} {f c:Ve} {cd:Vb} {A:Vt} {outer:List Env} {s:Vd} {H:Hp} {us:List Vb} {vs:List V} {wv:V} {oc:Obj} {u:Vb}
theorem Zq1 {h₁:Vz} {tk:Nat} (S:ClScope N ps x scope) (hd:A.handled=none) (e0:Env0 P w K mg base A outer s H) (hl:vs.length=ps.length) (r:Zb7 vs us) {uc:HO} (hc:H c=some (.frz oc uc)) (hcd:oc.data=.cell (some u)) (rw':Zcg wv u)
  (hns:h₁.Ns s.heap.objs.size (fun y=>(ps.zip us).reverse.lookup y)) (hk:∀ b o,s.heap.get? b=some o->h₁.get? b=some o) :
  Inv (cxCl P w K mg base N qual scope f cd [(x,c)] A outer s H) [] (Zht N vs wv) H { s with heap:=h₁,toks:=tk }:=by
 have hN:ps.length+1<=N.length:=by have:=congrArg Wbl S.pre; rw[Wbd,Xp] at this; simp at this; omega
 have hcl:∀ y z,([(x,c)]:List (Str×Ve)).lookup y=some z->y=x/\z=c:=fun y z h=>by
  rw[Wag] at h
  cases hb:y==x with
  | true=>rw[hb] at h; cases h; exact⟨eq_of_beq hb,rfl⟩
  | false=>rw[hb] at h; simp at h
 have hlx:([(x,c)]:List (Str×Ve)).lookup x=some c:=by rw[Wag]; simp
 have gc:s.heap.get? c=some oc:=(e0.hok c _ hc).1
 have noA:∀ b:Ve,b∉(cxCl P w K mg base N qual scope f cd [(x,c)] A outer s H).ex:=fun b z=>absurd (show b∈([]:List Ve) from z) (by simp)
 refine⟨⟨e0.mod,S.kind,rfl,rfl,Xe _,fun y z d h1 h2=>?_,fun y hy=>?_,fun y d h=>absurd h (by show ¬ (false=true); simp),fun _=>hd,Tcb e0.frames,.inr ⟨rfl,rfl⟩,fun b z=>absurd z (noA b),e0.bs,e0.bsz,fun b _ _=>noA b,fun b z=>absurd z (noA b),e0.funs,e0.frf⟩,
  rfl,e0.bare,Un.kept hk,⟨_,hns,fun i y v h1 h2 h3=>?_⟩,fun y d h=>?_,e0.hok.fresh (Xe _),fun y d h=>?_,fun p hp=>absurd (show p∈([]:List (Ve×Obj)) from hp) (by simp),e0.hok.kept hk,?_⟩
 ·rw[(hcl _ _ h1).1,(hcl _ _ h2).1]
 ·have hy:scope.names.lookup y=some .cell\/scope.names.lookup y=some .free:=hy
  rcases hy with hy | hy
  ·exact absurd rfl (S.nocell _ (Uh hy))
  ·have:=S.fo _ (Uh hy) rfl
   have this:y=x:=this
   subst this
   exact⟨c,hlx⟩
 ·have hi:i<vs.length+1:=by
   unfold Zht at h2
   by_cases hi:i<vs.length+1
   ·exact hi
   ·rw[Xr (by simpa using hi)] at h2
    rw[Wbm] at h2
    split at h2<;>cases h2
  have h2':(vs++[wv])[i]? = some v:=by
   unfold Zht at h2
   rw[Xg (by simpa using hi),Xn] at h2
   cases e:(vs++[wv])[i]? with
   | none=>rw[e] at h2; cases h2
   | some a=>rw[e] at h2; cases h2; rfl
  have h1':(ps++[x])[i]? = some y:=by
   rw[<- S.pre,Wcm (by omega)]; exact h1
  by_cases hv:i<vs.length
  ·rw[Xg hv] at h2'
   rw[Xg (by omega)] at h1'
   obtain⟨u',hu,rv⟩:=r.get h2'
   refine⟨u',rv,.inl ⟨S.par y (Xl h1'),?_⟩⟩
   have ndP:ps.Nodup:=by
    have:(ps++[x]).Nodup:=by rw[<- S.pre]; exact S.nd.sublist (Wfd _ _)
    exact(Way.mp this).1
   exact Zqj ndP h1' hu
  ·have e:i=vs.length:=by omega
   subst e
   rw[Xr (by omega)] at h2'
   rw[Xr (by omega)] at h1'
   simp at h2'
   subst h2'
   rw[hl] at h1'
   simp at h1'
   subst h1'
   exact⟨u,rw',.inr ⟨.inr S.fx,c,hlx,oc,hk _ _ gc,hcd⟩⟩
 ·obtain⟨_,rfl⟩:=hcl _ _ h
  exact⟨_,oc,hk _ _ gc,hcd⟩
 ·obtain⟨_,rfl⟩:=hcl _ _ h
  exact .inr ⟨rfl,oc,_,hc⟩
 ·unfold Zht
  show _=N.length
  simp only[Xp,Xu,Weh,Wbi]
  omega
def Ya7 (P:Vh) (w:Vu) (K:Xb) (mg:Str->Option Vb) (base:Vz) (k:Nat) (n:String) (x:Str) (m:Nat) (F:D->FF):Prop :=
 ∀ (A:Vt) (outer:List Env) (s:Vd) (H:Hp) (us:List Vb) (vs:List V) (Q:VK) (a:Ve) (wv:V),Room k A->Env0 P w K mg base A outer s H->Zq9 K H n x a wv->Zb7 vs us ->
  (∃ ι d ds Hd d' Hd',ds.length=m/\HRep K H ι Hd/\Rep K H ι d wv/\Vj (Rep K H ι) ds vs/\F d ds Hd=some (d',Hd')/\QE K H ι d' Hd' Q) ->
  Ucn (Vm P w) A (.call (.ref a) ⟨us,[]⟩) (CR CX0 outer P w H s Q E0) s
nonrec def Zyi (n N:Nat) (b:SF) (d:D):FF:=fun ds H=>if ds.length=n then (b ((ds++[d]).map some++Xq (N - (n+1)) none) H).bind fun r=>match r.1 with
  | .rt d=>some (d,r.2.2)
  | .nx=>some (.non,r.2.2)
  | _=>none
 else none
theorem Ydt {k:Nat} {n:String} {st:Uab} {b:SF} (hst:∀ st',Zix K n st'->st'=st) (S:ClScope N ps x (Zad st))
  (hbd:∀ (nm qual:Str) (doc pm ct:Vb) (c c':Ve) (us:List Vb),us.length=ps.length->Uby (fnX nm qual (Zcn st) (Za6 st) (Zad st) [(x,c)] .none .none doc pm none (.ref c') ct) ⟨us,[]⟩=pure (ps.zip us))
  (hb:∀ (qual:Str) (f:Ve) (cdv:Vb) (c:Ve) (A:Vt) (outer:List Env) (s:Vd) (H:Hp),Room k (A.deeper (envX qual (Zad st) s.heap.objs.size f cdv [(x,c)]))->Zo3 (cxCl P w K mg base N qual (Zad st) f cdv [(x,c)] A outer s H) (Za6 st) b) :
  Ya7 P w K mg base (k+1) n x ps.length (Zyi ps.length N.length b):=by
 rintro A outer s H us vs Q a wv hr e0 hca r ⟨ι,d,ds,Hd,d',Hd',hl,hh,rd,rp,e,q⟩
 obtain⟨st',nm,qual,doc,pm,ct,c,c',oc,uc,u,h1,h2,⟨o3,vs3,t3,h3,h3d,h3v⟩,h4,h5,h6⟩:=hca
 obtain rfl:=hst st' h1
 have lv:vs.length=ps.length:=by rw[<- Prd.len rp]; exact hl
 have lu:us.length=ps.length:=by rw[<- r.length]; exact lv
 have lim:s.heap.NoLimit:=e0.mod.nolimit.keeps fun b o e=>(e0.bs b o e).1
 have g2:s.heap.get? a=some (fnMade nm qual (Zcn st') (Za6 st') (Zad st') [(x,c)] doc pm c' ct):=(e0.hok a _ h2).1
 have g3:s.heap.get? c'=some o3:=(e0.hok c' _ h3).1
 refine codeAny_call_def (binds:=ps.zip us) hr.depth g2 rfl lim ⟨c',o3,vs3,t3,rfl,g3,h3d,h3v⟩ rfl (.of_eq (hbd nm qual doc pm ct c c' us lu)) S.nocell (fun y hy=>S.par _ (Wcp hy).1) (fun h₀ hns hk=>?_) S.co S.gen S.kind
 have I:=Zq1 (qual:=qual) (f:=a) (cd:=.ref c') (tk:=s.toks+(ps.zip us).length) S hr.hd e0 lv r h4 h5 h6 hns hk
 unfold Zyi at e
 rw[if_pos hl] at e
 obtain⟨⟨fl,σ1,H1⟩,e1,e⟩:=Zo e
 have hN:ps.length+1<=N.length:=by have:=congrArg Wbl S.pre; rw[Wbd,Xp] at this; simp at this; omega
 have rp':Vj (Rep K H ι) (ds++[d]) (vs++[wv]):=Prd.append rp (.cons rd .nil)
 have ss:SRep K H ι (Zht N vs wv) ((ds++[d]).map some++Xq (N.length - (ps.length+1)) none):=by
  refine⟨by simp[Zht,lv,hl],fun i d0 h0=>?_⟩
  unfold Zht
  by_cases hi:i<(ds++[d]).length
  ·rw[Xg (by simpa using hi),Xn] at h0
   cases ed:(ds++[d])[i]? with
   | none=>rw[ed] at h0; cases h0
   | some d1 =>
    rw[ed] at h0
    cases h0
    obtain⟨v,hv,rv⟩:=Prd.get rp' ed
    refine⟨v,?_,rv⟩
    rw[Xg (by rw[Xu,<- Prd.len rp']; exact hi),Xn,hv]
    rfl
  ·rw[Xr (by simpa using hi),Wbm] at h0
   split at h0<;>cases h0
 have body:=hb qual a (.ref c') c A outer s H (hr.deeper _) [] _ (Zht N vs wv) H { nx:=fun _ H'=>Q .non H',rt:=Q } I ⟨ι,_,Hd,fl,σ1,H1,ss,hh,e1,fun σ' H' ι' l h s'=>by
  cases fl with
  | rt d1=>cases e; exact fun v rv=>q v H' ι' l h rv
  | nx=>cases e; exact q .non H' ι' l h (by simp)
  | bk=>cases e
  | ct=>cases e⟩
 refine Uao body (fun fl s' hs=>?_) fun e s' hs=>hs.elim
 have fin:∀ {σ':L2.St} {H':Hp} {v:V} {u:Vb},Inv (cxCl P w K mg base N qual (Zad st') a (.ref c') [(x,c)] A outer s H) [] σ' H' s'->Zcg v u->Q v H'->CE outer P w H s Q u s' :=
  fun {σ' H' v u} J rv q=>⟨v,H',J.os,J.bare,J.base,J.hok,rv,q⟩
 cases fl with
 | ret u =>
  obtain⟨v,σ',H',J,rv,q⟩:=hs
  exact fin J rv q
 | next =>
  obtain⟨σ',H',J,q⟩:=hs
  exact fin (v:=V.non) (u:=Um) J rfl q
 | brk =>
  obtain⟨_,_,_,q⟩:=hs
  exact Uj q
 | cont =>
  obtain⟨_,_,_,q⟩:=hs
  exact Uj q
end
nonrec def Zij (i m:Nat) (n:String) (x:Str) (F:D->FF) (f:AF):EF:=fun σ H=>match σ[i]? with
 | some (some (.ref j))=>match H[j]? with
  | some (.clo n' x' d)=>if n'=n/\x'=x then (f σ H).bind fun p=>if p.1.length=m then F d p.1 p.2 else none else none
  | _=>none
 | _=>none
section
variable {X:Cx} {k m i:Nat} {n:String} {x v:Str} {p pos:Pos} {F:D->FF} {fa:AF} {e:Vv} {es:List Vv}
theorem Znu (G:Ya7 X.prog X.w X.K X.mg X.base k n x m F) (hr:Room k X.A) (hv:PE X (.Name v p) (Yb4 i)) (ha:PAf X.nox (e::es) fa)
  (he:Vg (e::es) X.env=(false,eval e X.env)::Vg es X.env:=by exact Zb0 rfl) (hpl:(Ual pos (Vg es X.env)).any (·.1)=false:=by exact Zc0 rfl) :
  PEf X (.Call (.Name v p) (e::es) [] pos) (Zij i m n x F fa):=by
 intro pins s σ H Q I z
 obtain⟨ι,σd,Hd,d,Hd',ss,hr0,eq,q⟩:=z
 unfold Zij at eq
 split at eq
 ·rename_i j hj
  split at eq
  ·rename_i n' x' dd hc
   split at eq
   ·rename_i hn
    obtain⟨rfl,rfl⟩:=hn
    obtain⟨⟨ds,H1⟩,e1,eq⟩:=Zo eq
    dsimp only at eq
    split at eq
    ·rename_i hm
     obtain⟨v0,h1,r⟩:=ss.var i _ hj
     obtain⟨a,rfl,ia⟩:=Zaz.mp r
     obtain⟨wv,ca,rd⟩:=hr0.obj j a _ ia hc
     have fnAt:∀ {H':Hp} {s':Vd},Zq9 X.K H' n' x' a wv->HOk X.prog X.w H' s'.heap->FnAt a s'.heap:=fun {H' s'} ca hok=>by
      obtain⟨st',nm,qual,doc,pm,ct,c,c',oc,uc,u,_,h2,_⟩:=ca
      exact⟨_,_,_,_,(hok a _ h2).1⟩
     refine Uaq (thn (hv pins s σ H (fun v' H'=>v'=.ref a/\H'=H) I ⟨_,h1,rfl,rfl⟩) fun u s1 z=>?_)
     obtain⟨v',H',I1,rv,rfl,rfl⟩:=z
     have rv:u=.ref a:=rv
     subst rv
     refine callWith_F (fnAt ca I1.hok) (Uao (ha pos pins s1 σ H' (fun vs H2=>∃ ι',Le X.K H' ι H2 ι'/\HRep X.K H2 ι' H1/\Vj (Rep X.K H2 ι') ds vs) (I1.wish _) ⟨ι,σd,Hd,ds,H1,ss,hr0,e1,fun vs H2 ι' l h P=>⟨ι',l,h,P⟩⟩) (fun us s2 z=>?_) fun _ _ z=>z.elim) he hpl
     obtain⟨vs,H2,I2,r2,ι2,l2,h2,P2⟩:=z
     have I2:Inv X pins σ H2 s2:=I2.unwish
     have ca2:=ca.step l2.toLw
     refine⟨fnAt ca2 I2.hok,wpAny_call (Uax (G X.A X.stack s2 H2 us vs Q a wv hr I2.env0 ca2 r2 ⟨ι2,dd,ds,H1,d,Hd',hm,h2,rd.mono l2,P2,eq,fun v3 H3 ι3 l3 h3 r3=>q v3 H3 ι3 (l2.trans l3) h3 r3⟩) fun r s' hq=>?_)⟩
     cases r with
     | error e=>exact Uj hq
     | ok fl =>
      cases fl with
      | ret u=>exact I2.after hq
      | next=>exact Uj hq
      | brk=>exact Uj hq
      | cont=>exact Uj hq
    ·cases eq
   ·cases eq
  ·cases eq
 ·cases eq
end
end DL
namespace L2
open PySem PySem.Spec PyProof.Rows
nonrec abbrev Cx.nofn (X:Cx):Cx:={ X with fn:=fun _=>false }
theorem Cx.Ok.nofn {X:Cx} (ok:X.Ok):X.nofn.Ok :=
 ⟨ok.mod,ok.kind,ok.glob,ok.blt,ok.above,ok.inj,ok.has,fun _ _ h=>absurd h (by simp),ok.hd,ok.frames,ok.stk,ok.exf,ok.bs,ok.bsz,ok.noex,ok.exfs,ok.funs,ok.frf⟩
section
variable {X:Cx} {pins:List (Ve×Obj)} {σ:St} {H:Hp} {s:Vd}
theorem Inv.nofn (I:Inv X pins σ H s):Inv X.nofn pins σ H s:=⟨I.ok.nofn,I.os,I.bare,I.base,I.loc,I.cell,I.free,fun x c e=>(I.freeC x c e).imp id fun z=>⟨rfl,z.2⟩,I.pin,I.hok,I.len⟩
theorem Inv.freeze {x:Str} {cx:Ve} (I:Inv X pins σ H s) (hfn:∀ y,X.fn y=false) (hc:X.env.cells.lookup x=some cx) (hnew:X.s₀.heap.objs.size<=cx) :
  ∃ H1 oc uc,Inv X pins σ H1 s/\H1 cx=some (.frz oc uc)/\s.heap.get? cx=some oc/\(H1=H\/(H cx=none/\H1=upd H cx (DL.fzO cx oc))):=by
 rcases I.freeC x cx hc with h0 | ⟨_,o,u,h0⟩
 ·obtain⟨v,o,ho,hd⟩:=I.cell x cx hc
  refine⟨_,o,_,?_,Zaq,ho,.inr ⟨h0,rfl⟩⟩
  have stay:∀ b u,H b=some u->b≠cx:=fun b u e=>Zai e h0
  refine⟨I.ok,I.os,I.bare,⟨I.base.keep,I.base.slot,fun b ob e n hx=>?_,I.base.there,fun b xs e=>?_,fun b ob xs e=>?_,fun b ps e=>?_⟩,I.loc,I.cell,?_,fun y c e=>?_,fun p hp=>?_,fun b ob e=>?_,I.len⟩
  ·rw[Zag (Xh (Xi (Xf e) hnew))]; exact I.base.free b ob e n hx
  ·rw[Zag (stay _ _ (I.base.tups b xs e))]; exact I.base.tups b xs e
  ·rw[Zag (stay _ _ (I.base.frzs b ob xs e))]; exact I.base.frzs b ob xs e
  ·obtain⟨m,e1⟩:=I.base.tbls b ps e
   exact⟨m,by rw[Zag (stay _ _ e1)]; exact e1⟩
  ·rw[Zag (Ul (I.cne x cx hc))]; exact I.free
  ·by_cases hcc:c=cx
   ·subst hcc; exact .inr ⟨hfn y,_,_,Zaq⟩
   ·rw[Zag hcc]; exact I.freeC y c e
  ·obtain⟨h1,h2,h3,h4,h5⟩:=I.pin p hp
   refine⟨h1,?_,h3,h4,h5⟩
   rw[Zag (fun z=>?_)]
   ·exact h2
   ·rw[z,ho] at h1; cases h1; exact h5 _ hd
  ·by_cases hb:b=cx
   ·subst hb; rw[Zaq] at e; cases e; exact⟨ho,ho,⟨o,ho⟩,fun h1 h2 a k=>k _ a⟩
   ·rw[Zag hb] at e
    exact(I.hok b ob e).stay (fun c v _ q=>q) (fun c q=>by rw[Zag (stay _ _ q)]; exact q) (fun c xs q=>by rw[Zag (stay _ _ q)]; exact q)
 ·exact⟨H,o,u,I,h0,(I.hok cx _ h0).1,.inl rfl⟩
end
theorem Ybr {P:Vh} {w:Vu} {K:Xb} {mg:Str->Option Vb} {base:Vz} {k:Nat} {f:Ve} {name qual:Str} {params:Ueg} {body:List Uab} {scope:Ubm} {dV kV doc pm cdv ct oc:Vb} {an od:Option Ve}
  {osl:Array (Option Vb)} {N ps:List Str} {sp:Sp} (lk:K.lookup f=some ⟨oc,od,.func (Wav name qual params body scope dV kV doc pm an cdv ct),osl⟩) (hcd:Wcj K cdv qual=true) (S:FnScope N ps scope)
  (len:∀ vs H Q E,sp vs H Q E->vs.length=ps.length)
  (hbody:∀ (A:Vt) (outer:List Env) (s:Vd) (H:Hp) (vs:List V) (Q:VK) (E:XK),Room k (A.deeper (Ubc qual scope s.heap.objs.size f cdv))->(∀ y z,(Ubc qual scope s.heap.objs.size f cdv).cells.lookup y=some z->s.heap.objs.size<=z)->sp vs H Q E ->
   ∃ t,PSs (Zl8 CX0 P w K mg base N qual scope f cdv A outer s H E).nox.nofn body t/\t { nx:=fun _ H'=>Q .non H',rt:=Q } (start N vs) H) :
  FnOk P w K mg base CX0 (k+1) f (Wav name qual params body scope dV kV doc pm an cdv ct) ps sp:=by
 refine⟨len,fun A outer s H args us vs Q E hr e0 hb r hsp=>?_⟩
 have hl:=len _ _ _ _ hsp
 have KX:K.In s.heap:=e0.mod.kin.keeps fun b o e=>(e0.bs b o e).1
 have lim:s.heap.NoLimit:=e0.mod.nolimit.keeps fun b o e=>(e0.bs b o e).1
 have hkind:∀ y∈ps.zip us,scope.names.lookup y.1=some .local\/(scope.names.lookup y.1=some .cell/\((Uef (s.heap.objs.size+1) scope.names []).lookup y.1).isSome=true):=fun⟨n,v⟩ hy=>by
  rcases S.par n (Wcp hy).1 with q | q
  ·exact .inl q
  ·exact .inr ⟨q,Wct _ _ _ (.inl q)⟩
 refine Uco hr.depth (KX _ _ lk) rfl S.co S.gen rfl (Wew KX hcd) (hb _ _ _ _ ?_)
 refine Ubq S.kind hkind fun env he s1 x=>?_
 subst he
 refine⟨lim.keeps x.toInCall.keep,codeAny_func ?_⟩
 have I:Inv (Zl8 CX0 P w K mg base N qual scope f cdv A outer s H E) [] (start N vs) H s1:=Znq S hr.hd e0 hl r x
 obtain⟨t,ht,hq⟩:=hbody A outer s H vs Q E (hr.deeper _) (fun y z e=>I.ok.cab y z rfl e) hsp
 refine Uao (ht [] s1 (start N vs) H _ (I.wish _).nofn hq) (fun fl s' hs=>?_) fun e s' hs=>hs.elim
 have fin:∀ {σ':St} {H':Hp} {v:V} {u:Vb},Inv (Zl8 CX0 P w K mg base N qual scope f cdv A outer s H E).nox.nofn [] σ' H' s'->Zcg v u->Q v H'->CE outer P w H s Q u s' :=
  fun {σ' H' v u} J rv q=>⟨v,H',J.os,J.bare,J.base,J.hok,rv,q⟩
 cases fl with
 | ret u =>
  obtain⟨v,σ',H',J,rv,q⟩:=hs
  exact fin J rv q
 | next =>
  obtain⟨σ',H',J,q⟩:=hs
  exact fin (v:=V.non) (u:=Um) J rfl q
 | brk =>
  obtain⟨_,_,_,q⟩:=hs
  exact Uj q
 | cont =>
  obtain⟨_,_,_,q⟩:=hs
  exact Uj q
end L2
namespace DL
open PySem PySem.Spec PyProof.Rows L2 PySem.W
theorem Zqu {K:Xb} {n:Str} {f c P:Ve} {oc:Vb} {od:Option Ve} {fd:Uar} {sl:Array (Option Vb)} (h:Udv K n=some (c,P)) (hn:nsIn K Vl n=some (some (.ref f))) (hl:K.lookup f=some ⟨oc,od,.func fd,sl⟩):fd.code=.ref c:=by
 unfold Udv at h
 rw[hn] at h
 simp only[hl] at h
 split at h
 ·rename_i c2 hc
  split at h
  ·split at h
   ·cases h; exact hc
   ·cases h
  ·cases h
 ·cases h
section
variable {P:Vh} {w:Vu} {K:Xb} {mg:Str->Option Vb} {base:Vz}
theorem fn_fN {x qual n:Str} {st:Uab} {f c T:Ve} {fd:Uar} {N ps:List Str} {k:Nat} {b:SF} (F:Fun K x qual st f fd) (S:FnScope N ps (Zad st)) (hn:nsIn K Vl n=some (some (.ref f))) (ht:Udv K n=some (c,T))
  (hb:∀ (A:Vt) (outer:List Env) (s:Vd) (H:Hp) (E:XK),Room k (A.deeper (Ubc qual (Zad st) s.heap.objs.size f (.ref c)))->(∀ y z,(Ubc qual (Zad st) s.heap.objs.size f (.ref c)).cells.lookup y=some z->s.heap.objs.size<=z) ->
   Zo3 (Zl8 CX0 P w K mg base N qual (Zad st) f (.ref c) A outer s H E).nox.nofn (Za6 st) b):FnOk P w K mg base CX0 (k+1) f fd ps (spF K ps.length (Za7 ps.length N.length b)):=by
 obtain⟨oc,od,kV,doc,pm,an,cdv,ct,osl,rfl,lk,hcd⟩:=F.ex
 obtain rfl:cdv=.ref c:=Zqu ht hn lk
 refine Ybr lk hcd S (fun vs H Q E h=>?_) (fun A outer s H vs Q E hr hnew h=>?_)
 ·obtain⟨ι,ds,Hd,d,Hd',hl,_,r,_⟩:=h
  rw[<- Prd.len r]; exact hl
 ·obtain⟨ι,ds,Hd,d,Hd',hl,hh,r,e,q⟩:=h
  refine⟨_,hb A outer s H E hr hnew,?_⟩
  unfold Za7 at e
  rw[if_pos hl] at e
  obtain⟨⟨fl,σ1,H1⟩,e1,e⟩:=Zo e
  refine⟨ι,_,Hd,fl,σ1,H1,?_,hh,e1,fun σ' H' ι' l h ss=>?_⟩
  ·refine⟨by simp[L2.start,Prd.len r],fun i d0 h0=>?_⟩
   unfold L2.start
   by_cases hi:i<ds.length
   ·rw[Xg (by simpa using hi),Xn] at h0
    cases ed:ds[i]? with
    | none=>rw[ed] at h0; cases h0
    | some d1 =>
     rw[ed] at h0
     cases h0
     obtain⟨v,hv,rv⟩:=Prd.get r ed
     refine⟨v,?_,rv⟩
     rw[Xg (by rw[Xu,<- Prd.len r]; exact hi),Xn,hv]
     rfl
   ·rw[Xr (by simpa using hi),Wbm] at h0
    split at h0<;>cases h0
  ·cases fl with
   | rt d1=>cases e; exact fun v rv=>q v H' ι' l h rv
   | nx=>cases e; exact q .non H' ι' l h (by simp)
   | bk=>cases e
   | ct=>cases e
end
nonrec def Ya9 (t i j:Nat) (n:String) (x:Str):SF:=fun σ H=>match σ[j]? with
 | some (some d)=>match H[t]? with
  | some (.tab n' _)=>if n'=n then some (.nx,σ.set i (some (.ref H.length)),H.set t (.tab n true)++[.clo n x d]) else none
  | _=>none
 | _=>none
section
variable {X:Cx}
theorem Zsv {n:String} {x name:Str} {params:Ueg} {body:List Uab} {scope:Ubm} {pos:Pos} {i j t:Nat} {c P cx:Ve}
  (hst:∀ st',Zix X.K n st'->st'=.FunctionDef name params body [] none [] scope none name pos)
  (hfn:∀ y,X.fn y=false) (hN:X.N.Nodup) (hj:X.N[j]? = some x) (hxc:X.env.scope.names.lookup x=some .cell) (hi:X.N[i]? = some name) (hl:X.env.scope.names.lookup name=some .local)
  (hcode:X.env.code=.ref c) (ht:Udv X.K (Ua n)=some (c,P)) (C:CodeHd X.base c P) (B:X.base.BuiltinsAt X.mg P) (hq:qualnameIn X.env name name=Ua n ++ ".<locals>." ++ name)
  (hcx:X.env.cells.lookup x=some cx) (hcl:closureFor scope X.env=pure [(x,cx)]) (hnew:X.s₀.heap.objs.size<=cx) (hd0:params.defaults=[]) (hk0:params.kw_defaults=[]) (ha:annTrees params none X.env=[]) :
  PSf X (.FunctionDef name params body [] none [] scope none name pos) (Ya9 t i j n x):=by
 rintro pins s σ H D I ⟨ι,σd,Hd,fl,σd',Hd',ss,hh,e,q⟩
 unfold Ya9 at e
 split at e
 ·rename_i d hd
  split at e
  ·rename_i n' b hb
   split at e
   ·rename_i hn'
    subst hn'
    have e':=Xw.inj e
    obtain⟨rfl,e2⟩:=Wau.inj e'
    obtain⟨rfl,rfl⟩:=Wau.inj e2
    obtain⟨H1,oc,uc,I1,e1,g1,hH⟩:=I.freeze hfn hcx hnew
    have hh1:HRep X.K H1 ι Hd/\Le X.K H ι H1 ι:=by
     rcases hH with rfl | ⟨z,rfl⟩
     ·exact⟨hh,Le.refl⟩
     ·exact⟨hh.tup z _,Le.fresh z _⟩
    obtain⟨hh1,l1⟩:=hh1
    obtain⟨v,hv,rv⟩:=ss.var j d hd
    have rv1:Rep X.K H1 ι d v:=rv.mono l1
    obtain⟨m,hns,hloc⟩:=id I1.loc
    obtain⟨u,ru,lk⟩:=hloc j x v hj hv (.inr (.inl hxc))
    have cu:oc.data=.cell (some u):=by
     rcases lk with ⟨k1,_⟩ | ⟨_,c2,k2,o2,k3,k4⟩
     ·have k1:X.env.scope.names.lookup x=some .local:=k1
      rw[hxc] at k1; cases k1
     ·rw[hcx] at k2; cases k2; rw[g1] at k3; cases k3; exact k4
    obtain⟨a,ha1,T⟩:=hh1.at hb
    obtain⟨st',c2,ps,t1,t2,t3,t4,t5,t6⟩:=T
    have est:=hst st' t1
    subst est
    rw[ht] at t2; cases t2
    have gP:s.heap.get? P=some (tabObj ps):=I1.hok P _ t3
    have GG:s.heap.Ns Vl X.mg:=I1.mod.glob.keeps I1.bk
    have CC:=C.keeps I1.bk
    have BB:s.heap.BuiltinsAt X.mg P:=by
     obtain⟨bm,ob,b1,b2,b3,b4,b5,b6⟩:=B
     exact⟨bm,ob,b1,b2,b3,b4,I1.bk _ _ b5,b6⟩
    have fin:∀ (f':Ve) (H2:Hp) (s2:Vd),Inv X pins σ H2 s2->Le X.K H1 ι H2 (ι++[f'])->HRep X.K H2 (ι++[f']) (Hd.set t (.tab n' true)++[.clo n' x d]) ->
      Vf (Vm X.prog X.w) X.A (Ued X.env name (.ref f')) (fun _ s''=>SP X pins D .next s'') X.xe s2:=fun f' H2 s2 I2 l2 h2=>by
     refine Zji I2 hN hi (.inl hl) (v:=.ref f') rfl (fun s' I3 _=>⟨_,H2,I3,q _ H2 (ι++[f']) (l1.trans l2) h2 ?_⟩) (.inr hl)
     refine(ss.mono (l1.trans l2)).set (Zaz.mpr ⟨f',rfl,?_⟩) i
     rw[<- hh.len,Xr (Xe _)]
     simp
    refine nestDef_K hd0 hk0 ha ?_
    rw[hq]
    cases b with
    | true =>
     obtain⟨c',t7,t8⟩:=t6 rfl
     refine makeFunction_hit hcl I1.ok.glob GG hcode CC gP t4 t7 BB fun ctv doc h' tk hk hsz=>?_
     have kk:∀ b o,s.heap.get? b=some o->(h'.push (fnMade name (Ua n' ++ ".<locals>." ++ name) params body scope [(x,cx)] doc ((X.mg "__name__").getD .none) c' ctv)).get? b=some o:=fun b o e=>Xa _ (hk b o e)
     have gf:(h'.push (fnMade name (Ua n' ++ ".<locals>." ++ name) params body scope [(x,cx)] doc ((X.mg "__name__").getD .none) c' ctv)).get? h'.objs.size=some _:=Xd _ rfl
     have I2:=I1.laid (o:=fzO h'.objs.size (fnMade name (Ua n' ++ ".<locals>." ++ name) params body scope [(x,cx)] doc ((X.mg "__name__").getD .none) c' ctv)) (t':=tk) kk hsz ⟨gf,gf,⟨_,gf⟩,fun h1 h2 a k=>k _ a⟩
     have hf:H1 h'.objs.size=none:=I1.hok.fresh hsz
     have lf:=Le.fresh1 (K:=X.K) (ι:=ι) hf (fzO h'.objs.size (fnMade name (Ua n' ++ ".<locals>." ++ name) params body scope [(x,cx)] doc ((X.mg "__name__").getD .none) c' ctv))
     refine fin _ _ _ I2 lf ?_
     have eset:Hd.set t (.tab n' true)=Hd:=by
      apply Wfg
      intro k
      rw[Wcx]
      split
      ·rename_i z
       subst z
       rw[hb,if_pos (Xc.mp hb).1]
      ·rfl
     rw[eset]
     refine hh1.new hf ⟨v,⟨_,name,_,doc,_,ctv,cx,c',oc,uc,u,t1,Zaq,t8.step lf.toLw,?_,cu,ru⟩,rv1.mono lf⟩
     exact lf.fr _ _ _ e1
    | false =>
     refine makeFunction_K hcl I1.ok.glob GG hcode CC gP t4 (t5 rfl) ?_ BB fun c' ctv doc h' tk hx hge hlt hrec htb=>?_
     ·intro z
      obtain⟨o,es,ep,e,hd,_⟩:=GG
      rw[z,gP] at e; cases e; cases hd
     obtain⟨c3,o3,vs3,tt,e3,ho3,hd3,hv3⟩:=hrec
     cases e3
     have nP:∀ b o,H1 b=some o->(∀ ps',o≠.tbl ps')->b≠P:=fun b o h1 h2 z=>by
      subst z; rw[t3] at h1; cases h1; exact h2 _ rfl
     have nP0:∀ b,H1 b=none->b≠P:=fun b h1 z=>by subst z; rw[t3] at h1; cases h1
     have hPs:P<s.heap.objs.size:=Xf gP
     have fc:H1 c'=none:=I1.hok.fresh hge
     have hsf:s.heap.objs.size<=h'.objs.size:=Wds (Nat.lt_of_le_of_lt hge hlt)
     have ff:H1 h'.objs.size=none:=I1.hok.fresh hsf
     have ncP:P≠c':=Xh (Xi hPs hge)
     have nfP:P≠h'.objs.size:=Xh (Xi hPs hsf)
     have ncf:c'≠h'.objs.size:=Xh hlt
     generalize hfo:fnMade name (Ua n' ++ ".<locals>." ++ name) params body scope [(x,cx)] doc ((X.mg "__name__").getD .none) c' ctv=fo
     have gf:(h'.push fo).get? h'.objs.size=some fo:=Xd _ (by rw[<- hfo]; rfl)
     have gc:(h'.push fo).get? c'=some o3:=Xa _ ho3
     have gt:(h'.push fo).get? P=some (tabObj (ps ++ #[Uaa pos.line,Uaa pos.col,.ref c'])):=Xa _ htb
     have kk:∀ b o,b≠P->s.heap.get? b=some o->(h'.push fo).get? b=some o:=fun b o hb e=>Xa _ (hx b o hb e)
     have old:∀ b u1 u2 u3,b<s.heap.objs.size->b≠P->upd (upd (upd H1 c' u1) P u2) h'.objs.size u3 b=H1 b:=fun b u1 u2 u3 h1 h2=>by
      rw[Zag (Xh (Xi h1 hsf)),Zag h2,Zag (Xh (Xi h1 hge))]
     have I2:Inv X pins σ (upd (upd (upd H1 c' (fzO c' o3)) P (.tbl (ps ++ #[Uaa pos.line,Uaa pos.col,.ref c']))) h'.objs.size (fzO h'.objs.size fo)) { s with heap:=h'.push fo,toks:=tk }:=by
      refine I1.step (g':=s.gens) (d':=s.drawn) (ch:=[]) (fun _ z=>nomatch z) (fun b o _ _ _ e n=>kk b o (nP0 b n) e) (fun b o _ _ _ e n=>⟨o.slots,kk b o (nP0 b n) e⟩) (fun b o _ e n=>?_) (fun b o _ e=>?_) (fun b xs e=>?_) (fun b o u e=>?_) (fun b ps' e=>?_) (fun m hn=>?_) (fun b o e=>?_) I1.bare
      ·rw[old b _ _ _ (Xf e) (nP0 b n)]; exact n
      ·by_cases hbP:b=P
       ·subst hbP; exact⟨_,gt⟩
       ·exact⟨o,kk b o hbP e⟩
      ·rw[old b _ _ _ (I1.hok.lt e) (nP b _ e (by simp))]; exact e
      ·rw[old b _ _ _ (I1.hok.lt e) (nP b _ e (by simp))]; exact e
      ·by_cases hbP:b=P
       ·subst hbP
        rw[t3] at e
        cases e
        exact⟨_,by rw[Zag nfP,Zaq]⟩
       ·exact⟨#[],by rw[old b _ _ _ (I1.hok.lt e) hbP,e]; simp⟩
      ·exact(hn.extBut hx (nP0 _ I1.free)).push _
      ·by_cases hbf:b=h'.objs.size
       ·subst hbf; rw[Zaq] at e; cases e; exact⟨gf,gf,⟨_,gf⟩,fun h1 h2 a k=>k _ a⟩
       ·rw[Zag hbf] at e
        by_cases hbP:b=P
        ·subst hbP; rw[Zaq] at e; cases e; exact gt
        ·rw[Zag hbP] at e
         by_cases hbc:b=c'
         ·subst hbc; rw[Zaq] at e; cases e; exact⟨gc,gc,⟨_,gc⟩,fun h1 h2 a k=>k _ a⟩
         ·rw[Zag hbc] at e
          refine(I1.hok b o e).stay (fun c v hc q=>?_) (fun c q=>?_) (fun c xs q=>?_)
          ·refine kk c v ?_ q
           rcases hc with rfl | hc
           ·exact hbP
           ·exact nP c _ hc (by simp)
          ·rw[old c _ _ _ (I1.hok.lt q) (nP c _ q (by simp))]; exact q
          ·rw[old c _ _ _ (I1.hok.lt q) (nP c _ q (by simp))]; exact q
     have mP:P∈ι:=Xl ha1
     have la:=Le.fresh (K:=X.K) (ι:=ι) fc (fzO c' o3)
     have tP:upd H1 c' (fzO c' o3) P=some (.tbl ps):=by rw[Zag ncP]; exact t3
     have lb:=Le.upd (K:=X.K) mP tP trivial (.tbl (ps ++ #[Uaa pos.line,Uaa pos.col,.ref c']))
     have fb:upd (upd H1 c' (fzO c' o3)) P (.tbl (ps ++ #[Uaa pos.line,Uaa pos.col,.ref c'])) h'.objs.size=none:=by
      rw[Zag (Ul nfP),Zag (Ul ncf)]; exact ff
     have lc:=Le.fresh1 (K:=X.K) (ι:=ι) fb (fzO h'.objs.size fo)
     have cod:Zrb (upd (upd H1 c' (fzO c' o3)) P (.tbl (ps ++ #[Uaa pos.line,Uaa pos.col,.ref c']))) c' (Ua n' ++ ".<locals>." ++ name):=⟨o3,vs3,tt,by rw[Zag (Ul ncP),Zaq],hd3,hv3⟩
     refine fin _ _ _ I2 ((la.trans lb).trans lc) ?_
     have hb2:=(hh1.tup fc (fzO c' o3)).upd (u:=.tbl (ps ++ #[Uaa pos.line,Uaa pos.col,.ref c'])) (ob:=.tab n' true) ha1 tP trivial
      ⟨_,c,_,t1,ht,Zaq,by rw[Wes]; exact TriplesOk_snoc _ _ _ _ t4,(fun z=>by cases z),fun _=>⟨c',by rw[Wes]; exact codeAmong_snoc _ t4 (t5 rfl),cod⟩⟩
     have hlen:(Hd.set t (.tab n' true)).length=Hd.length:=by simp
     refine hb2.new fb ⟨v,⟨_,name,_,doc,(X.mg "__name__").getD .none,ctv,cx,c',oc,uc,u,t1,?_,cod.step lc.toLw,?_,cu,ru⟩,(rv1.mono (la.trans lb)).mono lc⟩
     ·rw[Zaq,<- hfo]; rfl
     ·exact lc.fr _ _ _ (lb.fr _ _ _ (la.fr _ _ _ e1))
   ·cases e
  ·cases e
 ·cases e
end
structure Tabs (K:Xb) (names:List String) (tabs:List (Ve×Ve)):Prop where
 len:tabs.length=names.length
 nd:(tabs.map (·.2)).Nodup
 at':∀ (i:Nat) (n:String) (q:Ve×Ve),names[i]? = some n->tabs[i]? = some q->Udv K (Ua n)=some q/\∃ st,Zix K n st
 no:noTabs K=true
nonrec def Zeu (names:List String):HD:=names.map fun n=>DO.tab n false
theorem Zve {K:Xb} {H:Hp} {names:List String} {tabs:List (Ve×Ve)} (T:Tabs K names tabs) (h:∀ q∈tabs,H q.2=some (.tbl #[])):HRep K H (tabs.map (·.2)) (Zeu names):=by
 refine⟨by simp[Zeu,T.len],T.nd,fun i a o h1 h2=>?_⟩
 rw[Xn] at h1
 unfold Zeu at h2
 rw[Xn] at h2
 cases e1:tabs[i]? with
 | none=>rw[e1] at h1; cases h1
 | some q =>
  cases e2:names[i]? with
  | none=>rw[e2] at h2; cases h2
  | some n =>
   rw[e1] at h1
   rw[e2] at h2
   cases h1
   cases h2
   obtain⟨h3,st,h4⟩:=T.at' i n q e2 e1
   exact⟨st,q.1,#[],h4,h3,h q (Xl e1),trivial,fun _=>rfl,fun z=>by cases z⟩
def Zzd (tabs:List (Ve×Ve)) (H:Hp):Prop:=(∀ q∈tabs,H q.2=some (.tbl #[]))/\∀ b,H b=none\/(∃ o xs,H b=some (.frz o (.lst xs)))\/∃ q∈tabs,b=q.2
theorem Zst {P:Vh} {w:Vu} {K:Xb} {mg mb:Str->Option Vb} {k:Nat} {fa a:Ve} {fd:Uar} {x:Str} {sp:Sp} {s₁:Vd} {vs:List Vb} {ns:List Int} {tabs:List (Ve×Ve)}
  (KX:K.In s₁.heap) (hns:s₁.heap.Ns Vl mg) (hb:s₁.heap.Ns builtinsNs mb) (hbb:∀ x:Str,x ≠ "__name__" -> mb x=Vq x) (hlim:s₁.heap.NoLimit) (hg:s₁.gens = #[])
  (ha:s₁.heap.get? a=some { cls:=.type "list",data:=.seq vs.toArray }) (hi:Ubd vs ns) (hl:ns.length<=sizeLine) (hr:Room k Udu)
  (hT:TabsAt tabs s₁.heap) (hno:noTabs K=true) (hB:∀ q∈tabs,s₁.heap.BuiltinsAt mg q.2)
  (F:∀ base:Vz,K.In base->base.Ns Vl mg->(∀ q∈tabs,CodeHd base q.1 q.2/\base.BuiltinsAt mg q.2)->FnOk P w K mg base CX0 k fa fd [x] sp) (hbind:∀ (s:Vd) (u:Vb),BindsTo s fd ⟨[u],[]⟩ [(x,u)])
  (hsp:∀ H:Hp,Zzd tabs H->SqL K H a (ns.map V.int)->sp [.ref a] H (fun v _=>v=.bl true) fun _ _ _=>False) :
  Ucn (Vm P w) Udu (.call (.ref fa) ⟨[.ref a],[]⟩) (fun r s'=>r=.ok (.ret (.bool true))/\OldK s₁.heap s'.heap/\s'.os=s₁.os/\Ucj s'.gens) s₁:=by
 have rv:=L2.vals_ints hi
 have lenV:=hi.length
 have core:∀ H:Hp,Zzd tabs H->SqL K H a (ns.map V.int)->HOk P w H s₁.heap->(∀ b,H b≠none->b=a\/∃ q∈tabs,b=q.2)->(H a≠none->K.lookup a=none) ->
   Ucn (Vm P w) Udu (.call (.ref fa) ⟨[.ref a],[]⟩) (fun r s'=>r=.ok (.ret (.bool true))/\OldK s₁.heap s'.heap/\s'.os=s₁.os/\Ucj s'.gens) s₁:=by
  intro H hO hS hok hA hK
  have base_of:∀ {b:Ve} {o:Obj},s₁.heap.get? b=some o->H b=none->(Ztf s₁.heap H).get? b=some o:=fun e n=>Zxb e n
  have noH:∀ {b:Ve} {o:Obj},s₁.heap.get? b=some o->(∀ i m,o.data≠.seq i m)->(o.cls=.none->∀ fs,o.data≠.fields fs)->H b=none:=fun {b o} e d1 d2=>by
   cases q:H b with
   | none=>rfl
   | some u =>
    rcases hA b (by rw[q]; simp) with e' | ⟨t,ht,e'⟩
    ·subst e'
     rw[ha] at e; cases e
     exact absurd rfl (d1 _ _)
    ·subst e'
     rw[(hT t ht).2] at e; cases e
     exact absurd rfl (d2 rfl _)
  have nsK:∀ {b:Ve} {m:Str->Option Vb},s₁.heap.Ns b m->(Ztf s₁.heap H).Ns b m:=fun {b m} ⟨o,es,ep,e,d,r⟩=>⟨o,es,ep,base_of e (noH e (fun i m z=>by rw[d] at z; cases z) (fun _ fs z=>by rw[d] at z; cases z)),d,r⟩
  have hKb:K.In (Ztf s₁.heap H):=fun b o e=>base_of (KX b o e) (by
   cases q:H b with
   | none=>rfl
   | some u =>
    rcases hA b (by rw[q]; simp) with e' | ⟨t,ht,e'⟩
    ·subst e'
     rw[hK (by rw[q]; simp)] at e; cases e
    ·subst e'
     have e3:=KX _ _ e
     rw[(hT t ht).2] at e3
     cases e3
     have h2:=Xv.mp hno _ (mem_of_lookupK e)
     exact absurd (show false=true from h2) Waz)
  have hM:Mod K mg (Ztf s₁.heap H):=⟨hKb,nsK hns,⟨mb,nsK hb,hbb⟩,let ⟨mc,h1,h2⟩:=hlim; ⟨mc,nsK h1,h2⟩⟩
  have hC:∀ q∈tabs,CodeHd (Ztf s₁.heap H) q.1 q.2/\(Ztf s₁.heap H).BuiltinsAt mg q.2:=fun q hq=>by
   refine⟨?_,?_⟩
   ·obtain⟨o,vs,file,tf,flags,tg,inF,text,tt,e,c1,c2,r⟩:=(hT q hq).1
    refine⟨o,vs,file,tf,flags,tg,inF,text,tt,base_of e (noH e (fun i m z=>by rw[c2] at z; cases z) (fun z=>by rw[c1] at z; cases z)),c1,c2,r⟩
   ·obtain⟨bm,ob,b1,b2,b3,b4,b5,b6,b7,b8⟩:=hB q hq
    exact⟨bm,ob,b1,b2,b3,b4,base_of b5 (noH b5 (fun i m z=>by rw[b8] at z; cases z) (fun z=>by rw[b6] at z; cases z)),b6,b7,b8⟩
  have e0:Env0 P w K mg (Ztf s₁.heap H) Udu [] s₁ H:=⟨rfl,hM,fun b o e=>Yai e,Nat.le_of_eq (Zt3 _ _),trivial,fun b hb=>absurd (show b∈([]:List Ve) from hb) (by simp),hok,.of_eq hg⟩
  refine Uax ((F _ hKb (nsK hns) hC).run Udu [] s₁ H ⟨[.ref a],[]⟩ [.ref a] [.ref a] _ _ hr e0 (hbind s₁ (.ref a)) (.cons rfl .nil) (hsp H hO hS)) fun r s' h=>?_
  cases r with
  | error e=>exact(show False from h).elim
  | ok fl =>
   cases fl with
   | next=>exact Uj h
   | brk=>exact Uj h
   | cont=>exact Uj h
   | ret u =>
    obtain⟨v,H',os,bare,un,hok',r',q⟩:=h
    have q':v=.bl true:=q
    subst q'
    obtain rfl:u=Tca true:=r'
    have all:∀ b o,s₁.heap.get? b=some o->s'.heap.get? b=some o\/∃ t∈tabs,b=t.2/\o=tabObj #[]/\∃ ps,s'.heap.get? b=some (tabObj ps):=fun b o e=>by
     cases q:H b with
     | none=>exact .inl (un.keep b o e q (by intro z; exact absurd (show b∈([]:List Ve) from z) (by simp)) (by simp))
     | some u =>
      rcases hO.2 b with z | ⟨ob,xs,z⟩ | ⟨t,ht,z⟩
      ·rw[q] at z; cases z
      ·have z2:=un.frzs b ob _ z
       obtain⟨e1,_⟩:=hok b _ z
       obtain⟨e2,_⟩:=hok' b _ z2
       rw[e] at e1; cases e1
       exact .inl e2
      ·subst z
       obtain⟨m,e1⟩:=un.tbls _ _ (hO.1 t ht)
       rw[(hT t ht).2] at e
       exact .inr ⟨t,ht,rfl,(Xw.inj e).symm,_,hok' _ _ e1⟩
    refine⟨rfl,⟨fun b o e=>?_,fun b o e=>?_⟩,os,bare⟩
    ·rcases all b o e with z | ⟨t,ht,rfl,rfl,ps,z⟩
     ·exact .inl z
     ·exact .inr (.inl ⟨((hT t ht).1.tab (hT t ht).2).isCodeTable,rfl,#[],ps,rfl,by rw[Wey]; exact z⟩)
    ·rcases all b o e with z | ⟨t,ht,_,_,ps,z⟩
     ·exact⟨_,z⟩
     ·exact⟨_,z⟩
 have naT:∀ q∈tabs,q.2≠a:=fun q hq z=>by
  have e:=(hT q hq).2
  rw[z,ha] at e; cases e
 have tabOk:∀ (H:Hp) (q:Ve×Ve),q∈tabs->Zc5 P w H s₁.heap q.2 (.tbl #[]):=fun H q hq=>(hT q hq).2
 open Classical in
 cases hk:K.lookup a with
 | some o =>
  have e:=KX a o hk
  rw[ha] at e
  cases e
  refine core (fun b=>if ∃ q∈tabs,b=q.2 then some (.tbl #[]) else none) ⟨fun q hq=>if_pos ⟨q,hq,rfl⟩,fun b=>?_⟩ (.inr ⟨_,vs.toArray,_,hk,rfl,rfl,rfl,by rw[Xm,lenV]; exact hl,by simpa using rv⟩) (fun b u z=>?_) (fun b z=>?_) fun z=>?_
  ·by_cases hb:∃ q∈tabs,b=q.2
   ·exact .inr (.inr hb)
   ·exact .inl (if_neg hb)
  ·by_cases hb:∃ q∈tabs,b=q.2
   ·have z':=(if_pos hb).symm.trans z
    cases z'
    obtain⟨q,hq,rfl⟩:=hb
    exact tabOk _ q hq
   ·have z':=(if_neg hb).symm.trans z
    cases z'
  ·by_cases hb:∃ q∈tabs,b=q.2
   ·exact .inr hb
   ·exact absurd (if_neg hb) z
  ·have:¬ ∃ q∈tabs,a=q.2:=fun⟨q,hq,z⟩=>naT q hq z.symm
   exact absurd (if_neg this) z
 | none =>
  refine core (fun b=>if b=a then some (.frz { cls:=.type "list",data:=.seq vs.toArray } (.lst (ns.map V.int))) else if ∃ q∈tabs,b=q.2 then some (.tbl #[]) else none) ⟨fun q hq=>?_,fun b=>?_⟩ (.inl (.inr ⟨{ cls:=.type "list",data:=.seq vs.toArray },if_pos rfl⟩)) (fun b u z=>?_) (fun b z=>?_) fun _=>hk
  ·exact(if_neg (naT q hq)).trans (if_pos ⟨q,hq,rfl⟩)
  ·by_cases hb:b=a
   ·exact .inr (.inl ⟨_,_,if_pos hb⟩)
   ·by_cases hb2:∃ q∈tabs,b=q.2
    ·exact .inr (.inr hb2)
    ·exact .inl ((if_neg hb).trans (if_neg hb2))
  ·by_cases hb:b=a
   ·have z':=(if_pos hb).symm.trans z
    cases z'
    subst hb
    exact⟨ha,by rw[Xu]; exact hl,vs,_,rv,ha⟩
   ·by_cases hb2:∃ q∈tabs,b=q.2
    ·have z':=((if_neg hb).trans (if_pos hb2)).symm.trans z
     cases z'
     obtain⟨q,hq,rfl⟩:=hb2
     exact tabOk _ q hq
    ·have z':=((if_neg hb).trans (if_neg hb2)).symm.trans z
     cases z'
  ·by_cases hb:b=a
   ·exact .inl hb
   ·by_cases hb2:∃ q∈tabs,b=q.2
    ·exact .inr hb2
    ·exact absurd ((if_neg hb).trans (if_neg hb2)) z
theorem Zrw {F:FF} {names:List String} (h:∀ ns:List Int,ns.length<=63->∃ Hd',F [.fl (ns.map .int)] (Zeu names)=some (.bl true,Hd')) {K:Xb} {tabs:List (Ve×Ve)} (T:Tabs K names tabs) :
  ∀ (H:Hp) (a:Ve) (ns:List Int),ns.length<=63->Zzd tabs H->SqL K H a (ns.map V.int)->Yd0 F K [.ref a] H (fun v _=>v=.bl true) fun _ _ _=>False:=by
 intro H a ns hl hO hS
 obtain⟨Hd',e⟩:=h ns hl
 have fz:FzL K H a (ns.map V.int):=by
  rcases hS with (h | h) | h
  ·rcases hO.2 a with z | ⟨o,xs,z⟩ | ⟨q,hq,z⟩
   ·rw[h] at z; cases z
   ·rw[h] at z; cases z
   ·subst z; rw[hO.1 q hq] at h; cases h
  ·exact .inl h
  ·exact .inr h
 have P:Vj (Rep K H (tabs.map (·.2))) (ns.map D.int) (ns.map V.int):=by
  generalize ns=ks
  induction ks with
  | nil=>exact .nil
  | cons k ks ih=>exact .cons (by simp) ih
 exact⟨tabs.map (·.2),[.fl (ns.map .int)],Zeu names,.bl true,Hd',rfl,Zve T hO.1,.cons (Zg0.mpr ⟨a,_,rfl,fz,P⟩) .nil,e,fun v H' ι' l h r=>by simpa using r⟩
def Zmw (K:Xb) (mg:Str->Option Vb) (base:Vz) (n:String):Prop:=∃ c P,Udv K (Ua n)=some (c,P)/\CodeHd base c P/\base.BuiltinsAt mg P
theorem Zv3 {l:Tcn} {k:Nat} {q:Vh} {loose:List Str} {XP:(Str->Option Vb)->Vz->Prop} {YP:Vu->Vz->Prop} {d:DefRec} {K:Params->Xb} {G:FF} {x:Str} {names:List String}
  (hn:l.most=some 63) (hdf:d.params.defaults=[]) (hr:Room k Udu)
  (hY:∀ (w:Vu) (h:Vz),YP w h->(K w.params).In h) (hrec:∀ n∈names,((recsOf q).find? (fun e=>e.name==Ua n)).isSome=true)
  (hTb:∀ (w:Vu) (mg:Str->Option Vb) (h:Vz),(K w.params).In h->h.Ns Vl mg->∃ tabs,Tabs (K w.params) names tabs)
  (F:∀ (w:Vu) (mg:Str->Option Vb) (fa:Ve) (h:Vz),(K w.params).In h->h.Ns Vl mg->mg d.name=some (.ref fa) ->
   ∃ fd:Uar,(∀ (s:Vd) (u:Vb),BindsTo s fd ⟨[u],[]⟩ [(x,u)]) /\
    ∀ base:Vz,(K w.params).In base->base.Ns Vl mg->(∀ n∈names,Zmw (K w.params) mg base n)->FnOk l.prog w (K w.params) mg base CX0 k fa fd [x] (Yd0 G (K w.params)))
  (hG:∀ ns:List Int,ns.length<=63->∃ Hd',G [.fl (ns.map .int)] (Zeu names)=some (.bl true,Hd')) :
  Wfy q loose XP YP l.row.toRowW d [] (fun f vs=>Tcs f vs):=by
 refine Att.attach_call hn hdf fun w s₀ s₁ mg mb fa o pm cd doc a vs ns G' Y ho hd hcd hmg hobj hints hlen hg=>?_
 have KX:=hY w _ Y
 obtain⟨tabs,T⟩:=hTb w mg _ KX G'.T.g
 obtain⟨fd,hb,hF⟩:=F w mg fa _ KX G'.T.g hmg
 have name_of:∀ t∈tabs,∃ n∈names,Udv (K w.params) (Ua n)=some t:=fun t ht=>by
  obtain⟨i,hi⟩:=Wbq.mp ht
  have hl:i<names.length:=by rw[<- T.len]; exact(Xc.mp hi).1
  exact⟨names[i],Wab hl,(T.at' i _ t (Xk hl) hi).1⟩
 have tab_of':∀ n∈names,∃ t∈tabs,Udv (K w.params) (Ua n)=some t:=fun n hn=>by
  obtain⟨i,hi⟩:=Wbq.mp hn
  have hl:i<tabs.length:=by rw[T.len]; exact(Xc.mp hi).1
  exact⟨tabs[i],Wab hl,(T.at' i n _ hi (Xk hl)).1⟩
 have hT:TabsAt tabs s₁.heap:=fun t ht=>by
  obtain⟨n,hn,e⟩:=name_of t ht
  obtain⟨dr,hdr⟩:=Wai.mp (hrec n hn)
  exact tab_of G'.T KX hdr e
 have hB:∀ t∈tabs,s₁.heap.BuiltinsAt mg t.2:=fun t ht=>by
  obtain⟨bm,ob,b1,b2,b3,b4,b5,b6⟩:=G'.T.bmain
  refine⟨bm,ob,b1,b2,fun z=>?_,fun z=>?_,b3,b4,b5,b6⟩
  ·obtain⟨o,es,ep,e,hd,_⟩:=G'.T.g
   rw[z,e] at b3; cases b3; rw[hd] at b6; cases b6
  ·rw[z,(hT t ht).2] at b3; cases b3; cases b4
 exact Zst KX G'.T.g G'.T.b G'.T.builtins G'.T.nolimit hg hobj hints (Wac hlen (by decide)) hr hT T.no hB
  (fun base h1 h2 h3=>hF base h1 h2 fun n hn=>by
   obtain⟨t,ht,e⟩:=tab_of' n hn
   exact⟨t.1,t.2,e,h3 t ht⟩) hb (fun H hO hS=>Zrw hG T H a ns hlen hO hS)
theorem us6 {us:List Vb} (h:us.length=6):∃ a b c d e f,us=[a,b,c,d,e,f]:=by
 obtain⟨a,t,rfl⟩:=Wae h
 obtain⟨b,c,d,e,f,rfl⟩:=us5 (us:=t) (by simpa using h)
 exact⟨a,b,c,d,e,f,rfl⟩
def Tn (K:Xb) (mg:Str->Option Vb) (n:String) (st:Uab):Prop :=
 ∃ f fd c P,Fun K (Ua n) (Ua n) st f fd/\mg (Ua n)=some (.ref f)/\nsIn K Vl (Ua n)=some (some (.ref f))/\Udv K (Ua n)=some (c,P)
theorem Ybf {K:Xb} {n:Str} {f c P:Ve} {oc oc2:Vb} {od od2:Option Ve} {fd:Uar} {sl sl2:Array (Option Vb)} {vs:Array Vb} (a:nsIn K Vl n=some (some (.ref f))) (l:K.lookup f=some ⟨oc,od,.func fd,sl⟩) (e:fd.code=.ref c)
  (m:K.lookup c=some ⟨oc2,od2,.fields vs,sl2⟩) (v:vs[11]? = some (.ref P)):Udv K n=some (c,P):=by
 unfold Udv
 rw[a]
 simp only[l,e,m,v]
theorem Yc0 {K:Xb} {h:Vz} {mg:Str->Option Vb} {n:String} {st:Uab} {f c P:Ve} {oc oc2:Vb} {od od2 an:Option Ve} {osl sl2:Array (Option Vb)} {kV doc pm ct:Vb} {vs:Array Vb} (X:K.In h) (G:h.Ns Vl mg)
  (a:nsIn K Vl (Ua n)=some (some (.ref f))) (l:K.lookup f=some ⟨oc,od,.func (Wav (Ua n) (Ua n) (Zcn st) (Za6 st) (Zad st) .none kV doc pm an (.ref c) ct),osl⟩)
  (cc:Wcj K (.ref c) (Ua n)=true) (k:Wcc K (.ref f)=true) (m:K.lookup c=some ⟨oc2,od2,.fields vs,sl2⟩) (v:vs[11]? = some (.ref P)):Tn K mg n st:=⟨f,_,c,P,Zx6 l cc k,Wex X G a,a,Ybf a l rfl m v⟩
section
variable {P:Vh} {w:Vu} {K:Xb} {mg:Str->Option Vb} {base:Vz} {n:String} {st:Uab}
theorem Tn.first (T:Tn K mg n st) {s2:Uab} {r:List Uab} (h:Za6 st=s2::r):∀ st',Zix K n st'->st'=s2:=by
 rintro st' ⟨f0,o0,fd0,rest,h1,h2,h3,h4⟩
 obtain⟨f,fd,c,T',F,m,a,t⟩:=T
 obtain⟨oc,od,kV,doc,pm,an,cdv,ct,osl,rfl,lk,hcd⟩:=F.ex
 rw[a] at h1
 cases h1
 rw[lk] at h2
 cases h2
 cases h3
 have h5:Tcr (Za6 st)=.stmts (st'::rest):=h4
 injection h5 with h6
 rw[h] at h6
 exact(Wbo.inj h6).1.symm
theorem Tn.nest (T:Tn K mg n st) {s2:Uab} {r:List Uab} (h:Za6 st=s2::r):∃ st',Zix K n st':=by
 obtain⟨f,fd,c,T',F,m,a,t⟩:=T
 obtain⟨oc,od,kV,doc,pm,an,cdv,ct,osl,rfl,lk,hcd⟩:=F.ex
 exact⟨s2,f,_,_,r,a,lk,rfl,by show Tcr (Za6 st)=_; rw[h]⟩
theorem Zyb {N ps:List Str} {k:Nat} {b:SF} (T:Tn K mg n st) (B:Zmw K mg base n) (S:FnScope N ps (Zad st))
  (hbd:∀ (kV doc pm:Vb) (an:Option Ve) (cdv ct:Vb) (us:List Vb),us.length=ps.length->Uby (Wav (Ua n) (Ua n) (Zcn st) (Za6 st) (Zad st) .none kV doc pm an cdv ct) ⟨us,[]⟩=pure (ps.zip us))
  (hb:∀ (f c T:Ve) (A:Vt) (outer:List Env) (s:Vd) (H:Hp) (E:XK),Udv K (Ua n)=some (c,T)->CodeHd base c T->base.BuiltinsAt mg T->Room k (A.deeper (Ubc (Ua n) (Zad st) s.heap.objs.size f (.ref c))) ->
   (∀ y z,(Ubc (Ua n) (Zad st) s.heap.objs.size f (.ref c)).cells.lookup y=some z->s.heap.objs.size<=z) ->
   Zo3 (Zl8 CX0 P w K mg base N (Ua n) (Zad st) f (.ref c) A outer s H E).nox.nofn (Za6 st) b):Fn P w K mg base (k+1) (Ua n) ps (Za7 ps.length N.length b):=by
 obtain⟨f,fd,c,T',F,m,a,t⟩:=T
 obtain⟨c2,P2,t2,C,BB⟩:=B
 rw[t] at t2
 cases t2
 refine⟨f,fd,fn_fN F S a t fun A outer s H E hr hnew=>hb f c T' A outer s H E t C BB hr hnew,F.binds hbd,F.kp,m,?_⟩
 obtain⟨oc,od,kV,doc,pm,an,cdv,ct,osl,rfl,lk,hcd⟩:=F.ex
 exact⟨oc,od,osl,lk⟩
end
nonrec def Znv (K:Xb) (n m:String):Bool:=match Udv K (Ua n),Udv K (Ua m) with
 | some p,some q=>decide (p.2≠q.2)
 | _,_=>false
theorem Zwc {K:Xb} {mg:Str->Option Vb} {n m:String} {st s2 st' s2':Uab} {r r':List Uab} (T:Tn K mg n st) (hb:Za6 st=s2::r) (T':Tn K mg m st') (hb':Za6 st'=s2'::r') (hd:Znv K n m=true) (hn:noTabs K=true):∃ tabs,Tabs K [n,m] tabs:=by
 obtain⟨f,fd,c,P,F,mm,a,h⟩:=id T
 obtain⟨f',fd',c',P',F',mm',a',h'⟩:=id T'
 have ne:P≠P':=by
  unfold Znv at hd
  rw[h,h'] at hd
  exact of_decide_eq_true hd
 refine⟨[(c,P),(c',P')],rfl,by simp[ne],fun i n' q h1 h2=>?_,hn⟩
 match i with
 | 0=>simp at h1 h2; subst h1 h2; exact⟨h,T.nest hb⟩
 | 1=>simp at h1 h2; subst h1 h2; exact⟨h',T'.nest hb'⟩
 | i+2=>simp at h1
end DL
namespace DL
open PySem L2
theorem Zgi {n:Nat} (h:n<=1000000):n<=sizeLine:=by rw[Uw]; omega
theorem Zg1 {xs:List D} {i:Int} {d:D} (h0:0<=i) (h:xs[i.toNat]? = some d):atI xs i=some d:=by
 have:i=(i.toNat:Int):=by omega
 rw[this]; exact Zb1 h
end DL
namespace LH
open PySem L2 DL
structure ExtS (S:List Nat) (H H':HD):Prop where
 old:∀ m o,m∉S->H[m]? = some o->H'[m]? = some o
 len:H.length<=H'.length
theorem ExtS.trans {S:List Nat} {H H1 H2:HD} (a:ExtS S H H1) (b:ExtS S H1 H2):ExtS S H H2:=⟨fun m o h q=>b.old m o h (a.old m o h q),Wac a.len b.len⟩
theorem ExtS.refl {S:List Nat} {H:HD}:ExtS S H H:=⟨fun _ _ _ q=>q,Xe _⟩
nonrec def Zar (l:Int):Int:=if l<0 then -l else l
nonrec def Up (m:Int):Int->List Int->Prop
 | _,[]=>True
 | last,l::r=>last<Zar l/\Zar l<=m/\Up m (Zar l) r
theorem Ybc {m:Int}:∀ (ls:List Int) (last:Int),(ls.map Zar).Pairwise (· < ·)->(∀ x∈ls.map Zar,last<x/\x<=m)->Up m last ls
 | [],_,_,_=>trivial
 | l::r,last,p,h=>by
  rw[Xo,Wdt] at p
  have h1:=h (Zar l) (by simp)
  exact⟨h1.1,h1.2,Ybc r (Zar l) p.2 fun x hx=>⟨p.1 x hx,(h x (by rw[Xo]; exact Waj _ hx)).2⟩⟩
theorem Zce {f g:SF} {σ σ1:SD} {H H1:HD} (h:f σ H=some (.nx,σ1,H1)):Zaf f g σ H=g σ1 H1:=by
 unfold Zaf
 rw[h]
 rfl
theorem Zks {f g:SF} {σ σ1:SD} {H H1:HD} {d:D} (h:f σ H=some (.rt d,σ1,H1)):Zaf f g σ H=some (.rt d,σ1,H1):=by
 unfold Zaf
 rw[h]
 rfl
theorem Zmo {i:Nat} {f:EF} {σ:SD} {H H1:HD} {d:D} (h:f σ H=some (d,H1)):Zbl i f σ H=some (.nx,σ.set i (some d),H1):=by
 unfold Zbl
 rw[h]
 rfl
def Zcr (d:D):Prop:=d=.str "all" \/ d=.str "some"
theorem Zho {H:HD}:Zcd [] H:=by intro x hx; simp at hx
theorem Zuq (H:HD) (n:Nat) (i:Int):toP H n (.int i)=some (.int i):=by cases n<;>rw[toP]
theorem Ybw (H:HD) (n:Nat) (b:Bool):toP H n (.bl b)=some (.bool b):=by cases n<;>rw[toP]
theorem Zto (H:HD) (i:Int):dat (.int i) H=some (.int i):=by
 simp[dat,Zuq,okP,Tac,Tan]
theorem Zso (i j:Int) (H:HD):eqD (.int i) (.int j) H=some (.bl (i==j),H):=by
 simp[eqD,Zrd,Zto,Uc]
theorem Ydf (i j:Int) (H:HD):neD (.int i) (.int j) H=some (.bl (!(i==j)),H):=by
 simp[neD,Zrd,Zto,Uc]
theorem Zk2 (H:HD) (n:Nat) (x:Str):toP H n (.str x)=some (.str x):=by cases n<;>rw[toP]
theorem Zq2 {x:Str} (h:(x.cps.toList.all fun c=>decide (c<0x110000))=true):Tcl x=true:=by
 unfold Tcl
 rw[<- Array.all_toList]
 exact h
theorem Zyl (xs:List D) (k:Nat):Zn5 xs (some (k:Int)) none=xs.drop k:=by
 unfold Zn5
 have h1:HT.sIx xs.length 0 (some (k:Int))=min k xs.length:=by
  show (if (k:Int)<0 then ((k:Int)+(xs.length:Int)).toNat else min (k:Int).toNat xs.length)=min k xs.length
  rw[if_neg (by omega),Wal]
 have h2:HT.sIx xs.length xs.length none=xs.length:=rfl
 rw[h1,h2]
 by_cases h:k<=xs.length
 ·rw[Nat.min_eq_left h]
  exact List.take_of_length_le (by simp)
 ·rw[Nat.min_eq_right (by omega),Wef (Xe _),Wef (by omega)]
  simp
theorem Ycp (xs:List D) (k:Nat):Zn5 xs none (some (k:Int))=xs.take k:=by
 unfold Zn5
 have h1:HT.sIx xs.length 0 none=0:=rfl
 have h2:HT.sIx xs.length xs.length (some (k:Int))=min k xs.length:=by
  show (if (k:Int)<0 then ((k:Int)+(xs.length:Int)).toNat else min (k:Int).toNat xs.length)=min k xs.length
  rw[if_neg (by omega),Wal]
 rw[h1,h2]
 simp
theorem ac {f:EF} {g:AF} {σ:SD} {H H1 H2:HD} {d:D} {ds:List D} (h1:f σ H=some (d,H1)) (h2:g σ H1=some (ds,H2)):Zab f g σ H=some (d::ds,H2):=by
 unfold Zab; rw[h1]; simp only[Zb]; rw[h2]; rfl
theorem an {σ:SD} {H:HD}:Zah σ H=some ([],H):=rfl
theorem cb {g:FF} {f:AF} {σ:SD} {H H1:HD} {ds:List D} {r:Option (D×HD)} (h1:f σ H=some (ds,H1)) (h2:g ds H1=r):eCB g f σ H=r:=by
 unfold eCB; rw[h1]; exact h2
theorem tu {n:Nat} {xs:List D} {H:HD} (h:H[n]? = some (.lst xs)):Zfi [.ref n] H=some (.tup xs,H):=by
 simp[Zfi,Zmf,h]
theorem tp {f:AF} {σ:SD} {H H1:HD} {ds:List D} (h1:f σ H=some (ds,H1)) (h2:ds.length<=1000000):Zef f σ H=some (.tup ds,H1):=by
 unfold Zef; rw[h1]; exact if_pos (Zgi h2)
theorem ls {f:AF} {σ:SD} {H H1:HD} {ds:List D} (h1:f σ H=some (ds,H1)) (h2:ds.length<=1000000):Zfw f σ H=some (.ref H1.length,H1++[.lst ds]):=by
 unfold Zfw; rw[h1]; exact if_pos (Zgi h2)
theorem ca {n:Nat} {F:FF} {f:AF} {σ:SD} {H H1:HD} {ds:List D} {r:Option (D×HD)} (h1:f σ H=some (ds,H1)) (hl:ds.length=n) (h2:F ds H1=r):Zak n F f σ H=r:=by
 unfold Zak; rw[h1]; simp only[Zb]; rw[if_pos hl]; exact h2
theorem rt {f:EF} {σ:SD} {H H1:HD} {d:D} (h:f σ H=some (d,H1)):Zbi f σ H=some (.rt d,σ,H1):=by
 unfold Zbi; rw[h]; rfl
theorem op {g:F2} {fa fb:EF} {σ:SD} {H H1 H2:HD} {d1 d2:D} {r:Option (D×HD)} (h1:fa σ H=some (d1,H1)) (h2:fb σ H1=some (d2,H2)) (h3:g d1 d2 H2=r):eOp g fa fb σ H=r:=by
 unfold eOp; rw[h1]; simp only[Zb]; rw[h2]; exact h3
theorem Zmy {t:TF} {f g:SF} {σ:SD} {H H1:HD} {b:Bool} (h:t σ H=some (b,H1)):sIf t f g σ H=if b=true then f σ H1 else g σ H1:=by
 unfold sIf; rw[h]; rfl
theorem tof {f:EF} {σ:SD} {H H1:HD} {b:Bool} (h:f σ H=some (.bl b,H1)):tOf f σ H=some (b,H1):=by
 unfold tOf; rw[h]; rfl
theorem lenT (xs:List D) (H:HD):Zev [.tup xs] H=some (.int xs.length,H):=by simp[Zev,Zmf]
theorem lenB (bs:List Bool) (H:HD):Zev [.tup (bs.map .bl)] H=some (.int bs.length,H):=by simp[Zev,Zmf]
theorem ixT {xs:List D} {i:Int} {d:D} {H:HD} (h:atI xs i=some d):ixD (.tup xs) (.int i) H=some (d,H):=by simp[ixD,Zmf,h]
theorem skip {t:TF} {f g:SF} {σ:SD} {H H1:HD} (h:t σ H=some (false,H1)):Zaf (sIf t f Zao) g σ H=g σ H1:=by
 refine Zce ?_
 rw[Zmy h]
 rfl
theorem hit {t:TF} {f f2 g:SF} {σ σ1:SD} {H H1 H2:HD} {d:D} (h:t σ H=some (true,H1)) (h2:f σ H1=some (.rt d,σ1,H2)):Zaf (sIf t (Zaf f Zao) f2) g σ H=some (.rt d,σ1,H2):=by
 refine Zks ?_
 rw[Zmy h]
 exact Zks h2
theorem vr {i:Nat} {σ:SD} {H:HD} {d:D} (h:σ[i]? = some (some d)):Zac i σ H=some (d,H):=by simp[Zac,h]
theorem sl {fe:EF} {fl fh:OF} {σ:SD} {H H1 H2 H3:HD} {d:D} {l h:Option Int} {r:Option (D×HD)} (h1:fe σ H=some (d,H1)) (h2:fl σ H1=some (l,H2)) (h3:fh σ H2=some (h,H3)) (h4:slD d l h H3=r):eSl fe fl fh σ H=r:=by
 unfold eSl; rw[h1]; simp only[Zb]; rw[h2]; simp only[Zb]; rw[h3]; exact h4
theorem os {f:EF} {σ:SD} {H H1:HD} {i:Int} (h:f σ H=some (.int i,H1)):Zio f σ H=some (some i,H1):=by
 unfold Zio; rw[h]; rfl
theorem on {σ:SD} {H:HD}:Zj4 σ H=some (none,H):=rfl
theorem slhi {xs:List D} {k:Nat} {H:HD}:slD (.tup xs) none (some (k:Int)) H=some (.tup (xs.take k),H):=by
 rw[<- Ycp]; rfl
theorem sllo {xs:List D} {k:Nat} {H:HD}:slD (.tup xs) (some (k:Int)) none H=some (.tup (xs.drop k),H):=by
 rw[<- Zyl]; rfl
theorem adT {xs ys:List D} {H:HD} (h:xs.length+ys.length<=1000000):Zcu (.tup xs) (.tup ys) H=some (.tup (xs++ys),H) :=
 if_pos (Zgi (by rw[Xp]; exact h))
theorem adI (i j:Int) (H:HD):Zcu (.int i) (.int j) H=some (.int (i+j),H):=rfl
theorem suI (i j:Int) (H:HD):Zn4 (.int i) (.int j) H=some (.int (i - j),H):=by simp[Zn4,iiD,CT]
theorem ExtS.app {S:List Nat} {H:HD} (L:HD):ExtS S H (H++L):=⟨fun m o _ q=>by
 have:m<H.length:=(Xc.mp q).1
 rw[Xg this]; exact q,by simp⟩
nonrec def Zay (ls:List Int):D:=.tup (ls.map .int)
theorem orF {t u:TF} {σ:SD} {H H1:HD} (h:t σ H=some (false,H1)):Zqk t u σ H=u σ H1:=by unfold Zqk; rw[h]; rfl
theorem orT {t u:TF} {σ:SD} {H H1:HD} (h:t σ H=some (true,H1)):Zqk t u σ H=some (true,H1):=by unfold Zqk; rw[h]; rfl
theorem anF {t u:TF} {σ:SD} {H H1:HD} (h:t σ H=some (false,H1)):tAn t u σ H=some (false,H1):=by unfold tAn; rw[h]; rfl
theorem anT {t u:TF} {σ:SD} {H H1:HD} (h:t σ H=some (true,H1)):tAn t u σ H=u σ H1:=by unfold tAn; rw[h]; rfl
theorem Zxs {H:HD} {p:Nat} {bs:List Bool} (h:H[p]? = some (.lst (bs.map .bl))):Zyg [.ref p] H=some (.bl (bs.all id),H):=by
 simp[Zyg,h,Zpz]
end LH
namespace WP
open PySem L2 DL LH
def wE (r:Option (D×HD)) (Q:D->HD->Prop):Prop:=∃ d H,r=some (d,H)/\Q d H
def wT (r:Option (Bool×HD)) (Q:Bool->HD->Prop):Prop:=∃ d H,r=some (d,H)/\Q d H
def wA (r:Option (List D×HD)) (Q:List D->HD->Prop):Prop:=∃ d H,r=some (d,H)/\Q d H
def wO (r:Option (Option Int×HD)) (Q:Option Int->HD->Prop):Prop:=∃ d H,r=some (d,H)/\Q d H
def wI (r:Option ((List D×Zg4)×HD)) (Q:List D->Zg4->HD->Prop):Prop:=∃ d o H,r=some ((d,o),H)/\Q d o H
def wG (r:Option (SD×HD)) (Q:SD->HD->Prop):Prop:=∃ d H,r=some (d,H)/\Q d H
def wH (r:Option HD) (Q:HD->Prop):Prop:=∃ H,r=some H/\Q H
def wS (r:Option (FD×SD×HD)) (Q:FD->SD->HD->Prop):Prop:=∃ x d H,r=some (x,d,H)/\Q x d H
def wN (n:Nat) (F:FF) (ds:List D) (H:HD) (Q:D->HD->Prop):Prop:=ds.length=n/\wE (F ds H) Q
def br (b:Bool) (P Q:Prop):Prop:=(b=true->P)/\(b=false->Q)
nonrec def Yd6 (k:SD->HD->Prop) (Q:FD->SD->HD->Prop):FD->SD->HD->Prop
 | .nx,σ,H=>k σ H
 | r,σ,H=>Q r σ H
nonrec def fin (Q:D->HD->Prop):FD->SD->HD->Prop
 | .rt d,_,H=>Q d H
 | .nx,_,H=>Q .non H
 | _,_,_=>False
section
variable {σ:SD} {H:HD} {Q:D->HD->Prop}
theorem wS_of {Q:FD->SD->HD->Prop} {r:Option (FD×SD×HD)} {x:FD} {d:SD} {H:HD} (e:r=some (x,d,H)) (q:Q x d H):wS r Q:=⟨x,d,H,e,q⟩
theorem w_var {i:Nat} {d:D} (h:(σ[i]?).join=some d) (q:Q d H):wE (Zac i σ H) Q:=⟨d,H,by unfold Zac; rw[h]; rfl,q⟩
theorem w_c {d:D} (q:Q d H):wE (eC d σ H) Q:=⟨d,H,rfl,q⟩
theorem w_op {g:F2} {fa fb:EF} (h:wE (fa σ H) fun x H1=>wE (fb σ H1) fun y H2=>wE (g x y H2) Q):wE (eOp g fa fb σ H) Q:=by
 obtain⟨x,H1,e1,y,H2,e2,d,H3,e3,q⟩:=h
 exact⟨d,H3,op e1 e2 e3,q⟩
theorem w_un {g:D->HD->Option (D×HD)} {fa:EF} (h:wE (fa σ H) fun x H1=>wE (g x H1) Q):wE (eUn g fa σ H) Q:=by
 obtain⟨x,H1,e1,d,H3,e3,q⟩:=h
 exact⟨d,H3,by unfold eUn; rw[e1]; exact e3,q⟩
theorem w_ch {g g':F2} {fa fb fc:EF} (h:wE (fa σ H) fun x H1=>wE (fb σ H1) fun y H2=>wE (g x y H2) fun z H3=>∃ k,z=.bl k/\br k (wE (fc σ H3) fun w H4=>wE (g' y w H4) Q) (Q (.bl false) H3)):wE (eCh g g' fa fb fc σ H) Q:=by
 obtain⟨x,H1,e1,y,H2,e2,z,H3,e3,k,rfl,b1,b2⟩:=h
 unfold eCh
 rw[e1]; simp only[Zb]; rw[e2]; simp only[Zb]; rw[e3]; simp only[Zb,blD]
 cases k with
 | true =>
  obtain⟨w,H4,e4,d,H5,e5,q⟩:=b1 rfl
  exact⟨d,H5,by rw[if_pos rfl,e4]; exact e5,q⟩
 | false=>exact⟨.bl false,H3,by rw[if_neg (by simp)],b2 rfl⟩
theorem w_tof {f:EF} {Q:Bool->HD->Prop} (h:wE (f σ H) fun d H1=>∃ b,d=.bl b/\Q b H1):wT (tOf f σ H) Q:=by
 obtain⟨d,H1,e,b,rfl,q⟩:=h
 exact⟨b,H1,tof e,q⟩
theorem w_bl {b:Bool} {P:Bool->Prop} (h:P b):∃ c,D.bl b=.bl c/\P c:=⟨b,rfl,h⟩
theorem w_ttru {f:EF} {Q:Bool->HD->Prop} (h:wE (f σ H) fun d H1=>∃ b,Zr0 d H1=some b/\Q b H1):wT (Zhu f σ H) Q:=by
 obtain⟨d,H1,e,b,e2,q⟩:=h
 exact⟨b,H1,by unfold Zhu; rw[e]; simp only[Zb]; rw[e2]; rfl,q⟩
theorem w_no {t:TF} {Q:Bool->HD->Prop} (h:wT (t σ H) fun b H1=>Q (!b) H1):wT (tNo t σ H) Q:=by
 obtain⟨b,H1,e,q⟩:=h
 exact⟨!b,H1,by unfold tNo; rw[e]; rfl,q⟩
theorem w_an {t u:TF} {Q:Bool->HD->Prop} (h:wT (t σ H) fun b H1=>br b (wT (u σ H1) Q) (Q false H1)):wT (tAn t u σ H) Q:=by
 obtain⟨b,H1,e,q1,q2⟩:=h
 cases b with
 | true=>obtain⟨c,H2,e2,q⟩:=q1 rfl; exact⟨c,H2,(anT e).trans e2,q⟩
 | false=>exact⟨false,H1,anF e,q2 rfl⟩
theorem w_or {t u:TF} {Q:Bool->HD->Prop} (h:wT (t σ H) fun b H1=>br b (Q true H1) (wT (u σ H1) Q)):wT (Zqk t u σ H) Q:=by
 obtain⟨b,H1,e,q1,q2⟩:=h
 cases b with
 | true=>exact⟨true,H1,orT e,q1 rfl⟩
 | false=>obtain⟨c,H2,e2,q⟩:=q2 rfl; exact⟨c,H2,(orF e).trans e2,q⟩
theorem w_eno {f:EF} (h:wE (f σ H) fun d H1=>∃ b,d=.bl b/\Q (.bl (!b)) H1):wE (eNo f σ H) Q:=by
 obtain⟨d,H1,e,b,rfl,q⟩:=h
 exact⟨.bl (!b),H1,by unfold eNo; rw[e]; rfl,q⟩
theorem w_ean {f g:EF} (h:wE (f σ H) fun d H1=>∃ b,d=.bl b/\br b (wE (g σ H1) Q) (Q (.bl false) H1)):wE (eAn f g σ H) Q:=by
 obtain⟨d,H1,e,b,rfl,q1,q2⟩:=h
 unfold eAn
 rw[e]; simp only[Zb,blD]
 cases b with
 | true=>rw[if_pos rfl]; exact q1 rfl
 | false=>rw[if_neg (by simp)]; exact⟨_,_,rfl,q2 rfl⟩
theorem w_eif {t:TF} {f g:EF} (h:wT (t σ H) fun b H1=>br b (wE (f σ H1) Q) (wE (g σ H1) Q)):wE (eIf t f g σ H) Q:=by
 obtain⟨b,H1,e,q1,q2⟩:=h
 unfold eIf
 rw[e]; simp only[Zb]
 cases b with
 | true=>rw[if_pos rfl]; exact q1 rfl
 | false=>rw[if_neg (by simp)]; exact q2 rfl
theorem w_anil {Q:List D->HD->Prop} (q:Q [] H):wA (Zah σ H) Q:=⟨[],H,rfl,q⟩
theorem w_acons {f:EF} {g:AF} {Q:List D->HD->Prop} (h:wE (f σ H) fun d H1=>wA (g σ H1) fun ds H2=>Q (d::ds) H2):wA (Zab f g σ H) Q:=by
 obtain⟨d,H1,e1,ds,H2,e2,q⟩:=h
 exact⟨d::ds,H2,ac e1 e2,q⟩
theorem w_cb {g:FF} {f:AF} (h:wA (f σ H) fun ds H1=>wE (g ds H1) Q):wE (eCB g f σ H) Q:=by
 obtain⟨ds,H1,e1,d,H2,e2,q⟩:=h
 exact⟨d,H2,cb e1 e2,q⟩
theorem w_call {n:Nat} {F:FF} {f:AF} (h:wA (f σ H) fun ds H1=>wN n F ds H1 Q):wE (Zak n F f σ H) Q:=by
 obtain⟨ds,H1,e1,hl,d,H2,e2,q⟩:=h
 exact⟨d,H2,ca e1 hl e2,q⟩
theorem w_n {n:Nat} {F:FF} {ds:List D} (hl:ds.length=n) (h:wE (F ds H) Q):wN n F ds H Q:=⟨hl,h⟩
theorem w_tup {f:AF} (h:wA (f σ H) fun ds H1=>ds.length<=1000000/\Q (.tup ds) H1):wE (Zef f σ H) Q:=by
 obtain⟨ds,H1,e1,hl,q⟩:=h
 exact⟨_,H1,tp e1 hl,q⟩
theorem w_lst {f:AF} (h:wA (f σ H) fun ds H1=>ds.length<=1000000/\Q (.ref H1.length) (H1++[.lst ds])):wE (Zfw f σ H) Q:=by
 obtain⟨ds,H1,e1,hl,q⟩:=h
 exact⟨_,_,ls e1 hl,q⟩
theorem w_lm {g:D->List D->HD->Option (D×HD)} {fo:EF} {f:AF} (h:wE (fo σ H) fun o H1=>Zn9 o H1=true/\wA (f σ H1) fun ds H2=>wE (g o ds H2) Q):wE (eLM g fo f σ H) Q:=by
 obtain⟨o,H1,e1,i,ds,H2,e2,d,H3,e3,q⟩:=h
 exact⟨d,H3,by unfold eLM; rw[e1]; simp only[Zb]; rw[if_pos i,e2]; exact e3,q⟩
theorem w_dn (q:Q (.ref H.length) (H++[.dic [] false])):wE (eDN σ H) Q:=⟨_,_,rfl,q⟩
theorem w_on {Q:Option Int->HD->Prop} (q:Q none H):wO (Zj4 σ H) Q:=⟨none,H,rfl,q⟩
theorem w_os {f:EF} {Q:Option Int->HD->Prop} (h:wE (f σ H) fun d H1=>∃ i,d=.int i/\Q (some i) H1):wO (Zio f σ H) Q:=by
 obtain⟨d,H1,e,i,rfl,q⟩:=h
 exact⟨some i,H1,os e,q⟩
theorem w_int {i:Int} {P:Int->Prop} (h:P i):∃ c,D.int i=.int c/\P c:=⟨i,rfl,h⟩
theorem w_sl {fe:EF} {fl fh:OF} (h:wE (fe σ H) fun x H1=>wO (fl σ H1) fun l H2=>wO (fh σ H2) fun u H3=>wE (slD x l u H3) Q):wE (eSl fe fl fh σ H) Q:=by
 obtain⟨x,H1,e1,l,H2,e2,u,H3,e3,d,H4,e4,q⟩:=h
 exact⟨d,H4,sl e1 e2 e3 e4,q⟩
variable {R:FD->SD->HD->Prop}
theorem w_snil (q:R .nx σ H):wS (Zao σ H) R:=⟨_,_,_,rfl,q⟩
theorem w_seq {f g:SF} (h:wS (f σ H) (Yd6 (fun σ1 H1=>wS (g σ1 H1) R) R)):wS (Zaf f g σ H) R:=by
 obtain⟨x,σ1,H1,e,k⟩:=h
 unfold Zaf
 rw[e]; simp only[Zb]
 cases x with
 | nx=>exact k
 | bk=>exact⟨_,_,_,rfl,k⟩
 | ct=>exact⟨_,_,_,rfl,k⟩
 | rt d=>exact⟨_,_,_,rfl,k⟩
theorem w_kn {k:SD->HD->Prop} (h:k σ H):Yd6 k R .nx σ H:=h
theorem w_kr {k:SD->HD->Prop} {d:D} (h:R (.rt d) σ H):Yd6 k R (.rt d) σ H:=h
theorem Zvj {r:Option (FD×SD×HD)} {k:SD->HD->Prop} (J:SD->HD->Prop) (h:wS r fun x σ H=>x=.nx/\J σ H) (q:∀ σ H,J σ H->k σ H):wS r (Yd6 k R):=by
 obtain⟨x,s,H,e,rfl,j⟩:=h
 exact⟨_,s,H,e,q s H j⟩
theorem w_fr {d:D} (h:Q d H):fin Q (.rt d) σ H:=h
theorem w_fn (h:Q .non H):fin Q .nx σ H:=h
theorem w_ret {f:EF} (h:wE (f σ H) fun d H1=>R (.rt d) σ H1):wS (Zbi f σ H) R:=by
 obtain⟨d,H1,e,q⟩:=h; exact⟨_,_,_,rt e,q⟩
theorem w_retn (h:R (.rt .non) σ H):wS (Zy4 σ H) R:=⟨_,_,_,rfl,h⟩
theorem w_expr {f:EF} (h:wE (f σ H) fun d H1=>R .nx σ H1):wS (Zcx f σ H) R:=by
 obtain⟨d,H1,e,q⟩:=h; exact⟨_,_,_,by unfold Zcx; rw[e]; rfl,q⟩
theorem w_if {t:TF} {f g:SF} (h:wT (t σ H) fun b H1=>br b (wS (f σ H1) R) (wS (g σ H1) R)):wS (sIf t f g σ H) R:=by
 obtain⟨b,H1,e,q1,q2⟩:=h
 rw[Zmy e]
 cases b with
 | true=>rw[if_pos rfl]; exact q1 rfl
 | false=>rw[if_neg (by simp)]; exact q2 rfl
theorem w_set {i:Nat} {f:EF} (h:wE (f σ H) fun d H1=>R .nx (σ.set i (some d)) H1):wS (Zbl i f σ H) R:=by
 obtain⟨d,H1,e,q⟩:=h; exact⟨_,_,_,by unfold Zbl; rw[e]; rfl,q⟩
theorem w_asg {f:EF} {g:GF} (h:wE (f σ H) fun d H1=>wG (g d σ H1) fun σ2 H2=>R .nx σ2 H2):wS (Zvs f g σ H) R:=by
 obtain⟨d,H1,e,σ2,H2,e2,q⟩:=h; exact⟨_,_,_,by unfold Zvs; rw[e]; simp only[Zb]; rw[e2]; rfl,q⟩
theorem w_gnm {i:Nat} {d:D} {Q:SD->HD->Prop} (h:Q (σ.set i (some d)) H):wG (gNm i d σ H) Q:=⟨_,_,rfl,h⟩
theorem w_gsb {fo fi:EF} {g:Yam} {d:D} {Q:SD->HD->Prop} (h:wE (fo σ H) fun o H1=>wE (fi σ H1) fun i H2=>wH (g o i d H2) fun H3=>Q σ H3):wG (gSb fo fi g d σ H) Q:=by
 obtain⟨o,H1,e1,i,H2,e2,H3,e3,q⟩:=h
 exact⟨σ,H3,by unfold gSb; rw[e1]; simp only[Zb]; rw[e2]; simp only[Zb]; rw[e3]; rfl,q⟩
theorem w_gtp {n:Nat} {g:GFs} {ds:List D} {Q:SD->HD->Prop} (hl:ds.length=n) (h:wG (g ds σ H) Q):wG (gTp n g (.tup ds) σ H) Q:=by
 obtain⟨s,H1,e,q⟩:=h
 exact⟨s,H1,by unfold gTp; simp only[if_pos hl]; exact e,q⟩
theorem w_gnl {Q:SD->HD->Prop} (h:Q σ H):wG (gNl [] σ H) Q:=⟨_,_,rfl,h⟩
theorem w_gcn {g:GF} {h:GFs} {d:D} {r:List D} {Q:SD->HD->Prop} (q:wG (g d σ H) fun σ1 H1=>wG (h r σ1 H1) Q):wG (gCn g h (d::r) σ H) Q:=by
 obtain⟨s,H1,e,s2,H2,e2,q⟩:=q
 exact⟨s2,H2,by unfold gCn; simp only; rw[e]; exact e2,q⟩
theorem w_for {it:ItF} {g:GF} {b:SF} (h:wI (it σ H) fun xs own H1=>wS (Zgd own g b xs σ H1) R):wS (Zex it g b σ H) R:=by
 obtain⟨xs,own,H1,e,q⟩:=h
 unfold Zex; rw[e]; exact q
theorem Zbb {n N:Nat} {b:SF} {ds:List D} (hl:ds.length=n) (h:wS (b (ds.map some++Xq (N - ds.length) none) H) (fin Q)):wE (Za7 n N b ds H) Q:=by
 obtain⟨x,s,H1,e,q⟩:=h
 unfold Za7
 rw[if_pos hl,e]
 simp only[Zb]
 cases x with
 | nx=>exact⟨_,_,rfl,q⟩
 | rt d=>exact⟨_,_,rfl,q⟩
 | bk=>exact q.elim
 | ct=>exact q.elim
theorem w_lc {it:ItF} {ci:List Nat} {tt:TF} {te:EF} (h:wI (it σ H) fun xs own H1=>wA (Zfa own (Zvn ci σ) tt te xs H1) fun ds H2=>ds.length<=1000000/\Q (.ref H2.length) (H2++[.lst ds])):wE (eLC it ci tt te σ H) Q:=by
 obtain⟨xs,own,H1,e,ds,H2,e2,hl,q⟩:=h
 exact⟨_,_,by unfold eLC; rw[e]; simp only[Zb]; rw[e2]; exact if_pos (Zgi hl),q⟩
theorem w_bt {P S:Prop} (h:P):br true P S:=⟨fun _=>h,nofun⟩
theorem w_bf {P S:Prop} (h:S):br false P S:=⟨nofun,fun _=>h⟩
theorem w_bnt {P S:Prop} (h:P):br (!false) P S:=⟨fun _=>h,nofun⟩
theorem w_bnf {P S:Prop} (h:S):br (!true) P S:=⟨nofun,fun _=>h⟩
theorem w_bT {b:Bool} {P S:Prop} (e:b=true) (h:P):br b P S:=by subst e; exact w_bt h
theorem w_bF {b:Bool} {P S:Prop} (e:b=false) (h:S):br b P S:=by subst e; exact w_bf h
theorem w_sz {ds:List D} {P:Prop} (h:ds.length<=1000000) (q:P):ds.length<=1000000/\P:=⟨h,q⟩
theorem w_addI {i j:Int} (q:Q (.int (i+j)) H):wE (Zcu (.int i) (.int j) H) Q:=⟨_,_,rfl,q⟩
theorem w_subI {i j:Int} (q:Q (.int (i - j)) H):wE (Zn4 (.int i) (.int j) H) Q:=⟨_,_,suI i j H,q⟩
theorem w_lt {i j:Int} (q:Q (.bl (decide (i<j))) H):wE (ltD (.int i) (.int j) H) Q:=⟨_,_,by simp[ltD,iiD,CT],q⟩
theorem w_le {i j:Int} (q:Q (.bl (decide (i<=j))) H):wE (leD (.int i) (.int j) H) Q:=⟨_,_,by simp[leD,iiD,CT],q⟩
theorem w_gt {i j:Int} (q:Q (.bl (decide (j<i))) H):wE (gtD (.int i) (.int j) H) Q:=⟨_,_,by simp[gtD,iiD,CT],q⟩
theorem w_ge {i j:Int} (q:Q (.bl (decide (j<=i))) H):wE (geD (.int i) (.int j) H) Q:=⟨_,_,by simp[geD,iiD,CT],q⟩
theorem w_mod {i j:Int} (h:0<j) (q:Q (.int (i % j)) H):wE (Zg5 (.int i) (.int j) H) Q:=⟨_,_,by have c:Yck i j:=h; simp[Zg5,iiD,c],q⟩
theorem w_fdiv {i j:Int} (h:0<j) (h2:j<1073741824) (q:Q (.int (i / j)) H):wE (Zrk (.int i) (.int j) H) Q:=⟨_,_,by have c:Ydo i j:=⟨h,h2⟩; simp[Zrk,iiD,c],q⟩
theorem w_mulL {i j:Int} (h1 : -(2 ^ 64)<i) (h2:i<2 ^ 64) (q:Q (.int (i*j)) H):wE (Zra (.int i) (.int j) H) Q:=⟨_,_,by have c:Zx4 i j:=.inl ⟨h1,h2⟩; simp[Zra,c],q⟩
theorem w_mulR {i j:Int} (h1 : -(2 ^ 64)<j) (h2:j<2 ^ 64) (q:Q (.int (i*j)) H):wE (Zra (.int i) (.int j) H) Q:=⟨_,_,by have c:Zx4 i j:=.inr ⟨h1,h2⟩; simp[Zra,c],q⟩
theorem Yah {i j:Int} (h1:0<=j) (h2:j<=1000000) (h3:i.natAbs<2 ^ 64) (q:Q (.int (i ^ j.toNat)) H):wE (Ya8 (.int i) (.int j) H) Q:=⟨_,_,by have c:Ycr i j:=⟨h1,h2,h3⟩; simp[Ya8,iiD,c],q⟩
theorem w_neg {i:Int} (q:Q (.int (-i)) H):wE (Zky (.int i) H) Q:=⟨_,_,rfl,q⟩
theorem w_eqI {i j:Int} (q:Q (.bl (i==j)) H):wE (eqD (.int i) (.int j) H) Q:=⟨_,_,Zso _ _ _,q⟩
theorem w_eqS {a b:Str} (q:Q (.bl (a==b)) H):wE (eqD (.str a) (.str b) H) Q:=⟨_,_,rfl,q⟩
theorem w_neS {a b:Str} (q:Q (.bl (a != b)) H):wE (neD (.str a) (.str b) H) Q:=⟨_,_,rfl,q⟩
theorem w_lenT {xs:List D} (q:Q (.int xs.length) H):wE (Zev [.tup xs] H) Q:=⟨_,_,lenT xs H,q⟩
theorem w_lenR {n:Nat} {xs:List D} (h:H[n]? = some (.lst xs)) (q:Q (.int xs.length) H):wE (Zev [.ref n] H) Q:=⟨_,_,by simp[Zev,Zmf,h],q⟩
theorem w_lenF {xs:List D} (q:Q (.int xs.length) H):wE (Zev [.fl xs] H) Q:=⟨_,_,by simp[Zev,Zmf],q⟩
theorem w_abs {i:Int} (q:Q (.int (Zar i)) H):wE (Zw4 [.int i] H) Q:=⟨_,_,rfl,q⟩
theorem w_ixT {xs:List D} {i:Int} {d:D} (h:atI xs i=some d) (q:Q d H):wE (ixD (.tup xs) (.int i) H) Q:=⟨_,_,ixT h,q⟩
theorem w_ixR {n:Nat} {xs:List D} {i:Int} {d:D} (g:H[n]? = some (.lst xs)) (h:atI xs i=some d) (q:Q d H):wE (ixD (.ref n) (.int i) H) Q:=⟨_,_,by simp[ixD,Zmf,g,h],q⟩
theorem w_ixF {xs:List D} {i:Int} {d:D} (h:atI xs i=some d) (q:Q d H):wE (ixD (.fl xs) (.int i) H) Q:=⟨_,_,by simp[ixD,Zmf,h],q⟩
theorem w_intB {b:Bool} (q:Q (.int (if b then 1 else 0)) H):wE (Zvo [.bl b] H) Q:=⟨_,_,rfl,q⟩
theorem w_max {i j:Int} (q:Q (.int (if j > i then j else i)) H):wE (maxD [.int i,.int j] H) Q:=⟨_,_,rfl,q⟩
theorem w_tupR {n:Nat} {xs:List D} (h:H[n]? = some (.lst xs)) (q:Q (.tup xs) H):wE (Zfi [.ref n] H) Q:=⟨_,_,tu h,q⟩
theorem Zj3 {n:Nat} {xs:List D} {d:D} (h:H[n]? = some (.lst xs)) (hl:xs.length<1000000) (q:Q .non (H.set n (.lst (xs++[d])))):wE (Zci (.ref n) [d] H) Q :=
 ⟨_,_,by simp[Zci,h,Xi hl (Zgi (Xe _))],q⟩
theorem w_isi {d:D} {c t:String} (ha:Zu0 c=true) (h:tyD d H=some t) (q:Q (.bl (t==c||(t == "bool" && c == "int"))) H):wE (Zyq [d,.ty c] H) Q:=⟨_,_,by simp[Zyq,ha,h],q⟩
theorem w_isN {d:D} {b:Bool} (h:isB d .non=some b) (q:Q (.bl b) H):wE (isD d .non H) Q:=⟨_,_,by simp[isD,h],q⟩
theorem w_isnN {d:D} {b:Bool} (h:isB d .non=some b) (q:Q (.bl (!b)) H):wE (isnD d .non H) Q:=⟨_,_,by simp[isnD,h],q⟩
theorem Ybu {n:Nat} {kvs:List (D×D)} {fz:Bool} (h:H[n]? = some (.dic kvs fz)) (q:Q (.int kvs.length) H):wE (Zlu [.ref n] H) Q:=⟨_,_,by simp[Zlu,Zvt,h],q⟩
theorem Zyu {n:Nat} {kvs:List (D×D)} {fz:Bool} {k:D} {ks:List Int} {v:D} (h:H[n]? = some (.dic kvs fz)) (hk:nk k=some ks) (hv:Zbf kvs ks=some v) (q:Q v H):wE (Zfx (.ref n) k H) Q:=⟨_,_,by simp[Zfx,Zvt,h,hk,hv],q⟩
theorem w_truB {b:Bool} {P:Bool->Prop} (h:P b):∃ c,Zr0 (.bl b) H=some c/\P c:=⟨b,rfl,h⟩
theorem w_isi' {d:D} {c t:String} {r:Bool} (ha:Zu0 c=true) (h:tyD d H=some t) (hr:(t==c||(t == "bool" && c == "int"))=r) (q:Q (.bl r) H):wE (Zyq [d,.ty c] H) Q:=w_isi ha h (by rw[hr]; exact q)
theorem w_eqS' {a b:Str} {r:Bool} (hr:(a==b)=r) (q:Q (.bl r) H):wE (eqD (.str a) (.str b) H) Q:=w_eqS (by rw[hr]; exact q)
theorem w_neS' {a b:Str} {r:Bool} (hr:(a==b)=r) (q:Q (.bl (!r)) H):wE (neD (.str a) (.str b) H) Q:=w_neS (by rw[bne,hr]; exact q)
theorem w_eqI' {a b:Int} {r:Bool} (hr:(a==b)=r) (q:Q (.bl r) H):wE (eqD (.int a) (.int b) H) Q:=w_eqI (by rw[hr]; exact q)
theorem w_slhi {xs:List D} {k:Nat} (q:Q (.tup (xs.take k)) H):wE (slD (.tup xs) none (some (k:Int)) H) Q:=⟨_,_,slhi,q⟩
theorem w_sllo {xs:List D} {k:Nat} (q:Q (.tup (xs.drop k)) H):wE (slD (.tup xs) (some (k:Int)) none H) Q:=⟨_,_,sllo,q⟩
variable {I:List D->Zg4->HD->Prop}
theorem w_isq {f:EF} (h:wE (f σ H) fun d H1=>∃ xs own,Zi5 d H1=some (xs,own)/\I xs own H1):wI (iSq f σ H) I:=by
 obtain⟨d,H1,e,xs,own,e2,q⟩:=h
 exact⟨xs,own,H1,by unfold iSq; rw[e]; simp only[Zb]; rw[e2]; rfl,q⟩
theorem w_itT {xs:List D} {P:List D->Zg4->Prop} (h:P xs []):∃ ys own,Zi5 (.tup xs) H=some (ys,own)/\P ys own:=⟨_,_,rfl,h⟩
theorem w_itR {n:Nat} {xs:List D} {P:List D->Zg4->Prop} (g:H[n]? = some (.lst xs)) (h:P xs [(n,.lst xs)]):∃ ys own,Zi5 (.ref n) H=some (ys,own)/\P ys own:=⟨_,_,by simp[Zi5,g],h⟩
theorem w_ir1 {f:AF} (h:wA (f σ H) fun ds H1=>∃ j,ds=[.int j]/\Zpo j/\I (Zbk 0 j.toNat) [] H1):wI (iR1 f σ H) I:=by
 obtain⟨ds,H1,e,j,rfl,s,q⟩:=h
 exact⟨_,_,H1,by unfold iR1; rw[e]; exact if_pos s,q⟩
theorem w_idic {f:EF} (h:wE (f σ H) fun d H1=>∃ n kvs fz,d=.ref n/\H1[n]? = some (.dic kvs fz)/\I (kvs.map (·.1)) [(n,.dic kvs true)] (H1.set n (.dic kvs true))):wI (Zy1 f σ H) I:=by
 obtain⟨d,H1,e,n,kvs,fz,rfl,g,q⟩:=h
 exact⟨_,_,_,by unfold Zy1; rw[e]; simp only[Zb,g],q⟩
theorem w_zip {f:AF} (h:wA (f σ H) fun ds H1=>∃ d1 d2 a b,ds=[d1,d2]/\Zvq d1 H1=some a/\Zvq d2 H1=some b/\I (Zqe a.1 b.1) (a.2++b.2) H1):wI (Zse f σ H) I:=by
 obtain⟨ds,H1,e,d1,d2,a,b,rfl,e1,e2,q⟩:=h
 exact⟨_,_,H1,by unfold Zse; rw[e]; simp only[Zb]; rw[e1]; simp only[Zb]; rw[e2]; rfl,q⟩
theorem Zm1 {own:Zg4} {g:GF} {b:SF} (h:Zcd own H) (q:R .nx σ H):wS (Zgd own g b [] σ H) R:=⟨_,_,_,by rw[Zgd,if_pos h],q⟩
nonrec def again (k:SD->HD->Prop) (R:FD->SD->HD->Prop):FD->SD->HD->Prop
 | .nx,σ,H=>k σ H
 | .ct,σ,H=>k σ H
 | .bk,σ,H=>R .nx σ H
 | .rt d,σ,H=>R (.rt d) σ H
theorem Zfd {own:Zg4} {g:GF} {b:SF} {x:D} {r:List D} (h:Zcd own H) (q:wG (g x σ H) fun σ1 H1=>wS (b σ1 H1) (again (fun σ2 H2=>wS (Zgd own g b r σ2 H2) R) R)):wS (Zgd own g b (x::r) σ H) R:=by
 obtain⟨σ1,H1,e1,y,σ2,H2,e2,q⟩:=q
 rw[Zgd,if_pos h,e1]
 simp only[Zb]
 rw[e2]
 cases y with
 | nx=>exact q
 | ct=>exact q
 | bk=>exact⟨_,_,_,rfl,q⟩
 | rt d=>exact⟨_,_,_,rfl,q⟩
theorem w_agn {k:SD->HD->Prop} (h:k σ H):again k R .nx σ H:=h
theorem w_agr {k:SD->HD->Prop} {d:D} (h:R (.rt d) σ H):again k R (.rt d) σ H:=h
theorem Zct {own:Zg4} {g:GF} {b:SF} (Inv:List D->List D->SD->HD->Prop) (ho:∀ d t σ H,Inv d t σ H->Zcd own H)
  (st:∀ d x t σ H,Inv d (x::t) σ H->wG (g x σ H) fun σ1 H1=>wS (b σ1 H1) (again (fun σ2 H2=>Inv (d++[x]) t σ2 H2) R))
  (q:∀ d σ H,Inv d [] σ H->R .nx σ H):∀ (t d:List D) (σ:SD) (H:HD),Inv d t σ H->wS (Zgd own g b t σ H) R
 | [],d,σ,H,i=>Zm1 (ho _ _ _ _ i) (q d σ H i)
 | x::t,d,σ,H,i=>by
  refine Zfd (ho _ _ _ _ i) ?_
  obtain⟨σ1,H1,e1,y,σ2,H2,e2,k⟩:=st d x t σ H i
  refine⟨σ1,H1,e1,y,σ2,H2,e2,?_⟩
  cases y with
  | nx=>exact Zct Inv ho st q t _ σ2 H2 k
  | ct=>exact Zct Inv ho st q t _ σ2 H2 k
  | bk=>exact k
  | rt d=>exact k
theorem Zsf {own:Zg4} {g:GF} {b:SF} (Inv:SD->HD->Prop) (ho:∀ σ H,Inv σ H->Zcd own H):∀ (xs:List D) (st:∀ x∈xs,∀ σ H,Inv σ H->wG (g x σ H) fun σ1 H1=>wS (b σ1 H1) (again Inv R)) (σ:SD) (H:HD),Inv σ H->(∀ σ H,Inv σ H->R .nx σ H)->wS (Zgd own g b xs σ H) R
 | [],st,σ,H,i,q=>Zm1 (ho _ _ i) (q σ H i)
 | x::t,st,σ,H,i,q=>by
  refine Zfd (ho _ _ i) ?_
  obtain⟨σ1,H1,e1,y,σ2,H2,e2,k⟩:=st x (by simp) σ H i
  refine⟨σ1,H1,e1,y,σ2,H2,e2,?_⟩
  cases y with
  | nx=>exact Zsf Inv ho t (fun z hz=>st z (by simp[hz])) σ2 H2 k q
  | ct=>exact Zsf Inv ho t (fun z hz=>st z (by simp[hz])) σ2 H2 k q
  | bk=>exact k
  | rt d=>exact k
theorem w_wh {t:TF} {b:SF} {n:Nat} (h:wT (t σ H) fun x H1=>br x (wS (b σ H1) (again (fun σ2 H2=>wS (sWh t b n σ2 H2) R) R)) (R .nx σ H1)):wS (sWh t b (n+1) σ H) R:=by
 obtain⟨x,H1,e,q1,q2⟩:=h
 rw[sWh]
 dsimp only
 rw[e]
 simp only[Zb]
 cases x with
 | true =>
  rw[if_pos rfl]
  obtain⟨y,σ2,H2,e2,q⟩:=q1 rfl
  rw[e2]
  cases y with
  | nx=>exact q
  | ct=>exact q
  | bk=>exact⟨_,_,_,rfl,q⟩
  | rt d=>exact⟨_,_,_,rfl,q⟩
 | false=>rw[if_neg (by simp)]; exact⟨_,_,_,rfl,q2 rfl⟩
theorem Zn7 {t:TF} {b:SF} (Inv:Nat->SD->HD->Prop) (st:∀ m σ H,Inv m σ H->wT (t σ H) fun x H1=>br x (∃ m',m=m'+1/\wS (b σ H1) (again (Inv m') R)) (R .nx σ H1)):∀ (n m:Nat) (σ:SD) (H:HD),m<n->Inv m σ H->wS (sWh t b n σ H) R
 | 0,m,σ,H,h,i=>by omega
 | n+1,m,σ,H,h,i=>by
  refine w_wh ?_
  obtain⟨x,H1,e,q1,q2⟩:=st m σ H i
  refine⟨x,H1,e,fun hx=>?_,q2⟩
  obtain⟨m',rfl,y,σ2,H2,e2,q⟩:=q1 hx
  refine⟨y,σ2,H2,e2,?_⟩
  cases y with
  | nx=>exact Zn7 Inv st n m' σ2 H2 (by omega) q
  | ct=>exact Zn7 Inv st n m' σ2 H2 (by omega) q
  | bk=>exact q
  | rt d=>exact q
theorem Ztg {own:Zg4} {c0:SD} {tt:TF} {te:EF} {Q:List D->HD->Prop} (h:Zcd own H) (q:Q [] H):wA (Zfa own c0 tt te [] H) Q:=⟨_,_,by rw[Zfa,if_pos h],q⟩
theorem Zov {own:Zg4} {c0:SD} {tt:TF} {te:EF} {x:D} {r:List D} {Q:List D->HD->Prop} (h:Zcd own H)
  (q:wT (tt (some x::c0) H) fun b H1=>br b (wE (te (some x::c0) H1) fun e H2=>wA (Zfa own c0 tt te r H2) fun es H3=>Q (e::es) H3) (wA (Zfa own c0 tt te r H1) Q)):wA (Zfa own c0 tt te (x::r) H) Q:=by
 obtain⟨b,H1,e1,q1,q2⟩:=q
 rw[Zfa,if_pos h,e1]
 simp only[Zb]
 cases b with
 | true =>
  obtain⟨e,H2,e2,es,H3,e3,q⟩:=q1 rfl
  exact⟨e::es,H3,by rw[if_pos rfl,e2]; simp only[Zb]; rw[e3]; rfl,q⟩
 | false=>rw[if_neg (by simp)]; exact q2 rfl
theorem w_yes {Q:Bool->HD->Prop} (q:Q true H):wT (Zv2 σ H) Q:=⟨_,_,rfl,q⟩
theorem Zvm {own:Zg4} {c0:SD} {tt:TF} {te:EF} (Inv:List D->List D->List D->HD->Prop) (ho:∀ d t o H,Inv d t o H->Zcd own H)
  (st:∀ d x t o H,Inv d (x::t) o H->wT (tt (some x::c0) H) fun b H1=>br b (wE (te (some x::c0) H1) fun e H2=>Inv (d++[x]) t (o++[e]) H2) (Inv (d++[x]) t o H1))
  {Q:List D->HD->Prop}:∀ (t d o:List D) (H:HD),Inv d t o H->(∀ d o' H',Inv d [] (o++o') H'->Q o' H')->wA (Zfa own c0 tt te t H) Q
 | [],d,o,H,i,q=>Ztg (ho _ _ _ _ i) (q d [] H (by rw[Wad]; exact i))
 | x::t,d,o,H,i,q=>by
  refine Zov (ho _ _ _ _ i) ?_
  obtain⟨b,H1,e1,q1,q2⟩:=st d x t o H i
  refine⟨b,H1,e1,fun h=>?_,fun h=>?_⟩
  ·obtain⟨e,H2,e2,k⟩:=q1 h
   refine⟨e,H2,e2,?_⟩
   refine Zvm Inv ho st t _ _ H2 k fun d' o' H' i'=>q d' (e::o') H' ?_
   rw[Xz] at i'; exact i'
  ·exact Zvm Inv ho st t _ _ H1 (q2 h) fun d' o' H' i'=>q d' o' H' i'
theorem Zdi {own:Zg4} {c0:SD} {tt:TF} (f:D->Bool) (J:HD->Prop) (ho:∀ H,J H->Zcd own H) {Q:List D->HD->Prop}:∀ (xs:List D) (st:∀ x∈xs,∀ H,J H->wT (tt (some x::c0) H) fun b H1=>b=f x/\J H1) (H:HD),J H->(∀ H',J H'->Q (xs.filter f) H')->wA (Zfa own c0 tt (Zac 0) xs H) Q
 | [],st,H,j,q=>Ztg (ho H j) (q H j)
 | x::xs,st,H,j,q=>by
  refine Zov (ho H j) ?_
  obtain⟨b,H1,e,rfl,j1⟩:=st x (by simp) H j
  refine⟨_,H1,e,fun h=>?_,fun h=>?_⟩
  ·refine⟨x,H1,rfl,?_⟩
   refine Zdi f J ho xs (fun y hy=>st y (by simp[hy])) H1 j1 fun H' j'=>?_
   have:=q H' j'
   rwa [Wbz h] at this
  ·refine Zdi f J ho xs (fun y hy=>st y (by simp[hy])) H1 j1 fun H' j'=>?_
   have:=q H' j'
   rwa [Wbc (by rw[h]; simp)] at this
theorem Zo7 {own:Zg4} {c0:SD} {te:EF} (g:D->D) (J:HD->Prop) (ho:∀ H,J H->Zcd own H) {Q:List D->HD->Prop}:∀ (xs:List D) (st:∀ x∈xs,∀ H,J H->wE (te (some x::c0) H) fun d H1=>d=g x/\J H1) (H:HD),J H->(∀ H',J H'->Q (xs.map g) H')->wA (Zfa own c0 Zv2 te xs H) Q
 | [],st,H,j,q=>Ztg (ho H j) (q H j)
 | x::xs,st,H,j,q=>by
  refine Zov (ho H j) (w_yes (w_bt ?_))
  obtain⟨b,H1,e,rfl,j1⟩:=st x (by simp) H j
  exact⟨_,H1,e,Zo7 g J ho xs (fun y hy=>st y (by simp[hy])) H1 j1 q⟩
end
structure Fm (S:List Nat) (H H':HD):Prop where
 old:∀ (m:Nat) (o:DO),m∉S->H[m]? = some o->H'[m]? = some o\/∃ kvs,o=.dic kvs false/\H'[m]? = some (.dic kvs true)
 len:H.length<=H'.length
theorem Fm.refl {S:List Nat} {H:HD}:Fm S H H:=⟨fun _ _ _ h=>.inl h,Xe _⟩
theorem Fm.trans {S:List Nat} {H H1 H2:HD} (a:Fm S H H1) (b:Fm S H1 H2):Fm S H H2:=by
 refine⟨fun m o hm h=>?_,Wac a.len b.len⟩
 rcases a.old m o hm h with h1 | ⟨kvs,rfl,h1⟩
 ·exact b.old m o hm h1
 ·rcases b.old m _ hm h1 with h2 | ⟨k2,e,_⟩
  ·exact .inr ⟨kvs,rfl,h2⟩
  ·cases e
theorem Fm.sub {S T:List Nat} {H H':HD} (a:Fm S H H') (h:∀ m∈S,m∈T):Fm T H H':=⟨fun m o hm q=>a.old m o (fun z=>hm (h m z)) q,a.len⟩
theorem Fm.app {S:List Nat} {H:HD} (L:HD):Fm S H (H++L):=⟨fun m o _ q=>.inl (by
 have:m<H.length:=(Xc.mp q).1
 rw[Xg this]; exact q),by simp⟩
theorem Fm.set {S:List Nat} {H:HD} {p:Nat} {o:DO} (h:p∈S):Fm S H (H.set p o):=⟨fun m u hm q=>.inl (by rw[Wak (fun z=>hm (by rw[<- z]; exact h))]; exact q),by simp⟩
theorem Fm.new {S T:List Nat} {H H1 H':HD} (a:Fm S H H1) (b:Fm T H1 H') (h:∀ m∈T,m∉S->H.length<=m):Fm S H H':=by
 refine⟨fun m o hm q=>?_,Wac a.len b.len⟩
 have lt:m<H.length:=(Xc.mp q).1
 have ht:m∉T:=fun z=>by have:=h m z hm; omega
 rcases a.old m o hm q with h1 | ⟨kvs,rfl,h1⟩
 ·exact b.old m o ht h1
 ·rcases b.old m _ ht h1 with h2 | ⟨k2,e,_⟩
  ·exact .inr ⟨kvs,rfl,h2⟩
  ·cases e
theorem Fm.lst {S:List Nat} {H H':HD} (x:Fm S H H') {m:Nat} {xs:List D} (hm:m∉S) (h:H[m]? = some (.lst xs)):H'[m]? = some (.lst xs):=by
 rcases x.old m _ hm h with h1 | ⟨k2,e,_⟩
 ·exact h1
 ·cases e
theorem Fm.fr {S:List Nat} {H H':HD} (x:Fm S H H') {m:Nat} {kvs:List (D×D)} (hm:m∉S) (h:H[m]? = some (.dic kvs true)):H'[m]? = some (.dic kvs true):=by
 rcases x.old m _ hm h with h1 | ⟨k2,e,_⟩
 ·exact h1
 ·cases e
theorem Fm.dic {S:List Nat} {H H':HD} (x:Fm S H H') {m:Nat} {kvs:List (D×D)} {fz:Bool} (hm:m∉S) (h:H[m]? = some (.dic kvs fz)):∃ fz',H'[m]? = some (.dic kvs fz'):=by
 rcases x.old m _ hm h with h1 | ⟨k2,e,h1⟩
 ·exact⟨fz,h1⟩
 ·cases e; exact⟨true,h1⟩
theorem _root_.LH.ExtS.fm {S:List Nat} {H H':HD} (x:ExtS S H H'):Fm S H H':=⟨fun m o hm q=>.inl (x.old m o hm q),x.len⟩
theorem isl {H:HD} {n:Nat} {xs:List D} (h:H[n]? = some (.lst xs)):Zn9 (.ref n) H=true:=by simp[Zn9,h]
theorem Zza {H:HD} {n:Nat} {o:DO} (h:H[n]? = some o):Zcd [(n,o)] H:=by intro p hp; simp at hp; subst hp; exact h
theorem Zg6 {H:HD}:Zcd [] H:=by intro p hp; cases hp
theorem last {H:HD} {o:DO}:(H++[o])[H.length]? = some o:=by simp
theorem appL {H:HD} {n:Nat} {o u:DO} (h:H[n]? = some o):(H++[u])[n]? = some o:=by
 rw[Xg (Xc.mp h).1]; exact h
theorem Zxt {H:HD} {n m:Nat} {o u:DO} (hn:n≠m) (h:H[m]? = some o):(H.set n u)[m]? = some o:=by rw[Wak hn]; exact h
theorem Zl7 {H:HD} {n:Nat} {o u:DO} (h:H[n]? = some u):(H.set n o)[n]? = some o:=Waw (Xc.mp h).1
structure Fine (d:D) (x:Uam) (h:Nat):Prop where
 to:∀ H n,toP H n d=some x
 lay:x.canLay0=true
 dep:x.depth<=h
theorem Fine.int (i:Int):Fine (.int i) (.int i) 0:=⟨fun H n=>Zuq H n i,rfl,Xe _⟩
theorem Fine.bl (b:Bool):Fine (.bl b) (.bool b) 0:=⟨fun H n=>Ybw H n b,rfl,Xe _⟩
structure Fines (ds:List D) (xs:List Uam) (h:Nat):Prop where
 to:∀ H n,Zt7 H n ds=some xs
 lay:Tbp xs=true
 dep:Tbz xs<=h
 len:xs.length=ds.length
theorem Fines.nil {h:Nat}:Fines [] [] h:=⟨fun H n=>by rw[Zt7],rfl,Wbg _,rfl⟩
theorem Fines.cons {d:D} {x:Uam} {ds:List D} {xs:List Uam} {h:Nat} (a:Fine d x h) (b:Fines ds xs h):Fines (d::ds) (x::xs) h :=
 ⟨fun H n=>by rw[Zt7,a.to,b.to]; rfl,by simp[Tbp,a.lay,b.lay],by simp only[Tbz]; exact Nat.max_le.mpr ⟨a.dep,b.dep⟩,by simp[b.len]⟩
theorem Fine.tup {ds:List D} {xs:List Uam} {h:Nat} (f:Fines ds xs h):Fine (.tup ds) (.tuple xs) (h+1) :=
 ⟨fun H n=>by cases n<;>rw[toP,f.to]<;>rfl,f.lay,Wfr f.dep⟩
theorem Fine.dat {d:D} {x:Uam} {h:Nat} (f:Fine d x h) (l:h<=30) (H:HD):DL.dat d H=some x:=by
 unfold DL.dat
 rw[f.to]
 have:x.depth<=30:=Wac f.dep l
 simp[okP,f.lay,this]
theorem Fines.dat {ds:List D} {xs:List Uam} {h:Nat} (f:Fines ds xs h) (l:h<30) {H:HD} {p:Nat} (g:H[p]? = some (.lst ds)):DL.dat (.ref p) H=some (.list xs):=by
 unfold DL.dat
 rw[toP]
 simp only[g]
 rw[f.to]
 have:(PyData.list xs).depth<=30:=Wac (Wfr f.dep) l
 have h2:(PyData.list xs).canLay0=true:=f.lay
 simp[okP,h2,this]
theorem Zs1 {a b:D} {x y:Uam} {H:HD} (h1:dat a H=some x) (h2:dat b H=some y):eqD a b H=some (.bl (Uc x y),H):=by
 unfold eqD
 cases e:Zrd a b with
 | none=>rw[h1,h2]; rfl
 | some p =>
  obtain⟨s,t⟩:=p
  unfold Zrd at e
  split at e
  ·cases e
   unfold dat at h1 h2
   rw[Zk2] at h1 h2
   simp only[Zb] at h1 h2
   split at h1
   ·split at h2
    ·cases h1; cases h2; simp[Uc]
    ·cases h2
   ·cases h1
  ·cases e
theorem Zzc {a b:D} {x y:Uam} {H:HD} (h1:dat a H=some x) (h2:dat b H=some y):neD a b H=some (.bl (!Uc x y),H):=by
 unfold neD
 cases e:Zrd a b with
 | none=>rw[h1,h2]; rfl
 | some p =>
  obtain⟨s,t⟩:=p
  unfold Zrd at e
  split at e
  ·cases e
   unfold dat at h1 h2
   rw[Zk2] at h1 h2
   simp only[Zb] at h1 h2
   split at h1
   ·split at h2
    ·cases h1; cases h2; simp[Uc]; rfl
    ·cases h2
   ·cases h1
  ·cases e
variable {H:HD} {Q:D->HD->Prop}
theorem w_eqF {a b:D} {x y:Uam} {h k:Nat} (f:Fine a x h) (g:Fine b y k) (hh:h<=30) (hk:k<=30) (q:Q (.bl (Uc x y)) H):wE (eqD a b H) Q:=⟨_,_,Zs1 (f.dat hh H) (g.dat hk H),q⟩
theorem Yad {a b:D} {x y:Uam} {h k:Nat} (f:Fine a x h) (g:Fine b y k) (hh:h<=30) (hk:k<=30) (q:Q (.bl (!Uc x y)) H):wE (neD a b H) Q:=⟨_,_,Zzc (f.dat hh H) (g.dat hk H),q⟩
theorem w_niL {a:D} {x:Uam} {h k p:Nat} {ds:List D} {xs:List Uam} (f:Fine a x h) (g:Fines ds xs k) (hh:h<=30) (hk:k<30) (hp:H[p]? = some (.lst ds)) (q:Q (.bl (!xs.any fun z=>Uc z x)) H):wE (niD a (.ref p) H) Q :=
 ⟨_,_,by unfold niD; rw[f.dat hh,Zb,g.dat hk hp]; rfl,q⟩
theorem w_niT {a:D} {x:Uam} {h k:Nat} {ds:List D} {xs:List Uam} (f:Fine a x h) (g:Fines ds xs k) (hh:h<=30) (hk:k<30) (q:Q (.bl (!xs.any fun z=>Uc z x)) H):wE (niD a (.tup ds) H) Q :=
 ⟨_,_,by unfold niD; rw[f.dat hh,Zb,(Fine.tup g).dat hk]; rfl,q⟩
theorem w_inT {a:D} {x:Uam} {h k:Nat} {ds:List D} {xs:List Uam} (f:Fine a x h) (g:Fines ds xs k) (hh:h<=30) (hk:k<30) (q:Q (.bl (xs.any fun z=>Uc z x)) H):wE (inD a (.tup ds) H) Q :=
 ⟨_,_,by unfold inD; rw[f.dat hh,Zb,(Fine.tup g).dat hk]; rfl,q⟩
theorem w_neI {i j:Int} (q:Q (.bl (!(i==j))) H):wE (neD (.int i) (.int j) H) Q:=Yad (.int i) (.int j) (by omega) (by omega) (by simpa [Uc] using q)
theorem w_neI' {i j:Int} {r:Bool} (hr:(i==j)=r) (q:Q (.bl (!r)) H):wE (neD (.int i) (.int j) H) Q:=w_neI (by rw[hr]; exact q)
end WP
set_option maxHeartbeats 8000000
namespace K08
open PySem L2 DL
nonrec def k_TRUTHS:D:=(.tup [(.bl false),(.bl true)])
nonrec def Zd6:SF :=
 (Zaf (Zbi (eAn (eCB Zyq (Zab (Zac 0) (Zab (eC (.ty "int")) Zah))) (eNo (eCB Zyq (Zab (Zac 0) (Zab (eC (.ty "bool")) Zah))))))
 Zao)
nonrec def Zfr:FF:=Za7 1 1 Zd6
nonrec def Zfh:SF :=
 (Zaf (Zbi (eOp gtD (eCB Zw4 (Zab (Zac 0) Zah)) (eCB Zev (Zab (Zac 1) Zah))))
 Zao)
nonrec def Zgn:FF:=Za7 2 2 Zfh
nonrec def Zec:SF :=
 (Zaf (Zbi (eAn (eNo (Zak 2 Zgn (Zab (Zac 0) (Zab (Zac 1) Zah)))) (eOp eqD (eOp ixD (Zac 1) (eOp Zn4 (eCB Zw4 (Zab (Zac 0) Zah)) (eC (.int 1)))) (eOp gtD (Zac 0) (eC (.int 0))))))
 Zao)
nonrec def Zdf:FF:=Za7 2 2 Zec
nonrec def Ze0:SF :=
 (Zaf (Zex (iSq (Zac 0)) (gNm 2) (Zaf (sIf (Zqk (Zhu (Zak 2 Zgn (Zab (Zac 2) (Zab (Zac 1) Zah)))) (Zhu (Zak 2 Zdf (Zab (Zac 2) (Zab (Zac 1) Zah))))) (Zaf (Zbi (eC (.bl false)))
 Zao) Zao)
 Zao))
 (Zaf (Zbi (eC (.bl true)))
 Zao))
nonrec def Zik:FF:=Za7 2 3 Ze0
nonrec def Zb3:SF :=
 (Zaf (Zbl 1 eDN)
 (Zaf (Zex (Zwy (Zab (Zac 0) Zah)) (gTp 2 (gCn (gNm 2) (gCn (gNm 3) gNl))) (Zaf (Zcx (eDM Zj0 (Zac 1) (Zab (Zac 3) (Zab (Zac 2) Zah))))
 Zao))
 (Zaf (Zbi (Zac 1))
 Zao)))
nonrec def Zbo:FF:=Za7 1 4 Zb3
nonrec def Zck:SF :=
 (Zaf (Zbl 3 (eIf (Zhu (Zac 2)) (Zac 1) (eUn Zky (Zac 1))))
 (Zaf (Zbl 4 eDN)
 (Zaf (Zex (Zy1 (Zac 0)) (gNm 5) (Zaf (Zbl 6 (eIf (Zhu (Zac 5)) (eOp ixD (Zac 5) (eC (.int 0))) (eC (.int 0))))
 (Zaf (sIf (tOf (eOp eqD (Zac 6) (eUn Zky (Zac 3)))) (Zaf (Zcx (eDM Zj0 (Zac 4) (Zab (eSl (Zac 5) (Zio (eC (.int 1))) Zj4) (Zab (eOp Zfx (Zac 0) (Zac 5)) Zah))))
 Zao) (Zaf (sIf (tOf (eOp neD (Zac 6) (Zac 3))) (Zaf (Zcx (eDM Zj0 (Zac 4) (Zab (Zac 5) (Zab (eOp Zfx (Zac 0) (Zac 5)) Zah))))
 Zao) Zao)
 Zao))
 Zao)))
 (Zaf (Zbi (Zac 4))
 Zao))))
nonrec def Za5:FF:=Za7 3 7 Zck
nonrec def Zbg:SF :=
 (Zaf (Zbl 2 (Zak 1 Zbo (Zab (Zac 0) Zah)))
 (Zaf (Zex (Zp2 (Zab (Zac 1) Zah)) (gTp 2 (gCn (gNm 3) (gCn (gNm 4) gNl))) (Zaf (Zbl 2 (Zak 3 Za5 (Zab (Zac 2) (Zab (Zac 3) (Zab (Zac 4) Zah)))))
 Zao))
 (Zaf (Zbi (Zac 2))
 Zao)))
nonrec def Zbx:FF:=Za7 2 5 Zbg
nonrec def Zc2:SF :=
 (Zaf (Zbi (eIf (tOf (eOp eqD (Zac 0) (eC (.str "some")))) (eC (.str "all")) (eC (.str "some"))))
 Zao)
nonrec def Zbp:FF:=Za7 1 1 Zc2
nonrec def Za4 (F:FF):SF :=
 (Zaf (sIf (tOf (eOp dinD (Zef Zah) (Zac 1))) (Zaf (Zbi (eC (.str "all")))
 Zao) Zao)
 (Zaf (sIf (tOf (eOp eqD (eCB Zlu (Zab (Zac 1) Zah)) (eC (.int 0)))) (Zaf (Zbi (eC (.str "some")))
 Zao) Zao)
 (Zaf (Zbl 3 (eOp ixD (Zac 0) (Zac 2)))
 (Zaf (Zex (iSq (eC k_TRUTHS)) (gNm 4) (Zaf (sIf (tOf (eOp eqD (Zak 3 F (Zab (Zac 0) (Zab (Zak 3 Za5 (Zab (Zac 1) (Zab (eOp Zcu (Zac 2) (eC (.int 1))) (Zab (Zac 4) Zah)))) (Zab (eOp Zcu (Zac 2) (eC (.int 1))) Zah)))) (Zac 3))) (Zaf (Zbi (Zac 3))
 Zao) Zao)
 Zao))
 (Zaf (Zbi (Zak 1 Zbp (Zab (Zac 3) Zah)))
 Zao)))))
nonrec def Zcm:FF:=Zzx 3 5 Za4 10
nonrec def Zgz:SF :=
 (Zaf (Zbi (Zak 3 Zcm (Zab (eOp ixD (Zac 0) (eC (.int 0))) (Zab (Zak 2 Zbx (Zab (eOp ixD (Zac 0) (eC (.int 1))) (Zab (Zac 1) Zah))) (Zab (eCB Zev (Zab (Zac 1) Zah)) Zah)))))
 Zao)
nonrec def Zeo:FF:=Za7 2 2 Zgz
nonrec def Zc3:SF :=
 (Zaf (sIf (tOf (eOp eqD (eCB Zev (Zab (Zac 1) Zah)) (eCB Zev (Zab (eOp ixD (Zac 0) (eC (.int 0))) Zah)))) (Zaf (Zbi (Zfw Zah))
 Zao) Zao)
 (Zaf (Zbl 2 (eOp ixD (eOp ixD (Zac 0) (eC (.int 0))) (eCB Zev (Zab (Zac 1) Zah))))
 (Zaf (Zbi (eLC (iSq (eC k_TRUTHS)) [0,1,2] (tOf (eOp eqD (Zak 2 Zeo (Zab (Zac 1) (Zab (eOp Zcu (Zac 2) (Zef (Zab (Zac 0) Zah))) Zah))) (Zac 3))) (Zac 0)))
 Zao)))
nonrec def Zfj:FF:=Za7 2 3 Zc3
nonrec def Zc4:SF :=
 (Zaf (Zbi (eCB Zyg (Zab (eLC (iSq (Zac 1)) [0] Zv2 (eOp eqD (eOp ixD (Zac 1) (eOp Zn4 (eCB Zw4 (Zab (Zac 0) Zah)) (eC (.int 1)))) (eC (.str "all")))) Zah)))
 Zao)
nonrec def Ze9:FF:=Za7 2 2 Zc4
nonrec def Zbt:SF :=
 (Zaf (Zex (Zy1 (Zac 1)) (gNm 2) (Zaf (sIf (Zhu (Zak 2 Ze9 (Zab (Zac 0) (Zab (Zac 2) Zah)))) (Zaf (Zbi (eOp Zfx (Zac 1) (Zac 2)))
 Zao) Zao)
 Zao))
 (Zaf (Zbi (eC .non))
 Zao))
nonrec def Zdd:FF:=Za7 2 3 Zbt
nonrec def Zb8:SF :=
 (Zaf (Zbi (eAn (Zak 1 Zfr (Zab (Zac 0) Zah)) (eCh leD ltD (eC (.int 0)) (Zac 0) (Zac 1))))
 Zao)
nonrec def Zbw:FF:=Za7 2 2 Zb8
nonrec def Zbh:SF :=
 (Zaf (Zbi (eAn (Zak 1 Zfr (Zab (Zac 2) Zah)) (eAn (eCh leD leD (eC (.int 1)) (Zac 2) (eCB Zev (Zab (Zac 0) Zah))) (eOp neD (eOp ixD (Zac 0) (eOp Zn4 (Zac 2) (eC (.int 1)))) (Zac 1)))))
 Zao)
nonrec def Zco:FF:=Za7 3 3 Zbh
nonrec def Zd1:SF :=
 (Zaf (Zbl 3 (eCB Zev (Zab (Zac 2) Zah)))
 (Zaf (sWh (tAn (tOf (eOp gtD (Zac 3) (eC (.int 0)))) (tOf (eOp eqD (eOp ixD (Zac 0) (eOp Zn4 (eCB Zw4 (Zab (eOp ixD (Zac 2) (eOp Zn4 (Zac 3) (eC (.int 1)))) Zah)) (eC (.int 1)))) (Zac 1)))) (Zaf (sAug (fun i j=>i - j) 3 (eC (.int 1)))
 Zao) 20)
 (Zaf (Zbi (eSl (Zac 2) Zj4 (Zio (Zac 3))))
 Zao)))
nonrec def Zfu:FF:=Za7 3 4 Zd1
nonrec def Ze5:SF :=
 (Zaf (Zbi (eCB Zfi (Zab (eLC (iSq (Zac 0)) [1] (tOf (eOp neD (Zac 0) (Zac 1))) (Zac 0)) Zah)))
 Zao)
nonrec def Zgt:FF:=Za7 2 2 Ze5
nonrec def Zni:SF :=
 (Zaf (Zbl 2 (eCB Zxj (Zab (Zac 0) Zah)))
 (Zaf (Zex (iSq (Zac 1)) (gNm 3) (Zaf (sIf (tOf (eOp inD (eUn Zky (Zac 3)) (Zac 0))) (Zaf (Zbi (eC .non))
 Zao) Zao)
 (Zaf (sIf (tOf (eOp niD (Zac 3) (Zac 0))) (Zaf (Zcx (eLM Zci (Zac 2) (Zab (Zac 3) Zah)))
 Zao) Zao)
 Zao)))
 (Zaf (Zbi (eCB Zfi (Zab (eCB Znh (Zab (Zac 2) Zah)) Zah)))
 Zao)))
nonrec def Zs7:FF:=Za7 2 4 Zni
nonrec def Zgm:SF :=
 (Zaf (sIf (Zqk (tOf (eOp niD (Zac 2) (Zac 0))) (tOf (eOp niD (eUn Zky (Zac 2)) (Zac 1)))) (Zaf (Zbi (eC .non))
 Zao) Zao)
 (Zaf (Zbi (Zak 2 Zs7 (Zab (Zak 2 Zgt (Zab (Zac 0) (Zab (Zac 2) Zah))) (Zab (Zak 2 Zgt (Zab (Zac 1) (Zab (eUn Zky (Zac 2)) Zah))) Zah))))
 Zao))
nonrec def Zh8:FF:=Za7 3 3 Zgm
nonrec def Zb9:SF :=
 (Zaf (sIf (Zqk (tOf (eOp neD (eCB Zev (Zab (Zac 3) Zah)) (eC (.int 2)))) (tNo (Zhu (Zak 2 Zbw (Zab (eOp ixD (Zac 3) (eC (.int 1))) (Zab (eCB Zev (Zab (Zac 2) Zah)) Zah)))))) (Zaf (Zbi (eC .non))
 Zao) Zao)
 (Zaf (Zbi (Zak 3 Zfu (Zab (Zac 0) (Zab (Zac 1) (Zab (eOp ixD (Zac 2) (eOp ixD (Zac 3) (eC (.int 1)))) Zah)))))
 Zao))
nonrec def Zf0:FF:=Za7 4 4 Zb9
nonrec def Zbu:SF :=
 (Zaf (sIf (Zqk (tOf (eOp neD (eCB Zev (Zab (Zac 3) Zah)) (eC (.int 4)))) (Zqk (tNo (Zhu (Zak 2 Zbw (Zab (eOp ixD (Zac 3) (eC (.int 1))) (Zab (eCB Zev (Zab (Zac 2) Zah)) Zah))))) (tNo (Zhu (Zak 2 Zbw (Zab (eOp ixD (Zac 3) (eC (.int 2))) (Zab (eCB Zev (Zab (Zac 2) Zah)) Zah))))))) (Zaf (Zbi (eC .non))
 Zao) Zao)
 (Zaf (sIf (tNo (Zhu (Zak 3 Zco (Zab (Zac 0) (Zab (Zac 1) (Zab (eOp ixD (Zac 3) (eC (.int 3))) Zah)))))) (Zaf (Zbi (eC .non))
 Zao) Zao)
 (Zaf (Zbi (Zak 3 Zh8 (Zab (eOp ixD (Zac 2) (eOp ixD (Zac 3) (eC (.int 1)))) (Zab (eOp ixD (Zac 2) (eOp ixD (Zac 3) (eC (.int 2)))) (Zab (eOp ixD (Zac 3) (eC (.int 3))) Zah)))))
 Zao)))
nonrec def Zer:FF:=Za7 4 4 Zbu
nonrec def Zd2:SF :=
 (Zaf (Zcx (eLM Zci (Zac 2) (Zab (Zef (Zab (Zac 3) (Zab (Zac 4) Zah))) Zah)))
 (Zaf (Zbl 5 (Zak 3 Zfu (Zab (Zac 0) (Zab (Zac 1) (Zab (Zac 4) Zah)))))
 (Zaf (sIf (tOf (eOp neD (Zac 5) (Zac 4))) (Zaf (Zcx (eLM Zci (Zac 2) (Zab (Zef (Zab (Zef (Zab (eC (.str "less")) (Zab (eOp Zn4 (eCB Zev (Zab (Zac 2) Zah)) (eC (.int 1))) Zah))) (Zab (Zac 5) Zah))) Zah)))
 Zao) Zao)
 Zao)))
nonrec def Zfp:FF:=Za7 5 6 Zd2
nonrec def Zc1:SF :=
 (Zaf (sIf (Zqk (tOf (eOp neD (eCB Zev (Zab (Zac 1) Zah)) (eC (.int 2)))) (Zqk (tOf (eOp neD (eOp ixD (Zac 1) (eC (.int 0))) (eC (.str "row")))) (tNo (Zhu (Zak 2 Zbw (Zab (eOp ixD (Zac 1) (eC (.int 1))) (Zab (eCB Zev (Zab (eOp ixD (Zac 0) (eC (.int 1))) Zah)) Zah))))))) (Zaf (Zbi (eC .non))
 Zao) Zao)
 (Zaf (Zbi (eOp ixD (eOp ixD (Zac 0) (eC (.int 1))) (eOp ixD (Zac 1) (eC (.int 1)))))
 Zao))
nonrec def Zhv:FF:=Za7 2 2 Zc1
nonrec def Zb4:SF :=
 (Zaf (sIf (tOf (eOp eqD (Zac 0) (eC (.str "all")))) (Zaf (Zbi (Zak 2 Zik (Zab (Zac 1) (Zab (Zac 2) Zah))))
 Zao) Zao)
 (Zaf (Zbi (eCB Zyg (Zab (eLC (iSq (Zac 1)) [2] Zv2 (Zak 2 Zdf (Zab (Zac 0) (Zab (Zac 1) Zah)))) Zah)))
 Zao))
nonrec def Zff:FF:=Za7 3 3 Zb4
nonrec def Zcb:SF :=
 (Zaf (Zbi (eIf (tOf (eOp eqD (Zac 2) (eOp eqD (Zac 0) (eC (.str "some"))))) (Zac 1) (eUn Zky (Zac 1))))
 Zao)
nonrec def Zdy:FF:=Za7 3 3 Zcb
nonrec def Zdj:SF :=
 (Zaf (Zbi (eOp ixD (Zac 1) (eC (.int 1))))
 Zao)
nonrec def Zi1:FF:=Za7 2 2 Zdj
nonrec def Zca:SF :=
 (Zaf (sIf (Zqk (tNo (Zhu (eCB Zyq (Zab (Zac 4) (Zab (eC (.ty "tuple")) Zah))))) (tOf (eOp eqD (eCB Zev (Zab (Zac 4) Zah)) (eC (.int 0))))) (Zaf (Zbi (eC .non))
 Zao) Zao)
 (Zaf (sIf (tOf (eOp eqD (eOp ixD (Zac 4) (eC (.int 0))) (eC (.str "less")))) (Zaf (Zbi (Zak 4 Zf0 (Zab (eOp ixD (Zac 0) (eC (.int 0))) (Zab (Zac 1) (Zab (Zac 3) (Zab (Zac 4) Zah))))))
 Zao) Zao)
 (Zaf (sIf (tOf (eOp eqD (eOp ixD (Zac 4) (eC (.int 0))) (eC (.str "joined")))) (Zaf (Zbi (Zak 4 Zer (Zab (eOp ixD (Zac 0) (eC (.int 0))) (Zab (Zac 1) (Zab (Zac 3) (Zab (Zac 4) Zah))))))
 Zao) Zao)
 (Zaf (Zbi (Zxx (Zke 2 2 "claims_row" Zhv (Zab (Zac 0) (Zab (Zac 4) Zah))) (Zke 2 2 "told_term" Zi1 (Zab (Zac 0) (Zab (Zac 4) Zah)))))
 Zao))))
nonrec def Zg3:FF:=Za7 5 5 Zca
nonrec def Zea:SF :=
 (Zaf (Zbl 4 (Zfw Zah))
 (Zaf (Zex (Zpt (Zab (Zac 3) Zah)) (gTp 2 (gCn (gNm 5) (gCn (gNm 6) gNl))) (Zaf (Zbl 7 (Zak 5 Zg3 (Zab (Zac 0) (Zab (Zac 1) (Zab (Zac 2) (Zab (Zac 4) (Zab (Zac 6) Zah)))))))
 (Zaf (sIf (tOf (eOp isD (Zac 7) (eC .non))) (Zaf sErr
 Zao) Zao)
 (Zaf (Zcx (eLM Zci (Zac 4) (Zab (Zac 7) Zah)))
 Zao))))
 (Zaf (Zbi (Zac 4))
 Zao)))
nonrec def Zhe:FF:=Za7 4 8 Zea
nonrec def Zd8:SF :=
 (Zaf (Zbl 5 (Zak 4 Zhe (Zab (Zac 0) (Zab (Zac 1) (Zab (Zac 2) (Zab (Zac 3) Zah))))))
 (Zaf (Zbl 6 (eOp Zcu (eCB Zev (Zab (Zac 4) Zah)) (eC (.int 1))))
 (Zaf (Zex (Zse (Zab (Zac 3) (Zab (Zac 5) Zah))) (gTp 2 (gCn (gNm 7) (gCn (gNm 8) gNl))) (Zaf (sIf (tAn (tOf (eOp eqD (eOp ixD (Zac 7) (eC (.int 0))) (eC (.str "less")))) (Zhu (Zak 3 Zff (Zab (Zac 1) (Zab (Zac 8) (Zab (Zac 4) Zah)))))) (Zaf (Zex (iSq (eC k_TRUTHS)) (gNm 9) (Zaf (sIf (tOf (eOp inD (Zak 3 Zdy (Zab (Zac 1) (Zab (Zac 6) (Zab (Zac 9) Zah)))) (eOp ixD (Zac 5) (eOp ixD (Zac 7) (eC (.int 1)))))) (Zaf (Zbi (Zac 9))
 Zao) Zao)
 Zao))
 Zao) Zao)
 Zao))
 (Zaf (Zbi (eC (.bl false)))
 Zao))))
nonrec def Zft:FF:=Za7 5 10 Zd8
nonrec def Zfn:SF :=
 (Zaf (Zbi (Zak 5 Zft (Zab (Zac 0) (Zab (eC (.str "all")) (Zab (eC (.ty "claims_row")) (Zab (Zac 1) (Zab (Zac 2) Zah)))))))
 Zao)
nonrec def Znc:FF:=Za7 3 3 Zfn
nonrec def Zd7:SF :=
 (Zaf (Zbi (Zak 5 Zft (Zab (Zac 0) (Zab (eC (.str "some")) (Zab (eC (.ty "told_term")) (Zab (Zac 1) (Zab (Zac 2) Zah)))))))
 Zao)
nonrec def Zkm:FF:=Za7 3 3 Zd7
nonrec def Zbd:SF :=
 (Zaf (Zbi (eCB Yee (Zab (eLC (iSq (Zac 0)) [1] Zv2 (eOp iinD (Zac 0) (Zac 1))) Zah)))
 Zao)
nonrec def Zb6:FF:=Za7 2 2 Zbd
nonrec def Zcc:SF :=
 (Zaf (Zbl 2 eDI)
 (Zaf (Zex (iSq (Zac 0)) (gNm 3) (Zaf (sIf (tNo (Zhu (Zak 2 Zb6 (Zab (Zac 3) (Zab (Zac 2) Zah))))) (Zaf (Zbl 4 (eLC (iSq (Zac 3)) [1] (Zhu (Zak 2 Zdf (Zab (Zac 0) (Zab (Zac 1) Zah)))) (Zac 0)))
 (Zaf (Zvs (eC (.bl true)) (gSb (Zac 2) (eOp ixD (Zac 4) (eC (.int 0))) Zru))
 Zao)) Zao)
 Zao))
 (Zaf (Zbi (eCB Zfi (Zab (eCB Zi7 (Zab (Zac 2) Zah)) Zah)))
 Zao)))
nonrec def Zdx:FF:=Za7 2 5 Zcc
nonrec def Zfm:SF :=
 (Zaf (Zbl 2 (eOp ixD (Zfw (Zab (eC (.int 2147483647)) (Zab (eC (.int 2147483629)) (Zab (eC (.int 2147483587)) (Zab (eC (.int 2147483579)) (Zab (eC (.int 2147483563)) (Zab (eC (.int 2147483549)) (Zab (eC (.int 2147483543)) Zah)))))))) (eOp Zg5 (Zac 1) (eC (.int 7)))))
 (Zaf (Zbl 3 (eOp Zg5 (eOp Zra (eOp Zcu (eOp Zg5 (Zac 0) (eC (.int 998244353))) (eOp Zra (eC (.int 104729)) (eOp Zcu (Zac 1) (eC (.int 1))))) (eOp Zcu (eOp Zcu (eOp Zra (Zac 1) (Zac 1)) (eOp Zra (eC (.int 7)) (Zac 1))) (eC (.int 13)))) (Zac 2)))
 (Zaf (Zbl 3 (eOp Zg5 (eOp Ya8 (Zac 3) (eC (.int 5))) (eC (.int 1000000007))))
 (Zaf (Zbl 3 (eOp Zg5 (eOp Zcu (eOp Zcu (eOp Zra (Zac 3) (eC (.int 48271))) (eOp Zra (eC (.int 31)) (Zac 1))) (eC (.int 5))) (Zac 2)))
 (Zaf (Zbi (eOp Zrk (eOp Zg5 (eOp Ya8 (Zac 3) (eC (.int 3))) (eC (.int 998244353))) (eC (.int 8))))
 Zao)))))
nonrec def Zjb:FF:=Za7 2 4 Zfm
nonrec def Zc7:SF :=
 (Zaf (Zbl 2 (Zfw Zah))
 (Zaf (Zbl 3 (eCB Zw4 (Zab (Zac 0) Zah)))
 (Zaf (Zbl 4 (eOp geD (Zac 3) (eOp Ya8 (eC (.int 10)) (eC (.int 18)))))
 (Zaf (Zex (iR1 (Zab (Zac 1) Zah)) (gNm 5) (Zaf (sIf (tAn (Zhu (Zac 4)) (tOf (eOp gtD (Zac 3) (eC (.int 0))))) (Zaf (Zcx (eLM Zci (Zac 2) (Zab (eOp Zg5 (Zac 3) (eC (.int 10007))) Zah)))
 (Zaf (Zbl 3 (eOp Zrk (Zac 3) (eC (.int 10007))))
 Zao)) (Zaf (Zcx (eLM Zci (Zac 2) (Zab (Zak 2 Zjb (Zab (Zac 0) (Zab (Zac 5) Zah))) Zah)))
 Zao))
 Zao))
 (Zaf (Zbi (Zac 2))
 Zao)))))
nonrec def Zch:FF:=Za7 2 6 Zc7
nonrec def Zgk:SF :=
 (Zaf (sIf (tOf (eOp ltD (Zac 1) (eCB Zev (Zab (Zac 0) Zah)))) (Zaf (Zbi (eOp ixD (Zac 0) (Zac 1)))
 Zao) Zao)
 (Zaf (Zbi (eOp Zcu (eOp Zcu (eOp Zra (eC (.int 67)) (Zac 1)) (eC (.int 19))) (eCB Zev (Zab (Zac 0) Zah))))
 Zao))
nonrec def Zep:FF:=Za7 2 2 Zgk
nonrec def Zdl:SF :=
 (Zaf (Zbl 2 (Zfw Zah))
 (Zaf (Zex (iR1 (Zab (Zac 1) Zah)) (gNm 3) (Zaf (Zbl 4 (eOp ixD (Zfw (Zab (eC (.str "all")) (Zab (eC (.str "some")) Zah))) (eOp Zg5 (eOp ixD (Zac 0) (eOp Zcu (eC (.int 1)) (Zac 3))) (eC (.int 2)))))
 (Zaf (sIf (tOf (eOp eqD (eOp Zg5 (eOp ixD (Zac 0) (eC (.int 0))) (eC (.int 4))) (eC (.int 1)))) (Zaf (Zbl 4 (eOp ixD (Zfw (Zab (eC (.str "some")) (Zab (eC (.str "all")) Zah))) (eOp Zg5 (eOp Zcu (Zac 3) (eOp ixD (Zac 0) (eC (.int 1)))) (eC (.int 2)))))
 Zao) Zao)
 (Zaf (sIf (tOf (eOp eqD (eOp Zg5 (eOp ixD (Zac 0) (eC (.int 0))) (eC (.int 4))) (eC (.int 2)))) (Zaf (Zbl 4 (eOp ixD (Zfw (Zab (eC (.str "all")) (Zab (eC (.str "some")) Zah))) (eCB Zvo (Zab (eOp gtD (eOp Zg5 (eOp ixD (Zac 0) (eOp Zcu (eC (.int 1)) (Zac 3))) (eC (.int 3))) (eC (.int 0))) Zah))))
 Zao) Zao)
 (Zaf (Zcx (eLM Zci (Zac 2) (Zab (Zac 4) Zah)))
 Zao)))))
 (Zaf (Zbi (eCB Zfi (Zab (Zac 2) Zah)))
 Zao)))
nonrec def Zga:FF:=Za7 2 5 Zdl
nonrec def Ze8:SF :=
 (Zaf (Zbl 3 (Zak 2 Zch (Zab (Zac 0) (Zab (eOp Zcu (Zac 1) (eC (.int 1))) Zah))))
 (Zaf (Zbl 4 (Zfw Zah))
 (Zaf (Zex (iR1 (Zab (Zac 1) Zah)) (gNm 5) (Zaf (sIf (tOf (eOp ltD (eOp Zg5 (eOp ixD (Zac 3) (eOp Zcu (eC (.int 1)) (Zac 5))) (eOp Zcu (Zac 1) (eC (.int 1)))) (eOp Zcu (Zac 2) (eOp Zg5 (eOp ixD (Zac 3) (eC (.int 0))) (eC (.int 3)))))) (Zaf (Zcx (eLM Zci (Zac 4) (Zab (eOp ixD (Zfw (Zab (eOp Zcu (Zac 5) (eC (.int 1))) (Zab (eOp Zn4 (eOp Zn4 (eC (.int 0)) (Zac 5)) (eC (.int 1))) Zah))) (eOp Zg5 (eOp Zrk (eOp ixD (Zac 3) (eOp Zcu (eC (.int 1)) (Zac 5))) (eOp Zcu (Zac 1) (eC (.int 1)))) (eC (.int 2)))) Zah)))
 Zao) Zao)
 Zao))
 (Zaf (Zbi (eCB Zfi (Zab (Zac 4) Zah)))
 Zao))))
nonrec def Zi4:FF:=Za7 3 6 Ze8
nonrec def Zdr:SF :=
 (Zaf (Zbl 2 (Zak 2 Zch (Zab (Zak 2 Zep (Zab (Zac 0) (Zab (eC (.int 0)) Zah))) (Zab (eC (.int 14)) Zah))))
 (Zaf (Zbl 3 (eOp ixD (Zfw (Zab (eOp Zg5 (eOp ixD (Zac 2) (eC (.int 0))) (eOp Zcu (Zac 1) (eC (.int 1)))) (Zab (eOp Zn4 (Zac 1) (eOp Zg5 (eOp ixD (Zac 2) (eC (.int 0))) (eC (.int 3)))) (Zab (Zac 1) Zah)))) (eOp Zg5 (eOp ixD (Zac 2) (eC (.int 1))) (eC (.int 3)))))
 (Zaf (Zbl 4 (Zak 2 Zga (Zab (eSl (Zac 2) (Zio (eC (.int 2))) Zj4) (Zab (eCB maxD (Zab (eC (.int 0)) (Zab (Zac 3) Zah))) Zah))))
 (Zaf (Zbl 5 (eOp ixD (Zfw (Zab (eOp Zg5 (eOp ixD (Zac 2) (eC (.int 12))) (eC (.int 5))) (Zab (eOp Zg5 (eOp ixD (Zac 2) (eC (.int 12))) (eC (.int 11))) (Zab (eOp Zcu (eC (.int 5)) (eOp Zg5 (eOp ixD (Zac 2) (eC (.int 12))) (eC (.int 16)))) Zah)))) (eOp Zg5 (eOp ixD (Zac 2) (eC (.int 11))) (eC (.int 3)))))
 (Zaf (Zbl 6 (eLC (iR1 (Zab (Zac 5) Zah)) [0,4] Zv2 (Zak 3 Zi4 (Zab (Zak 2 Zep (Zab (Zac 1) (Zab (eOp Zcu (eC (.int 1)) (Zac 0)) Zah))) (Zab (eCB Zev (Zab (Zac 2) Zah)) (Zab (eC (.int 1)) Zah))))))
 (Zaf (sIf (tOf (eOp gtD (eOp Zg5 (eOp ixD (Zac 2) (eC (.int 13))) (eC (.int 3))) (eC (.int 0)))) (Zaf (Zbl 6 (eLC (iSq (Zac 6)) [] (tOf (eOp neD (Zac 0) (Zef Zah))) (Zac 0)))
 Zao) Zao)
 (Zaf (Zbi (Zef (Zab (Zac 4) (Zab (eCB Zfi (Zab (Zac 6) Zah)) Zah))))
 Zao)))))))
nonrec def Zgg:FF:=Za7 2 7 Zdr
nonrec def Zdm:SF :=
 (Zaf (Zbi (eOp eqD (eOp ixD (Zac 1) (eOp Zn4 (eCB Zw4 (Zab (Zac 0) Zah)) (eC (.int 1)))) (eOp gtD (Zac 0) (eC (.int 0)))))
 Zao)
nonrec def Zen:FF:=Za7 2 2 Zdm
nonrec def Zdk:SF :=
 (Zaf (Zbl 1 (Zfw (Zab (Zef Zah) Zah)))
 (Zaf (Zex (iR1 (Zab (Zac 0) Zah)) (gNm 2) (Zaf (Zbl 3 (Zfw Zah))
 (Zaf (Zex (iSq (Zac 1)) (gNm 4) (Zaf (Zbl 3 (eOp Zcu (Zac 3) (Zfw (Zab (eOp Zcu (Zac 4) (Zef (Zab (eC (.bl false)) Zah))) (Zab (eOp Zcu (Zac 4) (Zef (Zab (eC (.bl true)) Zah))) Zah)))))
 Zao))
 (Zaf (Zbl 1 (Zac 3))
 Zao))))
 (Zaf (Zbi (Zac 1))
 Zao)))
nonrec def Zek:FF:=Za7 1 5 Zdk
nonrec def Zd4:SF :=
 (Zaf (Zex (iSq (Zac 0)) (gNm 2) (Zaf (sIf (tOf (eOp eqD (eLC (iSq (Zac 2)) [1] (Zhu (Zak 2 Zen (Zab (Zac 0) (Zab (Zac 1) Zah)))) (Zac 0)) (Zfw Zah))) (Zaf (Zbi (eC (.bl true)))
 Zao) Zao)
 Zao))
 (Zaf (Zbi (eC (.bl false)))
 Zao))
nonrec def Zeg:FF:=Za7 2 3 Zd4
nonrec def Zcj:SF :=
 (Zaf (Zvs (Zac 0) (gTp 2 (gCn (gNm 4) (gCn (gNm 5) gNl))))
 (Zaf (Zbl 1 eDN)
 (Zaf (Zex (iSq (Zak 1 Zek (Zab (eCB Zev (Zab (Zac 4) Zah)) Zah))) (gNm 2) (Zaf (Zvs (eOp ixD (Zfw (Zab (eC (.str "some")) (Zab (eC (.str "all")) Zah))) (eCB Zvo (Zab (Zak 2 Zeg (Zab (Zac 5) (Zab (Zac 2) Zah))) Zah))) (gSb (Zac 1) (Zac 2) Znk))
 Zao))
 (Zaf (Zex (iRB (Zab (eOp Zn4 (eCB Zev (Zab (Zac 4) Zah)) (eC (.int 1))) (Zab (eUn Zky (eC (.int 1))) (Zab (eUn Zky (eC (.int 1))) Zah)))) (gNm 3) (Zaf (Zex (iSq (Zak 1 Zek (Zab (Zac 3) Zah))) (gNm 2) (Zaf (Zbl 6 (Zfw (Zab (eOp Zfx (Zac 1) (eOp Zcu (Zac 2) (Zef (Zab (eC (.bl false)) Zah)))) (Zab (eOp Zfx (Zac 1) (eOp Zcu (Zac 2) (Zef (Zab (eC (.bl true)) Zah)))) Zah))))
 (Zaf (Zbl 7 (eOp ixD (Zfw (Zab (eC (.str "all")) (Zab (eC (.str "some")) Zah))) (eCB Zvo (Zab (eOp eqD (eOp ixD (Zac 4) (Zac 3)) (eC (.str "all"))) Zah))))
 (Zaf (Zvs (eOp ixD (Zfw (Zab (Zac 7) (Zab (eOp ixD (Zac 4) (Zac 3)) Zah))) (eCB Zvo (Zab (eOp inD (eOp ixD (Zac 4) (Zac 3)) (Zac 6)) Zah))) (gSb (Zac 1) (Zac 2) Znk))
 Zao))))
 Zao))
 (Zaf (Zbi (Zac 1))
 Zao)))))
nonrec def Zeh:FF:=Za7 1 8 Zcj
nonrec def Zc6:SF :=
 (Zaf (sIf (tOf (eOp eqD (Zac 1) (eC (.str "all")))) (Zaf (Zbi (Zak 3 Znc (Zab (Zac 0) (Zab (Zac 2) (Zab (Zac 3) Zah)))))
 Zao) Zao)
 (Zaf (Zbi (Zak 3 Zkm (Zab (Zac 0) (Zab (Zac 2) (Zab (Zac 3) Zah)))))
 Zao))
nonrec def Zfe:FF:=Za7 4 4 Zc6
nonrec def Zbm:SF :=
 (Zaf (Zbl 4 (Zef Zah))
 (Zaf (Zex (iSq (eOp ixD (Zac 0) (eC (.int 0)))) (gNm 5) (Zaf (sIf (tOf (eOp neD (Zak 2 Zeo (Zab (Zac 0) (Zab (Zac 4) Zah))) (Zac 1))) (Zaf (Zbi (eC (.bl false)))
 Zao) Zao)
 (Zaf (Zbl 6 (eOp eqD (eOp Zg5 (eOp ixD (Zac 3) (eCB Zev (Zab (Zac 4) Zah))) (eC (.int 2))) (eC (.int 1))))
 (Zaf (sIf (tOf (eOp eqD (Zac 5) (Zac 1))) (Zaf (Zbl 6 (Zak 4 Zfe (Zab (Zac 0) (Zab (Zac 1) (Zab (Zac 2) (Zab (Zac 4) Zah))))))
 (Zaf (sIf (tOf (eOp niD (Zac 6) (Zak 2 Zfj (Zab (Zac 0) (Zab (Zac 4) Zah))))) (Zaf (Zbi (eC (.bl false)))
 Zao) Zao)
 Zao)) Zao)
 (Zaf (Zbl 4 (eOp Zcu (Zac 4) (Zef (Zab (Zac 6) Zah))))
 Zao)))))
 (Zaf (sIf (tOf (eOp neD (Zak 2 Zeo (Zab (Zac 0) (Zab (Zac 4) Zah))) (Zac 1))) (Zaf (Zbi (eC (.bl false)))
 Zao) Zao)
 (Zaf (Zbi (eOp eqD (Zak 2 Zeg (Zab (eOp ixD (Zac 0) (eC (.int 1))) (Zab (Zac 4) Zah))) (eOp eqD (Zac 1) (eC (.str "all")))))
 Zao))))
nonrec def Zcy:FF:=Za7 4 7 Zbm
nonrec def Zb2:SF :=
 (Zaf (Zbi (Zef (Zab (Zef (Zab (eC (.str "row")) (Zab (eOp ixD (Zac 0) (eC (.int 1))) Zah))) (Zab (eOp ixD (eOp ixD (Zac 2) (eC (.int 1))) (eOp ixD (Zac 0) (eC (.int 1)))) Zah))))
 Zao)
nonrec def Zdh:D->FF:=Zyi 2 3 Zb2
nonrec def Zbv:SF :=
 (Zaf (Zbl 3 (Zak 2 Zdx (Zab (eOp ixD (Zac 2) (eC (.int 1))) (Zab (Zac 1) Zah))))
 (Zaf (Zbi (Zef (Zab (Zef (Zab (eC (.str "term")) (Zab (Zac 3) Zah))) (Zab (Zac 3) Zah))))
 Zao))
nonrec def Zdb:D->FF:=Zyi 2 4 Zbv
nonrec def Zax (F1 F2:FF):SF :=
 (Zaf (sIf (tOf (eOp eqD (eCB Zlu (Zab (Zac 1) Zah)) (eC (.int 0)))) (Zaf (Zbi (Zef (Zab (eC (.str "some")) (Zab (Zef (Zab (eC (.str "kept")) Zah)) Zah))))
 Zao) Zao)
 (Zaf (Zbl 3 (Zak 2 Zdd (Zab (Zac 0) (Zab (Zac 1) Zah))))
 (Zaf (sIf (tOf (eOp isnD (Zac 3) (eC .non))) (Zaf (Zbi (Zef (Zab (eC (.str "all")) (Zab (Zef (Zab (eC (.str "lost")) (Zab (Zac 3) Zah))) Zah))))
 Zao) Zao)
 (Zaf (Zbi (Zak 3 F2 (Zab (Zac 0) (Zab (Zac 1) (Zab (Zac 2) Zah)))))
 Zao))))
nonrec def Zap (F1 F2:FF):SF :=
 (Zaf (Zbl 3 (eOp ixD (Zac 0) (Zac 2)))
 (Zaf (Zbl 4 (Zfw Zah))
 (Zaf (Zex (iSq (eC k_TRUTHS)) (gNm 5) (Zaf (Zbl 6 (Zak 3 F1 (Zab (Zac 0) (Zab (Zak 3 Za5 (Zab (Zac 1) (Zab (eOp Zcu (Zac 2) (eC (.int 1))) (Zab (Zac 5) Zah)))) (Zab (eOp Zcu (Zac 2) (eC (.int 1))) Zah)))))
 (Zaf (sIf (tOf (eOp eqD (eOp ixD (Zac 6) (eC (.int 0))) (Zac 3))) (Zaf (Zbi (Zef (Zab (Zac 3) (Zab (Zef (Zab (eC (.str "pick")) (Zab (Zac 5) (Zab (eOp ixD (Zac 6) (eC (.int 1))) Zah)))) Zah))))
 Zao) Zao)
 (Zaf (Zcx (eLM Zci (Zac 4) (Zab (eOp ixD (Zac 6) (eC (.int 1))) Zah)))
 Zao))))
 (Zaf (Zbi (Zef (Zab (Zak 1 Zbp (Zab (Zac 3) Zah)) (Zab (Zef (Zab (eC (.str "each")) (Zab (eOp ixD (Zac 4) (eC (.int 0))) (Zab (eOp ixD (Zac 4) (eC (.int 1))) Zah)))) Zah))))
 Zao))))
nonrec def Zly:FF:=(Zdv 3 4 3 7 Zax Zap 22).1
nonrec def Znb:SF :=
 (Zaf (Zbi (Zak 3 Zly (Zab (eOp ixD (Zac 0) (eC (.int 0))) (Zab (Zak 1 Zbo (Zab (eOp ixD (Zac 0) (eC (.int 1))) Zah)) (Zab (eC (.int 0)) Zah)))))
 Zao)
nonrec def Ztt:FF:=Za7 1 1 Znb
nonrec def Zan (F1 F2:FF):SF :=
 (Zaf (sIf (tOf (eOp eqD (eOp ixD (Zac 4) (eC (.int 0))) (eC (.str "pick")))) (Zaf (Zcx (Zak 6 F1 (Zab (Zac 0) (Zab (Zac 1) (Zab (Zac 2) (Zab (Zac 3) (Zab (eOp ixD (Zac 4) (eC (.int 2))) (Zab (eOp Zcu (Zac 5) (Zef (Zab (eOp ixD (Zac 4) (eC (.int 1))) Zah))) Zah))))))))
 Zao) (Zaf (sIf (tOf (eOp eqD (eOp ixD (Zac 4) (eC (.int 0))) (eC (.str "each")))) (Zaf (Zcx (Zak 6 F2 (Zab (Zac 0) (Zab (Zac 1) (Zab (Zac 2) (Zab (Zac 3) (Zab (Zac 4) (Zab (Zac 5) Zah))))))))
 Zao) (Zaf (Zbl 6 (Zxx (Zij 2 2 "row_paper" "claim" Zdh (Zab (Zac 4) (Zab (Zac 5) Zah))) (Zij 2 2 "term_paper" "claim" Zdb (Zab (Zac 4) (Zab (Zac 5) Zah)))))
 (Zaf (Zcx (Zak 5 Zfp (Zab (Zac 0) (Zab (Zac 1) (Zab (Zac 3) (Zab (eOp ixD (Zac 6) (eC (.int 0))) (Zab (eOp ixD (Zac 6) (eC (.int 1))) Zah)))))))
 Zao)))
 Zao))
 Zao)
nonrec def Zas (F1 F2:FF):SF :=
 (Zaf (Zbl 6 (eOp Zcu (eCB Zev (Zab (Zac 5) Zah)) (eC (.int 1))))
 (Zaf (Zbl 7 eDI)
 (Zaf (Zex (Zse (Zab (eC k_TRUTHS) (Zab (eSl (Zac 4) (Zio (eC (.int 1))) Zj4) Zah))) (gTp 2 (gCn (gNm 10) (gCn (gNm 11) gNl))) (Zaf (Zcx (Zak 6 F1 (Zab (Zac 0) (Zab (Zac 1) (Zab (Zac 2) (Zab (Zac 3) (Zab (Zac 11) (Zab (eOp Zcu (Zac 5) (Zef (Zab (Zac 10) Zah))) Zah))))))))
 (Zaf (Zbl 12 (eOp ixD (eOp ixD (Zac 3) (eUn Zky (eC (.int 1)))) (eC (.int 1))))
 (Zaf (sIf (tAn (tOf (eOp niD (Zac 6) (Zac 12))) (tOf (eOp niD (eUn Zky (Zac 6)) (Zac 12)))) (Zaf Zy4
 Zao) Zao)
 (Zaf (Zvs (eOp Zn4 (eCB Zev (Zab (Zac 3) Zah)) (eC (.int 1))) (gSb (Zac 7) (eOp ixD (Zac 12) (eUn Zky (eC (.int 1)))) Zru))
 Zao)))))
 (Zaf (Zbl 8 (eOp Zuf (Zac 7) (Zac 6)))
 (Zaf (Zbl 9 (eOp Zuf (Zac 7) (eUn Zky (Zac 6))))
 (Zaf (Zcx (Zak 5 Zfp (Zab (Zac 0) (Zab (Zac 1) (Zab (Zac 3) (Zab (Zef (Zab (eC (.str "joined")) (Zab (Zac 8) (Zab (Zac 9) (Zab (Zac 6) Zah))))) (Zab (Zak 3 Zh8 (Zab (eOp ixD (eOp ixD (Zac 3) (Zac 8)) (eC (.int 1))) (Zab (eOp ixD (eOp ixD (Zac 3) (Zac 9)) (eC (.int 1))) (Zab (Zac 6) Zah)))) Zah)))))))
 Zao))))))
nonrec def Zrm:FF:=(Zdv 6 7 6 13 Zan Zas 22).1
nonrec def Zil:SF :=
 (Zaf (Zbl 3 (Zak 1 Ztt (Zab (Zac 0) Zah)))
 (Zaf (sIf (tOf (eOp neD (eOp ixD (Zac 3) (eC (.int 0))) (Zac 1))) (Zaf sErr
 Zao) Zao)
 (Zaf (Zbl 4 (Zfw Zah))
 (Zaf (Zcx (Zak 6 Zrm (Zab (eOp ixD (Zac 0) (eC (.int 0))) (Zab (Zac 1) (Zab (Zac 2) (Zab (Zac 4) (Zab (eOp ixD (Zac 3) (eC (.int 1))) (Zab (Zef Zah) Zah))))))))
 (Zaf (Zbi (Yb5 (iSq (Zac 4)) [] Zv2 (Zac 0)))
 Zao)))))
nonrec def Zl2:FF:=Za7 3 5 Zil
nonrec def Zdq:SF :=
 (Zaf (Ya9 0 1 0 "row_paper" "claim")
 (Zaf (Zbi (Zak 3 Zl2 (Zab (Zac 0) (Zab (eC (.str "all")) (Zab (Zac 1) Zah)))))
 Zao))
nonrec def Zf4:FF:=Za7 1 2 Zdq
nonrec def Zc8:SF :=
 (Zaf (Ya9 1 1 0 "term_paper" "claim")
 (Zaf (Zbi (Zak 3 Zl2 (Zab (Zac 0) (Zab (eC (.str "some")) (Zab (Zac 1) Zah)))))
 Zao))
nonrec def Ze3:FF:=Za7 1 2 Zc8
nonrec def Zsy:SF :=
 (Zaf (Zbl 1 (Zak 2 Zgg (Zab (Zac 0) (Zab (eOp ixD (Zfw (Zab (eC (.int 8)) (Zab (eC (.int 7)) (Zab (eC (.int 6)) (Zab (eC (.int 6)) Zah))))) (eOp Zg5 (eOp ixD (Zak 2 Zch (Zab (Zak 2 Zep (Zab (Zac 0) (Zab (eC (.int 1)) Zah))) (Zab (eC (.int 31)) Zah))) (eC (.int 30))) (eC (.int 4)))) Zah))))
 (Zaf (Zbl 2 (eOp Zfx (Zak 1 Zeh (Zab (Zac 1) Zah)) (Zef Zah)))
 (Zaf (Zbl 3 (Zfw Zah))
 (Zaf (sIf (tOf (eOp eqD (Zac 2) (eC (.str "all")))) (Zaf (Zbl 3 (Zak 1 Zf4 (Zab (Zac 1) Zah)))
 Zao) (Zaf (Zbl 3 (Zak 1 Ze3 (Zab (Zac 1) Zah)))
 Zao))
 (Zaf (Zex (iR1 (Zab (eC (.int 3)) Zah)) (gNm 4) (Zaf (sIf (tNo (Zhu (Zak 4 Zcy (Zab (Zac 1) (Zab (Zac 2) (Zab (Zac 3) (Zab (eSl (Zak 2 Zch (Zab (Zak 2 Zep (Zab (Zac 0) (Zab (Zac 4) Zah))) (Zab (eC (.int 40)) Zah))) (Zio (eC (.int 30))) Zj4) Zah))))))) (Zaf (Zbi (eC (.bl false)))
 Zao) Zao)
 Zao))
 (Zaf (Zbi (eC (.bl true)))
 Zao))))))
nonrec def Zqp:FF:=Za7 1 5 Zsy
end K08
set_option maxHeartbeats 4000000
namespace K08
open PySem L2 DL LH
nonrec def opn (bs:List Bool) (l:Int):Bool:=decide ((bs.length:Int)<Zar l)
nonrec def rig (bs:List Bool) (l:Int):Bool:=match bs[(Zar l - 1).toNat]? with
 | some b=>b==decide (0<l)
 | none=>false
nonrec def kept (bs:List Bool) (ls:List Int):Bool:=ls.any (rig bs)
nonrec def rest (bs:List Bool) (ls:List Int):List Int:=ls.filter (opn bs)
nonrec def Ze2 (b:Int):List Int->List Int
 | []=>[]
 | l::r=>if Zar l=b+1 then r else l::r
nonrec def Zju (b:Int) (t:Bool):List Int->Bool
 | []=>false
 | l::_=>decide (Zar l=b+1)&&(t==decide (0<l))
theorem Zf9 {m:Int} (bs:List Bool):∀ (ls:List Int) (last:Int),Up m last ls->(bs.length:Int)<=last->rest bs ls=ls/\kept bs ls=false
 | [],_,_,_=>⟨rfl,rfl⟩
 | l::r,last,u,h=>by
  obtain⟨h1,h2,h3⟩:=u
  obtain⟨a,b⟩:=Zf9 bs r (Zar l) h3 (by omega)
  have o:opn bs l=true:=decide_eq_true (by omega)
  have g:rig bs l=false:=by
   unfold rig
   rw[Wbr (by omega)]
  refine⟨?_,?_⟩
  ·unfold rest; rw[Wbz o]; exact congrArg _ a
  ·unfold kept; rw[Wdk,g]; exact b
theorem Zz4 {bs:List Bool} {t:Bool} {l:Int} (h:Zar l<=bs.length) (h0:0<Zar l):rig (bs++[t]) l=rig bs l:=by
 unfold rig
 rw[Xg (by omega)]
theorem Zgh {m:Int} (bs:List Bool) (t:Bool):∀ (ls:List Int) (last:Int),0<=last->Up m last ls->rest (bs++[t]) ls=Ze2 bs.length (rest bs ls)/\kept (bs++[t]) ls=(kept bs ls||Zju bs.length t (rest bs ls))
 | [],_,_,_=>⟨rfl,rfl⟩
 | l::r,last,h0,u=>by
  obtain⟨h1,h2,h3⟩:=u
  have la:(((bs++[t]).length:Nat):Int)=bs.length+1:=by simp
  by_cases c1:Zar l<=bs.length
  ·obtain⟨a,b⟩:=Zgh bs t r (Zar l) (by omega) h3
   have o1:opn bs l=false:=decide_eq_false (by omega)
   have o2:opn (bs++[t]) l=false:=decide_eq_false (by rw[la]; omega)
   have e:rest bs (l::r)=rest bs r:=by unfold rest; rw[Wbc (by rw[o1]; simp)]
   have e':rest (bs++[t]) (l::r)=rest (bs++[t]) r:=by unfold rest; rw[Wbc (by rw[o2]; simp)]
   rw[e,e']
   refine⟨a,?_⟩
   have k:∀ cs,kept cs (l::r)=(rig cs l||kept cs r):=fun cs=>by unfold kept; rw[Wdk]
   rw[k,k,Zz4 c1 (by omega),b,Bool.or_assoc]
  ·have o1:opn bs l=true:=decide_eq_true (by omega)
   obtain⟨a1,a2⟩:=Zf9 bs r (Zar l) h3 (by omega)
   have e:rest bs (l::r)=l::r:=by unfold rest; rw[Wbz o1]; exact congrArg _ a1
   have g1:rig bs l=false:=by unfold rig; rw[Wbr (by omega)]
   have k:∀ cs,kept cs (l::r)=(rig cs l||kept cs r):=fun cs=>by unfold kept; rw[Wdk]
   by_cases c2:Zar l=bs.length+1
   ·obtain⟨b1,b2⟩:=Zf9 (bs++[t]) r (Zar l) h3 (by rw[la]; omega)
    have o2:opn (bs++[t]) l=false:=decide_eq_false (by rw[la]; omega)
    have e':rest (bs++[t]) (l::r)=r:=by unfold rest; rw[Wbc (by rw[o2]; simp)]; exact b1
    have g2:rig (bs++[t]) l=(t==decide (0<l)):=by
     unfold rig
     have:(Zar l - 1).toNat=bs.length:=by omega
     rw[this]; simp
    rw[e,e',k,k,g1,g2,a2,b2]
    refine⟨by simp[Ze2,c2],by simp[Zju,c2]⟩
   ·obtain⟨b1,b2⟩:=Zf9 (bs++[t]) (l::r) (Zar l - 1) ⟨by omega,h2,h3⟩ (by rw[la]; omega)
    rw[e,b1,k bs,g1,a2,b2]
    refine⟨by simp[Ze2,c2],by simp[Zju,c2]⟩
theorem Zph:∀ ls:List Int,Zk3 (ls.map .int)=some ls
 | []=>rfl
 | l::r=>by simp[Zk3,nkOf,Zph r]
theorem Zed (ls:List Int):nk (Zay ls)=some ls:=Zph ls
theorem Zwl {kvs:List (D×D)} {kd vd:D} {k k':List Int} (h:nk kd=some k) (h0:Zbf kvs k=none):(Zbf (Zn6 kvs kd k vd) k').isSome=((Zbf kvs k').isSome||decide (k'=k)):=by
 have e:Zn6 kvs kd k vd=kvs++[(kd,vd)]:=by unfold Zn6; rw[h0]; rfl
 rw[e]
 unfold Zbf
 rw[List.find?_append]
 cases q:kvs.find? (fun p=>nk p.1==some k') with
 | some p=>simp
 | none =>
  by_cases c:k'=k
  ·subst c; simp[h]
  ·have:(nk kd==some k')=false:=by rw[h]; simp; exact fun z=>c z.symm
   simp[Wbw,this,c]
structure DR (rss:List (List Int)) (bs:List Bool) (kvs:List (D×D)):Prop where
 key:∀ p∈kvs,∃ ls∈rss,kept bs ls=false/\p.1=Zay (rest bs ls)
 all:∀ ls∈rss,kept bs ls=false->(Zbf kvs (rest bs ls)).isSome=true
 len:kvs.length<=rss.length
 val:∀ p∈kvs,∃ (i:Nat) (ls:List Int),rss[i]? = some ls/\kept bs ls=false/\p=(Zay (rest bs ls),.int i)
structure Fz (H H':HD):Prop where
 old:∀ (m:Nat) (o:DO),H[m]? = some o->H'[m]? = some o\/∃ kvs,o=.dic kvs false/\H'[m]? = some (.dic kvs true)
 len:H.length<=H'.length
theorem Fz.refl {H:HD}:Fz H H:=⟨fun _ _ h=>.inl h,Xe _⟩
theorem Fz.trans {H H1 H2:HD} (a:Fz H H1) (b:Fz H1 H2):Fz H H2:=by
 refine⟨fun m o h=>?_,Wac a.len b.len⟩
 rcases a.old m o h with h1 | ⟨kvs,rfl,h1⟩
 ·exact b.old m o h1
 ·rcases b.old m _ h1 with h2 | ⟨k2,e,_⟩
  ·exact .inr ⟨kvs,rfl,h2⟩
  ·cases e
theorem Fz.app {H:HD} (L:HD):Fz H (H++L):=⟨fun m o q=>.inl (by
 have:m<H.length:=(Xc.mp q).1
 rw[Xg this]; exact q),by simp⟩
theorem Fz.dic {H H':HD} (x:Fz H H') {m:Nat} {kvs:List (D×D)} {fz:Bool} (h:H[m]? = some (.dic kvs fz)):∃ fz',H'[m]? = some (.dic kvs fz'):=by
 rcases x.old m _ h with h1 | ⟨k2,e,h1⟩
 ·exact⟨fz,h1⟩
 ·cases e; exact⟨true,h1⟩
theorem dm {g:D->List D->HD->Option (D×HD)} {fo:EF} {f:AF} {σ:SD} {H H1 H2:HD} {o:D} {ds:List D} {r:Option (D×HD)} (h1:fo σ H=some (o,H1)) (hd:Zoe o H1=true) (h2:f σ H1=some (ds,H2)) (h3:g o ds H2=r):eDM g fo f σ H=r:=by
 unfold eDM; rw[h1]; simp only[Zb]; rw[if_pos hd,h2]; exact h3
theorem ex {f:EF} {σ:SD} {H H1:HD} {d:D} (h:f σ H=some (d,H1)):Zcx f σ H=some (.nx,σ,H1):=by unfold Zcx; rw[h]; rfl
nonrec def Zhm (acc:List (D×D)) (k:List Int) (v:D):List (D×D):=if (Zbf acc k).isSome=true then acc else acc++[(Zay k,v)]
theorem Zoi {q:Nat} {acc:List (D×D)} {k:List Int} {v:D} {H:HD} (h:H[q]? = some (.dic acc false)) (hl:acc.length<=100000):∃ z,Zj0 (.ref q) [Zay k,v] H=some (z,H.set q (.dic (Zhm acc k v) false)):=by
 have sz:acc.length<sizeLine:=by rw[Uw]; omega
 unfold Zj0
 simp only[h,Zed,Zb,if_pos sz]
 cases e:Zbf acc k with
 | some z =>
  refine⟨z,?_⟩
  have:Zhm acc k v=acc:=by unfold Zhm; rw[e]; rfl
  rw[this]
  obtain⟨h1,h2⟩:=Xc.mp h
  rw[<- h2,Wcg h1]
 | none =>
  refine⟨v,?_⟩
  have e1:Zn6 acc (Zay k) k v=acc++[(Zay k,v)]:=by unfold Zn6; rw[e]; rfl
  have e2:Zhm acc k v=acc++[(Zay k,v)]:=by unfold Zhm; rw[e]; rfl
  rw[e1,e2]
theorem Zh6 {acc:List (D×D)} {k k':List Int} {v:D}:(Zbf (Zhm acc k v) k').isSome=((Zbf acc k').isSome||decide (k'=k)):=by
 unfold Zhm
 cases e:Zbf acc k with
 | some z =>
  rw[if_pos (by simp)]
  by_cases c:k'=k
  ·subst c; rw[e]; rfl
  ·simp[c]
 | none =>
  have:=Zwl (kvs:=acc) (kd:=Zay k) (vd:=v) (k:=k) (k':=k') (Zed k) e
  have e1:Zn6 acc (Zay k) k v=acc++[(Zay k,v)]:=by unfold Zn6; rw[e]; rfl
  rw[e1] at this
  rw[if_neg (by simp)]; exact this
theorem Zrz (acc:List (D×D)) (k:List Int) (v:D):(Zhm acc k v).length<=acc.length+1:=by unfold Zhm; split<;>simp
theorem Ztu {acc:List (D×D)} {k:List Int} {v:D} {p:D×D} (h:p∈Zhm acc k v):p∈acc\/p.1=Zay k:=by
 unfold Zhm at h
 split at h
 ·exact .inl h
 ·rcases Xx.mp h with h | h
  ·exact .inl h
  ·simp at h; subst h; exact .inr rfl
theorem Zpl {acc:List (D×D)} {k:List Int} {v:D} {p:D×D} (h:p∈Zhm acc k v):p∈acc\/p=(Zay k,v):=by
 unfold Zhm at h
 split at h
 ·exact .inl h
 ·rcases Xx.mp h with h | h
  ·exact .inl h
  ·simp at h; subst h; exact .inr rfl
nonrec abbrev fb:SF:=(Zaf (Zcx (eDM Zj0 (Zac 1) (Zab (Zac 3) (Zab (Zac 2) Zah)))) Zao)
theorem Zj8 {q:Nat} {r:D}:∀ (rss:List (List Int)) (c:Int) (acc:List (D×D)) (H:HD) (z2 z3:Option D),H[q]? = some (.dic acc false)->acc.length+rss.length<=100000 ->
  ∃ (acc':List (D×D)) (z2' z3':Option D),Zgd [] (gTp 2 (gCn (gNm 2) (gCn (gNm 3) gNl))) fb (Zdp c (rss.map Zay)) [some r,some (.ref q),z2,z3] H=some (.nx,[some r,some (.ref q),z2',z3'],H.set q (.dic acc' false)) /\
   (∀ p∈acc',p∈acc\/∃ ls∈rss,p.1=Zay ls)/\(∀ k,(Zbf acc k).isSome=true->(Zbf acc' k).isSome=true)/\(∀ ls∈rss,(Zbf acc' ls).isSome=true)/\acc'.length<=acc.length+rss.length/\(∀ p∈acc',p∈acc\/∃ (i:Nat) (ls:List Int),rss[i]? = some ls/\p=(Zay ls,.int (c+i)))
 | [],c,acc,H,z2,z3,hq,_=>by
  obtain⟨h1,h2⟩:=Xc.mp hq
  refine⟨acc,z2,z3,?_,fun p hp=>.inl hp,fun _ h=>h,by simp,by simp,fun p hp=>.inl hp⟩
  rw[Wcz,Zdp,Zgd,if_pos Zho,<- h2,Wcg h1]
 | ls::rss,c,acc,H,z2,z3,hq,hl=>by
  rw[Xo,Zdp,Zgd,if_pos Zho]
  simp only[gTp,Wdb,Wcf,gCn,gNm,gNl,Wez,Zb,if_true,Nat.zero_add,Nat.reduceAdd]
  obtain⟨z,es⟩:=Zoi (k:=ls) (v:=.int c) hq (by omega)
  have lt:=(Xc.mp hq).1
  have st:fb [some r,some (.ref q),some (.int c),some (Zay ls)] H=some (.nx,[some r,some (.ref q),some (.int c),some (Zay ls)],H.set q (.dic (Zhm acc ls (.int c)) false)) :=
   (Zce (ex (dm (vr rfl) (by simp[Zoe,hq]) (ac (vr rfl) (ac (vr rfl) an)) es))).trans rfl
  rw[st]
  simp only[Zb]
  have al:=Zrz acc ls (.int c)
  obtain⟨acc',z2',z3',e,a1,a2,a3,a4,a5⟩:=Zj8 (q:=q) (r:=r) rss (c+1) (Zhm acc ls (.int c)) (H.set q (.dic (Zhm acc ls (.int c)) false)) (some (.int c)) (some (Zay ls)) (by rw[Waw lt]) (by simp at hl ⊢; omega)
  refine⟨acc',z2',z3',by rw[e,List.set_set],fun p hp=>?_,fun k hk=>a2 k (by rw[Zh6,hk]; rfl),fun l hl'=>?_,by omega,fun p hp=>?_⟩
  ·rcases a1 p hp with h | ⟨l,h1,h2⟩
   ·rcases Ztu h with h | h
    ·exact .inl h
    ·exact .inr ⟨ls,by simp,h⟩
   ·exact .inr ⟨l,by simp[h1],h2⟩
  ·rcases Xj.mp hl' with rfl | hl'
   ·exact a2 _ (by rw[Zh6]; simp)
   ·exact a3 l hl'
  ·rcases a5 p hp with h | ⟨i,l,h1,h2⟩
   ·rcases Zpl h with h | h
    ·exact .inl h
    ·exact .inr ⟨0,ls,rfl,by rw[h]; simp⟩
   ·exact .inr ⟨i+1,l,by simpa using h1,by rw[h2]; simp; omega⟩
theorem Zp4 {rss:List (List Int)} {m:Int} (hu:∀ ls∈rss,Up m 0 ls) (hl:rss.length<=1000) (H:HD) :
  ∃ (kvs:List (D×D)) (H':HD) (q:Nat),Zbo [.tup (rss.map Zay)] H=some (.ref q,H')/\H'[q]? = some (.dic kvs false)/\DR rss [] kvs/\Fz H H':=by
 have s1:Zbl 1 eDN [some (.tup (rss.map Zay)),none,none,none] H=some (.nx,[some (.tup (rss.map Zay)),some (.ref H.length),none,none],H++[.dic [] false]):=rfl
 obtain⟨kvs,z2,z3,e,a1,a2,a3,a4,a5⟩:=Zj8 (q:=H.length) (r:=.tup (rss.map Zay)) rss 0 [] (H++[.dic [] false]) none none (by simp) (by simp; omega)
 have e1:Zex (Zwy (Zab (Zac 0) Zah)) (gTp 2 (gCn (gNm 2) (gCn (gNm 3) gNl))) fb [some (.tup (rss.map Zay)),some (.ref H.length),none,none] (H++[.dic [] false])=some (.nx,[some (.tup (rss.map Zay)),some (.ref H.length),z2,z3],(H++[DO.dic [] false]).set H.length (DO.dic kvs false)):=by
  unfold Zex Zwy
  rw[ac (vr rfl) an]
  exact e
 have es:(H++[DO.dic [] false]).set H.length (.dic kvs false)=H++[.dic kvs false]:=by simp
 rw[es] at e1
 refine⟨kvs,H++[.dic kvs false],H.length,?_,by simp,⟨fun p hp=>?_,fun ls hls _=>?_,by simpa using a4,fun p hp=>?_⟩,Fz.app _⟩
 ·show ((Zb3 [some (.tup (rss.map Zay)),none,none,none] H).bind _)=_
  unfold Zb3
  rw[Zce s1,Zce e1]
  rfl
 ·rcases a1 p hp with h | ⟨ls,h1,h2⟩
  ·simp at h
  ·obtain⟨o1,o2⟩:=Zf9 [] ls 0 (hu ls h1) (by simp)
   exact⟨ls,h1,o2,by rw[o1]; exact h2⟩
 ·obtain⟨o1,o2⟩:=Zf9 [] ls 0 (hu ls hls) (by simp)
  rw[o1]; exact a3 ls hls
 ·rcases a5 p hp with h | ⟨i,ls,h1,h2⟩
  ·simp at h
  ·obtain⟨o1,o2⟩:=Zf9 [] ls 0 (hu ls (Xl h1)) (by simp)
   exact⟨i,ls,h1,o2,by rw[o1,h2]; simp⟩
nonrec def hd0:List Int->Int
 | []=>0
 | l::_=>l
theorem act {b:Int} {t:Bool} {ls:List Int} (hb:0<=b) :
  (hd0 ls = -(if t=true then b+1 else -(b+1))->Zju b t ls=false/\Ze2 b ls=ls.drop 1) /\
  (hd0 ls ≠ -(if t=true then b+1 else -(b+1))->hd0 ls≠(if t=true then b+1 else -(b+1))->Zju b t ls=false/\Ze2 b ls=ls) /\
  (hd0 ls ≠ -(if t=true then b+1 else -(b+1))->hd0 ls=(if t=true then b+1 else -(b+1))->Zju b t ls=true):=by
 cases ls with
 | nil =>
  refine⟨fun h=>?_,fun _ _=>⟨rfl,rfl⟩,fun _ h=>?_⟩
  ·simp only[hd0] at h; split at h<;>omega
  ·simp only[hd0] at h; split at h<;>omega
 | cons l r =>
  simp only[hd0,Zju,Ze2,List.drop_one,List.tail_cons]
  cases t with
  | true =>
   simp only[if_true]
   refine⟨fun h=>?_,fun h1 h2=>?_,fun h1 h2=>?_⟩
   ·have e:Zar l=b+1:=by unfold Zar; split<;>omega
    have g:decide (0<l)=false:=decide_eq_false (by omega)
    rw[g,if_pos e]; simp
   ·have e:Zar l≠b+1:=by unfold Zar; split<;>omega
    rw[if_neg e,decide_eq_false e]; simp
   ·have e:Zar l=b+1:=by unfold Zar; split<;>omega
    have g:decide (0<l)=true:=decide_eq_true (by omega)
    rw[g,decide_eq_true e]; rfl
  | false =>
   simp only[Wam,if_false]
   refine⟨fun h=>?_,fun h1 h2=>?_,fun h1 h2=>?_⟩
   ·have e:Zar l=b+1:=by unfold Zar; split<;>omega
    have g:decide (0<l)=true:=decide_eq_true (by omega)
    rw[g,if_pos e]; simp
   ·have e:Zar l≠b+1:=by unfold Zar; split<;>omega
    rw[if_neg e,decide_eq_false e]; simp
   ·have e:Zar l=b+1:=by unfold Zar; split<;>omega
    have g:decide (0<l)=false:=decide_eq_false (by omega)
    rw[g,decide_eq_true e]; rfl
nonrec abbrev bb:SF:=(Zaf (Zbl 6 (eIf (Zhu (Zac 5)) (eOp ixD (Zac 5) (eC (.int 0))) (eC (.int 0))))
 (Zaf (sIf (tOf (eOp eqD (Zac 6) (eUn Zky (Zac 3)))) (Zaf (Zcx (eDM Zj0 (Zac 4) (Zab (eSl (Zac 5) (Zio (eC (.int 1))) Zj4) (Zab (eOp Zfx (Zac 0) (Zac 5)) Zah))))
 Zao) (Zaf (sIf (tOf (eOp neD (Zac 6) (Zac 3))) (Zaf (Zcx (eDM Zj0 (Zac 4) (Zab (Zac 5) (Zab (eOp Zfx (Zac 0) (Zac 5)) Zah))))
 Zao) Zao)
 Zao))
 Zao))
theorem un {g:D->HD->Option (D×HD)} {f:EF} {σ:SD} {H H1:HD} {d:D} {r:Option (D×HD)} (h1:f σ H=some (d,H1)) (h2:g d H1=r):eUn g f σ H=r:=by
 unfold eUn; rw[h1]; exact h2
theorem bb_ok {p q:Nat} {kvs acc:List (D×D)} {b:Int} {t:Bool} {a1 a2 z6:Option D} {ls:List Int} {H:HD} (hb:0<=b) (hp:H[p]? = some (.dic kvs true)) (hq:H[q]? = some (.dic acc false)) (hl:acc.length<=100000) (hk:(Zbf kvs ls).isSome=true) :
  ∃ (v:D) (z6':Option D),Zbf kvs ls=some v/\bb [some (.ref p),a1,a2,some (.int (if t=true then b+1 else -(b+1))),some (.ref q),some (Zay ls),z6] H=some (.nx,[some (.ref p),a1,a2,some (.int (if t=true then b+1 else -(b+1))),some (.ref q),some (Zay ls),z6'],H.set q (.dic (if Zju b t ls=true then acc else Zhm acc (Ze2 b ls) v) false)):=by
 let R:Int:=if t=true then b+1 else -(b+1)
 obtain⟨v,ev⟩:=Wai.mp hk
 have self:H.set q (.dic acc false)=H:=by
  obtain⟨h1,h2⟩:=Xc.mp hq
  rw[<- h2,Wcg h1]
 have s1:Zbl 6 (eIf (Zhu (Zac 5)) (eOp ixD (Zac 5) (eC (.int 0))) (eC (.int 0))) [some (.ref p),a1,a2,some (.int R),some (.ref q),some (Zay ls),z6] H=some (.nx,[some (.ref p),a1,a2,some (.int R),some (.ref q),some (Zay ls),some (.int (hd0 ls))],H):=by
  refine Zmo (d:=.int (hd0 ls)) ?_
  have tv:Zhu (Zac 5) [some (.ref p),a1,a2,some (.int R),some (.ref q),some (Zay ls),z6] H=some (!ls.isEmpty,H):=by
   unfold Zhu; rw[vr (d:=Zay ls) rfl]; simp[Zay,Zr0]
  unfold eIf
  rw[tv]
  cases ls with
  | nil=>rfl
  | cons l r =>
   have:atI ((l::r).map D.int) 0=some (.int l):=Zb1 (j:=0) rfl
   show eOp ixD (Zac 5) (eC (.int 0)) [some (.ref p),a1,a2,some (.int R),some (.ref q),some (Zay (l::r)),z6] H=some (.int l,H)
   exact op (vr rfl) rfl (ixT this)
 let σ:SD:=[some (.ref p),a1,a2,some (.int R),some (.ref q),some (Zay ls),some (.int (hd0 ls))]
 have dg:eOp Zfx (Zac 0) (Zac 5) σ H=some (v,H):=by
  refine op (vr rfl) (vr rfl) ?_
  simp[Zfx,Zvt,hp,Zed,ev]
 have t1:tOf (eOp eqD (Zac 6) (eUn Zky (Zac 3))) σ H=some (hd0 ls == -R,H):=tof (op (vr rfl) (un (vr rfl) rfl) (Zso _ _ _))
 have t2:tOf (eOp neD (Zac 6) (Zac 3)) σ H=some (!(hd0 ls==R),H):=tof (op (vr rfl) (vr rfl) (Ydf _ _ _))
 have id1:Zoe (.ref q) H=true:=by simp[Zoe,hq]
 obtain⟨A1,A2,A3⟩:=act (b:=b) (t:=t) (ls:=ls) hb
 refine⟨v,some (.int (hd0 ls)),ev,?_⟩
 show bb [some (.ref p),a1,a2,some (.int R),some (.ref q),some (Zay ls),z6] H=some (.nx,σ,_)
 unfold bb
 rw[Zce s1]
 by_cases c1:hd0 ls = -R
 ·obtain⟨h1,h2⟩:=A1 c1
  have sd:slD (Zay ls) (some 1) none H=some (Zay (ls.drop 1),H):=by
   have:=sllo (xs:=ls.map D.int) (k:=1) (H:=H)
   rw[<- Wfa] at this
   exact this
  obtain⟨z,es⟩:=Zoi (k:=ls.drop 1) (v:=v) hq hl
  rw[h1,if_neg (by simp),h2]
  refine(Zce (σ1:=σ) (H1:=H.set q (.dic (Zhm acc (ls.drop 1) v) false)) ?_).trans rfl
  rw[Zmy t1,if_pos (by simpa using c1)]
  exact(Zce (ex (dm (vr rfl) id1 (ac (sl (vr rfl) (os rfl) on sd) (ac dg an)) es))).trans rfl
 ·by_cases c2:hd0 ls=R
  ·rw[A3 c1 c2,if_pos rfl,self]
   refine(Zce (σ1:=σ) (H1:=H) ?_).trans rfl
   rw[Zmy t1,if_neg (by simpa using c1)]
   refine(Zce (σ1:=σ) (H1:=H) ?_).trans rfl
   rw[Zmy t2,if_neg (by simpa using c2)]
   rfl
  ·obtain⟨h1,h2⟩:=A2 c1 c2
   obtain⟨z,es⟩:=Zoi (k:=ls) (v:=v) hq hl
   rw[h1,if_neg (by simp),h2]
   refine(Zce (σ1:=σ) (H1:=H.set q (.dic (Zhm acc ls v) false)) ?_).trans rfl
   rw[Zmy t1,if_neg (by simpa using c1)]
   refine(Zce (σ1:=σ) (H1:=H.set q (.dic (Zhm acc ls v) false)) ?_).trans rfl
   rw[Zmy t2,if_pos (by simpa using c2)]
   exact(Zce (ex (dm (vr rfl) id1 (ac (vr rfl) (ac dg an)) es))).trans rfl
theorem Zuz {p q:Nat} {kvs:List (D×D)} {b:Int} {t:Bool} {a1 a2:Option D} (hb:0<=b) (hpq:p≠q):∀ (qs:List (List Int)) (acc:List (D×D)) (H:HD) (z5 z6:Option D),H[p]? = some (.dic kvs true)->H[q]? = some (.dic acc false)->acc.length+qs.length<=100000->(∀ ls∈qs,(Zbf kvs ls).isSome=true) ->
  ∃ (acc':List (D×D)) (z5' z6':Option D),Zgd [(p,.dic kvs true)] (gNm 5) bb (qs.map Zay) [some (.ref p),a1,a2,some (.int (if t=true then b+1 else -(b+1))),some (.ref q),z5,z6] H=some (.nx,[some (.ref p),a1,a2,some (.int (if t=true then b+1 else -(b+1))),some (.ref q),z5',z6'],H.set q (.dic acc' false)) /\
   (∀ x∈acc',x∈acc\/∃ ls∈qs,Zju b t ls=false/\x.1=Zay (Ze2 b ls))/\(∀ k,(Zbf acc k).isSome=true->(Zbf acc' k).isSome=true)/\(∀ ls∈qs,Zju b t ls=false->(Zbf acc' (Ze2 b ls)).isSome=true)/\acc'.length<=acc.length+qs.length/\(∀ x∈acc',x∈acc\/∃ ls∈qs,Zju b t ls=false/\x.1=Zay (Ze2 b ls)/\Zbf kvs ls=some x.2)
 | [],acc,H,z5,z6,hp,hq,_,_=>by
  obtain⟨h1,h2⟩:=Xc.mp hq
  refine⟨acc,z5,z6,?_,fun p hp=>.inl hp,fun _ h=>h,by simp,by simp,fun p hp=>.inl hp⟩
  rw[Wcz,Zgd,if_pos (by intro x hx; simp at hx; subst hx; exact hp),<- h2,Wcg h1]
 | ls::qs,acc,H,z5,z6,hp,hq,hl,hk=>by
  have lt:=(Xc.mp hq).1
  rw[Xo,Zgd,if_pos (by intro x hx; simp at hx; subst hx; exact hp)]
  simp only[gNm,Wez,Zb]
  obtain⟨v,z6',ev,e1⟩:=bb_ok (t:=t) (a1:=a1) (a2:=a2) (z6:=z6) (ls:=ls) hb hp hq (by omega) (hk ls (by simp))
  rw[e1]
  simp only[Zb]
  let acc1:=if Zju b t ls=true then acc else Zhm acc (Ze2 b ls) v
  have al:acc1.length<=acc.length+1:=by
   show (if Zju b t ls=true then acc else Zhm acc (Ze2 b ls) v).length<=_
   split
   ·omega
   ·exact Zrz _ _ _
  obtain⟨acc',z5',z6'',e,a1',a2',a3',a4',a5'⟩:=Zuz (p:=p) (q:=q) (kvs:=kvs) (t:=t) (a1:=a1) (a2:=a2) hb hpq qs acc1 (H.set q (.dic acc1 false)) (some (Zay ls)) z6' (by rw[Wak (Ul hpq)]; exact hp) (by rw[Waw lt]) (by simp at hl ⊢; omega) (fun l hl=>hk l (by simp[hl]))
  have mono:∀ k,(Zbf acc k).isSome=true->(Zbf acc1 k).isSome=true:=fun k hk=>by
   show (Zbf (if Zju b t ls=true then acc else Zhm acc (Ze2 b ls) v) k).isSome=true
   split
   ·exact hk
   ·rw[Zh6,hk]; rfl
  have lenF:acc'.length<=acc.length+(ls::qs).length:=by
   have e8:(ls::qs).length=qs.length+1:=rfl
   have e9:acc'.length<=acc1.length+qs.length:=a4'
   omega
  refine⟨acc',z5',z6'',by rw[e,List.set_set],fun x hx=>?_,fun k hk=>a2' k (mono k hk),fun l hl' hh=>?_,lenF,fun x hx=>?_⟩
  ·rcases a1' x hx with h | ⟨l,h1,h2⟩
   ·cases hc:Zju b t ls with
    | true =>
     have:acc1=acc:=if_pos hc
     rw[this] at h; exact .inl h
    | false =>
     have:acc1=Zhm acc (Ze2 b ls) v:=if_neg (by rw[hc]; simp)
     rw[this] at h
     rcases Ztu h with h | h
     ·exact .inl h
     ·exact .inr ⟨ls,by simp,hc,h⟩
   ·exact .inr ⟨l,by simp[h1],h2⟩
  ·rcases Xj.mp hl' with rfl | hl'
   ·refine a2' _ ?_
    have:acc1=Zhm acc (Ze2 b l) v:=if_neg (by rw[hh]; simp)
    rw[this,Zh6]; simp
   ·exact a3' l hl' hh
  ·rcases a5' x hx with h | ⟨l,h1,h2⟩
   ·cases hc:Zju b t ls with
    | true =>
     have:acc1=acc:=if_pos hc
     rw[this] at h; exact .inl h
    | false =>
     have:acc1=Zhm acc (Ze2 b ls) v:=if_neg (by rw[hc]; simp)
     rw[this] at h
     rcases Zpl h with h | h
     ·exact .inl h
     ·exact .inr ⟨ls,by simp,hc,by rw[h],by rw[h]; exact ev⟩
   ·exact .inr ⟨l,by simp[h1],h2⟩
theorem Zir {kvs:List (D×D)} {k:List Int} (h:(Zbf kvs k).isSome=true):∃ p∈kvs,nk p.1=some k:=by
 unfold Zbf at h
 rw[Wfh] at h
 obtain⟨p,e⟩:=Wai.mp h
 exact⟨p,Wdx e,by have:=Wfv e; simpa using this⟩
theorem Zm8 {kvs:List (D×D)} {k:List Int} {p:D×D} (hp:p∈kvs) (h:nk p.1=some k):(Zbf kvs k).isSome=true:=by
 unfold Zbf
 rw[Wfh,List.find?_isSome]
 exact⟨p,hp,by simp[h]⟩
theorem Zpj {kvs:List (D×D)} {k:List Int} {v:D} (h:Zbf kvs k=some v):∃ p∈kvs,nk p.1=some k/\p.2=v:=by
 unfold Zbf at h
 obtain⟨p,e,rfl⟩:=Zm h
 exact⟨p,Wdx e,by have:=Wfv e; simpa using this,rfl⟩
theorem Zsp {rss:List (List Int)} {bs:List Bool}:∀ {kvs:List (D×D)},(∀ p∈kvs,∃ ls∈rss,kept bs ls=false/\p.1=Zay (rest bs ls))->∃ qs:List (List Int),kvs.map (·.1)=qs.map Zay/\∀ q∈qs,∃ ls∈rss,kept bs ls=false/\q=rest bs ls
 | [],_=>⟨[],rfl,by simp⟩
 | p::kvs,h=>by
  obtain⟨ls,h1,h2,h3⟩:=h p (by simp)
  obtain⟨qs,e,g⟩:=Zsp (kvs:=kvs) fun x hx=>h x (by simp[hx])
  refine⟨rest bs ls::qs,by rw[Xo,Xo,e,h3],fun q hq=>?_⟩
  rcases Xj.mp hq with rfl | hq
  ·exact⟨ls,h1,h2,rfl⟩
  ·exact g q hq
theorem Yav {a b:List Int} (h:Zay a=Zay b):a=b:=by
 have:=Zed a
 rw[h,Zed] at this
 exact(Xw.inj this).symm
theorem Ziz {rss:List (List Int)} {m:Int} {bs:List Bool} {t:Bool} {kvs:List (D×D)} {fz:Bool} {p:Nat} {H:HD} (hu:∀ ls∈rss,Up m 0 ls) (hl:rss.length<=1000) (hp:H[p]? = some (.dic kvs fz)) (dr:DR rss bs kvs) :
  ∃ (kvs':List (D×D)) (H':HD) (q:Nat),Za5 [.ref p,.int ((bs.length:Int)+1),.bl t] H=some (.ref q,H')/\H'[q]? = some (.dic kvs' false)/\DR rss (bs++[t]) kvs'/\Fz H H':=by
 obtain⟨qs,eq,gq⟩:=Zsp dr.key
 let b:Int:=bs.length
 have hb:0<=b:=by show (0:Int)<=bs.length; omega
 let R:Int:=if t=true then b+1 else -(b+1)
 have ltp:=(Xc.mp hp).1
 have s1:Zbl 3 (eIf (Zhu (Zac 2)) (Zac 1) (eUn Zky (Zac 1))) [some (.ref p),some (.int (b+1)),some (.bl t),none,none,none,none] H=some (.nx,[some (.ref p),some (.int (b+1)),some (.bl t),some (.int R),none,none,none],H):=by
  refine Zmo (d:=.int R) ?_
  cases t<;>rfl
 have s2:Zbl 4 eDN [some (.ref p),some (.int (b+1)),some (.bl t),some (.int R),none,none,none] H=some (.nx,[some (.ref p),some (.int (b+1)),some (.bl t),some (.int R),some (.ref H.length),none,none],H++[.dic [] false]):=rfl
 let H1:HD:=(H++[DO.dic [] false]).set p (DO.dic kvs true)
 have hp0:(H++[DO.dic [] false])[p]? = some (.dic kvs fz):=by rw[Xg ltp]; exact hp
 have hp1:H1[p]? = some (.dic kvs true):=by rw[Waw (by simp; omega)]
 have hq1:H1[H.length]? = some (.dic [] false):=by rw[Wak (by omega)]; simp
 have lq:qs.length=kvs.length:=by have:=congrArg Wbl eq; simpa using this.symm
 have kk:∀ ls∈qs,(Zbf kvs ls).isSome=true:=fun ls hls=>by
  have:Zay ls∈kvs.map (·.1):=by rw[eq]; exact Wet hls
  obtain⟨x,hx,ex⟩:=Waa.mp this
  exact Zm8 hx (by rw[ex,Zed])
 have dl:=dr.len
 obtain⟨acc,z5,z6,e,a1,a2,a3,a4,a5⟩:=Zuz (p:=p) (q:=H.length) (kvs:=kvs) (b:=b) (t:=t) (a1:=some (.int (b+1))) (a2:=some (.bl t)) hb (by omega) qs [] H1 none none hp1 hq1 (by simp; omega) kk
 have e1:Zex (Zy1 (Zac 0)) (gNm 5) bb [some (.ref p),some (.int (b+1)),some (.bl t),some (.int R),some (.ref H.length),none,none] (H++[.dic [] false])=some (.nx,[some (.ref p),some (.int (b+1)),some (.bl t),some (.int R),some (.ref H.length),z5,z6],H1.set H.length (.dic acc false)):=by
  unfold Zex Zy1
  rw[vr (d:=.ref p) rfl]
  simp only[Zb,hp0]
  rw[eq]
  exact e
 have lt1:H.length<H1.length:=(Xc.mp hq1).1
 refine⟨acc,H1.set H.length (.dic acc false),H.length,?_,by rw[Waw lt1],⟨fun x hx=>?_,fun ls hls hk=>?_,?_,fun x hx=>?_⟩,⟨fun mm o ho=>?_,by simp[H1]⟩⟩
 ·show ((Zck [some (.ref p),some (.int (b+1)),some (.bl t),none,none,none,none] H).bind _)=_
  unfold Zck
  rw[Zce s1,Zce s2,Zce e1]
  rfl
 ·rcases a1 x hx with h | ⟨q,h1,h2,h3⟩
  ·simp at h
  ·obtain⟨ls,g1,g2,rfl⟩:=gq q h1
   obtain⟨n1,n2⟩:=Zgh bs t ls 0 (Wcl _) (hu ls g1)
   refine⟨ls,g1,?_,by rw[n1]; exact h3⟩
   rw[n2,g2]; exact h2
 ·obtain⟨n1,n2⟩:=Zgh bs t ls 0 (Wcl _) (hu ls hls)
  rw[n2,Bool.or_eq_false_iff] at hk
  obtain⟨x,hx,ex⟩:=Zir (dr.all ls hls hk.1)
  have hm:x.1∈qs.map Zay:=by rw[<- eq]; exact Wet hx
  obtain⟨q,hq,eqq⟩:=Waa.mp hm
  have:q=rest bs ls:=by rw[<- eqq,Zed] at ex; exact Xw.inj ex
  subst this
  rw[n1]
  exact a3 _ hq hk.2
 ·simp at a4; omega
 ·rcases a5 x hx with h | ⟨q,h1,h2,h3,h4⟩
  ·simp at h
  ·obtain⟨y,y1,y2,y3⟩:=Zpj h4
   obtain⟨i,ls,g1,g2,rfl⟩:=dr.val y y1
   have:q=rest bs ls:=by rw[Zed] at y2; exact(Xw.inj y2).symm
   subst this
   obtain⟨n1,n2⟩:=Zgh bs t ls 0 (Wcl _) (hu ls (Xl g1))
   exact⟨i,ls,g1,by rw[n2,g2]; exact h2,Prod.ext (by rw[n1]; exact h3) y3.symm⟩
 ·have lm:mm<H.length:=(Xc.mp ho).1
  rw[Wak (by omega)]
  by_cases c:p=mm
  ·subst c
   rw[hp] at ho
   cases ho
   cases fz with
   | true=>exact .inl hp1
   | false=>exact .inr ⟨kvs,rfl,hp1⟩
  ·refine .inl ?_
   show ((H++[DO.dic [] false]).set p (.dic kvs true))[mm]? = some o
   rw[Wak c,Xg lm]; exact ho
theorem Znj {rss:List (List Int)} {m:Int} {r pl:D} (hu:∀ ls∈rss,Up m 0 ls) (hl:rss.length<=1000):∀ (ts bs:List Bool) (kvs:List (D×D)) (p:Nat) (fz:Bool) (H:HD) (z3 z4:Option D),H[p]? = some (.dic kvs fz)->DR rss bs kvs ->
  ∃ (kvs':List (D×D)) (H':HD) (q:Nat) (fz':Bool) (z3' z4':Option D),Zgd [] (gTp 2 (gCn (gNm 3) (gCn (gNm 4) gNl))) (Zaf (Zbl 2 (Zak 3 Za5 (Zab (Zac 2) (Zab (Zac 3) (Zab (Zac 4) Zah))))) Zao) (Zdp ((bs.length:Int)+1) (ts.map .bl)) [some r,some pl,some (.ref p),z3,z4] H=some (.nx,[some r,some pl,some (.ref q),z3',z4'],H')/\H'[q]? = some (.dic kvs' fz')/\DR rss (bs++ts) kvs'/\Fz H H'
 | [],bs,kvs,p,fz,H,z3,z4,hp,dr=>⟨kvs,H,p,fz,z3,z4,by rw[Wcz,Zdp,Zgd,if_pos Zho],hp,by rw[Wad]; exact dr,Fz.refl⟩
 | t::ts,bs,kvs,p,fz,H,z3,z4,hp,dr=>by
  rw[Xo,Zdp,Zgd,if_pos Zho]
  simp only[gTp,Wdb,Wcf,gCn,gNm,gNl,Wez,Zb,if_true,Nat.zero_add,Nat.reduceAdd]
  obtain⟨k1,H1,q1,e1,g1,d1,x1⟩:=Ziz (t:=t) hu hl hp dr
  have st:(Zaf (Zbl 2 (Zak 3 Za5 (Zab (Zac 2) (Zab (Zac 3) (Zab (Zac 4) Zah))))) Zao) [some r,some pl,some (.ref p),some (.int ((bs.length:Int)+1)),some (.bl t)] H=some (.nx,[some r,some pl,some (.ref q1),some (.int ((bs.length:Int)+1)),some (.bl t)],H1) :=
   (Zce (Zmo (ca (ac (vr rfl) (ac (vr rfl) (ac (vr rfl) an))) rfl e1))).trans rfl
  rw[st]
  simp only[Zb]
  obtain⟨k2,H2,q2,fz2,z3',z4',e2,g2,d2,x2⟩:=Znj (r:=r) (pl:=pl) hu hl ts (bs++[t]) k1 q1 false H1 (some (.int ((bs.length:Int)+1))) (some (.bl t)) g1 d1
  have ec:(((bs++[t]).length:Nat):Int)+1=(bs.length:Int)+1+1:=by simp
  rw[ec] at e2
  refine⟨k2,H2,q2,fz2,z3',z4',e2,g2,?_,x1.trans x2⟩
  rw[Xz] at d2
  exact d2
theorem Zjw {rss:List (List Int)} {m:Int} {bs:List Bool} (hu:∀ ls∈rss,Up m 0 ls) (hl:rss.length<=1000) (H:HD) :
  ∃ (kvs:List (D×D)) (H':HD) (q:Nat) (fz:Bool),Zbx [.tup (rss.map Zay),.tup (bs.map .bl)] H=some (.ref q,H')/\H'[q]? = some (.dic kvs fz)/\DR rss bs kvs/\Fz H H':=by
 obtain⟨k1,H1,q1,e1,g1,d1,x1⟩:=Zp4 hu hl H
 have s1:Zbl 2 (Zak 1 Zbo (Zab (Zac 0) Zah)) [some (.tup (rss.map Zay)),some (.tup (bs.map .bl)),none,none,none] H=some (.nx,[some (.tup (rss.map Zay)),some (.tup (bs.map .bl)),some (.ref q1),none,none],H1):=Zmo (ca (ac (vr rfl) an) rfl e1)
 obtain⟨k2,H2,q2,fz2,z3',z4',e2,g2,d2,x2⟩:=Znj (r:=.tup (rss.map Zay)) (pl:=.tup (bs.map .bl)) hu hl bs [] k1 q1 false H1 none none g1 d1
 have e3:Zex (Zp2 (Zab (Zac 1) Zah)) (gTp 2 (gCn (gNm 3) (gCn (gNm 4) gNl))) (Zaf (Zbl 2 (Zak 3 Za5 (Zab (Zac 2) (Zab (Zac 3) (Zab (Zac 4) Zah))))) Zao) [some (.tup (rss.map Zay)),some (.tup (bs.map .bl)),some (.ref q1),none,none] H1=some (.nx,[some (.tup (rss.map Zay)),some (.tup (bs.map .bl)),some (.ref q2),z3',z4'],H2):=by
  unfold Zex Zp2
  rw[ac (vr rfl) an]
  exact e2
 refine⟨k2,H2,q2,fz2,?_,g2,d2,x1.trans x2⟩
 show ((Zbg [some (.tup (rss.map Zay)),some (.tup (bs.map .bl)),none,none,none] H).bind _)=_
 unfold Zbg
 rw[Zce s1,Zce e3]
 rfl
nonrec def kS (d:D):Bool:=match d with
 | .str s=>s == "some"
 | _=>false
nonrec def Zam (b:Bool):D:=if b then .str "some" else .str "all"
theorem Zjq {d:D} (h:Zcr d):d=Zam (kS d):=by
 rcases h with rfl | rfl
 ·have:kS (.str "all")=false:=by decide
  rw[this]; rfl
 ·have:kS (.str "some")=true:=by decide
  rw[this]; rfl
nonrec def W (ks:List D) (rss:List (List Int)):Nat->List Bool->Bool
 | 0,bs=>rss.all (kept bs)
 | j+1,bs =>
  let who:=kS (ks.getD bs.length .non)
  if W ks rss j (bs++[false])==who||W ks rss j (bs++[true])==who then who else !who
theorem Zmn {bs:List Bool} {t:Bool} {ls:List Int} {m:Int} (hu:Up m 0 ls) (h:kept bs ls=true):kept (bs++[t]) ls=true:=by
 rw[(Zgh bs t ls 0 (Wcl _) hu).2,h]; rfl
theorem Zps {ks:List D} {rss:List (List Int)} {m:Int} (hu:∀ ls∈rss,Up m 0 ls):∀ (j:Nat) (bs:List Bool),(∀ ls∈rss,kept bs ls=true)->W ks rss j bs=true
 | 0,bs,h=>by unfold W; rw[Xv]; exact h
 | j+1,bs,h=>by
  have a:=Zps (ks:=ks) hu j (bs++[false]) fun ls hl=>Zmn (hu ls hl) (h ls hl)
  have b:=Zps (ks:=ks) hu j (bs++[true]) fun ls hl=>Zmn (hu ls hl) (h ls hl)
  unfold W
  rw[a,b]
  cases kS (ks.getD bs.length .non)<;>rfl
theorem Zna {bs:List Bool} {t:Bool} {ls:List Int} {m:Int} (hu:Up m 0 ls) (h:kept bs ls=false/\rest bs ls=[]):kept (bs++[t]) ls=false/\rest (bs++[t]) ls=[]:=by
 obtain⟨n1,n2⟩:=Zgh bs t ls 0 (Wcl _) hu
 rw[n1,n2,h.1,h.2]; exact⟨rfl,rfl⟩
theorem Zw3 {ks:List D} {rss:List (List Int)} {m:Int} {ls:List Int} (hl:ls∈rss) (hu:Up m 0 ls):∀ (j:Nat) (bs:List Bool),kept bs ls=false/\rest bs ls=[]->W ks rss j bs=false
 | 0,bs,h=>by
  unfold W
  cases e:rss.all (kept bs) with
  | false=>rfl
  | true=>rw[Xv.mp e ls hl] at h; cases h.1
 | j+1,bs,h=>by
  have a:=Zw3 (ks:=ks) hl hu j (bs++[false]) (Zna hu h)
  have b:=Zw3 (ks:=ks) hl hu j (bs++[true]) (Zna hu h)
  unfold W
  rw[a,b]
  cases kS (ks.getD bs.length .non)<;>rfl
theorem Zqc {m:Int} (bs:List Bool) (h:m<=bs.length):∀ (ls:List Int) (last:Int),Up m last ls->rest bs ls=[]
 | [],_,_=>rfl
 | l::r,last,u=>by
  have o:opn bs l=false:=decide_eq_false (by have:=u.2.1; omega)
  unfold rest
  rw[Wbc (by rw[o]; simp)]
  exact Zqc bs h r (Zar l) u.2.2
theorem Zo8 (b:Bool) (H:HD):Zbp [Zam b] H=some (Zam (!b),H):=by
 cases b
 ·have:((("all" : Str))==("some" : Str))=false:=by decide
  simp[Zbp,Zc2,Za7,Zam,Zaf,Zbi,eIf,tOf,eOp,eqD,Zrd,Zac,eC,blD,this]
 ·simp[Zbp,Zc2,Za7,Zam,Zaf,Zbi,eIf,tOf,eOp,eqD,Zrd,Zac,eC,blD]
theorem Zs6 (a b:Bool) (H:HD):eqD (Zam a) (Zam b) H=some (.bl (a==b),H):=by
 have e1:((("all" : Str))==("some" : Str))=false:=by decide
 have e2:((("some" : Str))==("all" : Str))=false:=by decide
 cases a<;>cases b<;>simp[eqD,Zrd,Zam,e1,e2]
nonrec def Zav (bs:List Bool):D:=.tup (bs.map .bl)
nonrec abbrev wb (F:FF):SF:=(Zaf (sIf (tOf (eOp eqD (Zak 3 F (Zab (Zac 0) (Zab (Zak 3 Za5 (Zab (Zac 1) (Zab (eOp Zcu (Zac 2) (eC (.int 1))) (Zab (Zac 4) Zah)))) (Zab (eOp Zcu (Zac 2) (eC (.int 1))) Zah)))) (Zac 3))) (Zaf (Zbi (Zac 3))
 Zao) Zao)
 Zao)
theorem Zsk {ks:List D} {rss:List (List Int)} (hk:∀ d∈ks,Zcr d) (hu:∀ ls∈rss,Up ks.length 0 ls) (hl:rss.length<=1000):∀ (j f:Nat) (bs:List Bool) (kvs:List (D×D)) (p:Nat) (fz:Bool) (H:HD),j<f->bs.length+j=ks.length->H[p]? = some (.dic kvs fz)->DR rss bs kvs ->
  ∃ H',Zzx 3 5 Za4 f [.tup ks,.ref p,.int bs.length] H=some (Zam (W ks rss j bs),H')/\Fz H H'
 | j,0,bs,kvs,p,fz,H,hf,_,_,_=>by omega
 | j,f+1,bs,kvs,p,fz,H,hf,hj,hp,dr=>by
  show ∃ H',((Za4 (Zzx 3 5 Za4 f) [some (.tup ks),some (.ref p),some (.int bs.length),none,none] H).bind _)=_/\_
  generalize hF:Zzx 3 5 Za4 f=F
  let σ0:SD:=[some (.tup ks),some (.ref p),some (.int bs.length),none,none]
  have t1:tOf (eOp dinD (Zef Zah) (Zac 1)) σ0 H=some ((Zbf kvs []).isSome,H):=by
   refine tof (op (tp (ds:=[]) an (by simp)) (vr rfl) ?_)
   simp[dinD,Zvt,hp,nk,Zk3]
  have t2:tOf (eOp eqD (eCB Zlu (Zab (Zac 1) Zah)) (eC (.int 0))) σ0 H=some ((kvs.length:Int)==0,H):=by
   refine tof (op (cb (ac (vr rfl) an) (r:=some (.int kvs.length,H)) ?_) rfl (Zso _ _ _))
   simp[Zlu,Zvt,hp]
  cases c1:(Zbf kvs []).isSome with
  | true =>
   rw[c1] at t1
   obtain⟨x,hx,ex⟩:=Zir c1
   obtain⟨ls,g1,g2,g3⟩:=dr.key x hx
   have r0:rest bs ls=[]:=by rw[g3,Zed] at ex; exact Xw.inj ex
   refine⟨H,?_,Fz.refl⟩
   unfold Za4
   rw[hit (σ1:=σ0) t1 (rt rfl),Zw3 g1 (hu ls g1) j bs ⟨g2,r0⟩]
   rfl
  | false =>
   rw[c1] at t1
   by_cases c2:kvs=[]
   ·subst c2
    have al:∀ ls∈rss,kept bs ls=true:=fun ls h=>by
     cases e:kept bs ls with
     | true=>rfl
     | false=>have:=dr.all ls h e; simp[Zbf] at this
    refine⟨H,?_,Fz.refl⟩
    unfold Za4
    rw[skip t1,hit (σ1:=σ0) t2 (rt rfl),Zps hu j bs al]
    rfl
   ·have t2':tOf (eOp eqD (eCB Zlu (Zab (Zac 1) Zah)) (eC (.int 0))) σ0 H=some (false,H):=by
     rw[t2]
     have:((kvs.length:Int)==0)=false:=by
      have:=List.length_pos_iff.mpr c2
      simp; exact c2
     rw[this]
    -- a name is left
    match j,hj,hf with
    | 0,hj,hf =>
     exfalso
     obtain⟨x,kr,e⟩:=Wdr c2
     obtain⟨ls,g1,g2,g3⟩:=dr.key x (by rw[e]; simp)
     have r0:=Zqc bs (m:=ks.length) (by omega) ls 0 (hu ls g1)
     have:=dr.all ls g1 g2
     rw[r0,c1] at this; cases this
    | j+1,hj,hf =>
     have lt:bs.length<ks.length:=by omega
     let who:Bool:=kS (ks.getD bs.length .non)
     have gw:ks[bs.length]? = some (Zam who):=by
      have e0:ks.getD bs.length .non=ks[bs.length]:=by simp[List.getD,lt]
      have:=Zjq (hk ks[bs.length] (Wab lt))
      rw[Xk lt,this]
      show some (Zam (kS ks[bs.length]))=some (Zam (kS (ks.getD bs.length .non)))
      rw[e0]
     have s3:Zbl 3 (eOp ixD (Zac 0) (Zac 2)) σ0 H=some (.nx,[some (.tup ks),some (.ref p),some (.int bs.length),some (Zam who),none],H):=Zmo (op (vr rfl) (vr rfl) (ixT (Zb1 gw)))
     -- one pick
     have one:∀ (t:Bool) (z4:Option D) (H0:HD) (fz0:Bool),H0[p]? = some (.dic kvs fz0)->∃ H1,tOf (eOp eqD (Zak 3 F (Zab (Zac 0) (Zab (Zak 3 Za5 (Zab (Zac 1) (Zab (eOp Zcu (Zac 2) (eC (.int 1))) (Zab (Zac 4) Zah)))) (Zab (eOp Zcu (Zac 2) (eC (.int 1))) Zah)))) (Zac 3)) [some (.tup ks),some (.ref p),some (.int bs.length),some (Zam who),some (.bl t)] H0=some (W ks rss j (bs++[t])==who,H1)/\Fz H0 H1:=by
      intro t z4 H0 fz0 h0
      obtain⟨k1,H1,q1,e1,g1,d1,x1⟩:=Ziz (t:=t) hu hl h0 dr
      obtain⟨H2,e2,x2⟩:=Zsk hk hu hl j f (bs++[t]) k1 q1 false H1 (by omega) (by simp; omega) g1 d1
      have el:(((bs++[t]).length:Nat):Int)=(bs.length:Int)+1:=by simp
      rw[el,hF] at e2
      refine⟨H2,tof (op (ca (ac (vr rfl) (ac (ca (ac (vr rfl) (ac (op (vr rfl) rfl (adI _ _ _)) (ac (vr rfl) an))) rfl e1) (ac (op (vr rfl) rfl (adI _ _ _)) an))) rfl e2) (vr rfl) (Zs6 _ _ _)),x1.trans x2⟩
     obtain⟨H1,o1,x1⟩:=one false none H fz hp
     obtain⟨fz1,h1⟩:=x1.dic hp
     obtain⟨H2,o2,x2⟩:=one true none H1 fz1 h1
     have Wd:W ks rss (j+1) bs=(if W ks rss j (bs++[false])==who||W ks rss j (bs++[true])==who then who else !who):=by
      conv=>lhs; unfold W
     have it:∀ Hx,iSq (eC k_TRUTHS) [some (.tup ks),some (.ref p),some (.int bs.length),some (Zam who),none] Hx=some (([.bl false,.bl true],[]),Hx):=fun _=>rfl
     have st:∀ (t b:Bool) (Ha Hb:HD),tOf (eOp eqD (Zak 3 F (Zab (Zac 0) (Zab (Zak 3 Za5 (Zab (Zac 1) (Zab (eOp Zcu (Zac 2) (eC (.int 1))) (Zab (Zac 4) Zah)))) (Zab (eOp Zcu (Zac 2) (eC (.int 1))) Zah)))) (Zac 3)) [some (.tup ks),some (.ref p),some (.int bs.length),some (Zam who),some (.bl t)] Ha=some (b,Hb) ->
       wb F [some (.tup ks),some (.ref p),some (.int bs.length),some (Zam who),some (.bl t)] Ha=some (if b=true then .rt (Zam who) else .nx,[some (.tup ks),some (.ref p),some (.int bs.length),some (Zam who),some (.bl t)],Hb):=by
      intro t b Ha Hb h
      cases b with
      | true=>exact hit h (rt (vr rfl))
      | false=>exact(skip h).trans rfl
     unfold Za4
     rw[skip t1,skip t2',Zce s3]
     cases w1:(W ks rss j (bs++[false])==who) with
     | true =>
      rw[w1] at o1
      refine⟨H1,?_,x1⟩
      have lp:Zex (iSq (eC k_TRUTHS)) (gNm 4) (wb F) [some (.tup ks),some (.ref p),some (.int bs.length),some (Zam who),none] H=some (.rt (Zam who),[some (.tup ks),some (.ref p),some (.int bs.length),some (Zam who),some (.bl false)],H1):=by
       unfold Zex
       rw[it]
       simp only[Zb]
       rw[Zgd,if_pos Zho]
       simp only[gNm,Wez,Zb]
       rw[st _ _ _ _ o1]
       rfl
      rw[Zks lp,Wd,w1]
      rfl
     | false =>
      rw[w1] at o1
      have lp:Zex (iSq (eC k_TRUTHS)) (gNm 4) (wb F) [some (.tup ks),some (.ref p),some (.int bs.length),some (Zam who),none] H=some (if (W ks rss j (bs++[true])==who)=true then .rt (Zam who) else .nx,[some (.tup ks),some (.ref p),some (.int bs.length),some (Zam who),some (.bl true)],H2):=by
       unfold Zex
       rw[it]
       simp only[Zb]
       rw[Zgd,if_pos Zho]
       simp only[gNm,Wez,Zb]
       rw[st _ _ _ _ o1]
       simp only[Zb,Wam,if_false]
       rw[Zgd,if_pos Zho]
       simp only[gNm,Wez,Zb]
       rw[st _ _ _ _ o2]
       cases (W ks rss j (bs++[true])==who) with
       | true=>rfl
       | false =>
        simp only[Zb,Wam,if_false]
        rw[Zgd,if_pos Zho]
      refine⟨H2,?_,x1.trans x2⟩
      cases w2:(W ks rss j (bs++[true])==who) with
      | true =>
       rw[w2,if_pos rfl] at lp
       rw[Zks lp,Wd,w1,w2]
       rfl
      | false =>
       rw[w2,if_neg (by simp)] at lp
       have eo:Zak 1 Zbp (Zab (Zac 3) Zah) [some (.tup ks),some (.ref p),some (.int bs.length),some (Zam who),some (.bl true)] H2=some (Zam (!who),H2):=ca (ac (vr rfl) an) rfl (Zo8 who H2)
       rw[Zce lp,Zks (rt eo),Wd,w1,w2]
       rfl
theorem Zui {ks:List D} {rss:List (List Int)} {bs:List Bool} {j:Nat} (hk:∀ d∈ks,Zcr d) (hu:∀ ls∈rss,Up ks.length 0 ls) (hl:rss.length<=1000) (h8:ks.length<=8) (hj:bs.length+j=ks.length) (H:HD) :
  ∃ H',Zeo [.tup [.tup ks,.tup (rss.map Zay)],.tup (bs.map .bl)] H=some (Zam (W ks rss j bs),H')/\Fz H H':=by
 obtain⟨kvs,H1,q,fz,e1,g1,d1,x1⟩:=Zjw (bs:=bs) hu hl H
 obtain⟨H2,e2,x2⟩:=Zsk hk hu hl j 10 bs kvs q fz H1 (by omega) hj g1 d1
 refine⟨H2,?_,x1.trans x2⟩
 have at0:atI [D.tup ks,D.tup (rss.map Zay)] 0=some (.tup ks):=Zb1 (j:=0) rfl
 have at1:atI [D.tup ks,D.tup (rss.map Zay)] 1=some (.tup (rss.map Zay)):=Zb1 (j:=1) rfl
 show ((Zgz [some (.tup [.tup ks,.tup (rss.map Zay)]),some (.tup (bs.map .bl))] H).bind _)=_
 unfold Zgz
 have e2':Zcm [.tup ks,.ref q,.int bs.length] H1=some (Zam (W ks rss j bs),H2):=e2
 have ec:Zak 3 Zcm (Zab (eOp ixD (Zac 0) (eC (.int 0))) (Zab (Zak 2 Zbx (Zab (eOp ixD (Zac 0) (eC (.int 1))) (Zab (Zac 1) Zah))) (Zab (eCB Zev (Zab (Zac 1) Zah)) Zah))) [some (.tup [.tup ks,.tup (rss.map Zay)]),some (.tup (bs.map .bl))] H=some (Zam (W ks rss j bs),H2) :=
  ca (ac (op (vr rfl) rfl (ixT at0)) (ac (ca (ac (op (vr rfl) rfl (ixT at1)) (ac (vr rfl) an)) rfl e1) (ac (cb (ac (vr rfl) an) (lenB bs _)) an))) rfl e2'
 rw[Zks (rt ec)]
 rfl
end K08
namespace K08
open PySem L2 DL LH WP
theorem at0 (a b:D):atI [a,b] 0=some a:=Zb1 (j:=0) rfl
theorem at1 (a b:D):atI [a,b] 1=some b:=Zb1 (j:=1) rfl
theorem Fz.fm {H H':HD} (x:Fz H H'):Fm [] H H':=⟨fun m o _ h=>x.old m o h,x.len⟩
structure Cl (ks:List D) (rss:List (List Int)):Prop where
 hk:∀ d∈ks,Zcr d
 hu:∀ ls∈rss,Up ks.length 0 ls
 hl:rss.length<=1000
 h8:ks.length<=8
nonrec def Zau (ks:List D) (rss:List (List Int)):D:=.tup [.tup ks,.tup (rss.map Zay)]
variable {H:HD} {Q:D->HD->Prop}
theorem w_cl0 {ks:List D} {rss:List (List Int)} (q:Q (.tup ks) H):wE (ixD (Zau ks rss) (.int 0) H) Q:=⟨_,_,ixT (at0 _ _),q⟩
theorem w_cl1 {ks:List D} {rss:List (List Int)} (q:Q (.tup (rss.map Zay)) H):wE (ixD (Zau ks rss) (.int 1) H) Q:=⟨_,_,ixT (at1 _ _),q⟩
nonrec def FW (ks:List D) (rss:List (List Int)) (bs:List Bool):D:=Zam (W ks rss (ks.length - bs.length) bs)
theorem Ycc {bs:List Bool} {H:HD} {Q:D->HD->Prop} (q:Q (.int bs.length) H):wE (Zev [Zav bs] H) Q:=⟨_,_,lenB bs H,q⟩
theorem Ydk {bs:List Bool} {t:Bool} {H:HD} {Q:D->HD->Prop} (h:bs.length<=1000) (q:Q (Zav (bs++[t])) H):wE (Zcu (Zav bs) (.tup [.bl t]) H) Q :=
 ⟨Zav (bs++[t]),H,by unfold Zav; rw[adT (by simp; omega),Wap]; rfl,q⟩
theorem Zim {ks:List D} (hk:∀ d∈ks,Zcr d) {i:Nat} (h:i<ks.length):ks[i]? = some (Zam (kS (ks.getD i .non))):=by
 have e0:ks.getD i .non=ks[i]:=by simp[List.getD,h]
 have:=Zjq (hk ks[i] (Wab h))
 rw[Xk h,e0]
 exact congrArg some this
theorem Zcq {a b:Bool} (q:Q (.bl (a==b)) H):wE (eqD (Zam a) (Zam b) H) Q:=⟨_,_,Zs6 _ _ _,q⟩
theorem Zpc {ks:List D} {rss:List (List Int)} {bs:List Bool} {t:Bool} {kvs:List (D×D)} {p:Nat} {fz:Bool} (c:Cl ks rss) (g:H[p]? = some (.dic kvs fz)) (dr:DR rss bs kvs)
  (q:∀ kvs' r H',H'[r]? = some (.dic kvs' false)->DR rss (bs++[t]) kvs'->Fm [] H H'->Q (.ref r) H'):wE (Za5 [.ref p,.int ((bs.length:Int)+1),.bl t] H) Q:=by
 obtain⟨kvs',H',r,e,g',d',x⟩:=Ziz (t:=t) c.hu c.hl g dr
 exact⟨_,_,e,q kvs' r H' g' d' x.fm⟩
theorem Ya0 {ks:List D} {rss:List (List Int)} (c:Cl ks rss) (q:∀ kvs r H',H'[r]? = some (.dic kvs false)->DR rss [] kvs->Fm [] H H'->Q (.ref r) H'):wE (Zbo [.tup (rss.map Zay)] H) Q:=by
 obtain⟨kvs',H',r,e,g',d',x⟩:=Zp4 c.hu c.hl H
 exact⟨_,_,e,q kvs' r H' g' d' x.fm⟩
local macro_rules | `(tactic| fail $s:str)=>do
 if s.getString == "g" then `(tactic| (repeat fail "go")) else if s.getString == "i" then `(tactic| ((repeat fail "go"); (refine WP.w_if ?_; (repeat fail "go")))) else Lean.Macro.throwUnsupported
local macro_rules | `(tactic| fail $s:str)=>do
 if s.getString == "lk" then `(tactic| first | assumption | with_reducible exact WP.last | (with_reducible refine WP.appL ?_; fail "lk"))
 else if s.getString == "go" then do
  let a0 <- `(by with_unfolding_all rfl)
  let a1 <- `(?_)
  let a2 <- `(by first | (simp; done) | (simp; omega) | omega)
  let a3 <- `(by decide)
  let a4 <- `(by with_unfolding_all first | exact(rfl:_=true) | exact(rfl:_=false))
  let a5 <- `(by fail "lk")
  let a6 <- `(by with_unfolding_all exact rfl)
  let t<-([`WP.w_var].map (·,[a0,a1])++[`WP.w_c,`WP.w_seq,`WP.w_kn,`WP.w_set,`WP.w_op,`WP.w_acons,`WP.w_anil,`WP.w_call,`WP.w_cb,`WP.w_tof,`WP.w_bl,`WP.w_bt,`WP.w_bf,`WP.w_bnt,`WP.w_bnf,`WP.w_ret,`WP.w_fr,`WP.w_kr,`WP.w_snil,`WP.w_expr,`WP.w_for,`WP.w_or,`WP.w_an,`WP.w_no,`WP.w_ttru,`WP.w_eif,`WP.w_eno,`WP.w_ean,`WP.w_eorr,`WP.w_un,`WP.w_ch,`WP.w_int,`WP.w_tup,`WP.w_lst,`WP.w_lm,`WP.w_tm,`WP.w_dm,`WP.w_dn,`WP.w_on,`WP.w_os,`WP.w_sl,`WP.w_rv,`WP.w_lc,`WP.w_asg,`WP.w_gnm,`WP.w_gsb,`WP.w_gcn,`WP.w_gnl].map (·,[a1])++[`WP.w_n,`WP.w_gtp,`WP.w_ixT,`WP.w_isN,`WP.w_isnN,`WP.w_isBl,`WP.w_isnBl].map (·,[a0,a1])++[`WP.w_sz,`WP.w_addT].map (·,[a2,a1])++[`WP.w_mod].map (·,[a3,a1])++[`WP.w_fdiv,`WP.w_mulL,`WP.w_mulR].map (·,[a3,a3,a1])++[`WP.w_eqI',`WP.w_neI',`WP.w_eqS',`WP.w_neS'].map (·,[a4,a1])++[`WP.w_lenR,`WP.w_tupR,`WP.w_itR].map (·,[a5,a1])++[`WP.w_ixR].map (·,[a5,a0,a1])++[`WP.w_isi'].map (·,[a0,a0,a4,a1])++[`WP.w_addI,`WP.w_subI,`WP.w_lt,`WP.w_le,`WP.w_gt,`WP.w_ge,`WP.w_slhi,`WP.w_sllo,`WP.w_sllo1,`WP.w_neg,`WP.w_eqI,`WP.w_neI,`WP.w_eqS,`WP.w_neS,`WP.w_lenT,`WP.w_lenF,`WP.w_abs,`WP.w_intI,`WP.w_intB,`WP.w_max,`WP.w_min,`WP.w_truB,`WP.w_truT,`WP.w_truN,`WP.w_isq,`WP.w_itT,`WP.w_itF,`WP.w_ir1,`WP.w_ir2,`WP.w_ir3,`WP.w_idic,`WP.w_enum,`WP.w_enum1,`WP.w_zip,`WP.w_yes,`WP.w_retn,`WP.w_fn,`WP.w_agn,`WP.w_agr,`WP.w_kb,`WP.w_kc,`WP.w_agb,`WP.w_agc,`WP.w_brk,`WP.w_cnt].map (·,[a1])++[`WP.w_bT,`WP.w_bF].map (·,[a6,a1]):List (Lean.Name×List Lean.Term)).foldrM (fun p (r:Lean.TSyntax `tactic) => `(tactic| first | with_reducible refine $(Lean.Syntax.mkApp (Lean.mkIdent p.1) p.2.toArray) | $r:tactic)) (<- `(tactic| fail "no"))
  return t
 else Lean.Macro.throwUnsupported
local macro_rules | `(tactic| fail $s:str)=>do
 if s.getString == "go" then `(tactic| first | with_reducible refine Ycc ?_ | with_reducible refine Ydk (by omega) ?_ | with_reducible refine w_cl0 ?_ | with_reducible refine w_cl1 ?_)
 else Lean.Macro.throwUnsupported
variable {H:HD} {Q:D->HD->Prop}
nonrec def Zh1 (ks:List D) (ls:List Int):Bool:=ls.all fun l => !kS (ks.getD (Zar l - 1).toNat .non)
theorem Zq7 {ks:List D} {b:Int} {ls:List Int} (h:Zh1 ks ls=true):Zh1 ks (Ze2 b ls)=true:=by
 cases ls with
 | nil=>exact h
 | cons l r =>
  show Zh1 ks (if Zar l=b+1 then r else l::r)=true
  split
  ·unfold Zh1 at h ⊢; rw[Wcr,Waf] at h; exact h.2
  ·exact h
theorem Zxo {ks:List D} {rss:List (List Int)} {ls:List Int} (hl:ls∈rss) (hu:Up ks.length 0 ls):∀ (j:Nat) (bs:List Bool),bs.length+j=ks.length->kept bs ls=false->Zh1 ks (rest bs ls)=true->W ks rss j bs=false
 | 0,bs,hb,hk,ha=>Zw3 hl hu 0 bs ⟨hk,Zqc bs (by omega) ls 0 hu⟩
 | j+1,bs,hb,hk,ha=>by
  have nx:=fun t=>Zgh bs t ls 0 (Wcl _) hu
  have go:∀ t,Zju bs.length t (rest bs ls)=false->W ks rss j (bs++[t])=false:=fun t ht =>
   Zxo hl hu j (bs++[t]) (by simp; omega) (by rw[(nx t).2,hk,ht]; rfl) (by rw[(nx t).1]; exact Zq7 ha)
  unfold W
  cases hw:kS (ks.getD bs.length .non) with
  | false =>
   have:∃ t,Zju bs.length t (rest bs ls)=false:=by
    cases rest bs ls with
    | nil=>exact⟨false,rfl⟩
    | cons l r =>
     refine⟨!decide (0<l),?_⟩
     show (decide (Zar l=(bs.length:Int)+1)&&((!decide (0<l))==decide (0<l)))=false
     cases decide (0<l)<;>cases decide (Zar l=(bs.length:Int)+1)<;>rfl
   obtain⟨t,ht⟩:=this
   have:=go t ht
   cases t
   ·simp[this]
   ·simp[this]
  | true =>
   have nh:∀ t,Zju bs.length t (rest bs ls)=false:=by
    intro t
    cases e:rest bs ls with
    | nil=>rfl
    | cons l r =>
     unfold Zju
     rw[e] at ha
     unfold Zh1 at ha
     rw[Wcr,Waf] at ha
     have:¬ Zar l=(bs.length:Int)+1:=fun z=>by
      have h2:(Zar l - 1).toNat=bs.length:=by omega
      rw[h2,hw] at ha
      cases ha.1
     simp[this]
   simp[go _ (nh false),go _ (nh true)]
inductive PlanD (ks:List D) (rss:List (List Int)) (side:Bool):List Bool->D->Prop
 | kept {bs:List Bool}:side=true->(∀ ls∈rss,kept bs ls=true)->PlanD ks rss side bs (.tup [.str "kept"])
 | lost {bs:List Bool} {i:Nat} {ls:List Int}:side=false->rss[i]? = some ls->K08.kept bs ls=false->Zh1 ks (rest bs ls)=true->PlanD ks rss side bs (.tup [.str "lost",.int i])
 | pick {bs:List Bool} {t:Bool} {x:D}:bs.length<ks.length->kS (ks.getD bs.length .non)=side->PlanD ks rss side (bs++[t]) x->PlanD ks rss side bs (.tup [.str "pick",.bl t,x])
 | each {bs:List Bool} {x y:D}:bs.length<ks.length->kS (ks.getD bs.length .non) = !side->PlanD ks rss side (bs++[false]) x->PlanD ks rss side (bs++[true]) y->PlanD ks rss side bs (.tup [.str "each",x,y])
theorem w_all {p:Nat} {bs:List Bool} (g:H[p]? = some (.lst (bs.map .bl))) (q:Q (.bl (bs.all id)) H):wE (Zyg [.ref p] H) Q:=⟨_,_,Zxs g,q⟩
theorem Zzn {ks:List D} {ls:List Int} (hk:∀ d∈ks,Zcr d) (h:∀ l∈ls,0<Zar l/\Zar l<=ks.length) (hl:ls.length<=1000) (q:∀ H',Fm [] H H'->Q (.bl (Zh1 ks ls)) H'):wE (Ze9 [.tup ks,Zay ls] H) Q:=by
 refine Zbb rfl ?_
 show wS (Zc4 [some (.tup ks),some (Zay ls)] H) _
 unfold Zc4 Zay
 fail "g"
 refine Zo7 (fun d=>match d with | .int l=>.bl (!kS (ks.getD (Zar l - 1).toNat .non)) | _=>.non) (fun H'=>H'=H) (fun _ _=>Zg6) _ (fun x hx H1 j=>?_) _ rfl fun H1 j=>?_
 ·obtain⟨l,hl,rfl⟩:=Waa.mp hx
  have:=h l hl
  subst j
  fail "g"
  refine w_ixT (Zg1 (by omega) (Zim hk (by omega))) ?_
  fail "g"
  refine Zcq (b:=false) ?_
  exact⟨by simp,rfl⟩
 ·subst j
  refine⟨by simp; omega,?_⟩
  fail "g"
  have e:((ls.map D.int).map fun d=>match d with | .int l=>D.bl (!kS (ks.getD (Zar l - 1).toNat .non)) | _=>.non)=(ls.map fun l => !kS (ks.getD (Zar l - 1).toNat .non)).map .bl:=by
   rw[Wbj,Wbj]; rfl
  rw[e]
  refine w_all last ?_
  fail "g"
  have:=q (H1++[.lst ((ls.map fun l => !kS (ks.getD (Zar l - 1).toNat .non)).map .bl)]) (Fm.app _)
  rw[List.all_map]
  exact this
theorem Zyr {m:Int}:∀ (ls:List Int) (last:Int),Up m last ls->ls.length<=(m - last).toNat
 | [],_,_=>Wbg _
 | x::r,last,u=>by
  obtain⟨u1,u2,u3⟩:=u
  have:=Zyr r _ u3
  simp only[Wdb]
  omega
theorem Zye {m:Int}:∀ (ls:List Int) (last:Int),0<=last->Up m last ls->∀ l∈ls,last<Zar l/\Zar l<=m
 | [],_,_,_,_,h=>by cases h
 | l::r,last,h0,u,x,h=>by
  obtain⟨u1,u2,u3⟩:=u
  rcases Xj.mp h with rfl | h
  ·exact⟨u1,u2⟩
  ·have:=Zye r (Zar l) (by omega) u3 x h; omega
theorem Zp8 {bs:List Bool} {ls:List Int} {l:Int} (h:l∈rest bs ls):l∈ls:=(Wah.mp h).1
theorem Zr6 {ks:List D} {rss:List (List Int)} {bs:List Bool} {kvs:List (D×D)} {p:Nat} {fz:Bool} (c:Cl ks rss) (g:H[p]? = some (.dic kvs fz)) (dr:DR rss bs kvs)
  (q1:∀ (i:Nat) (ls:List Int) H',Fm [] H H'->rss[i]? = some ls->kept bs ls=false->Zh1 ks (rest bs ls)=true->Q (.int i) H') (q2:∀ H',Fm [] H H'->(∀ ls∈rss,kept bs ls=false->Zh1 ks (rest bs ls)=false)->Q .non H') :
  wE (Zdd [.tup ks,.ref p] H) Q:=by
 refine Zbb rfl ?_
 show wS (Zbt [some (.tup ks),some (.ref p),none] H) _
 unfold Zbt
 fail "g"
 refine⟨p,kvs,fz,rfl,g,?_⟩
 have lt:=(Xc.mp g).1
 have x0:Fm [] H (H.set p (.dic kvs true)):=⟨fun m o _ h=>by
  by_cases e:p=m
  ·subst e
   rw[g] at h; cases h
   cases fz
   ·exact .inr ⟨kvs,rfl,Zl7 g⟩
   ·exact .inl (Zl7 g)
  ·exact .inl (Zxt e h),by simp⟩
 refine Zct (fun d t σ H'=>d++t=kvs.map (·.1)/\(∀ ls,Zay ls∈d->Zh1 ks ls=false)/\Fm [] H H'/\H'[p]? = some (.dic kvs true)/\∃ b,σ=[some (.tup ks),some (.ref p),b]) (fun _ _ _ _ j=>Zza j.2.2.2.1) (fun d x t σ H1 ⟨i1,i2,i3,i4,b,i5⟩=>?_) (fun d σ H1 ⟨i1,i2,i3,i4,b,i5⟩=>?_) _ [] _ _ ⟨rfl,by simp,x0,Zl7 g,_,rfl⟩
 ·subst i5
  have hm:x∈kvs.map (·.1):=by rw[<- i1]; simp
  obtain⟨y,hy,rfl⟩:=Waa.mp hm
  obtain⟨i,ls,v1,v2,v3⟩:=dr.val y hy
  have hu:=c.hu ls (Xl v1)
  have hb:=Zye ls 0 (Wcl _) hu
  have ek:y.1=Zay (rest bs ls):=by rw[v3]
  rw[ek]
  have ll:(rest bs ls).length<=1000:=by
   refine Wac (Waq _ _) ?_
   have l9:=Zyr ls 0 hu
   have:=c.h8
   omega
  fail "i"
  refine Zzn c.hk (fun l hl=>⟨(hb l (Zp8 hl)).1,(hb l (Zp8 hl)).2⟩) ll fun H2 x2=>?_
  refine⟨_,rfl,?_,?_⟩
  ·intro ha
   fail "g"
   obtain⟨v,ev⟩:=Wai.mp (Zm8 hy (k:=rest bs ls) (by rw[ek]; exact Zed _))
   obtain⟨z,z1,z2,z3⟩:=Zpj ev
   obtain⟨i',ls',u1,u2,u3⟩:=dr.val z z1
   have er:rest bs ls'=rest bs ls:=by rw[u3,Zed] at z2; exact Xw.inj z2
   refine Zyu (x2.fr (by simp) i4) (Zed _) ev ?_
   fail "g"
   rw[<- z3,u3]
   exact q1 i' ls' H2 (i3.trans x2) u1 u2 (by rw[er]; exact ha)
  ·intro ha
   fail "g"
   refine⟨by rw[<- i1,ek]; simp,fun l hl=>?_,i3.trans x2,x2.fr (by simp) i4,_,rfl⟩
   rcases Xx.mp hl with hl | hl
   ·exact i2 l hl
   ·simp at hl; rw[Yav hl]; exact ha
 ·subst i5
  fail "g"
  refine q2 H1 i3 fun ls hl hk=>?_
  obtain⟨y,hy,ey⟩:=Zir (dr.all ls hl hk)
  obtain⟨i',ls',u1,u2,u3⟩:=dr.val y hy
  have er:rest bs ls'=rest bs ls:=by rw[u3,Zed] at ey; exact Xw.inj ey
  refine i2 _ ?_
  rw[Wad] at i1
  rw[i1,<- er]
  exact Waa.mpr ⟨y,hy,by rw[u3]⟩
theorem Zz3 {b:Bool} (q:Q (Zam (!b)) H):wE (Zbp [Zam b] H) Q:=⟨_,_,Zo8 b H,q⟩
theorem Zzm {ks:List D} {rss:List (List Int)} (c:Cl ks rss):∀ f:Nat,
  (∀ (j:Nat) (bs:List Bool) (kvs:List (D×D)) (p:Nat) (fz:Bool) (H:HD) (Q:D->HD->Prop),2*j+1<=f->bs.length+j=ks.length->H[p]? = some (.dic kvs fz)->DR rss bs kvs ->
   (∀ t H',PlanD ks rss (W ks rss j bs) bs t->Fm [] H H'->Q (.tup [Zam (W ks rss j bs),t]) H')->wE ((Zdv 3 4 3 7 Zax Zap f).1 [.tup ks,.ref p,.int bs.length] H) Q) /\
  (∀ (j:Nat) (bs:List Bool) (kvs:List (D×D)) (p:Nat) (fz:Bool) (H:HD) (Q:D->HD->Prop),2*(j+1)<=f->bs.length+(j+1)=ks.length->H[p]? = some (.dic kvs fz)->DR rss bs kvs ->
   (∀ t H',PlanD ks rss (W ks rss (j+1) bs) bs t->Fm [] H H'->Q (.tup [Zam (W ks rss (j+1) bs),t]) H')->wE ((Zdv 3 4 3 7 Zax Zap f).2 [.tup ks,.ref p,.int bs.length] H) Q):=by
 intro f
 induction f with
 | zero=>exact⟨fun j _ _ _ _ _ _ h=>by omega,fun j _ _ _ _ _ _ h=>by omega⟩
 | succ f ih =>
  obtain⟨ih1,ih2⟩:=ih
  refine⟨?_,?_⟩
  ·intro j bs kvs p fz H Q hf hj g dr q
   rw[Zdv]
   dsimp only
   generalize hF1:(Zdv 3 4 3 7 Zax Zap f).1=F1 at *
   generalize hF2:(Zdv 3 4 3 7 Zax Zap f).2=F2 at *
   refine Zbb rfl ?_
   show wS (Zax _ _ [some (.tup ks),some (.ref p),some (.int bs.length),none] H) _
   unfold Zax
   fail "i"
   refine Ybu g ?_
   fail "g"
   refine⟨fun h=>?_,fun h=>?_⟩
   ·have e0:kvs=[]:=Wcs.mp (by simp at h; simpa using h)
    subst e0
    have al:∀ ls∈rss,kept bs ls=true:=fun ls h=>by
     cases e:kept bs ls with
     | true=>rfl
     | false=>have:=dr.all ls h e; simp[Zbf] at this
    have ew:=Zps (ks:=ks) c.hu j bs al
    fail "g"
    have:=q (.tup [.str "kept"]) H (.kept ew al) Fm.refl
    rw[ew] at this; exact this
   ·fail "g"
    refine Zr6 c g dr (fun i ls H1 x1 e1 e2 e3=>?_) (fun H1 x1 hn=>?_)
    ·fail "i"
     have ew:=Zxo (Xl e1) (c.hu ls (Xl e1)) j bs hj e2 e3
     have:=q (.tup [.str "lost",.int i]) H1 (.lost ew e1 e2 e3) x1
     rw[ew] at this; exact this
    ·fail "i"
     obtain⟨fz1,g1⟩:=x1.dic (by simp) g
     match j,hj,hf,q with
     | 0,hj,_,_ =>
      exfalso
      have hne:kvs≠[]:=fun z=>by subst z; simp at h
      obtain⟨y,kr,e⟩:=Wdr hne
      obtain⟨i,ls,v1,v2,v3⟩:=dr.val y (by rw[e]; simp)
      have:=hn ls (Xl v1) v2
      rw[Zqc bs (m:=ks.length) (by omega) ls 0 (c.hu ls (Xl v1))] at this
      cases this
     | j+1,hj,hf,q =>
      refine ih2 j bs kvs p fz1 H1 _ (by omega) hj g1 dr fun t H2 pt x2=>?_
      fail "g"
      exact q t H2 pt (x1.trans x2)
  ·intro j bs kvs p fz H Q hf hj g dr q
   rw[Zdv]
   dsimp only
   generalize hF1:(Zdv 3 4 3 7 Zax Zap f).1=F1 at *
   generalize hF2:(Zdv 3 4 3 7 Zax Zap f).2=F2 at *
   refine Zbb rfl ?_
   show wS (Zap _ _ [some (.tup ks),some (.ref p),some (.int bs.length),none,none,none,none] H) _
   unfold Zap
   have lb:∀ t:Bool,(((bs++[t]).length:Nat):Int)=(bs.length:Int)+1:=fun t=>by simp
   have Wd:W ks rss (j+1) bs=(if W ks rss j (bs++[false])==kS (ks.getD bs.length .non)||W ks rss j (bs++[true])==kS (ks.getD bs.length .non) then kS (ks.getD bs.length .non) else !kS (ks.getD bs.length .non)):=by
    conv=>lhs; unfold W
   fail "g"
   refine w_ixT (Zb1 (Zim c.hk (by omega))) ?_
   fail "g"
   rw[k_TRUTHS]
   fail "g"
   generalize hw:kS (ks.getD bs.length .non)=who at *
   refine Zfd Zg6 ?_
   fail "g"
   refine Zpc c (appL g) dr fun kvs1 r1 H1 g1 d1 x1=>?_
   fail "g"
   rw[<- lb false]
   refine ih1 j (bs++[false]) kvs1 r1 false H1 _ (by omega) (by simp; omega) g1 d1 fun t2 H2 p2 x2=>?_
   have T2:=x2.lst (by simp) (x1.lst (by simp) last)
   fail "i"
   refine Zcq ?_
   fail "g"
   refine⟨fun h=>?_,fun h=>?_⟩
   ·fail "g"
    have ew:W ks rss (j+1) bs=who:=by rw[Wd,h]; rfl
    have e2:W ks rss j (bs++[false])=who:=by simpa using h
    rw[e2] at p2
    have:=q (.tup [.str "pick",.bl false,t2]) H2 (by rw[ew]; exact .pick (by omega) hw p2) (((Fm.app _).trans x1).trans x2)
    rw[ew] at this; exact this
   ·fail "g"
    refine⟨isl T2,?_⟩
    fail "g"
    refine Zj3 T2 (by simp) ?_
    fail "g"
    refine Zfd Zg6 ?_
    fail "g"
    obtain⟨fz3,g3⟩:=(((Fm.app _).trans x1).trans x2).dic (by simp) g
    have nq:H.length≠p:=by have:=(Xc.mp g).1; omega
    refine Zpc c (Zxt nq g3) dr fun kvs4 r4 H4 g4 d4 x4=>?_
    fail "g"
    rw[<- lb true]
    refine ih1 j (bs++[true]) kvs4 r4 false H4 _ (by omega) (by simp; omega) g4 d4 fun t5 H5 p5 x5=>?_
    have T5:=x5.lst (by simp) (x4.lst (by simp) (Zl7 T2))
    have X5:Fm [] H H5:=(((Fm.app (S:=[]) [DO.lst []]).trans x1).trans x2).new (((Fm.set (S:=[H.length]) (by simp)).trans (x4.sub (by simp))).trans (x5.sub (by simp))) (by simp)
    fail "i"
    refine Zcq ?_
    fail "g"
    refine⟨fun h'=>?_,fun h'=>?_⟩
    ·fail "g"
     have ew:W ks rss (j+1) bs=who:=by rw[Wd,h,h']; rfl
     have e2:W ks rss j (bs++[true])=who:=by simpa using h'
     rw[e2] at p5
     have:=q (.tup [.str "pick",.bl true,t5]) H5 (by rw[ew]; exact .pick (by omega) hw p5) X5
     rw[ew] at this; exact this
    ·fail "g"
     refine⟨isl T5,?_⟩
     fail "g"
     refine Zj3 T5 (by simp) ?_
     fail "g"
     refine Zm1 Zg6 ?_
     fail "g"
     refine Zz3 ?_
     have T6:=Zl7 (o:=.lst ([]++[t2]++[t5])) T5
     fail "g"
     have ew:W ks rss (j+1) bs = !who:=by rw[Wd,h,h']; rfl
     have e2:W ks rss j (bs++[false]) = !who:=by cases who<;>cases hh:W ks rss j (bs++[false])<;>simp_all
     have e5:W ks rss j (bs++[true]) = !who:=by cases who<;>cases hh:W ks rss j (bs++[true])<;>simp_all
     rw[e2] at p2
     rw[e5] at p5
     have:=q (.tup [.str "each",t2,t5]) _ (by rw[ew]; exact .each (by omega) (by rw[hw]; simp) p2 p5) (X5.new (Fm.set (p:=H.length) (o:=.lst ([]++[t2]++[t5])) (S:=[H.length]) (by simp)) (by simp))
     rw[ew] at this; exact this
theorem Yc9 {ks:List D} {rss:List (List Int)} (c:Cl ks rss) (q:∀ t H',PlanD ks rss (W ks rss ks.length []) [] t->Fm [] H H'->Q (.tup [Zam (W ks rss ks.length []),t]) H'):wE (Ztt [Zau ks rss] H) Q:=by
 have h8:=c.h8
 refine Zbb rfl ?_
 show wS (Znb [some (Zau ks rss)] H) _
 unfold Znb
 fail "g"
 refine Ya0 c fun kvs r H1 g1 d1 x1=>?_
 fail "g"
 refine(Zzm c 22).1 ks.length [] kvs r false H1 _ (by omega) (by simp) g1 d1 fun t H2 pt x2=>?_
 fail "g"
 exact q t H2 pt (x1.trans x2)
theorem Ycz {t:TF} {f g:SF} {σ:SD} {R:FD->SD->HD->Prop} (B:Bool) (h:wT (t σ H) fun b H'=>H'=H/\b=B) (ht:B=true->wS (f σ H) R) (hf:B=false->wS (g σ H) R):wS (sIf t f g σ H) R:=by
 obtain⟨b,H1,e,rfl,rfl⟩:=h
 exact w_if ⟨_,_,e,ht,hf⟩
theorem w_mix {cell k:Int} (h0:0<=k) (h1:k<=100) (q:∀ r H',0<=r->r<2147483648->Fm [] H H'->Q (.int r) H'):wE (Zjb [.int cell,.int k] H) Q:=by
 refine Zbb rfl ?_
 show wS (Zfm [some (.int cell),some (.int k),none,none] H) _
 unfold Zfm
 obtain⟨P,hP,hP2,eP⟩:∃ P:Int,0<P/\P<2147483648/\atI [D.int 2147483647,.int 2147483629,.int 2147483587,.int 2147483579,.int 2147483563,.int 2147483549,.int 2147483543] (k % 7)=some (.int P):=by
  rcases(show k % 7=0\/k % 7=1\/k % 7=2\/k % 7=3\/k % 7=4\/k % 7=5\/k % 7=6 by omega) with h | h | h | h | h | h | h<;>rw[h]
  ·exact⟨2147483647,by omega,by omega,rfl⟩
  ·exact⟨2147483629,by omega,by omega,rfl⟩
  ·exact⟨2147483587,by omega,by omega,rfl⟩
  ·exact⟨2147483579,by omega,by omega,rfl⟩
  ·exact⟨2147483563,by omega,by omega,rfl⟩
  ·exact⟨2147483549,by omega,by omega,rfl⟩
  ·exact⟨2147483543,by omega,by omega,rfl⟩
 fail "g"
 refine w_ixR last eP ?_
 fail "g"
 have c0:=Wbx cell (show (998244353:Int)≠0 by decide)
 have c1:=Wbk cell (show (0:Int)<998244353 by decide)
 generalize cell % 998244353=c at *
 refine w_mulL (by omega) (by omega) ?_
 fail "g"
 refine w_mulL (by omega) (by omega) ?_
 fail "g"
 refine w_mod hP ?_
 have a0:=Wbx ((c+104729*(k+1))*(k*k+7*k+13)) (show P≠0 by omega)
 have a1:=Wbk ((c+104729*(k+1))*(k*k+7*k+13)) hP
 generalize (c+104729*(k+1))*(k*k+7*k+13) % P=a at *
 fail "g"
 refine Yah (by decide) (by decide) (by omega) ?_
 fail "g"
 have b0:=Wbx (a ^ (5:Int).toNat) (show (1000000007:Int)≠0 by decide)
 have b1:=Wbk (a ^ (5:Int).toNat) (show (0:Int)<1000000007 by decide)
 generalize a ^ (5:Int).toNat % 1000000007=b at *
 refine w_mod hP ?_
 have d0:=Wbx (b*48271+31*k+5) (show P≠0 by omega)
 have d1:=Wbk (b*48271+31*k+5) hP
 generalize (b*48271+31*k+5) % P=d at *
 fail "g"
 refine Yah (by decide) (by decide) (by omega) ?_
 fail "g"
 have e0:=Wbx (d ^ (3:Int).toNat) (show (998244353:Int)≠0 by decide)
 have e1:=Wbk (d ^ (3:Int).toNat) (show (0:Int)<998244353 by decide)
 generalize d ^ (3:Int).toNat % 998244353=e at *
 exact q _ _ (by omega) (by omega) (Fm.app _)
def Zxp (ds:List Int):Prop:=∀ d∈ds,0<=d/\d<2147483648
theorem Zia {cell:Int} {many:Nat} (h1:many<=100) (q:∀ (ds:List Int) p H',ds.length=many->Zxp ds->H'[p]? = some (.lst (ds.map .int))->H.length<=p->Fm [] H H'->Q (.ref p) H'):wE (Zch [.int cell,.int many] H) Q:=by
 refine Zbb rfl ?_
 show wS (Zc7 [some (.int cell),some (.int many),none,none,none,none] H) _
 unfold Zc7
 fail "g"
 refine Yah (by decide) (by decide) (by decide) ?_
 fail "g"
 generalize decide ((10:Int) ^ (18:Int).toNat<=Zar cell)=wide
 refine⟨_,rfl,⟨by omega,by omega⟩,?_⟩
 rw[show ((many:Int)).toNat=many by omega]
 refine Zct (fun d t σ H'=>d++t=Zbk 0 many/\∃ (ds:List Int) (L:Int) (z5:Option D),ds.length=d.length/\Zxp ds/\H'[H.length]? = some (.lst (ds.map .int))/\Fm [H.length] (H++[.lst []]) H'/\0<=L/\σ=[some (.int cell),some (.int many),some (.ref H.length),some (.int L),some (.bl wide),z5]) (fun _ _ _ _ _=>Zg6) (fun d x t σ H1 ⟨e0,ds,L,z5,e1,e2,e3,x1,hL,e5⟩=>?_) (fun d σ H1 ⟨e0,ds,L,z5,e1,e2,e3,x1,hL,e5⟩=>?_) _ [] _ _ ⟨rfl,[],Zar cell,_,rfl,(by intro d h; cases h),last,Fm.refl,(by unfold Zar; split<;>omega),rfl⟩
 ·subst e5
  have hx:x∈Zbk 0 many:=by rw[<- e0]; simp
  simp only[Zbk,Waa,Wci] at hx
  obtain⟨i,hi,rfl⟩:=hx
  have hd:d.length<=100:=by
   have:=congrArg Wbl e0
   simp[Zbk] at this
   omega
  fail "g"
  refine Ycz (wide&&decide (0<L)) ?_ (fun h=>?_) (fun h=>?_)
  ·fail "g"
   cases wide
   ·exact⟨(fun z=>nomatch z),fun _=>⟨rfl,rfl⟩⟩
   ·refine⟨fun _=>?_,(fun z=>nomatch z)⟩
    fail "g"
    exact⟨rfl,by simp⟩
  ·fail "g"
   refine⟨isl e3,?_⟩
   fail "g"
   refine Zj3 e3 (by simp; omega) ?_
   fail "g"
   have m0:=Wbx L (show (10007:Int)≠0 by decide)
   have m1:=Wbk L (show (0:Int)<10007 by decide)
   refine⟨by rw[<- e0]; simp,ds++[L % 10007],L / 10007,_,by simp[e1],?_,?_,x1.trans (Fm.set (by simp)),Int.ediv_nonneg hL (by decide),rfl⟩
   ·intro y hy
    rcases Xx.mp hy with h | h
    ·exact e2 y h
    ·simp at h; subst h; exact⟨m0,by omega⟩
   ·rw[Wap]; exact Zl7 e3
  ·fail "g"
   refine⟨isl e3,?_⟩
   fail "g"
   refine w_mix (by omega) (by omega) fun r H2 r0 r1 x2=>?_
   fail "g"
   have e3':=x2.lst (by simp) e3
   refine Zj3 e3' (by simp; omega) ?_
   fail "g"
   refine⟨by rw[<- e0]; simp,ds++[r],L,_,by simp[e1],?_,?_,(x1.trans (x2.sub (by simp))).trans (Fm.set (by simp)),hL,rfl⟩
   ·intro y hy
    rcases Xx.mp hy with h | h
    ·exact e2 y h
    ·simp at h; subst h; exact⟨r0,r1⟩
   ·rw[Wap]; exact Zl7 e3'
 ·subst e5
  have hd:d.length=many:=by
   have:=congrArg Wbl e0
   simpa [Zbk] using this
  fail "g"
  exact q ds _ H1 (by omega) e2 e3 (Xe _) ((Fm.app (S:=[]) _).new x1 (by intro m hm _; simp at hm; omega))
theorem Zez {p:Nat} {ds:List Int} {i:Int} (g:H[p]? = some (.lst (ds.map .int))) (hd:Zxp ds) (h0:0<=i) (h1:i<ds.length) (q:∀ r,0<=r->r<2147483648->Q (.int r) H):wE (ixD (.ref p) (.int i) H) Q:=by
 have lt:i.toNat<ds.length:=by omega
 have hm:=hd _ (Wab lt)
 exact w_ixR g (Zg1 h0 (d:=.int ds[i.toNat]) (by rw[Xn,Xk lt]; rfl)) (q _ hm.1 hm.2)
theorem Zxq {r:Int} (h0:0<=r) (h1:r<2):∃ k,Zcr k/\atI [D.str "all",.str "some"] r=some k:=by
 rcases(show r=0\/r=1 by omega) with rfl | rfl
 ·exact⟨_,.inl rfl,rfl⟩
 ·exact⟨_,.inr rfl,rfl⟩
theorem Yb3 {r:Int} (h0:0<=r) (h1:r<2):∃ k,Zcr k/\atI [D.str "some",.str "all"] r=some k:=by
 rcases(show r=0\/r=1 by omega) with rfl | rfl
 ·exact⟨_,.inr rfl,rfl⟩
 ·exact⟨_,.inl rfl,rfl⟩
theorem mod2 (r:Int):0<=r % 2/\r % 2<2:=by omega
theorem Yal {p:Nat} {ds:List Int} {many:Nat} (g:H[p]? = some (.lst (ds.map .int))) (hd:Zxp ds) (hl:many+1<=ds.length) (h100:many<=100) (q:∀ ks H',(∀ d∈ks,Zcr d)->ks.length=many->Fm [] H H'->Q (.tup ks) H'):wE (Zga [.ref p,.int many] H) Q:=by
 refine Zbb rfl ?_
 show wS (Zdl [some (.ref p),some (.int many),none,none,none] H) _
 unfold Zdl
 fail "g"
 have hp:p<H.length:=(Xc.mp g).1
 refine⟨_,rfl,⟨by omega,by omega⟩,?_⟩
 rw[show ((many:Int)).toNat=many by omega]
 refine Zct (fun d t σ H'=>d++t=Zbk 0 many/\∃ (ks:List D) (z3 z4:Option D),ks.length=d.length/\(∀ d∈ks,Zcr d)/\H'[H.length]? = some (.lst ks)/\Fm [H.length] (H++[.lst []]) H'/\σ=[some (.ref p),some (.int many),some (.ref H.length),z3,z4]) (fun _ _ _ _ _=>Zg6) (fun d x t σ H1 ⟨e0,ks,z3,z4,e1,e2,e3,x1,e5⟩=>?_) (fun d σ H1 ⟨e0,ks,z3,z4,e1,e2,e3,x1,e5⟩=>?_) _ [] _ _ ⟨rfl,[],_,_,rfl,(by intro d h; cases h),last,Fm.refl,rfl⟩
 ·subst e5
  have hx:x∈Zbk 0 many:=by rw[<- e0]; simp
  simp only[Zbk,Waa,Wci] at hx
  obtain⟨i,hi,rfl⟩:=hx
  have hdl:d.length<=100:=by
   have:=congrArg Wbl e0
   simp[Zbk] at this
   omega
  have gp:H1[p]? = some (.lst (ds.map .int)):=x1.lst (by simp; omega) (appL g)
  have Jn:∀ (L:List D) {H2:HD},Fm [H.length] (H++[.lst []]) H2->H2[p]? = some (.lst (ds.map .int))->H2[H.length]? = some (.lst ks)->Fm [H.length] (H++[.lst []]) (H2++[.lst L])/\(H2++[.lst L])[p]? = some (.lst (ds.map .int))/\(H2++[.lst L])[H.length]? = some (.lst ks):=fun L H2 a b c=>⟨a.trans (Fm.app _),appL b,appL c⟩
  refine w_gnm (w_seq ?_)
  refine Zvj (fun σ H2=>(Fm [H.length] (H++[.lst []]) H2/\H2[p]? = some (.lst (ds.map .int))/\H2[H.length]? = some (.lst ks))/\∃ k,Zcr k/\σ=[some (.ref p),some (.int many),some (.ref H.length),some (.int (0+i)),some k]) ?_ ?_
  ·fail "g"
   refine Zez (appL gp) hd (by omega) (by omega) fun r r0 r1=>?_
   fail "g"
   obtain⟨k,hk,ek⟩:=Zxq (mod2 r).1 (mod2 r).2
   refine w_ixR last ek ?_
   exact⟨rfl,Jn _ x1 gp e3,k,hk,rfl⟩
  rintro _ H2 ⟨⟨x2,g2,e4⟩,k,hk,rfl⟩
  refine w_seq (Zvj (fun σ H2=>(Fm [H.length] (H++[.lst []]) H2/\H2[p]? = some (.lst (ds.map .int))/\H2[H.length]? = some (.lst ks))/\∃ k,Zcr k/\σ=[some (.ref p),some (.int many),some (.ref H.length),some (.int (0+i)),some k]) ?_ ?_)
  ·(refine WP.w_if ?_; fail "g")
   refine Zez g2 hd (by omega) (by omega) fun r r0 r1=>?_
   fail "g"
   refine⟨fun h=>?_,fun h=>?_⟩
   ·fail "g"
    refine Zez (appL g2) hd (by omega) (by omega) fun r' r0' r1'=>?_
    fail "g"
    obtain⟨k2,hk2,ek2⟩:=Yb3 (mod2 (0+(i:Int)+r')).1 (mod2 _).2
    refine w_ixR last ek2 ?_
    fail "g"
    exact⟨rfl,Jn _ x2 g2 e4,k2,hk2,rfl⟩
   ·fail "g"
    exact⟨rfl,⟨x2,g2,e4⟩,k,hk,rfl⟩
  rintro _ H3 ⟨⟨x3,g3,e6⟩,k,hk,rfl⟩
  refine w_seq (Zvj (fun σ H2=>(Fm [H.length] (H++[.lst []]) H2/\H2[p]? = some (.lst (ds.map .int))/\H2[H.length]? = some (.lst ks))/\∃ k,Zcr k/\σ=[some (.ref p),some (.int many),some (.ref H.length),some (.int (0+i)),some k]) ?_ ?_)
  ·(refine WP.w_if ?_; fail "g")
   refine Zez g3 hd (by omega) (by omega) fun r r0 r1=>?_
   fail "g"
   refine⟨fun h=>?_,fun h=>?_⟩
   ·fail "g"
    refine Zez (appL g3) hd (by omega) (by omega) fun r' r0' r1'=>?_
    fail "g"
    obtain⟨k2,hk2,ek2⟩:=Zxq (r:=if decide (0<r' % 3)=true then 1 else 0) (by split<;>omega) (by split<;>omega)
    refine w_ixR last ek2 ?_
    fail "g"
    exact⟨rfl,Jn _ x3 g3 e6,k2,hk2,rfl⟩
   ·fail "g"
    exact⟨rfl,⟨x3,g3,e6⟩,k,hk,rfl⟩
  rintro _ H4 ⟨⟨x4,g4,e7⟩,k,hk,rfl⟩
  fail "g"
  refine⟨isl e7,?_⟩
  fail "g"
  refine Zj3 e7 (by omega) ?_
  fail "g"
  refine⟨by rw[<- e0]; simp,ks++[k],_,_,by simp[e1],?_,Zl7 e7,x4.trans (Fm.set (by simp)),rfl⟩
  intro y hy
  rcases Xx.mp hy with h | h
  ·exact e2 y h
  ·simp at h; subst h; exact hk
 ·subst e5
  have hdl:d.length=many:=by
   have:=congrArg Wbl e0
   simpa [Zbk] using this
  fail "g"
  exact q ks H1 e2 (by omega) ((Fm.app (S:=[]) _).new x1 (by intro m hm _; simp at hm; omega))
theorem Ztr {m:Int}:∀ (ls:List Int) (last l:Int),Up m last ls->(∀ x∈ls,Zar x<Zar l)->last<Zar l->Zar l<=m->Up m last (ls++[l])
 | [],last,l,_,_,h1,h2=>⟨h1,h2,trivial⟩
 | x::r,last,l,u,h,h1,h2=>by
  obtain⟨u1,u2,u3⟩:=u
  exact⟨u1,u2,Ztr r (Zar x) l u3 (fun y hy=>h y (by simp[hy])) (h x (by simp)) h2⟩
theorem Zmv (lo:Int) (m:Nat):Zbk lo (m+1)=.int lo::Zbk (lo+1) m:=by
 unfold Zbk
 rw[Weg,Xo,Wbj]
 have e0:D.int (lo+((0:Nat):Int))=.int lo:=by simp
 rw[e0]
 refine congrArg (Wbo _) (Wdp fun a _=>?_)
 show D.int _=D.int _
 congr 1
 omega
theorem Zy2 {cell:Int} {M:Nat} {wide:Int} (hM:M<=8) (q:∀ ls H',Up M 0 ls->Fm [] H H'->Q (Zay ls) H'):wE (Zi4 [.int cell,.int M,.int wide] H) Q:=by
 refine Zbb rfl ?_
 show wS (Ze8 [some (.int cell),some (.int M),some (.int wide),none,none,none] H) _
 unfold Ze8
 fail "g"
 rw[show (M:Int)+1=((M+1:Nat):Int) by omega]
 refine Zia (by omega) fun ds p H1 l1 d1 g1 n1 x1=>?_
 fail "g"
 refine⟨_,rfl,⟨by omega,by omega⟩,?_⟩
 rw[Wal]
 refine Zct (fun d t σ H'=>∃ ls:List Int,t=Zbk (d.length:Int) (M - d.length)/\H'[p]? = some (.lst (ds.map .int))/\H'[H1.length]? = some (.lst (ls.map .int))/\ls.length<=d.length/\d.length<=M/\Up M 0 ls/\(∀ x∈ls,Zar x<=d.length)/\Fm [] H H'/\∃ z,σ=[some (.int cell),some (.int M),some (.int wide),some (.ref p),some (.ref H1.length),z]) (fun _ _ _ _ _=>Zg6) (fun d x t σ H2 ⟨ls,i1,i2,i3,i4,i5,i6,i7,i8,z,i9⟩=>?_) (fun d σ H2 ⟨ls,i1,i2,i3,i4,i5,i6,i7,i8,z,i9⟩=>?_) _ [] _ _ ⟨[],by simp,appL g1,last,by simp,by simp,trivial,by simp,x1.trans (Fm.app _),none,rfl⟩
 ·subst i9
  obtain⟨k,hk⟩:∃ k,M - d.length=k+1:=by
   cases h:M - d.length with
   | zero=>rw[h] at i1; simp[Zbk] at i1
   | succ k=>exact⟨k,rfl⟩
  rw[hk,Zmv] at i1
  obtain⟨rfl,rfl⟩:=Wbo.inj i1
  have tl:Zbk ((d.length:Int)+1) k=Zbk (((d++[D.int (d.length:Int)]).length:Nat):Int) (M - (d++[D.int (d.length:Int)]).length):=by
   simp only[Xp,Wdb,Wcf]
   congr 1
   omega
  fail "i"
  refine Zez i2 d1 (by omega) (by omega) fun r r0 r1=>?_
  fail "g"
  refine w_mod (by omega) ?_
  fail "g"
  refine Zez i2 d1 (by omega) (by omega) fun r' r0' r1'=>?_
  fail "g"
  refine⟨fun h=>?_,fun h=>?_⟩
  ·fail "g"
   refine⟨isl i3,?_⟩
   fail "g"
   refine Zez (appL i2) d1 (by omega) (by omega) fun r2 r20 r21=>?_
   fail "g"
   refine w_fdiv (by omega) (by omega) ?_
   fail "g"
   have m2:r2 / ((M:Int)+1) % 2=0\/r2 / ((M:Int)+1) % 2=1:=by omega
   obtain⟨l,hl,el⟩:∃ l:Int,Zar l=(d.length:Int)+1/\atI [D.int ((d.length:Int)+1),.int (0 - (d.length:Int) - 1)] (r2 / ((M:Int)+1) % 2)=some (.int l):=by
    rcases m2 with z | z<;>rw[z]
    ·exact⟨_,by unfold Zar; split<;>omega,rfl⟩
    ·exact⟨_,by unfold Zar; split<;>omega,rfl⟩
   refine w_ixR last el ?_
   fail "g"
   refine Zj3 (appL i3) (by simp; omega) ?_
   fail "g"
   have np:H1.length≠p:=by have:=(Xc.mp g1).1; omega
   refine⟨ls++[l],tl,Zxt np (appL i2),by rw[Zl7 (appL i3)]; simp,by simp; omega,by simp; omega,Ztr ls 0 l i6 (fun x hx=>by have:=i7 x hx; omega) (by omega) (by omega),fun x hx=>?_,?_,_,rfl⟩
   ·rcases Xx.mp hx with z | z
    ·have:=i7 x z; simp; omega
    ·simp at z; subst z; simp; omega
   ·exact(i8.trans (Fm.app _)).new (Fm.set (S:=[H1.length]) (by simp)) (fun q hq _=>by simp at hq; subst hq; exact x1.len)
  ·fail "g"
   exact⟨ls,tl,i2,i3,by simp; omega,by simp; omega,i6,fun x hx=>by have:=i7 x hx; simp; omega,i8,_,rfl⟩
 ·subst i9
  fail "g"
  exact q ls H2 i6 i8
section
variable {s:Bool}
nonrec def Zhf (s:Bool) (ks:List D) (x:Int):Bool:=kS (ks.getD ((Zar x).toNat - 1) .non)==s
nonrec def Zbn (s:Bool) (ks:List D):List Int->List Int
 | []=>[]
 | l::r=>if (l::r).all (Zhf s ks)=true then [] else l::Zbn s ks r
theorem Zut (ks:List D):∀ b:List Int,(∀ x∈b,Zhf s ks x=true)->Zbn s ks b=[]
 | [],_=>rfl
 | x::r,h=>by rw[Zbn,if_pos (Xv.mpr h)]
theorem Zit (ks:List D):∀ (a b:List Int),(∀ x∈b,Zhf s ks x=true)->(∀ x,a.getLast? = some x->Zhf s ks x=false)->Zbn s ks (a++b)=a
 | [],b,hb,_=>Zut ks b hb
 | l::a,b,hb,ha=>by
  have hx:=ha _ Wdv
  have hm:a.getLast?.getD l∈l::a:=Wdg (Wdv (a:=l) (l:=a))
  have hn:¬ ((l::(a++b)).all (Zhf s ks)=true):=fun z=>by
   have:=Xv.mp z _ (by rw[<- Wdc]; exact Wat _ hm)
   rw[hx] at this; cases this
  rw[Wdc,Zbn,if_neg hn,Zit ks a b hb fun x h=>ha x (by rw[Wdv,h]; rfl)]
theorem Zgl (ks:List D):∀ a:List Int,(Zbn s ks a).Sublist a
 | []=>.slnil
 | l::r=>by
  rw[Zbn]
  split
  ·exact List.nil_sublist _
  ·exact(Zgl ks r).cons₂ l
structure R (M:Nat) (ls:List Int):Prop where
 nd:(ls.map Zar).Nodup
 rg:∀ x∈ls,1<=Zar x/\Zar x<=M
theorem R.sub {M:Nat} {a b:List Int} (h:R M b) (s:a.Sublist b):R M a:=⟨(s.map Zar).nodup h.nd,fun x hx=>h.rg x (s.subset hx)⟩
theorem R.perm {M:Nat} {a b:List Int} (h:R M b) (s:a.Perm b):R M a:=⟨(s.map Zar).nodup_iff.mpr h.nd,fun x hx=>h.rg x (s.mem_iff.mp hx)⟩
theorem Zxv:∀ (M:Nat) (l:List Int),l.Nodup->(∀ x∈l,1<=x/\x<=(M:Int))->l.length<=M
 | 0,[],_,_=>Xe _
 | 0,x::r,_,h=>by have:=h x (by simp); omega
 | M+1,l,nd,h=>by
  have:=Zxv M (l.erase ((M:Int)+1)) (nd.erase _) fun x hx=>by
   have h1:=h x (List.mem_of_mem_erase hx)
   have h2:x≠(M:Int)+1:=fun z=>by subst z; exact(List.Nodup.not_mem_erase nd) hx
   omega
  have h3:=List.length_erase (a:=(M:Int)+1) (l:=l)
  split at h3<;>omega
theorem R.len {M:Nat} {ls:List Int} (h:R M ls):ls.length<=M:=by
 have:=Zxv M (ls.map Zar) h.nd fun x hx=>by
  obtain⟨y,hy,rfl⟩:=Waa.mp hx
  exact h.rg y hy
 simpa using this
theorem R.inj {M:Nat} {ls:List Int} (h:R M ls) {x y:Int} (hx:x∈ls) (hy:y∈ls) (e:Zar x=Zar y):x=y:=by
 obtain⟨i,hi,rfl⟩:=Wdh.mp hx
 obtain⟨j,hj,rfl⟩:=Wdh.mp hy
 have:=(Wfo (xs:=ls.map Zar) (i:=i) (j:=j) (h₀:=by simpa using hi) (h₁:=by simpa using hj) h.nd).mp (by simpa using e)
 subst this; rfl
theorem Zk0 {M:Nat}:∀ {ls:List Int} {last:Int},0<=last->Up M last ls->R M ls/\∀ x∈ls,last<Zar x
 | [],_,_,_=>⟨⟨.nil,by simp⟩,by simp⟩
 | l::r,last,h0,u=>by
  obtain⟨u1,u2,u3⟩:=u
  obtain⟨h1,h2⟩:=Zk0 (by omega) u3
  refine⟨⟨?_,fun x hx=>?_⟩,fun x hx=>?_⟩
  ·rw[Xo,Wba]
   refine⟨fun z=>?_,h1.nd⟩
   obtain⟨y,hy,e⟩:=Waa.mp z
   have:=h2 y hy
   omega
  ·rcases Xj.mp hx with rfl | hx
   ·omega
   ·exact h1.rg x hx
  ·rcases Xj.mp hx with rfl | hx
   ·exact u1
   ·have:=h2 x hx; omega
theorem Zlm (x:Int):Zar (-x)=Zar x:=by unfold Zar; split<;>split<;>omega
theorem Zti {x y:Int} (h:Zar x=Zar y):x=y\/x = -y:=by unfold Zar at h; split at h<;>split at h<;>omega
nonrec def Zjy (a b:List Int) (n:Int):Option (List Int) :=
 if n∉a \/ -n∉b then none
 else if (b.filter fun x=>decide (x ≠ -n)).any (fun x=>decide (-x∈a.filter fun x=>decide (x≠n)))=true then none
 else some (Zdo ((a.filter fun x=>decide (x≠n))++(b.filter fun x=>decide (x ≠ -n)).filter fun x=>decide (x∉a.filter fun x=>decide (x≠n))))
theorem R.join0 {M:Nat} {a b:List Int} (ha:R M a) (hb:R M b) (h:b.any (fun x=>decide (-x∈a))=false):R M (a++b.filter fun x=>decide (x∉a)):=by
 have hb':=hb.sub (Wbh (p:=fun x=>decide (x∉a)) (l:=b))
 refine⟨?_,fun x hx=>?_⟩
 ·rw[Wap,Way]
  refine⟨ha.nd,hb'.nd,fun x hx y hy e=>?_⟩
  obtain⟨u,hu,rfl⟩:=Waa.mp hx
  obtain⟨v,hv,rfl⟩:=Waa.mp hy
  obtain⟨hv1,hv2⟩:=Wah.mp hv
  rcases Zti e with z | z
  ·rw[z] at hu
   exact(of_decide_eq_true hv2) hu
  ·have:=Wbt.mp h v hv1
   rw[z] at hu
   exact this (decide_eq_true hu)
 ·rcases Xx.mp hx with z | z
  ·exact ha.rg x z
  ·exact hb'.rg x z
theorem Zp7:∀ l:List Int,l.Pairwise (· <= ·)->l.Nodup->l.Pairwise (· < ·)
 | [],_,_=>.nil
 | x::r,p,nd=>by
  rw[Wdt] at p ⊢
  rw[Wba] at nd
  refine⟨fun y hy=>?_,Zp7 r p.2 nd.2⟩
  have:=p.1 y hy
  have:x≠y:=fun z=>nd.1 (z ▸ hy)
  omega
theorem Zl0 {M:Nat} {fs:List Int} (h:R M fs):Up M 0 (Zdo fs):=by
 have h2:=h.perm (Zcf fs)
 refine Ybc _ 0 (Zp7 _ ?_ h2.nd) fun x hx=>?_
 ·have:=Zqd fs
  rw[Wea]
  exact this
 ·obtain⟨y,hy,rfl⟩:=Waa.mp hx
  have:=h2.rg y hy
  omega
theorem Zcw (ks:List D):∀ ls:List Int,∃ tl,ls=Zbn s ks ls++tl/\∀ x∈tl,Zhf s ks x=true
 | []=>⟨[],rfl,by simp⟩
 | l::r=>by
  rw[Zbn]
  split
  ·rename_i h; exact⟨l::r,rfl,Xv.mp h⟩
  ·obtain⟨tl,e,h⟩:=Zcw ks r
   exact⟨tl,by rw[Wdc,<- e],h⟩
theorem Zpf {m:Int}:∀ {a b:List Int} {last:Int},Up m last (a++b)->Up m last a
 | [],_,_,_=>trivial
 | x::a,b,last,h=>⟨h.1,h.2.1,Zpf h.2.2⟩
theorem Ycy {m:Int}:∀ {a:List Int} {last:Int},Up m last a->∀ x∈a,last<Zar x
 | [],_,_,x,hx=>by cases hx
 | y::a,last,h,x,hx=>by
  obtain⟨h1,h2,h3⟩:=h
  rcases Xj.mp hx with rfl | hx
  ·exact h1
  ·have:=Ycy h3 x hx; omega
theorem Zt1 {m:Int}:∀ {a b:List Int} {last:Int},Up m last (a++b)->∀ x∈a,∀ y∈b,Zar x<Zar y
 | [],_,_,_,x,hx,_,_=>by cases hx
 | z::a,b,last,h,x,hx,y,hy=>by
  obtain⟨h1,h2,h3⟩:=h
  rcases Xj.mp hx with rfl | hx
  ·exact Ycy h3 y (Xs _ hy)
  ·exact Zt1 h3 x hx y hy
theorem Zos {bs:List Bool} {l:Int} (h:1<=Zar l/\Zar l<=bs.length):rig bs (-l) = !rig bs l:=by
 unfold rig
 rw[Zlm,Xk (by omega)]
 simp only
 have:decide (0 < -l) = !decide (0<l):=by
  by_cases z:0<l
  ·rw[decide_eq_true z,decide_eq_false (by omega)]; rfl
  ·rw[decide_eq_false z,decide_eq_true (by unfold Zar at h; split at h<;>omega)]; rfl
 rw[this]
 cases bs[(Zar l - 1).toNat]<;>cases decide (0<l)<;>rfl
theorem Zl3 {bs:List Bool} {l:Int} {k:Nat} (h:Zar l<=k) (h1:1<=Zar l):rig (bs.take k) l=rig bs l:=by
 unfold rig
 rw[Wcm (by omega)]
theorem Zvi (ks:List D):∀ r:List Int,Zbn s ks r=[]->∀ x∈r,Zhf s ks x=true
 | [],_,x,hx=>by cases hx
 | l::r,h,x,hx=>by
  rw[Zbn] at h
  split at h
  ·rename_i z; exact Xv.mp z x hx
  ·cases h
theorem Zfv (ks:List D):∀ (r:List Int) (x:Int),(Zbn s ks r).getLast? = some x->Zhf s ks x=false
 | [],x,h=>by cases h
 | l::r,x,h=>by
  rw[Zbn] at h
  split at h
  ·cases h
  ·rename_i z
   cases e:Zbn s ks r with
   | nil =>
    rw[e] at h
    cases h
    have al:=Zvi ks r e
    show Zhf s ks l=false
    cases o:Zhf s ks l with
    | false=>rfl
    | true =>
     exact absurd (Xv.mpr fun y hy=>by
      rcases Xj.mp hy with rfl | hy
      ·exact o
      ·exact al y hy) z
   | cons a b =>
    refine Zfv ks r x ?_
    rw[e] at h ⊢
    rw[List.getLast?_cons_cons] at h
    exact h
theorem Zq6 (ks:List D) (r:List Int):Zbn s ks (Zbn s ks r)=Zbn s ks r:=by
 have:=Zit ks (Zbn s ks r) [] (by simp) (Zfv ks r)
 simpa using this
theorem Zts {m:Int} {r:List Int} {l:Int} (u:Up m 0 r) (h:l∈r):∃ z,r.getLast? = some z/\z∈r/\Zar l<=Zar z:=by
 rcases List.eq_nil_or_concat r with rfl | ⟨a,z,e⟩
 ·cases h
 ·rw[List.concat_eq_append] at e
  subst e
  refine⟨z,by simp,by simp,?_⟩
  rcases Xx.mp h with h | h
  ·exact Int.le_of_lt (Zt1 u l h z (by simp))
  ·rw[Wbb.mp h]; exact Wcl _
end
nonrec def bnS (s:Bool):Str:=if s then "term" else "row"
def Bf (s:Bool) (ks:List D) (rss:List (List Int)) (v:D) (x:List Int):Prop:=match s with
 | false=>∃ (i:Nat) (h:i<rss.length),v=.int i/\x=rss[i]
 | true=>v=Zay x/\Up ks.length 0 x/\∀ row∈rss,∃ l∈row,l∈x
inductive St (s:Bool) (ks:List D) (rss made:List (List Int)):D->List Int->Prop
 | less (i:Nat) (h:i<made.length):St s ks rss made (.tup [.str "less",.int i]) (Zbn s ks made[i])
 | base (v:D) (x:List Int) (h:Bf s ks rss v x):St s ks rss made (.tup [.str (bnS s),v]) x
 | joined (i j:Nat) (n:Int) (x:List Int) (hi:i<made.length) (hj:j<made.length) (hn:1<=n/\n<=ks.length) (ho:Zhf s ks n=false) (e:Zjy made[i] made[j] n=some x):St s ks rss made (.tup [.str "joined",.int i,.int j,.int n]) x
inductive Rt (s:Bool) (ks:List D) (rss:List (List Int)):List (D×List Int)->Prop
 | nil:Rt s ks rss []
 | snoc {L:List (D×List Int)} {d:D} {x:List Int}:Rt s ks rss L->St s ks rss (L.map (·.2)) d x->Rt s ks rss (L++[(d,x)])
section
variable {s:Bool} {ks:List D} {rss:List (List Int)} {L:List (D×List Int)}
theorem Bf.up (hu:∀ ls∈rss,Up ks.length 0 ls) {v:D} {x:List Int} (h:Bf s ks rss v x):Up ks.length 0 x:=by
 cases s with
 | false=>obtain⟨i,hi,_,rfl⟩:=h; exact hu _ (Wab hi)
 | true=>exact h.2.1
theorem St.up {made:List (List Int)} {d:D} {x:List Int} (hu:∀ ls∈rss,Up ks.length 0 ls) (hm:∀ ls∈made,Up ks.length 0 ls) (h:St s ks rss made d x):Up ks.length 0 x:=by
 cases h with
 | less i hi =>
  obtain⟨tl,e,_⟩:=Zcw (s:=s) ks made[i]
  have:=hm _ (Wab hi)
  rw[e] at this
  exact Zpf this
 | base v x h=>exact h.up hu
 | joined i j n x hi hj hn ho e =>
  have ha:=(Zk0 (by omega) (hm _ (Wab hi))).1
  have hb:=(Zk0 (by omega) (hm _ (Wab hj))).1
  unfold Zjy at e
  split at e
  ·cases e
  ·split at e
   ·cases e
   ·rename_i h2
    cases e
    exact Zl0 (R.join0 (ha.sub Wbh) (hb.sub Wbh) (by simpa using h2))
theorem Rt.up (hu:∀ ls∈rss,Up ks.length 0 ls) (h:Rt s ks rss L):∀ e∈L,Up ks.length 0 e.2:=by
 induction h with
 | nil=>simp
 | snoc _ st ih =>
  intro e he
  rcases Xx.mp he with z | z
  ·exact ih e z
  ·rw[Wbb.mp z]
   refine st.up hu fun ls h=>?_
   obtain⟨y,hy,rfl⟩:=Waa.mp h
   exact ih y hy
theorem Rt.at (h:Rt s ks rss L):∀ {k:Nat} {e:D×List Int},L[k]? = some e->St s ks rss ((L.take k).map (·.2)) e.1 e.2:=by
 induction h with
 | nil=>intro k e h; simp at h
 | @snoc L d x _ st ih =>
  intro k e he
  by_cases z:k<L.length
  ·rw[Xg z] at he
   rw[Wdd (by omega)]
   exact ih he
  ·have hk:=(Xc.mp he).1
   simp at hk
   have e1:k=L.length:=by omega
   subst e1
   rw[Wch] at he
   cases he
   rw[Wcy]
   exact st
nonrec def Zcz (s:Bool) (bs:List Bool) (ls:List Int):Bool:=ls.all fun l=>decide (Zar l<=bs.length)&&(rig bs l==s)
nonrec def Zdw (s:Bool) (n:Int) (t:Bool):Int:=if (t==s)=true then n else -n
nonrec def pk1 (s:Bool) (made:List (List Int)) (bs:List Bool) (d:D) (row:List Int):Option Bool:=match d with
 | .tup [.str n,.int i]=>if n = "less" /\ Zcz s bs row=true then
   (if Zdw s ((bs.length:Int)+1) false∈made.getD i.toNat [] then some false else if Zdw s ((bs.length:Int)+1) true∈made.getD i.toNat [] then some true else none)
  else none
 | _=>none
nonrec def Zj5 (s:Bool) (made:List (List Int)) (bs:List Bool):List (D×List Int)->Bool
 | []=>false
 | e::r=>(pk1 s made bs e.1 e.2).getD (Zj5 s made bs r)
theorem Zu5 {made:List (List Int)} {bs:List Bool} {d:D} {row:List Int} (h:Zcz s bs row=false):pk1 s made bs d row=none:=by
 unfold pk1
 split
 ·rw[if_neg (fun z=>by rw[h] at z; cases z.2)]
 ·rfl
theorem Zmd {made:List (List Int)} {bs:List Bool}:∀ (a b:List (D×List Int)),(∀ e∈a,Zcz s bs e.2=false)->Zj5 s made bs (a++b)=Zj5 s made bs b
 | [],_,_=>rfl
 | e::a,b,h=>by
  rw[Wdc,Zj5,Zu5 (h e (by simp))]
  exact Zmd a b fun e he=>h e (by simp[he])
theorem Ztd {bs:List Bool} {ls:List Int} {k:Nat} (hr:∀ x∈ls,1<=Zar x) (h:Zcz s (bs.take k) ls=true):Zcz s bs ls=true:=by
 unfold Zcz at h ⊢
 rw[Xv] at h ⊢
 intro x hx
 have:=h x hx
 rw[Waf,decide_eq_true_iff] at this ⊢
 rw[Wbd] at this
 rw[Zl3 (by omega) (hr x hx)] at this
 exact⟨by omega,this.2⟩
theorem Zwf {p:List Bool} (hm:∃ (m:Nat) (e:D×List Int),L[m]? = some e/\Zcz s p e.2=true):∃ (m:Nat) (e:D×List Int),L[m]? = some e/\Zcz s p e.2=true/\∀ (j:Nat) (e':D×List Int),j<m->L[j]? = some e'->Zcz s p e'.2=false:=by
 obtain⟨m,h1⟩:=hm
 induction m using Nat.strongRecOn with
 | _ m ih =>
  obtain⟨e,h1,h2⟩:=h1
  by_cases z:∃ j,j<m/\∃ e':D×List Int,L[j]? = some e'/\Zcz s p e'.2=true
  ·obtain⟨j,hj,y⟩:=z
   exact ih j hj y
  ·refine⟨m,e,h1,h2,fun j e' hj he=>?_⟩
   cases y:Zcz s p e'.2 with
   | false=>rfl
   | true=>exact absurd ⟨j,hj,e',he,y⟩ z
theorem Zlj {p:List Bool} {r:List Int} (u:Up ks.length 0 r) (lp:p.length=ks.length) (h:Zcz s p r=false):∃ y∈r,rig p y = !s:=by
 cases z:r.all (fun y=>rig p y==s) with
 | false =>
  obtain⟨y,h1,h2⟩:=List.all_eq_false.mp z
  refine⟨y,h1,?_⟩
  cases s<;>cases e:rig p y<;>rw[e] at h2<;>first | rfl | exact absurd rfl h2
 | true =>
  have:Zcz s p r=true:=Xv.mpr fun y hy=>by
   have:=(Zk0 (by omega) u).1.rg y hy
   rw[Waf,decide_eq_true_iff]
   exact⟨by omega,Xv.mp z y hy⟩
  rw[h] at this; cases this
theorem Zp0 {p:List Bool} {r:List Int} (h:Zcz s p r=true):∀ y∈r,Zar y<=p.length/\rig p y=s:=fun y hy=>by
 have:=Xv.mp h y hy
 rw[Waf,decide_eq_true_iff] at this
 exact⟨this.1,by simpa using this.2⟩
theorem Zh9 (s:Bool):s ≠ !s:=by cases s<;>decide
theorem strat {p:List Bool} {e0:D} (hu:∀ ls∈rss,Up ks.length 0 ls) (rt:Rt s ks rss L) (hlast:L.getLast? = some (e0,[])) (lp:p.length=ks.length)
  (hs:∀ k:Nat,k<p.length->Zhf s ks ((k:Int)+1)=true->p[k]? = some (Zj5 s (L.map (·.2)) (p.take k) L)):∃ v x,Bf s ks rss v x/\Zcz s p x=true:=by
 have ups:=rt.up hu
 obtain⟨m,e,hm,lost,first⟩:=Zwf (L:=L) (s:=s) (p:=p) ⟨L.length - 1,(e0,[]),by rw[<- hlast,List.getLast?_eq_getElem?],rfl⟩
 have st:=rt.at hm
 have hml:=(Xc.mp hm).1
 obtain⟨d,x⟩:=e
 have lt:((L.take m).map (·.2)).length=m:=by rw[Xu,Wbd]; omega
 have get:∀ {i:Nat} (hi:i<((L.take m).map (·.2)).length),∃ dd,L[i]? = some (dd,((L.take m).map (·.2))[i])/\i<m:=fun {i} hi=>by
  have hi':i<m:=by omega
  refine⟨(L[i]'(by omega)).1,?_,hi'⟩
  rw[Wde,Wfi,Xk (by omega)]
 have all:=Zp0 lost
 cases st with
 | base v x h=>exact⟨v,x,h,lost⟩
 | less i hi =>
  exfalso
  obtain⟨dd,e1,e2⟩:=get hi
  have er:(L.map (·.2)).getD i []=((L.take m).map (·.2))[i]:=by
   rw[Wbe,Xn,e1]; rfl
  have nl:=first i _ e2 e1
  have u:=ups _ (Xl e1)
  generalize ((L.take m).map (·.2))[i]=r at *
  dsimp only at nl u all lost
  obtain⟨tl,ex,ow⟩:=Zcw (s:=s) ks r
  have rr:=(Zk0 (by omega) u).1
  obtain⟨y,hy,ry⟩:=Zlj u lp nl
  have hyt:y∈tl:=by
   have hy':=hy
   rw[ex] at hy'
   rcases Xx.mp hy' with z | z
   ·exact absurd ((all y z).2.symm.trans ry) (Zh9 s)
   ·exact z
  have ry1:=rr.rg y hy
  obtain⟨k,hk⟩:∃ k:Nat,Zar y=(k:Int)+1:=⟨(Zar y - 1).toNat,by omega⟩
  have hkp:k<p.length:=by omega
  have abk:Zar ((k:Int)+1)=(k:Int)+1:=by unfold Zar; split<;>omega
  have own:Zhf s ks ((k:Int)+1)=true:=by
   have:=ow y hyt
   unfold Zhf at this ⊢
   rw[hk] at this
   rw[abk]
   exact this
  have pk:=hs k hkp own
  have lk:(p.take k).length=k:=by rw[Wbd]; omega
  have lostk:Zcz s (p.take k) (Zbn s ks r)=true:=by
   refine Xv.mpr fun z hz=>?_
   have h1:Zar z<=k:=by
    have u':=u
    rw[ex] at u'
    have:=Zt1 u' z hz y hyt
    omega
   have h2:=rr.rg z (by rw[ex]; exact Wat _ hz)
   rw[Waf,decide_eq_true_iff,lk,Zl3 h1 h2.1,(all z hz).2]
   exact⟨h1,by simp⟩
  have ez:L=L.take m++(.tup [.str "less",.int i],Zbn s ks r)::L.drop (m+1):=by
   have:L[m]=(.tup [.str "less",.int i],Zbn s ks r):=by
    rw[Xk hml] at hm; exact Xw.inj hm
   rw[<- this,<- Wao hml,Wen]
  have pk2:p[k]? = some ((pk1 s (L.map (·.2)) (p.take k) (.tup [.str "less",.int i]) (Zbn s ks r)).getD (Zj5 s (L.map (·.2)) (p.take k) (L.drop (m+1)))):=by
   rw[pk]
   congr 1
   refine(congrArg (Zj5 s (L.map (·.2)) (p.take k)) ez).trans ?_
   rw[Zmd]
   ·rfl
   ·intro ee hee
    obtain⟨j,hj,rfl⟩:=Wdh.mp hee
    rw[Wbd] at hj
    rw[Wfi]
    have hj':L[j]? = some (L[j]'(by omega)):=Xk (by omega)
    cases w:Zcz s (p.take k) (L[j]'(by omega)).2 with
    | false=>rfl
    | true =>
     have:=Ztd (fun x hx=>((Zk0 (by omega) (ups _ (Xl hj'))).1.rg x hx).1) w
     rw[first j _ (by omega) hj'] at this
     cases this
  have pv:pk1 s (L.map (·.2)) (p.take k) (.tup [.str "less",.int i]) (Zbn s ks r)=some (if 0<y then s else !s):=by
   simp only[pk1]
   rw[if_pos ⟨trivial,lostk⟩,Wal,er,lk]
   have ypos:y=(k:Int)+1\/y = -((k:Int)+1):=by unfold Zar at hk; split at hk<;>omega
   have no : -y∉r:=fun z=>by
    have:=rr.inj z hy (Zlm y)
    omega
   rcases ypos with e | e
   ·rw[if_pos (show 0<y by omega),<- e]
    cases s
    ·rw[show Zdw false y false=y from rfl,if_pos hy]
    ·rw[show Zdw true y false = -y from rfl,if_neg no,show Zdw true y true=y from rfl,if_pos hy]
   ·rw[if_neg (show ¬ 0<y by omega)]
    have e':(k:Int)+1 = -y:=by omega
    have e2 : - -y=y:=Int.neg_neg y
    rw[e']
    cases s
    ·rw[show Zdw false (-y) false = -y from rfl,if_neg no,show Zdw false (-y) true = - -y from rfl,e2,if_pos hy]; rfl
    ·rw[show Zdw true (-y) false = - -y from rfl,e2,if_pos hy]; rfl
  rw[pv] at pk2
  unfold rig at ry
  rw[show (Zar y - 1).toNat=k by omega,pk2] at ry
  dsimp only[Wfs] at ry
  by_cases z:0<y
  ·rw[if_pos z,decide_eq_true z] at ry
   cases s<;>cases ry
  ·rw[if_neg z,decide_eq_false z] at ry
   cases s<;>cases ry
 | joined i j n x hi hj hn ho e =>
  exfalso
  obtain⟨da,a1,a2⟩:=get hi
  obtain⟨db,b1,b2⟩:=get hj
  have na:=first i _ a2 a1
  have nb:=first j _ b2 b1
  have ua:=ups _ (Xl a1)
  have ub:=ups _ (Xl b1)
  generalize ((L.take m).map (·.2))[i]=a at *
  generalize ((L.take m).map (·.2))[j]=b at *
  dsimp only at na nb ua ub all
  obtain⟨la,ma,ra⟩:=Zlj ua lp na
  obtain⟨lb,mb,rb⟩:=Zlj ub lp nb
  unfold Zjy at e
  split at e
  ·cases e
  ·split at e
   ·cases e
   ·cases e
    have inx:∀ {z:Int},z∈(a.filter fun x=>decide (x≠n))++(b.filter fun x=>decide (x ≠ -n)).filter (fun x=>decide (x∉a.filter fun x=>decide (x≠n)))->rig p z=s:=fun hz=>(all _ ((Zcf _).mem_iff.mpr hz)).2
    have e1:la=n:=Ut fun z=>Zh9 s ((inx (Wat _ (Wah.mpr ⟨ma,by simpa using z⟩))).symm.trans ra)
    have e2:lb = -n:=Ut fun z=>by
     by_cases w:lb∈a.filter fun x=>decide (x≠n)
     ·exact Zh9 s ((inx (Wat _ w)).symm.trans rb)
     ·exact Zh9 s ((inx (Xs _ (Wah.mpr ⟨Wah.mpr ⟨mb,by simpa using z⟩,decide_eq_true w⟩))).symm.trans rb)
    rw[e1] at ra
    rw[e2,Zos ⟨by unfold Zar; split<;>omega,by unfold Zar; split<;>omega⟩,ra] at rb
    cases s<;>cases rb
def Zvp (s:Bool) (ks:List D) (S:List Bool->Bool) (p:List Bool):Prop:=∀ k:Nat,k<p.length->Zhf s ks ((k:Int)+1)=true->p[k]? = some (S (p.take k))
theorem Zvp.nil {S:List Bool->Bool}:Zvp s ks S []:=fun k h=>absurd h (Wft _)
theorem Zvp.snoc {S:List Bool->Bool} {p:List Bool} {b:Bool} (h:Zvp s ks S p) (hb:Zhf s ks ((p.length:Int)+1)=true->b=S p):Zvp s ks S (p++[b]):=by
 intro k hk ho
 rw[Xp,Wbi] at hk
 by_cases e:k<p.length
 ·rw[Xg e,Wdd (by omega)]
  exact h k e ho
 ·have e:k=p.length:=by omega
  subst e
  rw[Wch,Wcy,hb ho]
theorem Zta {n:Nat}:Zhf s ks ((n:Int)+1)=(kS (ks.getD n .non)==s):=by
 unfold Zhf
 rw[show Zar ((n:Int)+1)=(n:Int)+1 by unfold Zar; split<;>omega]
 congr 3
theorem Zkv {S:List Bool->Bool} (h:∀ p:List Bool,p.length=ks.length->Zvp s ks S p->rss.all (kept p)=s):∀ (j:Nat) (bs:List Bool),bs.length+j=ks.length->Zvp s ks S bs->W ks rss j bs=s
 | 0,bs,hj,hf=>by unfold W; exact h bs (by omega) hf
 | j+1,bs,hj,hf=>by
  unfold W
  have ow:=Zta (s:=s) (ks:=ks) (n:=bs.length)
  generalize kS (ks.getD bs.length .non)=w at ow ⊢
  cases hk:(w==s) with
  | false =>
   rw[hk] at ow
   have n:∀ b:Bool,Zhf s ks ((bs.length:Int)+1)=true->b=S bs:=fun b z=>by rw[ow] at z; cases z
   rw[Zkv h j (bs++[false]) (by simp; omega) (hf.snoc (n _)),Zkv h j (bs++[true]) (by simp; omega) (hf.snoc (n _))]
   cases w<;>cases s<;>first | rfl | cases hk
  | true =>
   have:=Zkv h j (bs++[S bs]) (by simp; omega) (hf.snoc fun _=>rfl)
   have e:w=s:=by simpa using hk
   subst e
   cases e:S bs with
   | false=>rw[e] at this; rw[this]; cases w<;>rfl
   | true=>rw[e] at this; rw[this]; cases w<;>simp
theorem Zrt {p:List Bool} {e0:D} (hu:∀ ls∈rss,Up ks.length 0 ls) (rt:Rt s ks rss L) (hlast:L.getLast? = some (e0,[])) (lp:p.length=ks.length) (hs:Zvp s ks (fun bs=>Zj5 s (L.map (·.2)) bs L) p):rss.all (kept p)=s:=by
 obtain⟨v,x,hb,hl⟩:=strat hu rt hlast lp hs
 have all:=Zp0 hl
 cases s with
 | false =>
  obtain⟨i,hi,_,rfl⟩:=hb
  cases e:rss.all (kept p) with
  | false=>rfl
  | true =>
   obtain⟨l,h1,h2⟩:=War.mp (Xv.mp e _ (Wab hi))
   rw[(all l h1).2] at h2
   cases h2
 | true =>
  refine Xv.mpr fun row hr=>?_
  obtain⟨l,h1,h2⟩:=hb.2.2 row hr
  exact War.mpr ⟨l,h1,(all l h2).2⟩
end
variable {σ:SD} {H:HD} {Q:D->HD->Prop}
theorem Zzy {ns:List Int} (H:HD) (k:Int) (Q:D->HD->Prop) (h0:0<=k) (h1:k<=1000) (q:∀ c,Q (.int c) H):wE (Zep [.fl (ns.map .int),.int k] H) Q:=by
 refine Zbb rfl ?_
 show wS (Zgk [some (.fl (ns.map .int)),some (.int k)] H) _
 unfold Zgk
 fail "i"
 refine⟨fun h=>?_,fun h=>?_⟩
 ·have lt:k.toNat<ns.length:=by have:=of_decide_eq_true h; simp at this; omega
  fail "g"
  refine w_ixF (Zg1 h0 (d:=.int ns[k.toNat]) (by rw[Xn,Xk lt]; rfl)) ?_
  fail "g"
  exact q _
 ·fail "g"
  exact q _
theorem Yef {p:Nat} {xs:List D} {k:Nat} (g:H[p]? = some (.lst xs)) (q:Q (.ref H.length) (H++[.lst (xs.drop k)])):wE (slD (.ref p) (some (k:Int)) none H) Q :=
 ⟨_,_,by rw[<- Zyl]; simp only[slD,g],q⟩
theorem Zxp.drop {ds:List Int} (h:Zxp ds) (k:Nat):Zxp (ds.drop k):=fun d hd=>h d (List.mem_of_mem_drop hd)
theorem Zd9 (ls:List Int):Fines (ls.map .int) (ls.map .int) 0:=by
 induction ls with
 | nil=>exact .nil
 | cons l r ih=>exact .cons (.int l) ih
theorem Zuy {i n:Nat} {x:String} {F:FF} {f:AF} (h:σ[i]? = some (some (.ty x))) (q:wE (Zak n F f σ H) Q):wE (Zke i n x F f σ H) Q:=by
 unfold Zke; rw[h]; simpa using q
theorem Zyf {xs:List D} {i:Nat} {d:D} (h:xs[i]? = some d):atI xs (i:Int)=some d:=Zb1 h
theorem Zsq {ks:List D} {x:Int} (hk:∀ d∈ks,Zcr d) (h:1<=Zar x/\Zar x<=ks.length):atI ks (Zar x - 1)=some (Zam (kS (ks.getD ((Zar x).toNat - 1) .non))):=by
 have e:Zar x - 1=(((Zar x).toNat - 1:Nat):Int):=by omega
 rw[e]
 exact Zb1 (Zim hk (by omega))
theorem Zh3 {a b:Bool} (q:Q (.bl (!(a==b))) H):wE (neD (Zam a) (Zam b) H) Q:=by
 have e1:(("some" : Str)==("all" : Str))=false:=by decide
 have e2:(("all" : Str)==("some" : Str))=false:=by decide
 cases a<;>cases b
 ·exact w_neS' (by simp) q
 ·exact w_neS' e2 q
 ·exact w_neS' e1 q
 ·exact w_neS' (by simp) q
theorem Zj7 {s:Bool} {ks:List D} {ls:List Int} (hk:∀ d∈ks,Zcr d) (h8:ks.length<=8) (h:R ks.length ls) (q:Q (Zay (Zbn s ks ls)) H):wE (Zfu [.tup ks,Zam s,Zay ls] H) Q:=by
 have hl:=h.len
 refine Zbb rfl ?_
 show wS (Zd1 [some (.tup ks),some (Zam s),some (.tup (ls.map .int)),none] H) _
 unfold Zd1
 fail "g"
 rw[Xu]
 refine Zn7 (fun m σ H'=>m<=ls.length/\H'=H/\(∀ x∈ls.drop m,Zhf s ks x=true)/\σ=[some (.tup ks),some (Zam s),some (.tup (ls.map .int)),some (.int (m:Int))]) (fun m σ H' ⟨i1,i2,i3,i4⟩=>?_) 20 ls.length _ _ (by omega) ⟨Xe _,rfl,by simp,rfl⟩
 subst i2 i4
 have fi:∀ m:Nat,(∀ x∈ls.drop m,Zhf s ks x=true)->(∀ x,(ls.take m).getLast? = some x->Zhf s ks x=false)->Zbn s ks ls=ls.take m:=fun m h1 h2=>by
  have:=Zit (s:=s) ks (ls.take m) (ls.drop m) h1 h2
  rwa [Wen] at this
 have done:Zbn s ks ls=ls.take m->Yd6 (fun σ1 H1=>wS (Zaf (Zbi (eSl (Zac 2) Zj4 (Zio (Zac 3)))) Zao σ1 H1) (fin Q)) (fin Q) .nx [some (.tup ks),some (Zam s),some (.tup (ls.map .int)),some (.int (m:Int))] H':=fun e=>by
  fail "g"
  rw[<- List.map_take,<- e]
  exact q
 fail "g"
 refine⟨fun z=>?_,fun z=>?_⟩
 ·have z:=of_decide_eq_true z
  obtain⟨m',rfl⟩:∃ m',m=m'+1:=⟨m - 1,by omega⟩
  have hm:m'<ls.length:=by omega
  have hr:=h.rg _ (Wab hm)
  fail "g"
  rw[show ((m'+1:Nat):Int) - 1=(m':Int) by omega]
  refine w_ixT (Zyf (d:=.int ls[m']) (by simp[hm])) ?_
  fail "g"
  refine w_ixT (Zsq hk hr) ?_
  fail "g"
  refine Zcq ?_
  fail "g"
  refine⟨fun y=>⟨m',rfl,?_⟩,fun y=>?_⟩
  ·refine w_seq (wS_of (by with_unfolding_all rfl) ?_)
   fail "g"
   refine⟨by omega,rfl,fun x hx=>?_,?_⟩
   ·rw[Wao hm] at hx
    rcases Xj.mp hx with rfl | hx
    ·exact y
    ·exact i3 x hx
   ·show [some (D.tup ks),some (Zam s),some (D.tup (ls.map D.int)),some (D.int (((m'+1:Nat):Int) - 1))]=_
    rw[show ((m'+1:Nat):Int) - 1=(m':Int) by omega]
  ·refine done (fi _ i3 fun x hx=>?_)
   rw[List.take_succ_eq_append_getElem hm,Wdi] at hx
   simp at hx
   rw[<- hx]; exact y
 ·have z:=of_decide_eq_false z
  obtain rfl:m=0:=by omega
  fail "g"
  rw[<- List.map_take,<- fi 0 i3 (by simp)]
  exact q
nonrec def Ydz:Option (List Int)->D
 | none=>.non
 | some ls=>Zay ls
theorem Ztk (ls:List Int) (x:Int):((ls.map PyData.int).any fun z=>Uc z (.int x))=decide (x∈ls):=by
 rw[Wel,War,decide_eq_true_iff]
 constructor
 ·rintro⟨z,hz,e⟩
  obtain⟨y,hy,rfl⟩:=Waa.mp hz
  have:y=x:=by simpa [Uc] using e
  subst this; exact hy
 ·intro h
  exact⟨.int x,Waa.mpr ⟨x,h,rfl⟩,by simp[Uc]⟩
theorem Zz6 {x:Int} {ls:List Int} (q:Q (.bl (decide (x∈ls))) H):wE (inD (.int x) (.tup (ls.map .int)) H) Q:=w_inT (.int x) (Zd9 ls) (by omega) (by omega) (by rw[Ztk]; exact q)
theorem Zuj {x:Int} {ls:List Int} (q:Q (.bl (!decide (x∈ls))) H):wE (niD (.int x) (.tup (ls.map .int)) H) Q:=w_niT (.int x) (Zd9 ls) (by omega) (by omega) (by rw[Ztk]; exact q)
theorem Yag {xs:List D} (q:Q (.ref H.length) (H++[.lst xs])):wE (Zxj [.tup xs] H) Q:=⟨_,_,rfl,q⟩
theorem Zzo {p:Nat} {zs:List Int} (g:H[p]? = some (.lst (zs.map .int))) (hl:zs.length<=60) (nd:(zs.map Zar).Nodup) (q:Q (.ref H.length) (H++[.lst ((Zdo zs).map .int)])):wE (Znh [.ref p] H) Q:=by
 refine⟨_,_,?_,q⟩
 unfold Znh
 simp only[Zmf,g,Zb]
 have e:Zhj (zs.map .int)=some zs:=by
  clear g nd hl q
  induction zs with
  | nil=>rfl
  | cons z r ih=>simp[Zhj,ih]
 rw[e]
 simp only[Zb]
 exact if_pos ⟨by omega,nd⟩
theorem Zxe {p:Nat} {zs:List Int} (g:H[p]? = some (.dci (zs.map fun x=>(x,.bl true)))) (hl:zs.length<=60) (nd:(zs.map Zar).Nodup) (q:Q (.ref H.length) (H++[.lst ((Zdo zs).map .int)])):wE (Zi7 [.ref p] H) Q:=by
 refine⟨_,_,?_,q⟩
 unfold Zi7
 simp only[g]
 have e:(zs.map fun x=>(x,D.bl true)).map (·.1)=zs:=by rw[Wbj]; exact List.map_id' zs
 rw[e]
 exact if_pos ⟨by simp; omega,nd⟩
nonrec def Zod (a b:List Int):Option (List Int):=if b.any (fun x=>decide (-x∈a))=true then none else some (Zdo (a++b.filter fun x=>decide (x∉a)))
theorem Zq4 (a b:List Int) (n:Int) (h:n∈a /\ -n∈b):Zjy a b n=Zod (a.filter fun x=>decide (x≠n)) (b.filter fun x=>decide (x ≠ -n)):=by
 unfold Zjy Zod
 rw[if_neg (by simp[h.1,h.2])]
theorem Znm {a:List Int} {n:Int} (hl:a.length<=1000) (q:∀ H',Fm [] H H'->Q (Zay (a.filter fun x=>decide (x≠n))) H'):wE (Zgt [Zay a,.int n] H) Q:=by
 refine Zbb rfl ?_
 show wS (Ze5 [some (.tup (a.map .int)),some (.int n)] H) _
 unfold Ze5
 fail "g"
 refine Zdi (fun d=>match d with | .int x=>decide (x≠n) | _=>true) (fun H'=>H'=H) (fun _ j=>Zg6) _ (fun y hy H2 j=>?_) _ rfl fun H2 j=>?_
 ·obtain⟨z,hz,rfl⟩:=Waa.mp hy
  subst j
  fail "g"
  refine⟨?_,rfl⟩
  by_cases e:z=n<;>simp[e]
 ·subst j
  have ef:((a.map D.int).filter fun d=>match d with | .int x=>decide (x≠n) | _=>true)=(a.filter fun x=>decide (x≠n)).map .int:=by
   rw[Wdq]
   rfl
  rw[ef]
  refine⟨by have:=Waq (fun x=>decide (x≠n)) a; simp at this ⊢; omega,?_⟩
  fail "g"
  exact q _ (Fm.app _)
theorem Yct {M:Nat} {a b:List Int} (ha:R M a) (hb:R M b) (hM:M<=8) (q:∀ H',Fm [] H H'->Q (Ydz (Zod a b)) H'):wE (Zs7 [Zay a,Zay b] H) Q:=by
 have la:=ha.len
 have lb:=hb.len
 refine Zbb rfl ?_
 show wS (Zni [some (.tup (a.map .int)),some (.tup (b.map .int)),none,none] H) _
 unfold Zni
 fail "g"
 refine Yag ?_
 fail "g"
 refine Zct (fun d t σ H'=>∃ (pre r:List Int) (z3:Option D),b=pre++r/\t=r.map .int/\pre.any (fun x=>decide (-x∈a))=false/\H'[H.length]? = some (.lst ((a++pre.filter fun x=>decide (x∉a)).map .int))/\Fm [] H H'/\σ=[some (.tup (a.map .int)),some (.tup (b.map .int)),some (.ref H.length),z3]) (fun _ _ _ _ _=>Zg6) (fun d x t σ H1 ⟨pre,r,z3,i1,i2,i3,i4,i5,i6⟩=>?_) (fun d σ H1 ⟨pre,r,z3,i1,i2,i3,i4,i5,i6⟩=>?_) _ [] _ _ ⟨[],b,_,rfl,rfl,rfl,by simp,Fm.app _,rfl⟩
 ·subst i6
  cases r with
  | nil=>cases i2
  | cons l r =>
   obtain⟨rfl,rfl⟩:=Wbo.inj i2
   fail "i"
   refine Zz6 ?_
   fail "g"
   refine⟨fun z=>?_,fun z=>?_⟩
   ·fail "g"
    have:Ydz (Zod a b)=.non:=by
     unfold Zod
     rw[if_pos (by rw[i1]; simp at z; simp[z])]; rfl
    rw[<- this]
    exact q _ i5
   ·fail "i"
    refine Zuj ?_
    fail "g"
    have an:(pre++[l]).any (fun x=>decide (-x∈a))=false:=by rw[List.any_append,i3]; simp at z ⊢; exact z
    have lp:pre.length<=8:=by rw[i1] at lb; simp at lb; omega
    refine⟨fun y=>?_,fun y=>?_⟩
    ·fail "g"
     refine⟨isl i4,?_⟩
     fail "g"
     refine Zj3 i4 (by have:=Waq (fun x=>decide (x∉a)) pre; simp at this ⊢; omega) ?_
     fail "g"
     refine⟨pre++[l],r,_,by rw[i1]; simp,rfl,an,?_,i5.new (Fm.set (S:=[H.length]) (by simp)) (fun q hq _=>by simp at hq; subst hq; exact Xe _),rfl⟩
     rw[Zl7 i4]
     have y:l∉a:=by simpa using y
     simp[Wfb,y]
    ·fail "g"
     refine⟨pre++[l],r,_,by rw[i1]; simp,rfl,an,?_,i5,rfl⟩
     rw[i4]
     have y:l∈a:=by simpa using y
     simp[Wfb,y]
 ·subst i6
  cases r with
  | cons l r=>cases i2
  | nil =>
   rw[Wad] at i1
   subst i1
   fail "g"
   have hj:=R.join0 ha hb i3
   refine Zzo i4 (by have:=hj.len; omega) hj.nd ?_
   fail "g"
   have:Ydz (Zod a b)=.tup ((Zdo (a++b.filter fun x=>decide (x∉a))).map .int):=by
    unfold Zod
    rw[if_neg (by rw[i3]; simp)]; rfl
   rw[<- this]
   exact q _ (i5.trans (Fm.app _))
theorem Zpr {M:Nat} {a b:List Int} {n:Int} (ha:R M a) (hb:R M b) (hM:M<=8) (q:∀ H',Fm [] H H'->Q (Ydz (Zjy a b n)) H'):wE (Zh8 [Zay a,Zay b,.int n] H) Q:=by
 have la:=ha.len
 have lb:=hb.len
 refine Zbb rfl ?_
 show wS (Zgm [some (.tup (a.map .int)),some (.tup (b.map .int)),some (.int n)] H) _
 unfold Zgm
 have no:(n∉a \/ -n∉b)->Q .non H:=fun h=>by
  have e:Ydz (Zjy a b n)=.non:=by unfold Zjy; rw[if_pos h]; rfl
  rw[<- e]; exact q _ Fm.refl
 fail "i"
 refine Zuj ?_
 fail "g"
 refine⟨fun z=>?_,fun z=>?_⟩
 ·fail "g"
  exact no (.inl (by simpa using z))
 ·fail "g"
  refine Zuj ?_
  fail "g"
  refine⟨fun y=>?_,fun y=>?_⟩
  ·fail "g"
   exact no (.inr (by simpa using y))
  ·fail "g"
   have h:n∈a /\ -n∈b:=⟨by simpa using z,by simpa using y⟩
   refine Znm (a:=a) (by omega) fun H1 x1=>?_
   fail "g"
   refine Znm (a:=b) (by omega) fun H2 x2=>?_
   fail "g"
   refine Yct (ha.sub Wbh) (hb.sub Wbh) hM fun H3 x3=>?_
   rw[<- Zq4 a b n h]
   fail "g"
   exact q _ ((x1.trans x2).trans x3)
nonrec def kvT (x:Int):Int×D:=(x,.bl true)
theorem Zr3 (k:Int):∀ zs:List Int,(Zfy (zs.map kvT) k).isSome=decide (k∈zs)
 | []=>rfl
 | z::r=>by
  have ih:=Zr3 k r
  unfold Zfy at ih ⊢
  rw[Xo]
  by_cases e:z=k
  ·subst e
   rw[Wcw (by simp[kvT])]
   simp
  ·rw[Wbp (by simp[kvT,e]),ih]
   have:¬ k=z:=fun w=>e w.symm
   simp[this]
theorem Ydw (k:Int) (zs:List Int):Zkx (zs.map kvT) k (.bl true)=(if k∈zs then zs else zs++[k]).map kvT:=by
 unfold Zkx
 by_cases h:k∈zs
 ·rw[if_pos (by rw[Wfm,War]; exact⟨k,h,by simp[kvT]⟩),if_pos h,Wbj]
  refine Wdp fun x _=>?_
  show (if x=k then (x,D.bl true) else kvT x)=kvT x
  split<;>rfl
 ·have hn:¬ ((zs.map kvT).any (fun p=>decide (p.1=k))=true):=by
   rw[Wfm,War]
   rintro⟨x,hx,e⟩
   have e:x=k:=of_decide_eq_true e
   subst e
   exact h hx
  rw[if_neg hn,if_neg h,Wap]
  rfl
theorem w_iin {n:Nat} {kvs:List (Int×D)} {k:Int} (g:H[n]? = some (.dci kvs)) (q:Q (.bl (Zfy kvs k).isSome) H):wE (iinD (.int k) (.ref n) H) Q:=⟨_,_,by simp[iinD,Ya5,g],q⟩
theorem Ztn {n:Nat} {kvs:List (Int×D)} {k:Int} {v:D} {Z:HD->Prop} (g:H[n]? = some (.dci kvs)) (h:kvs.length<=1000) (q:Z (H.set n (.dci (Zkx kvs k v)))):wH (Zru (.ref n) (.int k) v H) Z:=by
 refine⟨_,?_,q⟩
 have sz:=Ubf
 simp only[Zru,g]
 exact if_pos (by omega)
theorem Ybz (q:Q (.ref H.length) (H++[.dci []])):wE (eDI σ H) Q:=⟨_,_,rfl,q⟩
variable {σ:SD} {H:HD} {Q:D->HD->Prop}
nonrec def fnS (s:Bool):String:=if s then "told_term" else "claims_row"
structure CR (ks:List D) (rss:List (List Int)):Prop where
 hk:∀ d∈ks,Zcr d
 h8:ks.length<=8
 hr:∀ ls∈rss,R ks.length ls
 hl:rss.length<=1000
theorem Zyj {f g:EF} (h:wE (f σ H) Q):wE (Zxx f g σ H) Q:=by
 obtain⟨d,H',e,q⟩:=h
 exact⟨d,H',by unfold Zxx; rw[e],q⟩
theorem Zyt {f g:EF} (e:f σ H=none) (h:wE (g σ H) Q):wE (Zxx f g σ H) Q:=by
 obtain⟨d,H',e2,q⟩:=h
 exact⟨d,H',by unfold Zxx; rw[e]; exact e2,q⟩
theorem Zjc {made:List (List Int)} {i:Nat} (h:i<made.length):atI (made.map Zay) (i:Int)=some (Zay made[i]):=Zb1 (by simp[h])
theorem Zo5 {i:Int} (q:Q (.bl true) H):wE (Zfr [.int i] H) Q:=by
 refine Zbb rfl ?_
 show wS (Zd6 [some (.int i)] H) _
 unfold Zd6
 fail "g"
 exact q
theorem Zk5 {i m:Nat} (h:i<m) (q:Q (.bl true) H):wE (Zbw [.int i,.int m] H) Q:=by
 refine Zbb rfl ?_
 show wS (Zb8 [some (.int i),some (.int m)] H) _
 unfold Zb8
 fail "g"
 refine Zo5 ?_
 fail "g"
 rw[decide_eq_true (by omega)]
 exact q
theorem Zoq {s:Bool} {n:Int} {ks:List D} (hk:∀ d∈ks,Zcr d) (hn:1<=n/\n<=ks.length) (ho:Zhf s ks n=false) (q:Q (.bl true) H):wE (Zco [.tup ks,Zam s,.int n] H) Q:=by
 have ea:Zar n=n:=by unfold Zar; split<;>omega
 refine Zbb rfl ?_
 show wS (Zbh [some (.tup ks),some (Zam s),some (.int n)] H) _
 unfold Zbh
 fail "g"
 refine Zo5 ?_
 fail "g"
 refine⟨fun z=>?_,fun z=>absurd hn.1 (by simpa using z)⟩
 fail "g"
 refine⟨fun y=>?_,fun y=>absurd hn.2 (by simpa using y)⟩
 fail "g"
 rw[<- ea]
 refine w_ixT (Zsq hk (by omega)) ?_
 fail "g"
 refine Zh3 ?_
 rw[show (kS (ks.getD ((Zar n).toNat - 1) .non)==s)=false from ho]
 fail "g"
 exact q
theorem Zv4 {s:Bool} {pm:Nat} {ks:List D} {rss made:List (List Int)} {d:D} {x:List Int} (hk:∀ d∈ks,Zcr d) (h8:ks.length<=8) (hm:∀ ls∈made,R ks.length ls) (g:H[pm]? = some (.lst (made.map Zay))) (h:St s ks rss made d x)
  (q:∀ H',Fm [] H H'->Q (Zay x) H'):wE (Zg3 [Zau ks rss,Zam s,.ty (fnS s),.ref pm,d] H) Q:=by
 refine Zbb rfl ?_
 show wS (Zca [some (Zau ks rss),some (Zam s),some (.ty (fnS s)),some (.ref pm),some d] H) _
 cases h with
 | less i hi =>
  unfold Zca
  fail "i"
  (refine WP.w_if ?_; fail "g")
  fail "g"
  refine Zbb rfl ?_
  show wS (Zb9 [some (.tup ks),some (Zam s),some (.ref pm),some (.tup [.str "less",.int i])] H) _
  unfold Zb9
  fail "i"
  fail "g"
  rw[Xu]
  refine Zk5 hi ?_
  fail "g"
  refine w_ixR g (Zjc hi) ?_
  fail "g"
  refine Zj7 hk h8 (hm _ (Wab hi)) ?_
  fail "g"
  exact q H Fm.refl
 | base v x hb =>
  cases s with
  | false =>
   obtain⟨i,hi,rfl,rfl⟩:=hb
   show wS (Zca [some (Zau ks rss),some (.str "all"),some (.ty "claims_row"),some (.ref pm),some (.tup [.str "row",.int i])] H) _
   unfold Zca
   fail "i"
   (refine WP.w_if ?_; fail "g")
   fail "i"
   fail "g"
   refine Zyj (Zuy rfl ?_)
   fail "g"
   refine Zbb rfl ?_
   show wS (Zc1 [some (Zau ks rss),some (.tup [.str "row",.int i])] H) _
   unfold Zc1
   fail "i"
   fail "g"
   rw[Xu]
   refine Zk5 hi ?_
   fail "g"
   refine w_ixT (Zjc hi) ?_
   fail "g"
   exact q H Fm.refl
  | true =>
   obtain⟨rfl,_,_⟩:=hb
   show wS (Zca [some (Zau ks rss),some (.str "some"),some (.ty "told_term"),some (.ref pm),some (.tup [.str "term",Zay x])] H) _
   unfold Zca
   fail "i"
   (refine WP.w_if ?_; fail "g")
   fail "i"
   fail "g"
   refine Zyt rfl (Zuy rfl ?_)
   fail "g"
   refine Zbb rfl ?_
   show wS (Zdj [some (Zau ks rss),some (.tup [.str "term",Zay x])] H) _
   unfold Zdj
   fail "g"
   exact q H Fm.refl
 | joined i j n x hi hj hn ho e =>
  unfold Zca
  fail "i"
  (refine WP.w_if ?_; fail "g")
  fail "i"
  fail "g"
  refine Zbb rfl ?_
  show wS (Zbu [some (.tup ks),some (Zam s),some (.ref pm),some (.tup [.str "joined",.int i,.int j,.int n])] H) _
  unfold Zbu
  fail "i"
  fail "g"
  rw[Xu]
  refine Zk5 hi ?_
  fail "g"
  rw[Xu]
  refine Zk5 hj ?_
  fail "i"
  refine Zoq hk hn ho ?_
  fail "g"
  refine w_ixR g (Zjc hi) ?_
  fail "g"
  refine w_ixR g (Zjc hj) ?_
  fail "g"
  refine Zpr (hm _ (Wab hi)) (hm _ (Wab hj)) h8 fun H1 x1=>?_
  fail "g"
  rw[e]
  exact q _ x1
theorem Yak {f:AF} {I:List D->Zg4->HD->Prop} (h:wA (f σ H) fun ds H1=>∃ n xs,ds=[.ref n]/\H1[n]? = some (.lst xs)/\I (Zdp 0 xs) [(n,.lst xs)] H1):wI (Zpt f σ H) I:=by
 obtain⟨ds,H1,e,n,xs,rfl,g,q⟩:=h
 exact⟨_,_,_,by unfold Zpt; rw[e]; simp only[Zb]; rw[g],q⟩
nonrec abbrev amB:SF:=(Zaf (Zbl 7 (Zak 5 Zg3 (Zab (Zac 0) (Zab (Zac 1) (Zab (Zac 2) (Zab (Zac 4) (Zab (Zac 6) Zah)))))))
 (Zaf (sIf (tOf (eOp isD (Zac 7) (eC .non))) (Zaf sErr Zao) Zao) (Zaf (Zcx (eLM Zci (Zac 4) (Zab (Zac 7) Zah))) Zao)))
nonrec abbrev amG:GF:=gTp 2 (gCn (gNm 5) (gCn (gNm 6) gNl))
section
variable {s:Bool} {pm ps:Nat} {ks:List D} {rss made:List (List Int)} {d sd:D} {x:List Int} {n:Int} {z5 z6 z7:Option D} {L:List (D×List Int)}
theorem Ybn {K:SD->HD->Prop} {Z:FD->SD->HD->Prop} (c:CR ks rss) (hm:∀ ls∈made,R ks.length ls) (hl:made.length<=1000) (g:H[pm]? = some (.lst (made.map Zay))) (e:St s ks rss made d x)
  (q:∀ H2,Fm [pm] H H2->H2[pm]? = some (.lst ((made++[x]).map Zay))->K [some (Zau ks rss),some (Zam s),some (.ty (fnS s)),some sd,some (.ref pm),some (.int n),some d,some (Zay x)] H2) :
  wG (amG (.tup [.int n,d]) [some (Zau ks rss),some (Zam s),some (.ty (fnS s)),some sd,some (.ref pm),z5,z6,z7] H) fun σ1 H1=>wS (amB σ1 H1) (again K Z):=by
 fail "g"
 refine Zv4 c.hk c.h8 hm g e fun H1 x1=>?_
 show wS _ _
 fail "i"
 refine⟨isl (x1.lst (by simp) g),?_⟩
 fail "g"
 refine Zj3 (x1.lst (by simp) g) (by simp; omega) ?_
 fail "g"
 refine q _ ((x1.sub (by simp)).trans (Fm.set (by simp))) ?_
 rw[Zl7 (x1.lst (by simp) g)]
 simp
theorem Znn (c:Nat) (d:D) (r:List D):Zdp (c:Int) (d::r)=.tup [.int c,d]::Zdp ((c+1:Nat):Int) r:=by
 rw[Zdp]
 simp
theorem Zsl (c:CR ks rss) (hu:∀ ls∈rss,Up ks.length 0 ls) (g:H[ps]? = some (.lst (L.map (·.1)))) (hl:L.length<=1000) (rt:Rt s ks rss L)
  (q:∀ p H',H'[p]? = some (.lst ((L.map (·.2)).map Zay))->H.length<=p->Fm [] H H'->Q (.ref p) H'):wE (Zhe [Zau ks rss,Zam s,.ty (fnS s),.ref ps] H) Q:=by
 have ups:=rt.up hu
 refine Zbb rfl ?_
 show wS (Zea [some (Zau ks rss),some (Zam s),some (.ty (fnS s)),some (.ref ps),none,none,none,none] H) _
 unfold Zea
 fail "g"
 refine Yak ?_
 fail "g"
 refine⟨_,_,rfl,appL g,?_⟩
 have np:H.length≠ps:=by have:=(Xc.mp g).1; omega
 refine Zct (g:=amG) (b:=amB) (fun d t σ H'=>∃ (pre r:List (D×List Int)) (z5 z6 z7:Option D),L=pre++r/\t=Zdp (pre.length:Int) (r.map (·.1))/\H'[H.length]? = some (.lst ((pre.map (·.2)).map Zay))/\Fm [] H H'/\σ=[some (Zau ks rss),some (Zam s),some (.ty (fnS s)),some (.ref ps),some (.ref H.length),z5,z6,z7]) (fun d t σ H' ⟨pre,r,z5,z6,z7,i1,i2,i4,i5,i6⟩=>Zza (i5.lst (by simp) g)) (fun d x tt σ H1 ⟨pre,r,z5,z6,z7,i1,i2,i4,i5,i6⟩=>?_) (fun d σ H1 ⟨pre,r,z5,z6,z7,i1,i2,i4,i5,i6⟩=>?_) _ [] _ _ ⟨[],L,_,_,_,rfl,rfl,last,Fm.app _,rfl⟩
 ·subst i6
  cases r with
  | nil=>cases i2
  | cons e r =>
   rw[Xo,Znn] at i2
   obtain⟨rfl,rfl⟩:=Wbo.inj i2
   have ld:pre.length<L.length:=by rw[i1]; simp
   have st:=rt.at (k:=pre.length) (e:=e) (by rw[i1]; simp)
   have tk:L.take pre.length=pre:=by rw[i1,Wcy]
   rw[tk] at st
   refine Ybn c (fun ls h=>?_) (by simp; omega) i4 st fun H2 x2 g2=>?_
   ·obtain⟨y,hy,rfl⟩:=Waa.mp h
    exact(Zk0 (by omega) (ups y (by rw[i1]; simp[hy]))).1
   ·exact⟨pre++[e],r,_,_,_,by rw[i1]; simp,by simp,by rw[Wap]; exact g2,i5.new x2 (fun q hq _=>by simp at hq; subst hq; exact Xe _),rfl⟩
 ·subst i6
  cases r with
  | cons e r=>rw[Xo,Znn] at i2; cases i2
  | nil =>
   rw[Wad] at i1
   subst i1
   fail "g"
   exact q _ _ i4 (Xe _) i5
end
variable {σ:SD} {H:HD} {Q:D->HD->Prop}
theorem Zwn {a b:Bool} (q:Q (.bl (a==b)) H):wE (eqD (.bl a) (.bl b) H) Q:=w_eqF (.bl a) (.bl b) (by omega) (by omega) (by simpa [Uc] using q)
theorem Zxr {bs:List Bool} {l:Int} (q:Q (.bl (opn bs l)) H):wE (Zgn [.int l,Zav bs] H) Q:=by
 refine Zbb rfl ?_
 show wS (Zfh [some (.int l),some (Zav bs)] H) _
 unfold Zfh
 fail "g"
 exact q
theorem Zop {bs:List Bool} {l:Int} (h0:0<Zar l) (q:Q (.bl (rig bs l)) H):wE (Zdf [.int l,Zav bs] H) Q:=by
 refine Zbb rfl ?_
 show wS (Zec [some (.int l),some (Zav bs)] H) _
 unfold Zec
 fail "g"
 refine Zxr ?_
 fail "g"
 cases ho:opn bs l with
 | true =>
  have e:rig bs l=false:=by
   unfold rig
   have:=of_decide_eq_true ho
   rw[Wbr (by omega)]
  rw[e] at q
  fail "g"
  exact q
 | false =>
  have hh:=of_decide_eq_false ho
  have lt:(Zar l - 1).toNat<bs.length:=by omega
  fail "g"
  unfold Zav
  refine w_ixT (Zg1 (by omega) (d:=.bl (bs[(Zar l - 1).toNat])) (by rw[Xn,Xk lt]; rfl)) ?_
  fail "g"
  refine Zwn ?_
  have e:rig bs l=(bs[(Zar l - 1).toNat]==decide (0<l)):=by
   unfold rig
   rw[Xk lt]
  rw[e] at q
  exact q
theorem Zzw {bs:List Bool} {ls:List Int} (h:∀ l∈ls,1<=Zar l) (q:Q (.bl (Zcz false bs ls)) H):wE (Zik [Zay ls,Zav bs] H) Q:=by
 refine Zbb rfl ?_
 show wS (Ze0 [some (.tup (ls.map .int)),some (Zav bs),none] H) _
 unfold Ze0
 fail "g"
 refine Zct (fun d t σ H'=>∃ (r:List Int) (z:Option D),(∀ l∈r,1<=Zar l)/\t=r.map .int/\Zcz false bs ls=Zcz false bs r/\H'=H/\σ=[some (.tup (ls.map .int)),some (Zav bs),z]) (fun _ _ _ _ _=>Zg6) (fun d x t σ H1 ⟨r,z,i1,i2,i3,i4,i5⟩=>?_) (fun d σ H1 ⟨r,z,i1,i2,i3,i4,i5⟩=>?_) _ [] _ _ ⟨ls,_,h,rfl,rfl,rfl,rfl⟩
 ·subst i4 i5
  cases r with
  | nil=>cases i2
  | cons l r =>
   obtain⟨rfl,rfl⟩:=Wbo.inj (show x::t=.int l::r.map .int from i2)
   have h1:=i1 l (by simp)
   have e:Zcz false bs (l::r)=((decide (Zar l<=bs.length)&&(rig bs l==false))&&Zcz false bs r):=rfl
   fail "i"
   refine Zxr ?_
   fail "g"
   cases ho:opn bs l with
   | true =>
    have:=of_decide_eq_true ho
    fail "g"
    rw[i3,e,decide_eq_false (by omega)] at q
    exact q
   | false =>
    have:=of_decide_eq_false ho
    fail "g"
    refine Zop (by omega) ?_
    fail "g"
    rw[decide_eq_true (by omega),Bool.true_and] at e
    cases hr:rig bs l with
    | true =>
     fail "g"
     rw[i3,e,hr] at q
     exact q
    | false =>
     fail "g"
     rw[hr] at e
     exact⟨r,_,fun y hy=>i1 y (by simp[hy]),rfl,i3.trans e,rfl,rfl⟩
 ·subst i4 i5
  cases r with
  | cons l r=>cases i2
  | nil=>fail "g"; rw[i3] at q; exact q
theorem Ybm {p:Nat} {bs:List Bool} (g:H[p]? = some (.lst (bs.map .bl))) (q:Q (.bl (bs.all id)) H):wE (Zyg [.ref p] H) Q:=by
 exact⟨_,_,Zxs g,by simpa using q⟩
nonrec def Zx7:D->Int
 | .int i=>i
 | _=>0
theorem Zpq {bs:List Bool}:∀ {ls:List Int},(∀ l∈ls,1<=Zar l)->(ls.map (rig bs)).all id=Zcz true bs ls
 | [],_=>rfl
 | l::r,h=>by
  have ih:=Zpq (bs:=bs) (ls:=r) fun x hx=>h x (by simp[hx])
  have e:Zcz true bs (l::r)=((decide (Zar l<=bs.length)&&(rig bs l==true))&&Zcz true bs r):=rfl
  rw[e,Xo,Wcr,ih]
  cases hr:rig bs l with
  | false=>simp
  | true =>
   have h1:=h l (by simp)
   have:Zar l<=bs.length:=by
    unfold rig at hr
    by_cases z:(Zar l - 1).toNat<bs.length
    ·omega
    ·rw[Wbr (by omega)] at hr; cases hr
   rw[decide_eq_true this]
   rfl
theorem Zvy {s:Bool} {bs:List Bool} {ls:List Int} (h:∀ l∈ls,1<=Zar l) (hl:ls.length<=1000) (q:∀ H',Fm [] H H'->Q (.bl (Zcz s bs ls)) H'):wE (Zff [Zam s,Zay ls,Zav bs] H) Q:=by
 cases s with
 | false =>
  refine Zbb rfl ?_
  show wS (Zb4 [some (.str "all"),some (Zay ls),some (Zav bs)] H) _
  unfold Zb4
  fail "i"
  fail "g"
  refine Zzw h ?_
  fail "g"
  exact q _ Fm.refl
 | true =>
  refine Zbb rfl ?_
  show wS (Zb4 [some (.str "some"),some (.tup (ls.map .int)),some (Zav bs)] H) _
  unfold Zb4
  fail "i"
  fail "g"
  refine Zo7 (fun d=>.bl (rig bs (Zx7 d))) (fun H'=>H'=H) (fun _ _=>Zg6) _ (fun y hy H2 j=>?_) _ rfl fun H2 j=>?_
  ·obtain⟨z,hz,rfl⟩:=Waa.mp hy
   subst j
   show wE (Zak 2 Zdf (Zab (Zac 0) (Zab (Zac 1) Zah)) (some (.int z)::[some (Zav bs)]) _) _
   fail "g"
   refine Zop (by have:=h z hz; omega) ?_
   exact⟨rfl,rfl⟩
  subst j
  refine⟨by simp; omega,?_⟩
  rw[show (ls.map D.int).map (fun d=>D.bl (rig bs (Zx7 d)))=(ls.map (rig bs)).map D.bl by rw[Wbj,Wbj]; rfl]
  fail "g"
  refine Ybm last ?_
  rw[Zpq h]
  fail "g"
  exact q _ (Fm.app _)
theorem Zyx {s t:Bool} {n:Int} (q:Q (.int (Zdw s n t)) H):wE (Zdy [Zam s,.int n,.bl t] H) Q:=by
 refine Zbb rfl ?_
 show wS (Zcb [some (Zam s),some (.int n),some (.bl t)] H) _
 unfold Zcb
 fail "g"
 refine Zcq (b:=true) ?_
 fail "g"
 refine Zwn ?_
 fail "g"
 cases s<;>cases t<;>fail "g" <;> exact q
section
variable {s:Bool} {ps:Nat} {ks:List D} {rss:List (List Int)} {L:List (D×List Int)} {bs:List Bool}
theorem Zsr {p:Nat} {xs:List D} (g:H[p]? = some (.lst xs)):Zvq (.ref p) H=some (xs,[(p,.lst xs)]):=by simp[Zvq,g]
theorem Zyn:∀ L:List (D×List Int),Zqe (L.map (·.1)) ((L.map (·.2)).map Zay)=L.map fun e=>.tup [e.1,Zay e.2]
 | []=>rfl
 | e::L=>by
  show .tup [e.1,Zay e.2]::Zqe (L.map (·.1)) ((L.map (·.2)).map Zay)=_
  rw[Zyn L]
  rfl
theorem Zns (c:CR ks rss) (hu:∀ ls∈rss,Up ks.length 0 ls) (g:H[ps]? = some (.lst (L.map (·.1)))) (hl:L.length<=1000) (h8:bs.length<=8) (rt:Rt s ks rss L)
  (q:∀ H',Fm [] H H'->Q (.bl (Zj5 s (L.map (·.2)) bs L)) H'):wE (Zft [Zau ks rss,Zam s,.ty (fnS s),.ref ps,Zav bs] H) Q:=by
 refine Zbb rfl ?_
 show wS (Zd8 [some (Zau ks rss),some (Zam s),some (.ty (fnS s)),some (.ref ps),some (Zav bs),none,none,none,none,none] H) _
 unfold Zd8
 fail "g"
 refine Zsl c hu g hl rt fun p H1 g1 l1 x1=>?_
 have gs:=x1.lst (by simp) g
 fail "g"
 refine⟨_,_,_,_,rfl,Zsr gs,Zsr g1,?_⟩
 rw[Zyn]
 have ups:=rt.up hu
 refine Zct (fun d t σ H'=>∃ (pre r:List (D×List Int)) (z7 z8 z9:Option D),L=pre++r/\t=r.map (fun e=>.tup [e.1,Zay e.2])/\Zj5 s (L.map (·.2)) bs L=Zj5 s (L.map (·.2)) bs r/\Fm [] H1 H'/\σ=[some (Zau ks rss),some (Zam s),some (.ty (fnS s)),some (.ref ps),some (Zav bs),some (.ref p),some (.int ((bs.length:Int)+1)),z7,z8,z9])
  (fun d t σ H' ⟨pre,r,z7,z8,z9,i1,i2,i3,i4,i5⟩=>by rintro pp hp; rcases Xx.mp hp with hp | hp<;>rw[Wbb.mp hp]; exact i4.lst (by simp) gs; exact i4.lst (by simp) g1) (fun d x t σ H2 ⟨pre,r,z7,z8,z9,i1,i2,i3,i4,i5⟩=>?_) (fun d σ H2 ⟨pre,r,z7,z8,z9,i1,i2,i3,i4,i5⟩=>?_) _ [] _ _ ⟨[],L,_,_,_,rfl,rfl,rfl,Fm.refl,rfl⟩
 ·subst i5
  cases r with
  | nil=>cases i2
  | cons e r =>
   obtain⟨rfl,rfl⟩:=Wbo.inj (show x::t=.tup [e.1,Zay e.2]::r.map _ from i2)
   have st:=rt.at (k:=pre.length) (e:=e) (by rw[i1]; simp)
   have ue:=ups e (by rw[i1]; simp)
   have tk:L.take pre.length=pre:=by rw[i1,Wcy]
   rw[tk] at st
   obtain⟨dd,row⟩:=e
   dsimp only at st ue
   have i1':L=(pre++[(dd,row)])++r:=by rw[i1]; simp
   have again:pk1 s (L.map (·.2)) bs dd row=none->Zj5 s (L.map (·.2)) bs L=Zj5 s (L.map (·.2)) bs r:=fun h=>by
    rw[i3,Zj5]
    simp only[h]
    rfl
   cases st with
   | less i hi =>
    rw[Xu] at hi
    have lr:=(Zk0 (by omega) ue).1
    have ll:=lr.len
    have hc:=c.h8
    fail "i"
    refine Zvy (fun l hl=>(lr.rg l hl).1) (Wac lr.len (by omega)) fun H3 x3=>?_
    have g13:=(i4.trans x3).lst (by simp) g1
    fail "g"
    have hi':i<(L.map (·.2)).length:=by rw[i1]; simp; omega
    have er:(L.map (·.2))[i]=(pre.map (·.2))[i]'(by simpa using hi):=by
     rw[Wde,Wde]
     congr 1
     simp only[i1]
     exact List.getElem_append_left hi
    have eg:(L.map (·.2)).getD i []=(L.map (·.2))[i]:=by rw[Wbe,Xk hi']; rfl
    cases lost:Zcz s bs (Zbn s ks ((pre.map (·.2))[i]'(by simpa using hi))) with
    | false =>
     fail "g"
     exact⟨_,r,_,_,_,i1',rfl,again (Zu5 lost),i4.trans x3,rfl⟩
    | true =>
     fail "g"
     refine⟨_,_,rfl,?_⟩
     refine Zfd Zg6 ?_
     fail "i"
     refine Zyx ?_
     fail "g"
     refine w_ixR g13 (Zjc hi') ?_
     fail "g"
     refine Zz6 ?_
     cases y1:decide (Zdw s ((bs.length:Int)+1) false∈(L.map (·.2))[i]) with
     | true =>
      fail "g"
      have:Zj5 s (L.map (·.2)) bs L=false:=by
       rw[i3,Zj5]
       simp only[pk1]
       rw[if_pos ⟨trivial,lost⟩,Wal,eg,if_pos (of_decide_eq_true y1)]
       rfl
      have q:=q H3 ((x1.trans i4).trans x3)
      rw[this] at q
      exact q
     | false =>
      fail "g"
      refine Zfd Zg6 ?_
      fail "i"
      refine Zyx ?_
      fail "g"
      refine w_ixR g13 (Zjc hi') ?_
      fail "g"
      refine Zz6 ?_
      cases y2:decide (Zdw s ((bs.length:Int)+1) true∈(L.map (·.2))[i]) with
      | true =>
       fail "g"
       have:Zj5 s (L.map (·.2)) bs L=true:=by
        rw[i3,Zj5]
        simp only[pk1]
        rw[if_pos ⟨trivial,lost⟩,Wal,eg,if_neg (of_decide_eq_false y1),if_pos (of_decide_eq_true y2)]
        rfl
       have q:=q H3 ((x1.trans i4).trans x3)
       rw[this] at q
       exact q
      | false =>
       fail "g"
       refine Zm1 Zg6 ?_
       fail "g"
       refine⟨_,r,_,_,_,i1',rfl,again ?_,i4.trans x3,rfl⟩
       simp only[pk1]
       rw[if_pos ⟨trivial,lost⟩,Wal,eg,if_neg (of_decide_eq_false y1),if_neg (of_decide_eq_false y2)]
   | base v x h =>
    cases s with
    | false =>
     obtain⟨i,hi,rfl,rfl⟩:=h
     show wG _ _
     unfold bnS
     fail "i"
     exact⟨_,r,_,_,_,i1',rfl,again (by unfold pk1; exact if_neg (fun z=>absurd z.1 (show ¬ ("row" : Str) = "less" by decide))),i4,rfl⟩
    | true =>
     obtain⟨rfl,_,_⟩:=h
     unfold bnS
     fail "i"
     exact⟨_,r,_,_,_,i1',rfl,again rfl,i4,rfl⟩
   | joined i j n x hi hj hn ho e =>
    fail "i"
    exact⟨_,r,_,_,_,i1',rfl,again rfl,i4,rfl⟩
 ·subst i5
  cases r with
  | cons e r=>cases i2
  | nil =>
   have q:=q H2 (x1.trans i4)
   rw[i3] at q
   fail "g"
   exact q
end
variable {σ:SD} {H:HD} {Q:D->HD->Prop}
nonrec def two (bs:List Bool):List (List Bool):=[bs++[false],bs++[true]]
nonrec def lev:Nat->List (List Bool)
 | 0=>[[]]
 | k+1=>(lev k).flatMap two
theorem Ze1:∀ (k:Nat),∀ bs∈lev k,bs.length=k
 | 0,bs,h=>by simp[lev] at h; subst h; rfl
 | k+1,bs,h=>by
  obtain⟨x,hx,h⟩:=Wdf.mp h
  have:=Ze1 k x hx
  simp only[two,Xj,Wcb,or_false] at h
  rcases h with rfl | rfl<;>simp[this]
theorem Zu6 (xs:List (List Bool)):(xs.flatMap two).length=2*xs.length:=by
 induction xs with
 | nil=>rfl
 | cons x r ih=>rw[Wfj,Xp,ih]; simp[two]; omega
theorem Zpg:∀ k:Nat,(lev k).length=2 ^ k
 | 0=>rfl
 | k+1=>by
  show ((lev k).flatMap two).length=_
  rw[Zu6,Zpg k,Weo]; omega
theorem Zja {k:Nat} (h:k<=8):(lev k).length<=256:=by
 rw[Zpg]
 exact Wac (Wdj (by omega) h) (by decide)
theorem Zws {k:Nat} {bs:List Bool} (t:Bool) (h:bs∈lev k):bs++[t]∈lev (k+1):=by
 refine Wdf.mpr ⟨bs,h,?_⟩
 cases t<;>simp[two]
theorem Zjn:∀ k:Nat,(lev k).Nodup
 | 0=>by simp[lev]
 | k+1=>by
  have:∀ xs:List (List Bool),xs.Nodup->(xs.flatMap two).Nodup:=fun xs=>by
   induction xs with
   | nil=>intro _; simp
   | cons x r ih =>
    intro h
    obtain⟨h1,h2⟩:=Wba.mp h
    rw[Wfj]
    refine Way.mpr ⟨by simp[two],ih h2,?_⟩
    intro a ha b hb e
    subst e
    obtain⟨y,hy,hb⟩:=Wdf.mp hb
    simp only[two,Xj,Wcb,or_false] at ha hb
    have:x=y:=by
     rcases ha with ha | ha<;>rcases hb with hb | hb<;>rw[ha] at hb<;>exact(List.append_inj' hb rfl).1
    exact h1 (this ▸ hy)
  exact this _ (Zjn k)
theorem Yci {p q:Nat} {xs ys:List D} (h1:H[p]? = some (.lst xs)) (h2:H[q]? = some (.lst ys)) (hl:xs.length+ys.length<=100000) (k:Q (.ref H.length) (H++[.lst (xs++ys)])):wE (Zcu (.ref p) (.ref q) H) Q:=by
 have z:(xs++ys).length<=sizeLine:=Zgi (by simp; omega)
 exact⟨_,_,by simp only[Zcu,h1,h2]; exact if_pos z,k⟩
theorem Zww {k q:Nat} {a0 a2 z4:Option D} {R:FD->SD->HD->Prop} {H:HD} (hk:k<=8) (g:H[q]? = some (.lst ((lev k).map Zav)))
  (h:∀ m z H',H'[m]? = some (.lst ((lev (k+1)).map Zav))->ExtS [] H H'->R .nx [a0,some (.ref q),a2,some (.ref m),z] H') :
  wS (Zgd [(q,.lst ((lev k).map Zav))] (gNm 4) (Zaf (Zbl 3 (eOp Zcu (Zac 3) (Zfw (Zab (eOp Zcu (Zac 4) (Zef (Zab (eC (.bl false)) Zah))) (Zab (eOp Zcu (Zac 4) (Zef (Zab (eC (.bl true)) Zah))) Zah))))) Zao) ((lev k).map Zav) [a0,some (.ref q),a2,some (.ref H.length),z4] (H++[.lst []])) R:=by
 have l256:=Zja hk
 refine Zct (fun d t σ H'=>∃ (dn td:List (List Bool)) (m:Nat) (z:Option D),d=dn.map Zav/\t=td.map Zav/\lev k=dn++td/\H'[m]? = some (.lst ((dn.flatMap two).map Zav))/\H'[q]? = some (.lst ((lev k).map Zav))/\ExtS [] H H'/\σ=[a0,some (.ref q),a2,some (.ref m),z]) (fun d t σ H' ⟨dn,td,m,z,i1,i2,i3,i4,i5,i6,i7⟩=>Zza i5) (fun d x t σ H' ⟨dn,td,m,z,i1,i2,i3,i4,i5,i6,i7⟩=>?_) (fun d σ H' ⟨dn,td,m,z,i1,i2,i3,i4,i5,i6,i7⟩=>?_) _ [] _ _ ⟨[],lev k,H.length,z4,rfl,rfl,rfl,last,appL g,ExtS.app _,rfl⟩
 ·subst i7 i1
  obtain⟨b,tr,rfl,rfl,rfl⟩:∃ b tr,td=b::tr/\x=Zav b/\t=tr.map Zav:=by
   cases td with
   | nil=>cases i2
   | cons b tr=>obtain⟨e1,e2⟩:=Wbo.inj i2; exact⟨b,tr,rfl,e1,e2⟩
  have lb:b.length=k:=Ze1 k b (by rw[i3]; simp)
  have ln:dn.length<=256:=by have:=congrArg Wbl i3; simp at this; omega
  fail "g"
  refine Yci (appL i4) last (by rw[Xu,Zu6]; simp; omega) ?_
  fail "g"
  refine⟨dn++[b],tr,_,_,by simp,rfl,by rw[i3]; simp,?_,appL (appL i5),(i6.trans (ExtS.app _)).trans (ExtS.app _),rfl⟩
  rw[last]
  simp[two]
 ·subst i7
  cases td with
  | cons b tr=>cases i2
  | nil =>
   rw[Wad] at i3
   subst i3
   exact h m z H' i4 i6
theorem Zn1 {n:Nat} (hn:n<=8) (q:∀ p H',H'[p]? = some (.lst ((lev n).map Zav))->ExtS [] H H'->Q (.ref p) H'):wE (Zek [.int n] H) Q:=by
 refine Zbb rfl ?_
 show wS (Zdk [some (.int n),none,none,none,none] H) _
 unfold Zdk
 fail "g"
 refine⟨_,rfl,⟨by omega,by omega⟩,?_⟩
 rw[Wal]
 refine Zct (fun d t σ H'=>∃ (m:Nat) (z2 z3 z4:Option D),d.length+t.length=n/\H'[m]? = some (.lst ((lev d.length).map Zav))/\ExtS [] H H'/\σ=[some (.int n),some (.ref m),z2,z3,z4]) (fun _ _ _ _ _=>Zg6) (fun d x t σ H' ⟨m,z2,z3,z4,i1,i2,i3,i4⟩=>?_) (fun d σ H' ⟨m,z2,z3,z4,i1,i2,i3,i4⟩=>?_) _ [] _ _ ⟨H.length,none,none,none,by simp[Zbk],last,ExtS.app _,rfl⟩
 ·subst i4
  fail "g"
  refine Zww (k:=d.length) (by simp at i1; omega) i2 fun m' z H2 g2 x2=>?_
  fail "g"
  refine⟨m',_,_,_,by simp at i1 ⊢; omega,by rw[g2]; simp,i3.trans x2,rfl⟩
 ·subst i4
  simp only[Wcf,Wfl] at i1
  subst i1
  fail "g"
  exact q m H' i2 i3
nonrec def enc (bs:List Bool):List Int:=bs.map fun b=>if b then 1 else 0
theorem Zi3 (bs:List Bool):nk (Zav bs)=some (enc bs):=by
 show Zk3 (bs.map D.bl)=_
 induction bs with
 | nil=>rfl
 | cons b r ih =>
  rw[Xo,Zk3,ih]
  cases b<;>rfl
theorem Zof:∀ a b:List Bool,enc a=enc b->a=b
 | [],[],_=>rfl
 | [],_::_,h=>by simp[enc] at h
 | _::_,[],h=>by simp[enc] at h
 | x::a,y::b,h=>by
  have h1:(if x then (1:Int) else 0)=(if y then 1 else 0):=(Wbo.inj h).1
  have h2:enc a=enc b:=(Wbo.inj h).2
  rw[Zof a b h2]
  cases x<;>cases y<;>simp at h1<;>rfl
nonrec def kvD (v:List Bool->D) (bs:List Bool):D×D:=(Zav bs,v bs)
theorem Zqi {v:List Bool->D} {bs:List Bool}:∀ done:List (List Bool),bs∈done->Zbf (done.map (kvD v)) (enc bs)=some (v bs)
 | [],h=>by simp at h
 | x::r,h=>by
  unfold Zbf
  rw[Xo,Wbw]
  by_cases c:x=bs
  ·subst c
   have:(nk (kvD v x).1==some (enc x))=true:=by simp[kvD,Zi3]
   rw[this]; rfl
  ·have:(nk (kvD v x).1==some (enc bs))=false:=by
    simp only[kvD,Zi3]
    exact beq_eq_false_iff_ne.mpr fun z=>c (Zof x bs (Xw.inj z))
   rw[this]
   rcases Xj.mp h with h | h
   ·exact absurd h.symm c
   ·exact Zqi r h
theorem Zmh {v:List Bool->D} {bs:List Bool}:∀ done:List (List Bool),bs∉done->Zbf (done.map (kvD v)) (enc bs)=none
 | [],h=>rfl
 | x::r,h=>by
  unfold Zbf
  rw[Xo,Wbw]
  have c:x≠bs:=fun z=>h (by simp[z])
  have:(nk (kvD v x).1==some (enc bs))=false:=by
   simp only[kvD,Zi3]
   exact beq_eq_false_iff_ne.mpr fun z=>c (Zof x bs (Xw.inj z))
  rw[this]
  exact Zmh r fun z=>h (by simp[z])
theorem putV {v:List Bool->D} {bs:List Bool} {done:List (List Bool)} (hn:bs∉done):Zn6 (done.map (kvD v)) (Zav bs) (enc bs) (v bs)=(done++[bs]).map (kvD v):=by
 unfold Zn6; rw[Zmh done hn]; simp[kvD]
theorem Ybb {v:List Bool->D} {d:D} {done:List (List Bool)} {p:Nat} {bs:List Bool} {Q:HD->Prop} (g:H[p]? = some (.dic (done.map (kvD v)) false)) (ed:d=v bs) (hn:bs∉done) (hl:done.length<=10000) (q:Q (H.set p (.dic ((done++[bs]).map (kvD v)) false))):wH (Znk (.ref p) (Zav bs) d H) Q:=by
 subst ed
 have sz:(done.map (kvD v)).length<sizeLine:=by rw[Uw,Xu]; omega
 refine⟨_,?_,q⟩
 unfold Znk
 simp only[g,Zi3,Zb,if_pos sz,putV hn]
theorem Ztp {v:List Bool->D} {done:List (List Bool)} {p:Nat} {fz:Bool} {bs:List Bool} (g:H[p]? = some (.dic (done.map (kvD v)) fz)) (hm:bs∈done) (q:Q (v bs) H):wE (Zfx (.ref p) (Zav bs) H) Q:=Zyu g (Zi3 bs) (Zqi done hm) q
theorem w_irb {σ:SD} {f:AF} {I:List D->Zg4->HD->Prop} (h:wA (f σ H) fun ds H1=>∃ i j c,ds=[.int i,.int j,.int c]/\Zkp i j c/\I (Zf8 i c (Zg8 i j)) [] H1):wI (iRB f σ H) I:=by
 obtain⟨ds,H1,e,i,j,c,rfl,s1,q⟩:=h
 exact⟨_,_,H1,by unfold iRB; rw[e]; exact if_pos s1,q⟩
nonrec def Zwx:Nat->List D
 | 0=>[]
 | m+1=>.int m::Zwx m
theorem Zs0:∀ n:Nat,Zf8 ((n:Int) - 1) (-1) n=Zwx n
 | 0=>rfl
 | n+1=>by
  have ih:=Zs0 n
  unfold Zf8 at ih ⊢
  rw[Weg,Xo,Wbj,Zwx,<- ih]
  congr 1
  ·congr 1; omega
  ·refine Wdp fun k _=>?_
   show D.int _=D.int _
   congr 1
   show (↑(n+1):Int) - 1+((k+1:Nat):Int) * -1=_
   omega
variable {σ:SD} {H:HD} {Q:D->HD->Prop}
theorem Zy7 {p r:Nat} {ds:List D} {xs:List Uam} {h:Nat} (f:Fines ds xs h) (hh:h<30) (g1:H[p]? = some (.lst ds)) (g2:H[r]? = some (.lst [])) (q:Q (.bl ds.isEmpty) H):wE (eqD (.ref p) (.ref r) H) Q:=by
 refine⟨_,_,Zs1 (f.dat hh g1) ((Fines.nil (h:=0)).dat (by omega) g2),?_⟩
 have e:Uc (.list xs) (.list [])=ds.isEmpty:=by
  have l:=f.len
  cases ds with
  | nil=>cases xs with
   | nil=>rfl
   | cons a b=>simp at l
  | cons d r=>cases xs with
   | nil=>simp at l
   | cons a b=>simp[Uc,Tai]
 rw[e]; exact q
theorem Zum {bs:List Bool} {l:Int} (h:1<=Zar l/\Zar l<=bs.length) (q:Q (.bl (rig bs l)) H):wE (Zen [.int l,Zav bs] H) Q:=by
 refine Zbb rfl ?_
 show wS (Zdm [some (.int l),some (.tup (bs.map .bl))] H) _
 unfold Zdm
 have li:(Zar l - 1).toNat<bs.length:=by omega
 fail "g"
 rw[show Zar l - 1=(((Zar l - 1).toNat:Nat):Int) by omega]
 refine w_ixT (Zyf (d:=.bl bs[(Zar l - 1).toNat]) (by simp[li])) ?_
 fail "g"
 refine Zwn ?_
 have e:rig bs l=(bs[(Zar l - 1).toNat]==decide (0<l)):=by
  unfold rig
  rw[Xk li]
 fail "g"
 rw[e] at q
 exact q
nonrec def keeps (rss:List (List Int)) (bs:List Bool):Bool:=rss.all fun row=>row.any (rig bs)
section
variable {ks:List D} {rss:List (List Int)} {bs:List Bool}
theorem Ycx {row:List Int} {s:List D} {H:HD} {Q:List D->HD->Prop} (hr:R ks.length row) (hb:bs.length=ks.length) (q:Q ((row.filter (rig bs)).map .int) H) :
  wA (Zfa [] [some (Zav bs)] (Zhu (Zak 2 Zen (Zab (Zac 0) (Zab (Zac 1) Zah)))) (Zac 0) (row.map .int) H) Q:=by
 refine Zdi (fun d=>rig bs (Zx7 d)) (fun H'=>H'=H) (fun _ j=>Zg6) _ (fun y hy H3 j=>?_) _ rfl fun H3 j=>?_
 ·obtain⟨z,hz,rfl⟩:=Waa.mp hy
  subst j
  fail "g"
  refine Zum (by rw[hb]; exact hr.rg z hz) ?_
  fail "g"
  exact⟨rfl,rfl⟩
 ·subst j
  have ef:(row.map D.int).filter (fun d=>rig bs (Zx7 d))=(row.filter (rig bs)).map .int:=by
   rw[Wdq]
   rfl
  rw[ef]
  exact q
theorem Zue (h8:ks.length<=8) (hr:∀ ls∈rss,R ks.length ls) (hb:bs.length=ks.length) (q:∀ H',ExtS [] H H'->Q (.bl (!keeps rss bs)) H'):wE (Zeg [.tup (rss.map Zay),Zav bs] H) Q:=by
 refine Zbb rfl ?_
 show wS (Zd4 [some (.tup (rss.map Zay)),some (Zav bs),none] H) _
 unfold Zd4
 fail "g"
 refine Zct (fun d t σ H'=>∃ (pre rs:List (List Int)) (z2:Option D),rss=pre++rs/\t=rs.map Zay/\keeps pre bs=true/\ExtS [] H H'/\σ=[some (.tup (rss.map Zay)),some (Zav bs),z2]) (fun _ _ _ _ _=>Zg6) (fun d x t σ H2 ⟨pre,rs,z2,i1,i2,i3,i4,i5⟩=>?_) (fun d σ H2 ⟨pre,rs,z2,i1,i2,i3,i4,i5⟩=>?_) _ [] _ _ ⟨[],rss,_,rfl,rfl,rfl,ExtS.refl,rfl⟩
 ·subst i5
  cases rs with
  | nil=>cases i2
  | cons row rs =>
   obtain⟨rfl,rfl⟩:=Wbo.inj i2
   have rr:=hr row (by rw[i1]; simp)
   have lr:=rr.len
   fail "i"
   refine⟨row.map .int,[],rfl,?_⟩
   refine Ycx (s:=[]) rr hb ?_
   refine⟨by have:=Waq (rig bs) row; simp at this ⊢; omega,?_⟩
   fail "g"
   refine Zy7 (Zd9 (row.filter (rig bs))) (by omega) (appL last) last ?_
   have ee:((row.filter (rig bs)).map D.int).isEmpty = !row.any (rig bs):=by
    cases v:row.any (rig bs) with
    | true =>
     obtain⟨l,h1,h2⟩:=War.mp v
     cases w:row.filter (rig bs) with
     | nil=>exact absurd (Wah.mpr ⟨h1,h2⟩) (by rw[w]; simp)
     | cons a b=>rfl
    | false =>
     have:row.filter (rig bs)=[]:=List.filter_eq_nil_iff.mpr fun l hl=>Wbt.mp v l hl
     rw[this]; rfl
   rw[ee]
   have X3:=(i4.trans (ExtS.app (S:=[]) [DO.lst ((row.filter (rig bs)).map D.int)])).trans (ExtS.app (S:=[]) [DO.lst []])
   fail "g"
   cases v:row.any (rig bs) with
   | false =>
    have e:keeps rss bs=false:=by
     unfold keeps
     rw[i1,Wfw,Wcr,v]
     simp
    have q:=q _ X3
    rw[e] at q
    fail "g"
    exact q
   | true =>
    fail "g"
    refine⟨pre++[row],rs,_,by rw[i1]; simp,rfl,?_,X3,rfl⟩
    unfold keeps at i3 ⊢
    rw[Wfw,i3,Wcr,v]
    rfl
 ·subst i5
  cases rs with
  | cons row rs=>cases i2
  | nil =>
   rw[Wad] at i1
   subst i1
   have q:=q H2 i4
   rw[i3] at q
   fail "g"
   exact q
end
theorem Zxw:∀ (k:Nat) (bs:List Bool),bs.length=k->bs∈lev k:=by
 intro k
 induction k with
 | zero=>intro bs h; rw[Wcs.mp h]; simp[lev]
 | succ k ih =>
  intro bs h
  have hn:bs≠[]:=fun z=>by rw[z] at h; cases h
  have e:=List.dropLast_concat_getLast hn
  rw[lev,Wdf]
  refine⟨bs.dropLast,ih _ (by simp; omega),?_⟩
  generalize bs.dropLast=cs at e
  generalize bs.getLast hn=t at e
  subst e
  cases t<;>simp[two]
nonrec def Zvr (b:Bool):Str:=if b then "some" else "all"
theorem Zqa (b:Bool):Zam b=.str (Zvr b):=by cases b<;>rfl
theorem Zya (b:Bool):Tcl (Zvr b)=true:=by cases b<;>exact Zq2 (by decide)
theorem Yd4 (a b:Bool):(Zvr a==Zvr b)=(a==b):=by
 have e1:(("some" : Str)==("all" : Str))=false:=by decide
 have e2:(("all" : Str)==("some" : Str))=false:=by decide
 cases a<;>cases b<;>simp[Zvr,e1,e2]
theorem Ydp {H:HD} {q:Nat} {a b w:Bool} (h:H[q]? = some (.lst [Zam a,Zam b])):inD (Zam w) (.ref q) H=some (.bl (a==w||b==w),H):=by
 have e1:dat (Zam w) H=some (.str (Zvr w)):=by
  unfold dat
  rw[Zqa,Zk2]
  simp only[Zb]
  rw[if_pos]
  simp[okP,Tac,Tan,Zya]
 have e2:dat (.ref q) H=some (.list [.str (Zvr a),.str (Zvr b)]):=by
  unfold dat
  rw[toP]
  simp only[h,Zqa,Zt7,Zk2,Zb,Wej]
  rw[if_pos]
  simp[okP,Tac,Tbp,Tan,Tbz,Zya]
 unfold inD
 rw[e1]
 simp only[Zb]
 rw[e2]
 simp only[Zb,Zmi,Wej]
 have:∀ x y:Bool,Uc (.str (Zvr x)) (.str (Zvr y))=(x==y):=fun x y=>by
  rw[<- Yd4]; simp[Uc]
 simp[this]
theorem Zw9 {ks:List D} {rss:List (List Int)} {bs:List Bool} (h:bs.length=ks.length):Zam (keeps rss bs)=FW ks rss bs:=by
 unfold FW
 rw[h,Wfn]
 rfl
theorem Zw0 {ks:List D} {rss:List (List Int)} {bs:List Bool} {w a b:Bool} (h:bs.length<ks.length) (ew:kS (ks.getD bs.length .non)=w) (ea:W ks rss (ks.length - (bs++[false]).length) (bs++[false])=a) (eb:W ks rss (ks.length - (bs++[true]).length) (bs++[true])=b):FW ks rss bs=if (a==w||b==w)=true then Zam w else Zam (!w):=by
 have l:∀ t:Bool,(bs++[t]).length=bs.length+1:=fun t=>by simp
 have e:ks.length - bs.length=(ks.length - (bs.length+1))+1:=by omega
 rw[l] at ea eb
 unfold FW
 rw[e,W]
 simp only[ea,eb,ew]
 cases a<;>cases b<;>cases w<;>rfl
nonrec abbrev wb1:SF:=(Zaf (Zvs (eOp ixD (Zfw (Zab (eC (.str "some")) (Zab (eC (.str "all")) Zah))) (eCB Zvo (Zab (Zak 2 Zeg (Zab (Zac 5) (Zab (Zac 2) Zah))) Zah))) (gSb (Zac 1) (Zac 2) Znk))
 Zao)
nonrec abbrev wb2:SF:=(Zaf (Zbl 6 (Zfw (Zab (eOp Zfx (Zac 1) (eOp Zcu (Zac 2) (Zef (Zab (eC (.bl false)) Zah)))) (Zab (eOp Zfx (Zac 1) (eOp Zcu (Zac 2) (Zef (Zab (eC (.bl true)) Zah)))) Zah))))
 (Zaf (Zbl 7 (eOp ixD (Zfw (Zab (eC (.str "all")) (Zab (eC (.str "some")) Zah))) (eCB Zvo (Zab (eOp eqD (eOp ixD (Zac 4) (Zac 3)) (eC (.str "all"))) Zah))))
 (Zaf (Zvs (eOp ixD (Zfw (Zab (Zac 7) (Zab (eOp ixD (Zac 4) (Zac 3)) Zah))) (eCB Zvo (Zab (eOp inD (eOp ixD (Zac 4) (Zac 3)) (Zac 6)) Zah))) (gSb (Zac 1) (Zac 2) Znk))
 Zao)))
section
variable {ks:List D} {rss:List (List Int)} {bs:List Bool} {dn:List (List Bool)} {f:Nat} {z0 z3 z6 z7:Option D} {R:FD->SD->HD->Prop}
theorem w_wb1 (c:CR ks rss) (hb:bs.length=ks.length) (gf:H[f]? = some (.dic (dn.map (kvD (FW ks rss))) false)) (hn:bs∉dn) (hl:dn.length<=10000)
  (q:∀ H',ExtS [] H H'->R .nx [z0,some (.ref f),some (Zav bs),z3,some (.tup ks),some (.tup (rss.map Zay)),z6,z7] (H'.set f (.dic ((dn++[bs]).map (kvD (FW ks rss))) false))) :
  wS (wb1 [z0,some (.ref f),some (Zav bs),z3,some (.tup ks),some (.tup (rss.map Zay)),z6,z7] H) R:=by
 unfold wb1
 fail "g"
 refine Zue c.h8 c.hr hb fun H2 x2=>?_
 fail "g"
 refine w_ixR (x2.fm.lst (by simp) last) (d:=Zam (keeps rss bs)) (by cases keeps rss bs; exact at1 _ _; exact at0 _ _) ?_
 fail "g"
 refine Ybb (x2.old _ _ (by simp) (appL gf)) (Zw9 hb) hn hl ?_
 fail "g"
 exact q _ ((ExtS.app _).trans x2)
theorem w_wb2 (c:CR ks rss) (hb:bs.length<ks.length) (gf:H[f]? = some (.dic (dn.map (kvD (FW ks rss))) false)) (h1:∀ t:Bool,bs++[t]∈dn) (hn:bs∉dn) (hl:dn.length<=10000)
  (q:∀ H' a b,ExtS [] H H'->R .nx [z0,some (.ref f),some (Zav bs),some (.int bs.length),some (.tup ks),some (.tup (rss.map Zay)),a,b] (H'.set f (.dic ((dn++[bs]).map (kvD (FW ks rss))) false))) :
  wS (wb2 [z0,some (.ref f),some (Zav bs),some (.int bs.length),some (.tup ks),some (.tup (rss.map Zay)),z6,z7] H) R:=by
 have h8:=c.h8
 unfold wb2
 fail "g"
 refine Ztp gf (h1 false) ?_
 fail "g"
 refine Ztp gf (h1 true) ?_
 obtain⟨a,ea,fa⟩:∃ a,W ks rss (ks.length - (bs++[false]).length) (bs++[false])=a/\FW ks rss (bs++[false])=Zam a:=⟨_,rfl,rfl⟩
 obtain⟨b,eb,fb⟩:∃ a,W ks rss (ks.length - (bs++[true]).length) (bs++[true])=a/\FW ks rss (bs++[true])=Zam a:=⟨_,rfl,rfl⟩
 have sk:=Zim c.hk hb
 have st:=Zw0 (rss:=rss) hb rfl ea eb
 generalize kS (ks.getD bs.length .non)=w at sk st
 rw[fa,fb]
 fail "g"
 refine w_ixT (Zb1 sk) ?_
 fail "g"
 refine Zcq (b:=false) ?_
 fail "g"
 refine w_ixR last (d:=Zam (!w)) (by cases w; exact at1 _ _; exact at0 _ _) ?_
 fail "g"
 refine w_ixT (Zb1 sk) ?_
 fail "g"
 refine w_ixT (Zb1 sk) ?_
 fail "g"
 refine⟨_,_,Ydp (appL (appL last)),?_⟩
 fail "g"
 refine w_ixR last (d:=FW ks rss bs) (by rw[st]; cases (a==w||b==w); exact at0 _ _; exact at1 _ _) ?_
 fail "g"
 refine Ybb (appL (appL (appL gf))) rfl hn hl ?_
 fail "g"
 exact q _ _ _ (((ExtS.app _).trans (ExtS.app _)).trans (ExtS.app _))
theorem w_wl1 {qp:Nat} {z2:Option D} (c:CR ks rss) (g:H[qp]? = some (.lst ((lev ks.length).map Zav))) (gf:H[f]? = some (.dic [] false)) {H0:HD} (hf:H0.length<=f) (x0:Fm [] H0 H)
  (q:∀ z H',H'[f]? = some (.dic ((lev ks.length).map (kvD (FW ks rss))) false)->Fm [] H0 H'->R .nx [z0,some (.ref f),z,z3,some (.tup ks),some (.tup (rss.map Zay)),z6,z7] H') :
  wS (Zgd [(qp,.lst ((lev ks.length).map Zav))] (gNm 2) wb1 ((lev ks.length).map Zav) [z0,some (.ref f),z2,z3,some (.tup ks),some (.tup (rss.map Zay)),z6,z7] H) R:=by
 have l256:=Zja c.h8
 have nf:f≠qp:=fun e=>by rw[e,g] at gf; cases gf
 refine Zct (fun d t σ H'=>∃ (dn td:List (List Bool)) (z:Option D),t=td.map Zav/\lev ks.length=dn++td/\H'[qp]? = some (.lst ((lev ks.length).map Zav))/\H'[f]? = some (.dic (dn.map (kvD (FW ks rss))) false)/\Fm [] H0 H'/\σ=[z0,some (.ref f),z,z3,some (.tup ks),some (.tup (rss.map Zay)),z6,z7]) (fun d t σ H' ⟨dn,td,z,i1,i2,i3,i4,i5,i6⟩=>Zza i3) (fun d x t σ H' ⟨dn,td,z,i1,i2,i3,i4,i5,i6⟩=>?_) (fun d σ H' ⟨dn,td,z,i1,i2,i3,i4,i5,i6⟩=>?_) _ [] _ _ ⟨[],lev ks.length,z2,rfl,rfl,g,gf,x0,rfl⟩
 ·subst i6
  cases td with
  | nil=>cases i1
  | cons b tr =>
   obtain⟨rfl,rfl⟩:=Wbo.inj i1
   have nd:=Zjn ks.length
   have lb:=Ze1 ks.length b (by rw[i2]; simp)
   rw[i2] at nd
   have hn:b∉dn:=fun z=>(Way.mp nd).2.2 b z b (by simp) rfl
   have ln:dn.length<=256:=by have:=congrArg Wbl i2; simp at this; omega
   refine w_gnm ?_
   refine w_wb1 (bs:=b) c lb i4 hn (by omega) fun H2 x2=>?_
   refine w_agn ?_
   exact⟨dn++[b],tr,_,rfl,by rw[i2]; simp,Zxt nf (x2.old _ _ (by simp) i3),Zl7 (x2.old _ _ (by simp) i4),(i5.trans x2.fm).new (Fm.set (S:=[f]) (by simp)) (fun m hm _=>by simp at hm; omega),rfl⟩
 ·subst i6
  cases td with
  | cons b tr=>cases i1
  | nil =>
   rw[Wad] at i2
   rw[<- i2] at i4
   exact q z H' i4 i5
theorem w_wl2 {m qp:Nat} {z2:Option D} {base:List (List Bool)} (c:CR ks rss) (hm:m<ks.length) (g:H[qp]? = some (.lst ((lev m).map Zav))) (gf:H[f]? = some (.dic (base.map (kvD (FW ks rss))) false)) {H0:HD} (hf:H0.length<=f) (x0:Fm [] H0 H)
  (h1:∀ b∈lev (m+1),b∈base) (h2:∀ b∈base,m<b.length) (h3:base.length<=5000)
  (q:∀ z a b H',H'[f]? = some (.dic ((base++lev m).map (kvD (FW ks rss))) false)->Fm [] H0 H'->R .nx [z0,some (.ref f),z,some (.int m),some (.tup ks),some (.tup (rss.map Zay)),a,b] H') :
  wS (Zgd [(qp,.lst ((lev m).map Zav))] (gNm 2) wb2 ((lev m).map Zav) [z0,some (.ref f),z2,some (.int m),some (.tup ks),some (.tup (rss.map Zay)),z6,z7] H) R:=by
 have h8:=c.h8
 have l256:=Zja (k:=m) (by omega)
 have nf:f≠qp:=fun e=>by rw[e,g] at gf; cases gf
 refine Zct (fun d t σ H'=>∃ (dn td:List (List Bool)) (z a b:Option D),t=td.map Zav/\lev m=dn++td/\H'[qp]? = some (.lst ((lev m).map Zav))/\H'[f]? = some (.dic ((base++dn).map (kvD (FW ks rss))) false)/\Fm [] H0 H'/\σ=[z0,some (.ref f),z,some (.int m),some (.tup ks),some (.tup (rss.map Zay)),a,b]) (fun d t σ H' ⟨dn,td,z,a,b,i1,i2,i3,i4,i5,i6⟩=>Zza i3) (fun d x t σ H' ⟨dn,td,z,a,b,i1,i2,i3,i4,i5,i6⟩=>?_) (fun d σ H' ⟨dn,td,z,a,b,i1,i2,i3,i4,i5,i6⟩=>?_) _ [] _ _ ⟨[],lev m,z2,z6,z7,rfl,rfl,g,by rw[Wad]; exact gf,x0,rfl⟩
 ·subst i6
  cases td with
  | nil=>cases i1
  | cons y tr =>
   obtain⟨rfl,rfl⟩:=Wbo.inj i1
   have nd:=Zjn m
   have my:y∈lev m:=by rw[i2]; simp
   have ly:=Ze1 m y my
   rw[i2] at nd
   have hn:y∉base++dn:=fun z=>by
    rcases Xx.mp z with z | z
    ·have:=h2 y z; omega
    ·exact(Way.mp nd).2.2 y z y (by simp) rfl
   have ln:dn.length<=256:=by have:=congrArg Wbl i2; simp at this; omega
   refine w_gnm ?_
   subst ly
   refine w_wb2 c (by omega) i4 (fun t=>Xx.mpr (.inl (h1 _ (Zws t my)))) hn (by simp; omega) fun H2 a' b' x2=>?_
   refine w_agn ?_
   exact⟨dn++[y],tr,_,a',b',rfl,by rw[i2]; simp,Zxt nf (x2.old _ _ (by simp) i3),by rw[Zl7 (x2.old _ _ (by simp) i4)]; simp,(i5.trans x2.fm).new (Fm.set (S:=[f]) (by simp)) (fun m hm _=>by simp at hm; omega),rfl⟩
 ·subst i6
  cases td with
  | cons b tr=>cases i1
  | nil =>
   rw[Wad] at i2
   rw[<- i2] at i4
   exact q z a b H' i4 i5
theorem Zvh (c:CR ks rss) (q:∀ (p:Nat) (dn:List (List Bool)) (H':HD),H'[p]? = some (.dic (dn.map (kvD (FW ks rss))) false)->(∀ b:List Bool,b.length<=ks.length->b∈dn)->H.length<=p->Fm [] H H'->Q (.ref p) H'):wE (Zeh [Zau ks rss] H) Q:=by
 have h8:=c.h8
 have l256:=Zja c.h8
 refine Zbb rfl ?_
 show wS (Zcj [some (.tup [.tup ks,.tup (rss.map Zay)]),none,none,none,none,none,none,none] H) _
 unfold Zcj
 fail "g"
 refine Zn1 h8 fun qp H1 g1 x1=>?_
 fail "g"
 have hne:H1[H.length]? = some (.dic [] false):=x1.old _ _ (by simp) last
 have X1:Fm [] H H1:=(Fm.app _).trans x1.fm
 refine w_wl1 (f:=H.length) c g1 hne (Xe _) X1 fun z H2 g2 x2=>?_
 fail "g"
 refine w_irb ?_
 fail "g"
 refine⟨_,_,_,rfl,⟨by omega,by omega,by omega,by omega,rfl⟩,?_⟩
 rw[show Zg8 ((ks.length:Int) - 1) (-1)=ks.length by unfold Zg8; omega,Zs0]
 refine Zct (fun d t σ H'=>∃ (m:Nat) (dn:List (List Bool)) (z a b e:Option D),t=Zwx m/\m<=ks.length/\H'[H.length]? = some (.dic (dn.map (kvD (FW ks rss))) false)/\(∀ b:List Bool,m<=b.length->b.length<=ks.length->b∈dn)/\(∀ b∈dn,m<=b.length)/\dn.length+256*m<=256*9/\Fm [] H H'/\σ=[some (.tup [.tup ks,.tup (rss.map Zay)]),some (.ref H.length),z,e,some (.tup ks),some (.tup (rss.map Zay)),a,b]) (fun _ _ _ _ _=>Zg6) (fun d x t σ H' ⟨m,dn,z,a,b,e,i1,i2,i3,i4,i5,i6,i7,i8⟩=>?_) (fun d σ H' ⟨m,dn,z,a,b,e,i1,i2,i3,i4,i5,i6,i7,i8⟩=>?_) _ [] _ _ ⟨ks.length,lev ks.length,z,none,none,none,rfl,Xe _,g2,fun b h h'=>Zxw _ b (by omega),fun b h=>Nat.le_of_eq (Ze1 _ b h).symm,by omega,x2,rfl⟩
 ·subst i8
  cases m with
  | zero=>cases i1
  | succ m =>
   obtain⟨rfl,rfl⟩:=Wbo.inj i1
   fail "g"
   refine Zn1 (by omega) fun qp H2 g2 x2=>?_
   fail "g"
   refine w_wl2 (H0:=H) c (by omega) g2 (x2.old _ _ (by simp) i3) (Xe _) (i7.trans x2.fm) (fun b h=>i4 b (by have:=Ze1 _ b h; omega) (by have:=Ze1 _ b h; omega)) (fun b h=>i5 b h) (by omega) fun z' a' b' H3 g3 x3=>?_
   fail "g"
   refine⟨m,dn++lev m,_,_,_,_,rfl,by omega,g3,fun b h h'=>?_,fun b h=>?_,?_,x3,rfl⟩
   ·by_cases e:b.length=m
    ·exact Xs _ (Zxw _ b e)
    ·exact Wat _ (i4 b (by omega) h')
   ·rcases Xx.mp h with h | h
    ·have:=i5 b h; omega
    ·have:=Ze1 m b h; omega
   ·have:=Zja (k:=m) (by omega)
    rw[Xp]; omega
 ·subst i8
  cases m with
  | succ m=>cases i1
  | zero =>
   fail "g"
   exact q _ dn H' i3 (fun b h=>i4 b (Wbg _) h) (Xe _) i7
end
structure Lt (s:Bool) (ks:List D) (bs:List Bool) (r:List Int):Prop where
 up:Up ks.length 0 r
 ls:Zbn s ks r=r
 wr:∀ l∈r,Zar l<=bs.length/\rig bs l=s
section
variable {s:Bool} {ks:List D} {rss:List (List Int)} {bs:List Bool} {r x:List Int} {t:Bool}
theorem Lt.of (u:Up ks.length 0 x) (h:∀ l∈Zbn s ks x,Zar l<=bs.length/\rig bs l=s):Lt s ks bs (Zbn s ks x):=by
 refine⟨?_,Zq6 (s:=s) ks x,h⟩
 obtain⟨tl,e,_⟩:=Zcw (s:=s) ks x
 rw[e] at u
 exact Zpf u
theorem Lt.last (h:Lt s ks bs r) {z:Int} (e:r.getLast? = some z):Zhf s ks z=false:=by
 rw[<- h.ls] at e
 exact Zfv (s:=s) ks r z e
theorem Zug {z:Int}:Zhf s ks z=(kS (ks.getD (Zar z - 1).toNat .non)==s):=by
 unfold Zhf
 rw[show (Zar z).toNat - 1=(Zar z - 1).toNat by omega]
theorem Lt.leafA (u:Up ks.length 0 x) (hk:kept bs x=false) (ha:Zh1 ks (rest bs x)=true):Lt false ks bs (Zbn false ks x):=by
 refine Lt.of u fun l hl=>?_
 have sub:=(Zgl (s:=false) ks x).subset
 refine⟨?_,?_⟩
 ·refine Int.not_lt.mp fun g=>?_
  have u2:Up ks.length 0 (Zbn false ks x):=by
   obtain⟨tl,e,_⟩:=Zcw (s:=false) ks x
   rw[e] at u
   exact Zpf u
  obtain⟨z,e,hz,le⟩:=Zts u2 hl
  have o:=Zfv (s:=false) ks x z e
  have hr:z∈rest bs x:=Wah.mpr ⟨sub hz,decide_eq_true (by omega)⟩
  have:=Xv.mp ha z hr
  rw[Zug] at o
  cases w:kS (ks.getD (Zar z - 1).toNat .non) with
  | false=>rw[w] at o; cases o
  | true=>rw[w] at this; cases this
 ·have:=Wbt.mp hk l (sub hl)
  simpa using this
theorem Lt.leafS (u:Up ks.length 0 x) (h:∀ l∈x,Zar l<=bs.length/\rig bs l=s):Lt s ks bs (Zbn s ks x):=Lt.of u fun l hl=>h l ((Zgl (s:=s) ks x).subset hl)
theorem Ztb {l:Int} (h1:1<=Zar l) (h2:Zar l<=bs.length):rig (bs++[t]) l=rig bs l:=by
 have:=Zl3 (bs:=bs++[t]) (k:=bs.length) h2 h1
 rw[Wcy] at this
 exact this.symm
theorem Lt.skip (h:Lt s ks (bs++[t]) r) (hn:∀ l∈r,Zar l≠(bs.length:Int)+1):Lt s ks bs r:=by
 refine⟨h.up,h.ls,fun l hl=>?_⟩
 obtain⟨h1,h2⟩:=h.wr l hl
 have h3:=hn l hl
 have h4:=(Zk0 (by omega) h.up).1.rg l hl
 rw[Xp,Wbi] at h1
 have h5:Zar l<=bs.length:=by omega
 rw[Ztb h4.1 h5] at h2
 exact⟨h5,h2⟩
theorem Lt.at (h:Lt s ks (bs++[t]) r) {l:Int} (hl:l∈r) (e:Zar l=(bs.length:Int)+1):r.getLast? = some l/\l=Zdw s ((bs.length:Int)+1) t:=by
 obtain⟨z,e1,hz,le⟩:=Zts h.up hl
 have h1:=(h.wr z hz).1
 rw[Xp,Wbi] at h1
 have ez:z=l:=(Zk0 (by omega) h.up).1.inj hz hl (by omega)
 refine⟨by rw[e1,ez],?_⟩
 have h2:=(h.wr l hl).2
 unfold rig at h2
 rw[show (Zar l - 1).toNat=bs.length by omega,Wch] at h2
 have ab:l=(bs.length:Int)+1\/l = -((bs.length:Int)+1):=by unfold Zar at e; split at e<;>omega
 unfold Zdw
 rcases ab with y | y
 ·rw[decide_eq_true (by omega)] at h2
  rw[if_pos (by cases t<;>cases s<;>first | rfl | cases h2)]
  exact y
 ·rw[decide_eq_false (by omega)] at h2
  rw[if_neg (by cases t<;>cases s<;>first | (cases h2; done) | decide)]
  exact y
theorem Lt.pick (h:Lt s ks (bs++[t]) r) (ho:kS (ks.getD bs.length .non)=s):Lt s ks bs r:=by
 refine h.skip fun l hl e=>?_
 have:=h.last (h.at hl e).1
 rw[Zug,show (Zar l - 1).toNat=bs.length by omega,ho] at this
 simp at this
theorem Zgj (n:Nat):Zar ((n:Int)+1)=(n:Int)+1:=by unfold Zar; split<;>omega
theorem Lt.some (h:Lt s ks (bs++[t]) r) (hn:(bs.length:Int)+1∈r \/ -((bs.length:Int)+1)∈r):r.getLast? = .some (Zdw s ((bs.length:Int)+1) t):=by
 rcases hn with e | e
 ·obtain⟨h1,h2⟩:=h.at e (Zgj _)
  rw[h1]; exact congrArg _ h2
 ·obtain⟨h1,h2⟩:=h.at e (by rw[Zlm,Zgj])
  rw[h1]; exact congrArg _ h2
theorem Lt.none (h:Lt s ks (bs++[t]) r) (h1:(bs.length:Int)+1∉r) (h2 : -((bs.length:Int)+1)∉r):Lt s ks bs r:=by
 refine h.skip fun l hl e=>?_
 have ab:l=(bs.length:Int)+1\/l = -((bs.length:Int)+1):=by unfold Zar at e; split at e<;>omega
 rcases ab with y | y
 ·exact h1 (y ▸ hl)
 ·exact h2 (y ▸ hl)
theorem Lt.rest (h:Lt s ks (bs++[t]) r) {n:Int} (e:r.getLast? = .some n) (hn:Zar n=(bs.length:Int)+1) {l:Int} (hl:l∈r) (hne:l≠n):1<=Zar l/\Zar l<=bs.length/\rig bs l=s:=by
 obtain⟨h1,h2⟩:=h.wr l hl
 have h4:=(Zk0 (by omega) h.up).1.rg l hl
 rw[Xp,Wbi] at h1
 have h3:Zar l≠(bs.length:Int)+1:=fun z=>by
  have:=(h.at hl z).1
  rw[e] at this
  cases this
  exact hne rfl
 have h5:Zar l<=bs.length:=by omega
 rw[Ztb h4.1 h5] at h2
 exact⟨h4.1,h5,h2⟩
theorem Lt.join {a b:List Int} (ha:Lt s ks (bs++[s]) a) (hb:Lt s ks (bs++[!s]) b) (ea:a.getLast? = .some ((bs.length:Int)+1)) (eb:b.getLast? = .some (-((bs.length:Int)+1))) :
  ∃ x,Zjy a b ((bs.length:Int)+1)=.some x/\Up ks.length 0 x/\∀ l∈x,Zar l<=bs.length/\rig bs l=s:=by
 have ra:=(Zk0 (by omega) ha.up).1
 have rb:=(Zk0 (by omega) hb.up).1
 have ma:∀ {l:Int},l∈a.filter (fun x=>decide (x≠(bs.length:Int)+1))->1<=Zar l/\Zar l<=bs.length/\rig bs l=s:=fun {l} h=>by
  obtain⟨h1,h2⟩:=Wah.mp h
  exact ha.rest ea (Zgj _) h1 (of_decide_eq_true h2)
 have mb:∀ {l:Int},l∈b.filter (fun x=>decide (x ≠ -((bs.length:Int)+1)))->1<=Zar l/\Zar l<=bs.length/\rig bs l=s:=fun {l} h=>by
  obtain⟨h1,h2⟩:=Wah.mp h
  exact hb.rest eb (by rw[Zlm,Zgj]) h1 (of_decide_eq_true h2)
 have no:(b.filter fun x=>decide (x ≠ -((bs.length:Int)+1))).any (fun x=>decide (-x∈a.filter fun x=>decide (x≠(bs.length:Int)+1)))=false:=by
  rw[Wbt]
  intro l hl z
  obtain⟨b1,b2,b3⟩:=mb hl
  obtain⟨_,_,a3⟩:=ma (of_decide_eq_true z)
  rw[Zos ⟨b1,b2⟩,b3] at a3
  cases s<;>cases a3
 unfold Zjy
 rw[if_neg (fun z=>z.elim (fun z=>z (Wdg ea)) fun z=>z (Wdg eb)),if_neg (by rw[no]; simp)]
 refine⟨_,rfl,Zl0 (R.join0 (ra.sub Wbh) (rb.sub Wbh) no),fun l hl=>?_⟩
 rcases Xx.mp ((Zcf _).mem_iff.mp hl) with z | z
 ·exact(ma z).2
 ·exact(mb (Wah.mp z).1).2
end
nonrec def eS (s:Bool) (ks:List D):Nat:=if ks.all (fun d=>kS d != s)=true then 1 else 2
nonrec def nS (s:Bool) (ks:List D) (i:Nat):Nat:=((ks.drop i).filter fun d=>kS d != s).length
theorem Yco {s:Bool} {ks:List D} {i:Nat} (h:i<ks.length) (ho:kS (ks.getD i .non)=s):nS s ks i=nS s ks (i+1):=by
 unfold nS
 rw[Wbe,Xk h] at ho
 rw[Wao h,Wbc]
 rw[show kS ks[i]=s from ho]
 simp
theorem Yaw {s:Bool} {ks:List D} {i:Nat} (h:i<ks.length) (ho:kS (ks.getD i .non) = !s):nS s ks i=nS s ks (i+1)+1:=by
 unfold nS
 rw[Wbe,Xk h] at ho
 rw[Wao h,Wbz]
 ·rfl
 ·rw[show kS ks[i] = !s from ho]
  cases s<;>rfl
theorem Yao {s:Bool} {ks:List D} {x:List Int} (r:R ks.length x) (h:Zbn s ks x≠x):eS s ks=2:=by
 obtain⟨tl,e,ho⟩:=Zcw (s:=s) ks x
 unfold eS
 refine if_neg fun z=>?_
 cases tl with
 | nil=>rw[Wad] at e; exact h e.symm
 | cons l tl =>
  have hl:l∈x:=by rw[e]; simp
  have o:=ho l (by simp)
  obtain⟨r1,r2⟩:=r.rg l hl
  have hi:(Zar l - 1).toNat<ks.length:=by omega
  rw[Zug,Wbe,Xk hi] at o
  have:=Xv.mp z _ (Wab hi)
  simp only[Wfs] at o
  rw[bne,o] at this
  cases this
theorem Zyc (s:Bool) (ks:List D):1<=eS s ks/\eS s ks<=2:=by unfold eS; split<;>omega
nonrec def prD (e:D×List Int):D:=.tup [e.1,Zay e.2]
theorem _root_.WP.Fm.keep {S:List Nat} {H H':HD} (x:Fm S H H') {m:Nat} {o:DO} (hm:m∉S) (h:H[m]? = some o) (hd:∀ kvs,o≠.dic kvs false):H'[m]? = some o:=by
 rcases x.old m _ hm h with h1 | ⟨k2,e,_⟩
 ·exact h1
 ·exact absurd e (hd k2)
theorem _root_.WP.Fm.dci {S:List Nat} {H H':HD} (x:Fm S H H') {m:Nat} {kvs:List (Int×D)} (hm:m∉S) (h:H[m]? = some (.dci kvs)):H'[m]? = some (.dci kvs):=x.keep hm h fun _ e=>by cases e
variable {σ:SD} {H:HD} {Q:D->HD->Prop}
theorem Zjo:∀ a b:List Int,Tai (a.map .int) (b.map .int)=decide (a=b)
 | [],[]=>by simp[Tai]
 | [],_::_=>by simp[Tai]
 | _::_,[]=>by simp[Tai]
 | x::a,y::b=>by
  rw[Xo,Xo,Tai,Zjo a b]
  have:Uc (.int x) (.int y)=decide (x=y):=by simp[Uc]; rfl
  rw[this]
  by_cases h:x=y<;>by_cases k:a=b<;>simp[h,k]
theorem Zz7 {a b:List Int} (q:Q (.bl (!decide (a=b))) H):wE (neD (Zay a) (Zay b) H) Q:=Yad (Fine.tup (Zd9 a)) (Fine.tup (Zd9 b)) (by omega) (by omega) (by rw[Uc,Zjo]; exact q)
theorem Zxy {n:Nat} {kvs:List (Int×D)} {k:Int} {v:D} (g:H[n]? = some (.dci kvs)) (h:Zfy kvs k=some v) (q:Q v H):wE (Zuf (.ref n) (.int k) H) Q:=⟨_,_,by simp[Zuf,Ya5,g,h],q⟩
section
variable {s:Bool} {ks:List D} {rss:List (List Int)} {L:List (D×List Int)} {pp pc:Nat} {bs:List Bool}
theorem Zjg {d:D} {x:List Int} (c:CR ks rss) (g:H[pp]? = some (.lst (L.map prD))) (hl:L.length<=5000) (rt:Rt s ks rss L) (st:St s ks rss (L.map (·.2)) d x) (hx:R ks.length x)
  (q:∀ M e H',H'[pp]? = some (.lst ((L++M).map prD))->Rt s ks rss (L++M)->M.getLast? = some (e,Zbn s ks x)->M.length<=eS s ks->Fm [pp] H H'->Q .non H'):wE (Zfp [.tup ks,Zam s,.ref pp,d,Zay x] H) Q:=by
 have e12:=Zyc s ks
 have rt1:=rt.snoc st
 refine Zbb rfl ?_
 show wS (Zd2 [some (.tup ks),some (Zam s),some (.ref pp),some d,some (Zay x),none] H) _
 unfold Zd2
 fail "g"
 refine⟨isl g,?_⟩
 fail "g"
 refine Zj3 g (by simp; omega) ?_
 fail "g"
 refine Zj7 c.hk c.h8 hx ?_
 have g1:(H.set pp (.lst (L.map prD++[.tup [d,Zay x]])))[pp]? = some (.lst ((L++[(d,x)]).map prD)):=by rw[Zl7 g,Wap]; rfl
 have x1:Fm [pp] H (H.set pp (.lst (L.map prD++[.tup [d,Zay x]]))):=Fm.set (by simp)
 fail "i"
 refine Zz7 ?_
 fail "g"
 refine⟨fun z=>?_,fun z=>?_⟩
 ·have z:Zbn s ks x≠x:=by simpa using z
  have e2:=Yao hx z
  fail "g"
  refine⟨isl g1,?_⟩
  fail "g"
  rw[show ((List.map prD (L++[(d,x)])).length:Int) - 1=(L.length:Int) by simp]
  refine Zj3 g1 (by simp; omega) ?_
  fail "g"
  have s2:St s ks rss ((L++[(d,x)]).map (·.2)) (.tup [.str "less",.int (L.length:Nat)]) (Zbn s ks x):=by
   have:=St.less (s:=s) (ks:=ks) (rss:=rss) (made:=(L++[(d,x)]).map (·.2)) L.length (by simp)
   have e:((L++[(d,x)]).map (·.2))[L.length]'(by simp)=x:=by simp
   rw[e] at this
   exact this
  refine q [(d,x),(.tup [.str "less",.int (L.length:Nat)],Zbn s ks x)] _ _ ?_ ?_ rfl (by rw[e2]; simp) (x1.trans (Fm.set (by simp)))
  ·rw[Zl7 g1]
   simp[prD]
  ·have:=rt1.snoc s2
   rw[Xz] at this
   exact this
 ·have z:Zbn s ks x=x:=by simpa using z
  fail "g"
  exact q [(d,x)] d _ g1 rt1 (by rw[z]; rfl) (by simp; omega) x1
theorem Zu3 {i m:Nat} {n:String} {x:Str} {F:D->FF} {f:AF} {j:Nat} {d:D} (h:σ[i]? = some (some (.ref j))) (g:H[j]? = some (.clo n x d)) (q:wA (f σ H) fun ds H1=>wN m (F d) ds H1 Q):wE (Zij i m n x F f σ H) Q:=by
 obtain⟨ds,H1,e,l,dd,H2,e2,q⟩:=q
 refine⟨dd,H2,?_,q⟩
 unfold Zij
 rw[h]
 simp only[g]
 rw[if_pos (by simp),e]
 simp only[Zb]
 rw[if_pos l]
 exact e2
theorem Zxu {n N:Nat} {b:SF} {d:D} {ds:List D} (hl:ds.length=n) (h:wS (b ((ds++[d]).map some++Xq (N - (n+1)) none) H) (fin Q)):wE (Zyi n N b d ds H) Q:=by
 obtain⟨x,s,H1,e,q⟩:=h
 unfold Zyi
 rw[if_pos hl,e]
 simp only[Zb]
 cases x with
 | nx=>exact⟨_,_,rfl,q⟩
 | rt d=>exact⟨_,_,rfl,q⟩
 | bk=>exact q.elim
 | ct=>exact q.elim
nonrec def comB (row ls:List Int):Bool:=row.any fun l=>decide (l∈ls)
theorem Yd8 {p:Nat} {bs:List Bool} (g:H[p]? = some (.lst (bs.map .bl))) (q:Q (.bl (bs.any id)) H):wE (Yee [.ref p] H) Q:=⟨_,_,by simp only[Yee,g]; rw[Zpz]; rfl,q⟩
theorem Zt0 {row zs:List Int} {n:Nat} (g:H[n]? = some (.dci (zs.map kvT))) (hl:row.length<=1000) (q:∀ H',Fm [] H H'->Q (.bl (comB row zs)) H'):wE (Zb6 [Zay row,.ref n] H) Q:=by
 refine Zbb rfl ?_
 show wS (Zbd [some (.tup (row.map .int)),some (.ref n)] H) _
 unfold Zbd
 fail "g"
 refine Zo7 (fun d=>.bl (decide (Zx7 d∈zs))) (fun H'=>H'=H) (fun _ _=>Zg6) _ (fun y hy H2 j=>?_) _ rfl fun H2 j=>?_
 ·obtain⟨z,hz,rfl⟩:=Waa.mp hy
  subst j
  fail "g"
  refine w_iin g ?_
  rw[Zr3]
  exact⟨rfl,rfl⟩
 ·subst j
  refine⟨by simp; omega,?_⟩
  rw[show (row.map D.int).map (fun d=>D.bl (decide (Zx7 d∈zs)))=(row.map fun l=>decide (l∈zs)).map D.bl by rw[Wbj,Wbj]; rfl]
  fail "g"
  refine Yd8 last ?_
  rw[Wfm]
  fail "g"
  exact q _ (Fm.app _)
theorem R.snocR {M:Nat} {zs:List Int} {l:Int} (h:R M zs) (hr:∀ x∈zs,rig bs x=true) (h1:1<=Zar l/\Zar l<=bs.length) (h2:Zar l<=M) (hl:rig bs l=true) (hn:l∉zs):R M (zs++[l]):=by
 refine⟨?_,fun y hy=>?_⟩
 ·rw[Wap,Way]
  refine⟨h.nd,by simp,fun u hu v hv e=>?_⟩
  obtain⟨y,hy,rfl⟩:=Waa.mp hu
  simp at hv
  subst hv
  rcases Zti e with z | z
  ·exact hn (z ▸ hy)
  ·have:=hr y hy
   rw[z,Zos h1,hl] at this
   cases this
 ·rcases Xx.mp hy with z | z
  ·exact h.rg y z
  ·simp at z; subst z; exact⟨h1.1,h2⟩
theorem Zwp (h8:ks.length<=8) (hr:∀ ls∈rss,R ks.length ls) (hb:bs.length<=ks.length) (hk:∀ ls∈rss,kept bs ls=true)
  (q:∀ ls H',Up ks.length 0 ls->(∀ row∈rss,∃ l∈row,l∈ls)->(∀ l∈ls,Zar l<=bs.length/\rig bs l=true)->Fm [] H H'->Q (Zay ls) H'):wE (Zdx [.tup (rss.map Zay),Zav bs] H) Q:=by
 refine Zbb rfl ?_
 show wS (Zcc [some (.tup (rss.map Zay)),some (Zav bs),none,none,none] H) _
 unfold Zcc
 fail "g"
 refine Ybz ?_
 fail "g"
 refine Zct (fun d t σ H'=>∃ (dn td:List (List Int)) (zs:List Int) (z3 z4:Option D),rss=dn++td/\t=td.map Zay/\R ks.length zs/\(∀ l∈zs,Zar l<=bs.length/\rig bs l=true)/\(∀ row∈dn,∃ l∈row,l∈zs)/\H'[H.length]? = some (.dci (zs.map kvT))/\Fm [] H H'/\σ=[some (.tup (rss.map Zay)),some (Zav bs),some (.ref H.length),z3,z4]) (fun _ _ _ _ _=>Zg6) (fun d x t σ H1 ⟨dn,td,zs,z3,z4,i1,i2,i3,i4,i5,i6,i7,i8⟩=>?_) (fun d σ H1 ⟨dn,td,zs,z3,z4,i1,i2,i3,i4,i5,i6,i7,i8⟩=>?_) _ [] _ _ ⟨[],rss,[],_,_,rfl,rfl,⟨.nil,by simp⟩,by simp,by simp,last,Fm.app _,rfl⟩
 ·subst i8
  cases td with
  | nil=>cases i2
  | cons row td =>
   obtain⟨rfl,rfl⟩:=Wbo.inj i2
   have hm:row∈rss:=by rw[i1]; simp
   have rr:=hr row hm
   have lr:=rr.len
   have lz:=i3.len
   have i1':rss=(dn++[row])++td:=by rw[i1]; simp
   fail "i"
   refine Zt0 i6 (by omega) fun H2 x2=>?_
   have g2:=x2.dci (by simp) i6
   fail "g"
   cases hc:comB row zs with
   | true =>
    fail "g"
    refine⟨dn++[row],td,zs,_,_,i1',rfl,i3,i4,fun r h=>?_,g2,i7.trans x2,rfl⟩
    rcases Xx.mp h with h | h
    ·exact i5 r h
    ·rw[Wbb.mp h]
     obtain⟨l,h1,h2⟩:=War.mp hc
     exact⟨l,h1,of_decide_eq_true h2⟩
   | false =>
    fail "g"
    refine⟨row.map .int,[],rfl,?_⟩
    refine Zdi (fun d=>rig bs (Zx7 d)) (fun H'=>H'=H2) (fun _ j=>Zg6) _ (fun y hy H3 j=>?_) _ rfl fun H3 j=>?_
    ·obtain⟨z,hz,rfl⟩:=Waa.mp hy
     subst j
     fail "g"
     refine Zop (by have:=(rr.rg z hz).1; omega) ?_
     fail "g"
     exact⟨rfl,rfl⟩
    subst j
    have ef:(row.map D.int).filter (fun d=>rig bs (Zx7 d))=(row.filter (rig bs)).map .int:=by
     rw[Wdq]
     rfl
    rw[ef]
    refine⟨by have:=Waq (rig bs) row; simp at this ⊢; omega,?_⟩
    obtain⟨l0,hl0,hr0⟩:=War.mp (hk row hm)
    cases er:row.filter (rig bs) with
    | nil=>exact absurd (Wah.mpr ⟨hl0,hr0⟩) (by rw[er]; simp)
    | cons l ls' =>
     obtain⟨ml,hl⟩:=Wah.mp (show l∈row.filter (rig bs) by rw[er]; simp)
     have al:Zar l<=bs.length:=by
      refine Int.not_lt.mp fun z=>?_
      unfold rig at hl
      rw[Wbr (by omega)] at hl
      cases hl
     have nz:l∉zs:=fun z=>by
      have:=Wbt.mp hc l ml
      exact this (decide_eq_true z)
     have rl:=rr.rg l ml
     fail "g"
     refine w_ixR last (d:=.int l) (Zb1 (j:=0) rfl) ?_
     fail "g"
     refine Ztn (appL g2) (by simp; omega) ?_
     rw[Ydw,if_neg nz]
     fail "g"
     refine⟨dn++[row],td,zs++[l],_,_,i1',rfl,i3.snocR (fun x hx=>(i4 x hx).2) ⟨rl.1,al⟩ rl.2 hl nz,fun y hy=>?_,fun r h=>?_,Zl7 (appL g2),((i7.trans x2).trans (Fm.app _)).new (Fm.set (S:=[H.length]) (by simp)) (fun q hq _=>by simp at hq; subst hq; exact Xe _),rfl⟩
     ·rcases Xx.mp hy with hy | hy
      ·exact i4 y hy
      ·rw[Wbb.mp hy]; exact⟨al,hl⟩
     ·rcases Xx.mp h with h | h
      ·obtain⟨y,y1,y2⟩:=i5 r h
       exact⟨y,y1,Wat _ y2⟩
      ·rw[Wbb.mp h]
       exact⟨l,ml,by simp⟩
 ·subst i8
  cases td with
  | cons row td=>cases i2
  | nil =>
   rw[Wad] at i1
   subst i1
   have lz:=i3.len
   fail "g"
   refine Zxe i6 (by omega) i3.nd ?_
   fail "g"
   have mem:∀ {l:Int},l∈Zdo zs ↔ l∈zs:=(Zcf zs).mem_iff
   exact q _ _ (Zl0 i3) (fun row h=>by
    obtain⟨l,h1,h2⟩:=i5 row h
    exact⟨l,h1,mem.mpr h2⟩) (fun l h=>i4 l (mem.mp h)) (i7.trans (Fm.app _))
theorem Ycb {i:Nat} (hi:i<rss.length) (q:Q (.tup [.tup [.str "row",.int i],Zay rss[i]]) H):wE (Zdh (Zau ks rss) [.tup [.str "lost",.int i],Zav bs] H) Q:=by
 refine Zxu rfl ?_
 show wS (Zb2 [some (.tup [.str "lost",.int i]),some (Zav bs),some (Zau ks rss)] H) _
 unfold Zb2
 fail "g"
 refine w_ixT (Zjc hi) ?_
 fail "g"
 exact q
theorem Ycd (h8:ks.length<=8) (hr:∀ ls∈rss,R ks.length ls) (hb:bs.length<=ks.length) (hk:∀ ls∈rss,kept bs ls=true)
  (q:∀ ls H',Up ks.length 0 ls->(∀ row∈rss,∃ l∈row,l∈ls)->(∀ l∈ls,Zar l<=bs.length/\rig bs l=true)->Fm [] H H'->Q (.tup [.tup [.str "term",Zay ls],Zay ls]) H'):wE (Zdb (Zau ks rss) [.tup [.str "kept"],Zav bs] H) Q:=by
 refine Zxu rfl ?_
 show wS (Zbv [some (.tup [.str "kept"]),some (Zav bs),some (Zau ks rss),none] H) _
 unfold Zbv
 fail "g"
 refine Zwp h8 hr hb hk fun ls H1 u h1 h2 x1=>?_
 fail "g"
 exact q ls H1 u h1 h2 x1
end
variable {σ:SD} {H:HD} {Q:D->HD->Prop}
section
variable {s:Bool} {ks:List D} {rss:List (List Int)} {L:List (D×List Int)} {pp pc:Nat} {bs:List Bool}
nonrec def pnS (s:Bool):String:=if s then "term_paper" else "row_paper"
def Put (s:Bool) (ks:List D) (rss:List (List Int)) (pp pc:Nat) (bs:List Bool) (n:Nat) (F:HD->Option (D×HD)):Prop :=
 ∀ (L:List (D×List Int)) (H:HD) (Q:D->HD->Prop),H[pp]? = some (.lst (L.map prD))->H[pc]? = some (.clo (pnS s) "claim" (Zau ks rss))->L.length+eS s ks*2 ^ (n+1)<=5000->Rt s ks rss L ->
  (∀ (M:List (D×List Int)) (e:D) (r:List Int) (H':HD),H'[pp]? = some (.lst ((L++M).map prD))->Rt s ks rss (L++M)->M.getLast? = some (e,r)->Lt s ks bs r->M.length+eS s ks<=eS s ks*2 ^ (n+1)->Fm [pp] H H'->Q .non H')->wE (F H) Q
theorem Zqf {M:List (D×List Int)} {e:D} {r:List Int} (h:M.getLast? = some (e,r)):atI ((L++M).map prD) (-1)=some (.tup [e,Zay r]):=by
 obtain⟨a,rfl⟩:=Wax.mp h
 rw[<- Xz,Wap]
 exact Zld _ _
theorem Zys {M N:List (D×List Int)} {e:D} {r:List Int} (h:M.getLast? = some (e,r)):atI ((L++M++N).map prD) (((L++M).length - 1:Nat):Int)=some (.tup [e,Zay r]):=by
 obtain⟨a,rfl⟩:=Wax.mp h
 have e1:(L++(a++[(e,r)])).length - 1=(L++a).length:=by simp
 rw[e1]
 refine Zb1 ?_
 rw[<- Xz,Xz _ _ N,Xn,Xr (Xe _),Wfn]
 rfl
theorem Zvg {M:List (D×List Int)} {e:D} {r:List Int} (h:M.getLast? = some (e,r)):(((L++M).map prD).length:Int) - 1=(((L++M).length - 1:Nat):Int):=by
 obtain⟨a,rfl⟩:=Wax.mp h
 simp
 omega
theorem Zr2 {n:Int} {r:List Int} {P:Bool->HD->Prop} (h6:(σ[6]?).join=some (.int n)) (h12:(σ[12]?).join=some (Zay r)) (q:P (decide (n∉r /\ -n∉r)) H):wT (tAn (tOf (eOp niD (Zac 6) (Zac 12))) (tOf (eOp niD (eUn Zky (Zac 6)) (Zac 12))) σ H) P:=by
 refine w_an (w_tof (w_op (w_var h6 (w_var h12 (Zuj (w_bl ?_))))))
 by_cases z:n∈r
 ·rw[decide_eq_true z]
  rw[decide_eq_false (fun y=>y.1 z)] at q
  exact w_bf q
 ·rw[decide_eq_false z]
  refine w_bt (w_tof (w_op (w_un (w_var h6 (w_neg (w_var h12 (Zuj (w_bl ?_))))))))
  by_cases y : -n∈r
  ·rw[decide_eq_true y]
   rw[decide_eq_false (fun v=>v.2 y)] at q
   exact q
  ·rw[decide_eq_false y]
   rw[decide_eq_true ⟨z,y⟩] at q
   exact q
theorem Zyd {M N:List (D×List Int)} {e:D} {r:List Int} (h:M.getLast? = some (e,r)):∃ hi:(L++M).length - 1<((L++M++N).map (·.2)).length,((L++M++N).map (·.2))[(L++M).length - 1]=r:=by
 obtain⟨a,rfl⟩:=Wax.mp h
 refine⟨by simp,?_⟩
 have e1:((L++(a++[(e,r)])).length) - 1=(L++a).length:=by simp
 rw[Wde]
 refine congrArg Prod.snd (?_:_=(e,r))
 rw[List.getElem_eq_iff,e1,<- Xz,Xz _ _ N,Xr (Xe _),Wfn]
 rfl
theorem Zt6 {F1 F2:FF} {x y:D} (c:CR ks rss) (hpc:pp≠pc) (h0:bs.length<ks.length) (h1:kS (ks.getD bs.length .non) = !s)
  (k1:Put s ks rss pp pc (bs++[false]) (nS s ks (bs.length+1)) (F1 [.tup ks,Zam s,.ref pc,.ref pp,x,Zav (bs++[false])]))
  (k2:Put s ks rss pp pc (bs++[true]) (nS s ks (bs.length+1)) (F1 [.tup ks,Zam s,.ref pc,.ref pp,y,Zav (bs++[true])])) :
  Put s ks rss pp pc bs (nS s ks bs.length) (Za7 6 13 (Zas F1 F2) [.tup ks,Zam s,.ref pc,.ref pp,.tup [.str "each",x,y],Zav bs]):=by
 intro L H Q g gc hl rt q
 have h8:=c.h8
 have en:=Yaw h0 h1
 rw[en,Weo] at hl q
 generalize hP:eS s ks*2 ^ (nS s ks (bs.length+1)+1)=P at *
 rw[<- Nat.mul_assoc,hP] at hl q
 refine Zbb rfl ?_
 show wS (Zas F1 F2 [some (.tup ks),some (Zam s),some (.ref pc),some (.ref pp),some (.tup [.str "each",x,y]),some (Zav bs),none,none,none,none,none,none,none] H) _
 unfold Zas
 fail "g"
 refine Ybz ?_
 rw[k_TRUTHS]
 fail "g"
 refine w_sllo (k:=1) ?_
 fail "g"
 refine⟨_,_,_,_,rfl,rfl,rfl,?_⟩
 have lp:=(Xc.mp g).1
 have lc:=(Xc.mp gc).1
 have ea:Zar ((bs.length:Int)+1)=(bs.length:Int)+1:=Zgj _
 have X0:Fm [pp] H (H++[.dci []]):=Fm.app _
 refine Zfd Zg6 ?_
 fail "g"
 refine k1 L _ _ (appL g) (appL gc) (by omega) rt fun M1 e1 r1 H1 g1 rt1 la1 lt1 lm1 x1=>?_
 rw[hP] at lm1
 have gc1:=x1.keep (by simp; omega) (appL gc) (fun _ e=>by cases e)
 have gd1:=x1.dci (m:=H.length) (by simp; omega) last
 have X1:=X0.trans x1
 fail "g"
 refine w_ixR g1 (Zqf la1) ?_
 fail "g"
 refine w_if (Zr2 rfl rfl ?_)
 by_cases m1:(bs.length:Int)+1∉r1 /\ -((bs.length:Int)+1)∉r1
 ·rw[decide_eq_true m1]
  fail "g"
  exact q M1 e1 r1 H1 g1 rt1 la1 (lt1.none m1.1 m1.2) (by omega) X1
 rw[decide_eq_false m1]
 have m1':(bs.length:Int)+1∈r1 \/ -((bs.length:Int)+1)∈r1:=by
  by_cases z:(bs.length:Int)+1∈r1
  ·exact .inl z
  ·exact .inr (Ut fun y=>m1 ⟨z,y⟩)
 have l1:=lt1.some m1'
 have at1':atI (r1.map D.int) (-1)=some (.int (Zdw s ((bs.length:Int)+1) false)):=by
  obtain⟨a,rfl⟩:=Wax.mp l1
  rw[Wap]; exact Zld _ _
 fail "g"
 rw[Zvg la1]
 refine w_ixT at1' ?_
 fail "g"
 refine Ztn gd1 (by simp) ?_
 fail "g"
 have g1':=Zxt (u:=DO.dci (Zkx [] (Zdw s ((bs.length:Int)+1) false) (.int (((L++M1).length - 1:Nat):Int)))) (show H.length≠pp by omega) g1
 have gc1':=Zxt (u:=DO.dci (Zkx [] (Zdw s ((bs.length:Int)+1) false) (.int (((L++M1).length - 1:Nat):Int)))) (show H.length≠pc by omega) gc1
 have gd1':=Zl7 (o:=DO.dci (Zkx [] (Zdw s ((bs.length:Int)+1) false) (.int (((L++M1).length - 1:Nat):Int)))) gd1
 have X1':Fm [pp] H (H1.set H.length (DO.dci (Zkx [] (Zdw s ((bs.length:Int)+1) false) (.int (((L++M1).length - 1:Nat):Int))))):=X1.new (Fm.set (S:=[H.length]) (by simp)) (fun q hq _=>by simp at hq; omega)
 generalize H1.set H.length (DO.dci (Zkx [] (Zdw s ((bs.length:Int)+1) false) (.int (((L++M1).length - 1:Nat):Int))))=H2 at g1' gc1' gd1' X1' ⊢
 refine Zfd Zg6 ?_
 fail "g"
 refine k2 (L++M1) _ _ g1' gc1' (by rw[Xp]; omega) rt1 fun M2 e2 r2 H3 g3 rt3 la2 lt2 lm2 x3=>?_
 rw[hP] at lm2
 rw[Xz] at rt3
 have gd3:=x3.dci (by simp; omega) gd1'
 have gc3:=x3.keep (by simp; omega) gc1' (fun _ e=>by cases e)
 have X3:=X1'.trans x3
 fail "g"
 refine w_ixR g3 (Zqf la2) ?_
 fail "g"
 refine w_if (Zr2 rfl rfl ?_)
 by_cases m2:(bs.length:Int)+1∉r2 /\ -((bs.length:Int)+1)∉r2
 ·rw[decide_eq_true m2]
  fail "g"
  exact q (M1++M2) e2 r2 H3 (by rw[<- Xz]; exact g3) rt3 (by rw[Wdi,la2]; rfl) (lt2.none m2.1 m2.2) (by rw[Xp]; omega) X3
 rw[decide_eq_false m2]
 have m2':(bs.length:Int)+1∈r2 \/ -((bs.length:Int)+1)∈r2:=by
  by_cases z:(bs.length:Int)+1∈r2
  ·exact .inl z
  ·exact .inr (Ut fun y=>m2 ⟨z,y⟩)
 have l2:=lt2.some m2'
 have at2':atI (r2.map D.int) (-1)=some (.int (Zdw s ((bs.length:Int)+1) true)):=by
  obtain⟨a,rfl⟩:=Wax.mp l2
  rw[Wap]; exact Zld _ _
 fail "g"
 rw[Zvg la2]
 refine w_ixT at2' ?_
 fail "g"
 refine Ztn gd3 (by simp[Zkx]) ?_
 have nn:¬ (Zdw s ((bs.length:Int)+1) false=Zdw s ((bs.length:Int)+1) true):=by
  cases s
  ·show ¬ ((bs.length:Int)+1 = -((bs.length:Int)+1)); omega
  ·show ¬ (-((bs.length:Int)+1)=(bs.length:Int)+1); omega
 have ip:Zkx (Zkx [] (Zdw s ((bs.length:Int)+1) false) (.int (((L++M1).length - 1:Nat):Int))) (Zdw s ((bs.length:Int)+1) true) (.int (((L++M1++M2).length - 1:Nat):Int))=[(Zdw s ((bs.length:Int)+1) false,.int (((L++M1).length - 1:Nat):Int)),(Zdw s ((bs.length:Int)+1) true,.int (((L++M1++M2).length - 1:Nat):Int))]:=by
  unfold Zkx
  simp[nn]
 rw[ip]
 have g4:=Zxt (u:=DO.dci [(Zdw s ((bs.length:Int)+1) false,.int (((L++M1).length - 1:Nat):Int)),(Zdw s ((bs.length:Int)+1) true,.int (((L++M1++M2).length - 1:Nat):Int))]) (show H.length≠pp by omega) g3
 have gd4:=Zl7 (o:=DO.dci [(Zdw s ((bs.length:Int)+1) false,.int (((L++M1).length - 1:Nat):Int)),(Zdw s ((bs.length:Int)+1) true,.int (((L++M1++M2).length - 1:Nat):Int))]) gd3
 have X4:Fm [pp] H (H3.set H.length (DO.dci [(Zdw s ((bs.length:Int)+1) false,.int (((L++M1).length - 1:Nat):Int)),(Zdw s ((bs.length:Int)+1) true,.int (((L++M1++M2).length - 1:Nat):Int))])):=X3.new (Fm.set (S:=[H.length]) (by simp)) (fun q hq _=>by simp at hq; omega)
 generalize H3.set H.length (DO.dci [(Zdw s ((bs.length:Int)+1) false,.int (((L++M1).length - 1:Nat):Int)),(Zdw s ((bs.length:Int)+1) true,.int (((L++M1++M2).length - 1:Nat):Int))])=H4 at g4 gd4 X4 ⊢
 have p1:=Zys (L:=L) (M:=M1) (N:=M2) la1
 have p2:=Zys (L:=L++M1) (M:=M2) (N:=[]) la2
 obtain⟨b1,w1⟩:=Zyd (L:=L) (M:=M1) (N:=M2) la1
 obtain⟨b2,w2⟩:=Zyd (L:=L++M1) (M:=M2) (N:=[]) la2
 rw[Wad] at p2
 simp only[Wad] at b2 w2
 obtain⟨ia,ib,ra,rb,ea,eb,ka,kb,pa,pb,⟨ba,wa⟩,⟨bb,wb⟩,lta,ltb,la',lb'⟩:∃ (ia ib:Nat) (ra rb:List Int) (ea eb:D),Zfy [(Zdw s ((bs.length:Int)+1) false,.int (((L++M1).length - 1:Nat):Int)),(Zdw s ((bs.length:Int)+1) true,.int (((L++M1++M2).length - 1:Nat):Int))] ((bs.length:Int)+1)=some (.int ia)/\Zfy [(Zdw s ((bs.length:Int)+1) false,.int (((L++M1).length - 1:Nat):Int)),(Zdw s ((bs.length:Int)+1) true,.int (((L++M1++M2).length - 1:Nat):Int))] (-((bs.length:Int)+1))=some (.int ib)/\atI ((L++M1++M2).map prD) (ia:Int)=some (.tup [ea,Zay ra])/\atI ((L++M1++M2).map prD) (ib:Int)=some (.tup [eb,Zay rb])/\(∃ h:ia<((L++M1++M2).map (·.2)).length,((L++M1++M2).map (·.2))[ia]=ra)/\(∃ h:ib<((L++M1++M2).map (·.2)).length,((L++M1++M2).map (·.2))[ib]=rb)/\Lt s ks (bs++[s]) ra/\Lt s ks (bs++[!s]) rb/\ra.getLast? = some ((bs.length:Int)+1)/\rb.getLast? = some (-((bs.length:Int)+1)):=by
  have n1:¬ ((bs.length:Int)+1 = -((bs.length:Int)+1)):=by omega
  have n2:¬ (-((bs.length:Int)+1)=(bs.length:Int)+1):=by omega
  cases s with
  | false =>
   refine⟨_,_,r1,r2,e1,e2,?_,?_,p1,p2,⟨b1,w1⟩,⟨b2,w2⟩,lt1,lt2,l1,l2⟩
   ·simp[Zfy,Zdw]
   ·unfold Zfy Zdw; rw[Wbp (by simpa using n1)]; simp
  | true =>
   refine⟨_,_,r2,r1,e2,e1,?_,?_,p2,p1,⟨b2,w2⟩,⟨b1,w1⟩,lt2,lt1,l2,l1⟩
   ·unfold Zfy Zdw; rw[Wbp (by simpa using n2)]; simp
   ·simp[Zfy,Zdw]
 fail "g"
 refine Zm1 Zg6 ?_
 fail "g"
 refine Zxy gd4 ka ?_
 fail "g"
 refine Zxy gd4 kb ?_
 fail "g"
 refine w_ixR g4 pa ?_
 fail "g"
 refine w_ixR g4 pb ?_
 fail "g"
 obtain⟨x',ej,ux,wx⟩:=Lt.join lta ltb la' lb'
 refine Zpr (Zk0 (by omega) lta.up).1 (Zk0 (by omega) ltb.up).1 h8 fun H5 x5=>?_
 rw[ej]
 fail "g"
 have own:Zhf s ks ((bs.length:Int)+1)=false:=by rw[Zta,h1]; cases s<;>rfl
 rw[<- Xz] at rt3
 refine Zjg c (x5.lst (by simp) g4) (by simp only[Xp]; omega) rt3 (.joined ia ib _ x' ba bb ⟨by omega,by omega⟩ own (by rw[wa,wb]; exact ej)) (Zk0 (by omega) ux).1 fun M3 e3 H6 g6 rt6 la6 lm6 x6=>?_
 fail "g"
 refine q (M1++M2++M3) e3 (Zbn s ks x') H6 (by rw[<- Xz,<- Xz]; exact g6) (by rw[<- Xz,<- Xz]; exact rt6) (by rw[Wdi,la6]; rfl) (Lt.of ux fun l hl=>wx l ((Zgl (s:=s) ks x').subset hl)) (by simp only[Xp]; omega) ((X4.trans (x5.sub (by simp))).trans x6)
theorem Ydd (c:CR ks rss) (hu:∀ ls∈rss,Up ks.length 0 ls) (hpc:pp≠pc) {bs:List Bool} {t:D} (pl:PlanD ks rss s bs t):∀ (f:Nat),2*(ks.length - bs.length)+1<=f->bs.length<=ks.length->Put s ks rss pp pc bs (nS s ks bs.length) ((Zdv 6 7 6 13 Zan Zas f).1 [.tup ks,Zam s,.ref pc,.ref pp,t,Zav bs]):=by
 have h8:=c.h8
 have e12:=Zyc s ks
 induction pl with
 | @kept bs h0 h1 =>
  intro f hf hb L H Q g gc hl rt q
  have p2:2<=2 ^ (nS s ks bs.length+1):=by rw[Weo]; have:=Wfc (n:=nS s ks bs.length); omega
  have p3:eS s ks*2<=eS s ks*2 ^ (nS s ks bs.length+1):=Weu _ p2
  obtain⟨f,rfl⟩:∃ f',f=f'+1:=⟨f - 1,by omega⟩
  rw[Zdv]
  dsimp only
  generalize (Zdv 6 7 6 13 Zan Zas f).1=F1
  generalize (Zdv 6 7 6 13 Zan Zas f).2=F2
  refine Zbb rfl ?_
  subst h0
  show wS (Zan _ _ [some (.tup ks),some (.str "some"),some (.ref pc),some (.ref pp),some (.tup [.str "kept"]),some (Zav bs),none] H) _
  unfold Zan
  fail "i"
  (refine WP.w_if ?_; fail "g")
  refine Zyt (by unfold Zij; simp[gc,pnS]) (Zu3 rfl gc ?_)
  fail "g"
  refine Ycd h8 c.hr hb h1 fun ls H1 u com rg x1=>?_
  fail "g"
  refine Zjg (s:=true) c (x1.lst (by simp) g) (by omega) rt (.base (Zay ls) ls ⟨rfl,u,com⟩) (Zk0 (by omega) u).1 fun M e H2 g2 r1 la lm x2=>?_
  fail "g"
  exact q M e _ H2 g2 r1 la (Lt.leafS u rg) (by omega) ((x1.sub (by simp)).trans x2)
 | @lost bs i ls h0 h1 h2 h3 =>
  intro f hf hb L H Q g gc hl rt q
  have p2:2<=2 ^ (nS s ks bs.length+1):=by rw[Weo]; have:=Wfc (n:=nS s ks bs.length); omega
  have p3:eS s ks*2<=eS s ks*2 ^ (nS s ks bs.length+1):=Weu _ p2
  obtain⟨f,rfl⟩:∃ f',f=f'+1:=⟨f - 1,by omega⟩
  rw[Zdv]
  dsimp only
  generalize (Zdv 6 7 6 13 Zan Zas f).1=F1
  generalize (Zdv 6 7 6 13 Zan Zas f).2=F2
  refine Zbb rfl ?_
  subst h0
  obtain⟨hi,ei⟩:=Xc.mp h1
  have uls:=hu ls (Xl h1)
  show wS (Zan _ _ [some (.tup ks),some (.str "all"),some (.ref pc),some (.ref pp),some (.tup [.str "lost",.int i]),some (Zav bs),none] H) _
  unfold Zan
  fail "i"
  (refine WP.w_if ?_; fail "g")
  refine Zyj (Zu3 rfl gc ?_)
  fail "g"
  refine Ycb (ks:=ks) hi ?_
  fail "g"
  refine Zjg (s:=false) c g (by omega) rt (.base (.int i) rss[i] ⟨i,hi,rfl,rfl⟩) (c.hr _ (Wab hi)) fun M e H1 g1 r1 la lm x1=>?_
  fail "g"
  rw[ei] at la
  exact q M e _ H1 g1 r1 la (Lt.leafA uls h2 h3) (by omega) x1
 | @pick bs t x h0 h1 h2 ih =>
  intro f hf hb L H Q g gc hl rt q
  have en:=Yco h0 h1
  obtain⟨f,rfl⟩:∃ f',f=f'+1:=⟨f - 1,by omega⟩
  have lb:(bs++[t]).length=bs.length+1:=by simp
  have k:=ih f (by rw[lb]; omega) (by omega)
  rw[Zdv]
  dsimp only
  generalize (Zdv 6 7 6 13 Zan Zas f).1=F1 at k ⊢
  generalize (Zdv 6 7 6 13 Zan Zas f).2=F2
  refine Zbb rfl ?_
  show wS (Zan _ _ [some (.tup ks),some (Zam s),some (.ref pc),some (.ref pp),some (.tup [.str "pick",.bl t,x]),some (Zav bs),none] H) _
  unfold Zan
  fail "i"
  refine k L H _ g gc (by rw[lb,<- en]; exact hl) rt fun M e r H1 g1 r1 la lt lm x1=>?_
  fail "g"
  rw[lb,<- en] at lm
  exact q M e r H1 g1 r1 la (lt.pick h1) lm x1
 | @each bs x y h0 h1 h2 h3 ih1 ih2 =>
  intro f hf hb L H Q g gc hl rt q
  have lb:∀ t:Bool,(bs++[t]).length=bs.length+1:=fun t=>by simp
  obtain⟨f,rfl⟩:∃ f',f=f'+2:=⟨f - 2,by omega⟩
  have k1:=ih1 f (by rw[lb]; omega) (by rw[lb]; omega)
  have k2:=ih2 f (by rw[lb]; omega) (by rw[lb]; omega)
  rw[lb] at k1 k2
  have k3:=Zt6 (F2:=(Zdv 6 7 6 13 Zan Zas f).2) c hpc h0 h1 k1 k2
  have e3:(Zdv 6 7 6 13 Zan Zas (f+1)).2=Za7 6 13 (Zas (Zdv 6 7 6 13 Zan Zas f).1 (Zdv 6 7 6 13 Zan Zas f).2):=by rw[Zdv]
  rw[<- e3] at k3
  rw[Zdv]
  dsimp only
  generalize (Zdv 6 7 6 13 Zan Zas (f+1)).1=F1
  generalize (Zdv 6 7 6 13 Zan Zas (f+1)).2=F2 at k3 ⊢
  refine Zbb rfl ?_
  show wS (Zan _ _ [some (.tup ks),some (Zam s),some (.ref pc),some (.ref pp),some (.tup [.str "each",x,y]),some (Zav bs),none] H) _
  unfold Zan
  fail "i"
  (refine WP.w_if ?_; fail "g")
  refine k3 L H _ g gc hl rt fun M e r H1 g1 r1 la lt lm x1=>?_
  fail "g"
  exact q M e r H1 g1 r1 la lt lm x1
theorem Zsd {own:Zg4} (ho:Zcd own H):∀ (L:List (D×List Int)) {R:List D->HD->Prop},R (L.map (·.1)) H->wA (Zd3 own [] Zv2 (Zac 0) (L.map prD) H) R
 | [],R,q=>⟨_,_,by rw[Wcz,Zd3,if_pos ho]; rfl,q⟩
 | d::L,R,q=>by
  obtain⟨ds,H1,e,q⟩:=Zsd ho L (R:=fun ds H1=>R (d.1::ds) H1) q
  refine⟨d.1::ds,H1,?_,q⟩
  rw[Xo,Zd3]
  simp only[prD,two2,Zb]
  rw[if_pos ho]
  show (Option.bind (some (true,H)) _)=_
  simp only[Zb,if_pos]
  show (Option.bind (some (d.1,H)) _)=_
  simp only[Zb]
  rw[e]
  rfl
theorem w_lc2 {it:ItF} {ci:List Nat} {tt:TF} {te:EF} {σ:SD} (h:wI (it σ H) fun xs own H1=>wA (Zd3 own (Zvn ci σ) tt te xs H1) fun ds H2=>ds.length<=1000000/\Q (.ref H2.length) (H2++[.lst ds])):wE (Yb5 it ci tt te σ H) Q:=by
 obtain⟨xs,own,H1,e1,ds,H2,e2,hl,q⟩:=h
 refine⟨_,_,?_,q⟩
 unfold Yb5
 rw[e1]
 simp only[Zb]
 rw[e2]
 simp only[Zb,mkL]
 rw[if_pos (Zgi hl)]
theorem Zv1 (h8:ks.length<=8):eS s ks*2 ^ (nS s ks 0+1)<=512:=by
 unfold eS nS
 rw[List.drop_zero]
 have l1:=Waq (fun d=>kS d != s) ks
 split
 ·rw[Nat.one_mul]
  exact Wac (Wdj (by omega) (show _<=9 by omega)) (by decide)
 ·rename_i z
  have:(ks.filter fun d=>kS d != s).length≠ks.length:=fun e=>z (Xv.mpr fun x hx=>(List.length_filter_eq_length_iff.mp e) x hx)
  have:=Wdj (show 0<2 by omega) (show (ks.filter fun d=>kS d != s).length+1<=8 by omega)
  omega
theorem Zmu (c:CR ks rss) (hu:∀ ls∈rss,Up ks.length 0 ls) (hw:W ks rss ks.length []=s) (gc:H[pc]? = some (.clo (pnS s) "claim" (Zau ks rss)))
  (q:∀ (L:List (D×List Int)) (e:D) (p:Nat) (H':HD),Rt s ks rss L->L.getLast? = some (e,[])->L.length<=512->H'[p]? = some (.lst (L.map (·.1)))->H.length<=p->Fm [] H H'->Q (.ref p) H'):wE (Zl2 [Zau ks rss,Zam s,.ref pc] H) Q:=by
 have h8:=c.h8
 refine Zbb rfl ?_
 show wS (Zil [some (Zau ks rss),some (Zam s),some (.ref pc),none,none] H) _
 unfold Zil
 fail "g"
 refine Yc9 ⟨c.hk,hu,c.hl,c.h8⟩ fun t H1 pt x1=>?_
 rw[hw] at pt ⊢
 have gc1:=x1.keep (by simp) gc (fun _ e=>by cases e)
 have lc:=(Xc.mp gc1).1
 fail "i"
 refine Zh3 ?_
 rw[show (!(s==s))=false by cases s<;>rfl]
 fail "g"
 have bd:=Zv1 (s:=s) h8
 refine Ydd c hu (by omega) pt 22 (by simp; omega) (by simp) [] _ _ last (appL gc1) (by simp; omega) .nil fun M e r H2 g2 r2 la lt lm x2=>?_
 rw[Wcq] at g2 r2
 have er:r=[]:=by
  cases r with
  | nil=>rfl
  | cons l r =>
   have h1:=(lt.wr l (by simp)).1
   have h2:=(Zk0 (by omega) lt.up).1.rg l (by simp)
   simp at h1
   omega
 subst er
 fail "g"
 refine w_lc2 ?_
 fail "g"
 refine Zsd (Zza g2) M ?_
 have lm':M.length+eS s ks<=eS s ks*2 ^ (nS s ks 0+1):=lm
 refine⟨by rw[Xu]; omega,?_⟩
 fail "g"
 refine q M e _ _ r2 la (by omega) last ?_ ?_
 ·have a2:=x2.len; have a1:=x1.len; rw[Xp] at a2; omega
 ·exact((x1.trans (Fm.app _)).new x2 (fun q hq _=>by simp at hq; have:=x1.len; omega)).trans (Fm.app _)
theorem Zkb {b:Bool} {nm:String} {k:Nat} {FF:FF} (hF:(s=false/\k=0/\FF=Zf4)\/(s=true/\k=1/\FF=Ze3)) (hn:nm=pnS s) (c:CR ks rss) (hu:∀ ls∈rss,Up ks.length 0 ls) (hw:W ks rss ks.length []=s) (g0:H[k]? = some (.tab nm b))
  (q:∀ (L:List (D×List Int)) (e:D) (p:Nat) (H':HD),Rt s ks rss L->L.getLast? = some (e,[])->L.length<=512->H'[p]? = some (.lst (L.map (·.1)))->H.length<=p->Fm [k] H H'->Q (.ref p) H'):wE (FF [Zau ks rss] H) Q:=by
 subst hn
 have gc:(H.set k (.tab (pnS s) true)++[.clo (pnS s) "claim" (Zau ks rss)])[H.length]? = some (.clo (pnS s) "claim" (Zau ks rss)):=by
  have:=last (H:=H.set k (.tab (pnS s) true)) (o:=.clo (pnS s) "claim" (Zau ks rss))
  rw[List.length_set] at this
  exact this
 have X:Fm [k] H (H.set k (.tab (pnS s) true)++[.clo (pnS s) "claim" (Zau ks rss)]):=(Fm.set (by simp)).trans (Fm.app _)
 have fin':∀ (L:List (D×List Int)) (e:D) (p:Nat) (H1:HD),Rt s ks rss L->L.getLast? = some (e,[])->L.length<=512->H1[p]? = some (.lst (L.map (·.1)))->(H.set k (.tab (pnS s) true)++[DO.clo (pnS s) "claim" (Zau ks rss)]).length<=p->Fm [] (H.set k (.tab (pnS s) true)++[DO.clo (pnS s) "claim" (Zau ks rss)]) H1->Q (.ref p) H1:=fun L e p H1 rt la ln g1 l1 x1=>q L e p H1 rt la ln g1 (by have:=X.len; omega) (X.trans (x1.sub (by simp)))
 rcases hF with ⟨rfl,rfl,rfl⟩ | ⟨rfl,rfl,rfl⟩
 ·refine Zbb rfl ?_
  show wS (Zdq [some (Zau ks rss),none] H) _
  unfold Zdq
  refine w_seq ⟨.nx,[some (Zau ks rss),some (.ref H.length)],H.set 0 (.tab (pnS false) true)++[.clo (pnS false) "claim" (Zau ks rss)],?_,?_⟩
  ·unfold Ya9
   simp[g0,pnS]
  fail "g"
  refine Zmu (s:=false) c hu hw gc fun L e p H1 rt la ln g1 l1 x1=>?_
  fail "g"
  exact fin' L e p H1 rt la ln g1 l1 x1
 ·refine Zbb rfl ?_
  show wS (Zc8 [some (Zau ks rss),none] H) _
  unfold Zc8
  refine w_seq ⟨.nx,[some (Zau ks rss),some (.ref H.length)],H.set 1 (.tab (pnS true) true)++[.clo (pnS true) "claim" (Zau ks rss)],?_,?_⟩
  ·unfold Ya9
   simp[g0,pnS]
  fail "g"
  refine Zmu (s:=true) c hu hw gc fun L e p H1 rt la ln g1 l1 x1=>?_
  fail "g"
  exact fin' L e p H1 rt la ln g1 l1 x1
end
variable {σ:SD} {H:HD} {Q:D->HD->Prop}
theorem Zva {sd:D} {most:Nat} (at':∀ (H:HD) (k:Int) (Q:D->HD->Prop),0<=k->k<=1000->(∀ c,Q (.int c) H)->wE (Zep [sd,.int k] H) Q) (hm:2<=most/\most<=8) (q:∀ ks rss H',Cl ks rss->ks.length<=most->rss.length<=20->Fm [] H H'->Q (Zau ks rss) H'):wE (Zgg [sd,.int most] H) Q:=by
 refine Zbb rfl ?_
 show wS (Zdr [some sd,some (.int most),none,none,none,none,none] H) _
 unfold Zdr
 fail "g"
 refine at' _ _ _ (by omega) (by omega) fun c=>?_
 fail "g"
 refine Zia (many:=14) (by omega) fun ds pd H1 l1 d1 g1 n1 x1=>?_
 fail "g"
 refine Zez g1 d1 (by omega) (by omega) fun a a0 a1=>?_
 fail "g"
 refine w_mod (by omega) ?_
 fail "g"
 refine Zez g1 d1 (by omega) (by omega) fun a' a0' a1'=>?_
 fail "g"
 refine Zez (appL g1) d1 (by omega) (by omega) fun b b0 b1=>?_
 fail "g"
 have m3:b % 3=0\/b % 3=1\/b % 3=2:=by omega
 obtain⟨N,hN,eN⟩:∃ N:Nat,N<=most/\atI [D.int (a % ((most:Int)+1)),.int ((most:Int) - a' % 3),.int (most:Int)] (b % 3)=some (.int N):=by
  have e1:=Wbx a (show (most:Int)+1≠0 by omega)
  have e2:=Wbk a (show 0<(most:Int)+1 by omega)
  rcases m3 with z | z | z<;>rw[z]
  ·refine⟨(a % ((most:Int)+1)).toNat,by omega,?_⟩
   rw[Wca e1]; rfl
  ·refine⟨((most:Int) - a' % 3).toNat,by omega,?_⟩
   rw[Wca (by omega)]; rfl
  ·exact⟨most,Xe _,rfl⟩
 refine w_ixR last eN ?_
 fail "g"
 refine Yef (k:=2) (appL g1) ?_
 fail "g"
 rw[show (if (N:Int) > 0 then (N:Int) else 0)=(N:Int) by split<;>omega]
 rw[<- Wfa]
 refine Yal (many:=N) last (d1.drop 2) (by simp; omega) (by omega) fun ks H2 hk lk x2=>?_
 have X2:Fm [] H H2:=((x1.trans (Fm.app _)).trans (Fm.app _)).trans x2
 have g2:=x2.lst (by simp) (appL (u:=DO.lst ((ds.drop 2).map D.int)) (appL (u:=DO.lst [D.int (a % ((most:Int)+1)),.int ((most:Int) - a' % 3),.int (most:Int)]) g1))
 fail "g"
 refine Zez g2 d1 (by omega) (by omega) fun u0 u1 u2=>?_
 fail "g"
 refine Zez g2 d1 (by omega) (by omega) fun v0 v1 v2=>?_
 fail "g"
 refine Zez g2 d1 (by omega) (by omega) fun y0 y1 y2=>?_
 fail "g"
 refine Zez (appL g2) d1 (by omega) (by omega) fun e e0 e1=>?_
 fail "g"
 have m3':e % 3=0\/e % 3=1\/e % 3=2:=by omega
 obtain⟨Z,hZ,eZ⟩:∃ Z:Nat,Z<=20/\atI [D.int (u0 % 5),.int (v0 % 11),.int (5+y0 % 16)] (e % 3)=some (.int Z):=by
  rcases m3' with z | z | z<;>rw[z]
  ·refine⟨(u0 % 5).toNat,by omega,?_⟩
   rw[Wca (by omega)]; rfl
  ·refine⟨(v0 % 11).toNat,by omega,?_⟩
   rw[Wca (by omega)]; rfl
  ·refine⟨(5+y0 % 16).toNat,by omega,?_⟩
   rw[Wca (by omega)]; rfl
 refine w_ixR last eZ ?_
 fail "g"
 refine⟨_,rfl,⟨by omega,by omega⟩,?_⟩
 rw[Wal]
 have Y:Fm [] H (H2++[DO.lst [D.int (u0 % 5),.int (v0 % 11),.int (5+y0 % 16)]]):=X2.trans (Fm.app _)
 refine Zvm (fun d t o H'=>∃ rss:List (List Int),o=rss.map Zay/\rss.length=d.length/\d.length+t.length=Z/\(∀ ls∈rss,Up N 0 ls)/\(∀ x∈t,∃ i:Nat,x=.int i/\i<=100)/\True/\H'[pd]? = some (.lst (ds.map .int))/\Fm [] H H') (fun _ _ _ _ _=>Zg6) (fun d x t o H3 ⟨rss,i1,i2,i3,i4,i5,i6,i7,i8⟩=>?_) _ [] [] _ ⟨[],rfl,rfl,by simp[Zbk],by simp,fun x hx=>?_,trivial,appL g2,Y⟩ (fun d o H3 ⟨rss,i1,i2,i3,i4,i5,i6,i7,i8⟩=>?_)
 ·obtain⟨i,rfl,hi⟩:=i5 x (by simp)
  fail "g"
  refine at' _ _ _ (by omega) (by omega) fun cell=>?_
  fail "g"
  rw[lk]
  refine Zy2 (by omega) fun ls H4 u x4=>?_
  refine⟨rss++[ls],by rw[i1]; simp,by simp[i2],by simp at i3 ⊢; omega,fun y hy=>?_,fun y hy=>i5 y (by simp[hy]),trivial,x4.lst (by simp) i7,i8.trans x4⟩
  rcases Xx.mp hy with z | z
  ·exact i4 y z
  ·simp at z; subst z; exact u
 ·simp only[Zbk,Waa,Wci] at hx
  obtain⟨k,hk,rfl⟩:=hx
  exact⟨k,by simp,by omega⟩
 rw[Wcq] at i1
 simp only[Wcf,Wfl] at i3
 subst i1
 refine⟨by simp; omega,?_⟩
 show wS (Zaf _ _ [some sd,some (.int most),some (.ref pd),some (.int N),some (.tup ks),some (.int Z),some (.ref H3.length)] (H3++[.lst (rss.map Zay)])) _
 refine w_seq (Zvj (fun σ H'=>∃ (rs:List (List Int)) (pr:Nat),H'[pr]? = some (.lst (rs.map Zay))/\rs.length<=20/\(∀ ls∈rs,Up N 0 ls)/\Fm [] H H'/\σ=[some sd,some (.int most),some (.ref pd),some (.int N),some (.tup ks),some (.int Z),some (.ref pr)]) ?_ ?_)
 ·(refine WP.w_if ?_; fail "g")
  refine Zez (appL i7) d1 (by omega) (by omega) fun r r0 r1=>?_
  fail "g"
  refine⟨fun h=>?_,fun h=>?_⟩
  ·fail "g"
   refine Zdi (fun d=>match d with | .tup xs => !xs.isEmpty | _=>true) (fun H'=>H'=H3++[.lst (rss.map Zay)]) (fun _ j=>by rw[j]; exact Zza last) _ (fun x hx H4 j=>?_) _ rfl fun H4 j=>?_
   ·obtain⟨ls,hls,rfl⟩:=Waa.mp hx
    subst j
    fail "g"
    refine Yad (Fine.tup (Zd9 ls)) (Fine.tup (h:=0) Fines.nil) (by omega) (by omega) ?_
    refine⟨_,rfl,?_,rfl⟩
    cases ls<;>simp[Uc,Tai,Zay]
   ·subst j
    have ef:(rss.map Zay).filter (fun d=>match d with | .tup xs => !xs.isEmpty | _=>true)=(rss.filter fun ls => !ls.isEmpty).map Zay:=by
     rw[Wdq]
     congr 1
     exact List.filter_congr fun ls _=>by cases ls<;>rfl
    rw[ef]
    have lf:=Waq (fun ls:List Int => !ls.isEmpty) rss
    refine⟨by simp; omega,?_⟩
    fail "g"
    exact⟨rfl,_,_,last,by omega,fun ls h=>i4 ls (Wah.mp h).1,(i8.trans (Fm.app _)).trans (Fm.app _),rfl⟩
  ·fail "g"
   exact⟨rfl,rss,_,last,by omega,i4,i8.trans (Fm.app _),rfl⟩
 rintro _ H4 ⟨rs,pr,g4,l4,u4,X4,rfl⟩
 fail "g"
 refine q ks rs H4 ⟨hk,fun ls h=>by rw[lk]; exact u4 ls h,by omega,by omega⟩ (by omega) l4 X4
variable {σ:SD} {H:HD} {Q:D->HD->Prop}
theorem CR.of {ks':List D} {rss':List (List Int)} (hk:∀ d∈ks',Zcr d) (h8:ks'.length<=8) (hu:∀ ls∈rss',Up ks'.length 0 ls) (hl:rss'.length<=1000):CR ks' rss':=⟨hk,h8,fun ls h=>(Zk0 (by omega) (hu ls h)).1,hl⟩
section
variable {s:Bool} {ks:List D} {rss:List (List Int)} {L:List (D×List Int)} {bs:List Bool} {ps:Nat}
theorem Yaq (c:Cl ks rss) {j:Nat} (hj:bs.length+j=ks.length) (q:∀ H',Fm [] H H'->Q (Zam (W ks rss j bs)) H'):wE (Zeo [Zau ks rss,Zav bs] H) Q:=by
 obtain⟨H',e,x⟩:=Zui (bs:=bs) (j:=j) c.hk c.hu c.hl c.h8 hj H
 exact⟨_,_,e,q _ x.fm⟩
theorem Zwd (c:CR ks rss) (hu:∀ ls∈rss,Up ks.length 0 ls) (g:H[ps]? = some (.lst (L.map (·.1)))) (hl:L.length<=1000) (h8:bs.length<=8) (rt:Rt s ks rss L)
  (q:∀ H',Fm [] H H'->Q (.bl (Zj5 s (L.map (·.2)) bs L)) H'):wE (Zfe [Zau ks rss,Zam s,.ref ps,Zav bs] H) Q:=by
 refine Zbb rfl ?_
 show wS (Zc6 [some (Zau ks rss),some (Zam s),some (.ref ps),some (Zav bs)] H) _
 unfold Zc6
 fail "i"
 refine Zcq (b:=false) ?_
 fail "g"
 cases s with
 | false =>
  fail "g"
  refine Zbb rfl ?_
  show wS (Zfn [some (Zau ks rss),some (.ref ps),some (Zav bs)] H) _
  unfold Zfn
  fail "g"
  refine Zns (s:=false) c hu g hl h8 rt fun H1 x1=>?_
  fail "g"
  exact q H1 x1
 | true =>
  fail "g"
  refine Zbb rfl ?_
  show wS (Zd7 [some (Zau ks rss),some (.ref ps),some (Zav bs)] H) _
  unfold Zd7
  fail "g"
  refine Zns (s:=true) c hu g hl h8 rt fun H1 x1=>?_
  fail "g"
  exact q H1 x1
theorem w_niB {t:Bool} {p:Nat} {ts:List Bool} (g:H[p]? = some (.lst (ts.map .bl))) (h:t∈ts) (q:Q (.bl false) H):wE (niD (.bl t) (.ref p) H) Q:=by
 have f:Fines (ts.map D.bl) (ts.map PyData.bool) 0:=by
  clear g q h
  induction ts with
  | nil=>exact .nil
  | cons b r ih=>exact .cons (.bl b) ih
 refine w_niL (.bl t) f (by omega) (by omega) g ?_
 have:((ts.map PyData.bool).any fun z=>Uc z (.bool t))=true:=War.mpr ⟨.bool t,Waa.mpr ⟨t,h,rfl⟩,by simp[Uc]⟩
 rw[this]
 exact q
nonrec def tB:D->Bool
 | .bl b=>b
 | _=>false
theorem Yd5 {j:Nat} (c:Cl ks rss) (hj:bs.length+(j+1)=ks.length)
  (q:∀ p H',H'[p]? = some (.lst (([false,true].filter fun t=>W ks rss j (bs++[t])==kS (ks.getD bs.length .non)).map .bl))->Fm [] H H'->Q (.ref p) H'):wE (Zfj [Zau ks rss,Zav bs] H) Q:=by
 have h8:=c.h8
 have sk:=Zim c.hk (show bs.length<ks.length by omega)
 refine Zbb rfl ?_
 show wS (Zc3 [some (Zau ks rss),some (Zav bs),none] H) _
 unfold Zc3
 fail "i"
 refine w_bF (by simp; omega) ?_
 fail "g"
 refine w_ixT (Zb1 sk) ?_
 rw[k_TRUTHS]
 fail "g"
 refine Zdi (fun d=>W ks rss j (bs++[tB d])==kS (ks.getD bs.length .non)) (fun H'=>Fm [] H H') (fun _ _=>Zg6) _ (fun x hx H1 i=>?_) _ Fm.refl fun H1 i=>?_
 ·obtain⟨t,rfl⟩:∃ t,x=.bl t:=by
   rcases Xj.mp hx with rfl | hx
   ·exact⟨_,rfl⟩
   ·rw[Wbb.mp hx]; exact⟨_,rfl⟩
  show wT (tOf (eOp eqD (Zak 2 Zeo (Zab (Zac 1) (Zab (eOp Zcu (Zac 2) (Zef (Zab (Zac 0) Zah))) Zah))) (Zac 3)) (some (.bl t)::[some (Zau ks rss),some (Zav bs),some (Zam (kS (ks.getD bs.length .non)))]) H1) _
  fail "g"
  refine Yaq c (j:=j) (by simp; omega) fun H2 x2=>?_
  fail "g"
  refine Zcq ?_
  exact⟨_,rfl,rfl,i.trans x2⟩
 ·refine⟨by have:=Waq (fun d=>W ks rss j (bs++[tB d])==kS (ks.getD bs.length .non)) [D.bl false,.bl true]; simp at this ⊢; omega,?_⟩
  fail "g"
  refine q _ _ ?_ (i.trans (Fm.app _))
  rw[last]
  congr 2
  show _=List.map D.bl _
  simp only[List.filter_cons,List.filter_nil,tB]
  split<;>split<;>rfl
theorem Zz2 {pe:Nat} {es:List Int} {e0:D} (c:Cl ks rss) (g:H[ps]? = some (.lst (L.map (·.1)))) (hl:L.length<=1000) (rt:Rt s ks rss L) (hlast:L.getLast? = some (e0,[])) (ge:H[pe]? = some (.lst (es.map .int))) (hd:Zxp es) (le:8<=es.length) (q:∀ H',Fm [] H H'->Q (.bl true) H'):wE (Zcy [Zau ks rss,Zam s,.ref ps,.ref pe] H) Q:=by
 have h8:=c.h8
 have cr:=CR.of c.hk c.h8 c.hu c.hl
 let S:List Bool->Bool:=fun bs=>Zj5 s (L.map (·.2)) bs L
 have pw:∀ p:List Bool,p.length=ks.length->Zvp s ks S p->rss.all (kept p)=s:=fun p lp fp=>Zrt c.hu rt hlast lp fp
 have ww:=Zkv (rss:=rss) pw
 refine Zbb rfl ?_
 show wS (Zbm [some (Zau ks rss),some (Zam s),some (.ref ps),some (.ref pe),none,none,none] H) _
 unfold Zbm
 fail "g"
 refine Zct (fun d t σ H'=>∃ (bs:List Bool) (z5 z6:Option D),d++t=ks/\bs.length=d.length/\Zvp s ks S bs/\Fm [] H H'/\σ=[some (Zau ks rss),some (Zam s),some (.ref ps),some (.ref pe),some (Zav bs),z5,z6]) (fun _ _ _ _ _=>Zg6) (fun d x t σ H1 ⟨bs,z5,z6,i1,i2,i3,i4,i5⟩=>?_) (fun d σ H1 ⟨bs,z5,z6,i1,i2,i3,i4,i5⟩=>?_) _ [] _ _ ⟨[],_,_,rfl,rfl,.nil,Fm.refl,rfl⟩
 ·subst i5
  have lks:d.length+(t.length+1)=ks.length:=by rw[<- i1]; simp
  have ex:ks.getD bs.length .non=x:=by rw[i2,<- i1]; simp
  have kx:x=Zam (kS x):=Zjq (c.hk x (by rw[<- i1]; simp))
  have ow:=Zta (s:=s) (ks:=ks) (n:=bs.length)
  rw[ex] at ow
  have i1':(d++[Zam (kS x)])++t=ks:=by rw[<- kx,<- i1]; simp
  have wb:=ww (t.length+1) bs (by omega) i3
  fail "i"
  refine Yaq c (j:=t.length+1) (by omega) fun H2 x2=>?_
  rw[wb]
  fail "g"
  refine Zh3 ?_
  rw[show (!(s==s))=false by cases s<;>rfl]
  have ge2:=(i4.trans x2).lst (by simp) ge
  fail "g"
  refine Zez (i:=(bs.length:Int)) ge2 hd (by omega) (by omega) fun r r0 r1=>?_
  fail "i"
  rw[kx]
  refine Zcq ?_
  fail "g"
  cases hk:(kS x==s) with
  | true =>
   rw[hk] at ow
   fail "g"
   refine Zwd cr c.hu ((i4.trans x2).lst (by simp) g) hl (by omega) rt fun H3 x3=>?_
   have f2:=i3.snoc (b:=S bs) fun _=>rfl
   have w2:=ww t.length (bs++[S bs]) (by simp; omega) f2
   fail "i"
   refine Yd5 (j:=t.length) c (by omega) fun pg H4 g4 x4=>?_
   fail "g"
   refine w_niB g4 (Wah.mpr ⟨by cases Zj5 s (L.map (·.2)) bs L<;>simp,?_⟩) ?_
   ·show (W ks rss t.length (bs++[S bs])==_)=true
    rw[w2,ex]
    rw[Bool.beq_comm]
    exact hk
   fail "g"
   exact⟨bs++[S bs],_,_,i1',by simp[i2],f2,((i4.trans x2).trans x3).trans x4,rfl⟩
  | false =>
   rw[hk] at ow
   fail "g"
   exact⟨bs++[r % 2==1],_,_,i1',by simp[i2],i3.snoc (fun z=>by rw[ow] at z; cases z),i4.trans x2,rfl⟩
 ·subst i5
  rw[Wad] at i1
  subst i1
  have wb:=ww 0 bs (by omega) i3
  fail "i"
  refine Yaq c (j:=0) (by omega) fun H2 x2=>?_
  rw[wb]
  fail "g"
  refine Zh3 ?_
  rw[show (!(s==s))=false by cases s<;>rfl]
  fail "g"
  refine Zue c.h8 cr.hr i2 fun H3 x3=>?_
  have e:keeps rss bs=s:=pw bs i2 i3
  rw[e]
  fail "g"
  refine Zcq (b:=false) ?_
  fail "g"
  refine Zwn ?_
  fail "g"
  rw[show ((!s)==(s==false))=true by cases s<;>rfl]
  exact q _ ((i4.trans x2).trans x3.fm)
end
theorem pure_law:∀ ns:List Int,ns.length<=63->∃ Hd',Zqp [.fl (ns.map .int)] (Zeu ["row_paper","term_paper"])=some (.bl true,Hd'):=by
 intro ns _
 suffices h:wE (Zqp [.fl (ns.map .int)] (Zeu ["row_paper","term_paper"])) fun d _=>d=.bl true by
  obtain⟨d,H',e,rfl⟩:=h
  exact⟨H',e⟩
 have g0:(Zeu ["row_paper","term_paper"])[0]? = some (.tab "row_paper" false):=rfl
 have g1:(Zeu ["row_paper","term_paper"])[1]? = some (.tab "term_paper" false):=rfl
 generalize Zeu ["row_paper","term_paper"]=H0 at g0 g1 ⊢
 refine Zbb rfl ?_
 show wS (Zsy [some (.fl (ns.map .int)),none,none,none,none] H0) _
 unfold Zsy
 fail "g"
 refine Zzy _ _ _ (by omega) (by omega) fun cell=>?_
 fail "g"
 refine Zia (many:=31) (by omega) fun dg pd H1 l1 d1 gd1 n1 x1=>?_
 fail "g"
 refine Zez gd1 d1 (by omega) (by omega) fun r r0 r1=>?_
 fail "g"
 obtain⟨mo,hmo,el⟩:∃ mo:Nat,(2<=mo/\mo<=8)/\atI [D.int 8,.int 7,.int 6,.int 6] (r % 4)=some (.int mo):=by
  have:r % 4=0\/r % 4=1\/r % 4=2\/r % 4=3:=by omega
  rcases this with z | z | z | z<;>rw[z]
  ·exact⟨8,by omega,rfl⟩
  ·exact⟨7,by omega,rfl⟩
  ·exact⟨6,by omega,rfl⟩
  ·exact⟨6,by omega,rfl⟩
 refine w_ixR (x1.lst (by simp) last) el ?_
 fail "g"
 refine Zva (most:=mo) (fun H k Q h0 h1 q=>Zzy H k Q h0 h1 q) hmo fun ks rss H2 c lk lr x2=>?_
 have cr:CR ks rss:=CR.of c.hk c.h8 c.hu c.hl
 fail "g"
 refine Zvh cr fun pw dn H3 g3 hall l3 x3=>?_
 fail "g"
 refine Ztp (bs:=[]) g3 (hall [] (Wbg _)) ?_
 obtain⟨w,hw⟩:∃ w,W ks rss ks.length []=w:=⟨_,rfl⟩
 have eW:FW ks rss []=Zam w:=congrArg Zam hw
 rw[eW]
 have X3:=(((Fm.app (S:=[]) (H:=H0) [DO.lst [D.int 8,.int 7,.int 6,.int 6]]).trans x1).trans x2).trans x3
 have t0:=X3.keep (by simp) g0 (fun _ e=>by cases e)
 have t1:=X3.keep (by simp) g1 (fun _ e=>by cases e)
 fail "g"
 refine Zvj (fun σ' H'=>∃ (L:List (D×List Int)) (e:D) (p:Nat),Rt w ks rss L/\L.getLast? = some (e,[])/\L.length<=512/\H'[p]? = some (.lst (L.map (·.1)))/\σ'=[some (.fl (ns.map .int)),some (Zau ks rss),some (Zam w),some (.ref p),none]) ?_ ?_
 ·(refine WP.w_if ?_; fail "g")
  refine Zcq (b:=false) ?_
  fail "g"
  cases w with
  | false =>
   fail "g"
   refine Zkb (s:=false) (.inl ⟨rfl,rfl,rfl⟩) rfl cr c.hu hw (appL t0) fun L e p H4 rt la ln g4 l4 x4=>?_
   fail "g"
   exact⟨rfl,L,e,p,rt,la,ln,g4,rfl⟩
  | true =>
   fail "g"
   refine Zkb (s:=true) (.inr ⟨rfl,rfl,rfl⟩) rfl cr c.hu hw (appL t1) fun L e p H4 rt la ln g4 l4 x4=>?_
   fail "g"
   exact⟨rfl,L,e,p,rt,la,ln,g4,rfl⟩
 rintro _ H4 ⟨L,e,p,rt,la,ln,g4,rfl⟩
 fail "g"
 refine⟨_,rfl,⟨by omega,by omega⟩,?_⟩
 refine Zsf (fun σ H'=>Fm [] H4 H'/\∃ z4,σ=[some (.fl (ns.map .int)),some (Zau ks rss),some (Zam w),some (.ref p),z4]) (fun _ _ _=>Zg6) _ (fun d hd0 σ H5 ⟨i1,z4,i3⟩=>?_) _ _ ⟨Fm.refl,_,rfl⟩ fun σ H5 ⟨i1,z4,i3⟩=>?_
 ·subst i3
  simp only[Zbk,Waa,Wci] at hd0
  obtain⟨k,hk,rfl⟩:=hd0
  have hk3:k<3:=hk
  fail "i"
  refine Zzy _ _ _ (by omega) (by omega) fun cell=>?_
  fail "g"
  refine Zia (many:=40) (by omega) fun dg pd H6 l6 d6 g6 n6 x6=>?_
  fail "g"
  refine Yef (k:=30) g6 ?_
  rw[<- Wfa]
  fail "g"
  have X6:=(i1.trans x6).trans (Fm.app (S:=[]) [DO.lst ((dg.drop 30).map .int)])
  refine Zz2 (L:=L) c (X6.lst (by simp) g4) (by omega) rt la last (d6.drop 30) (by rw[Wed,l6]; omega) fun H7 x7=>?_
  fail "g"
  exact⟨X6.trans x7,_,rfl⟩
 ·subst i3
  fail "g"
  rfl
end K08
set_option maxHeartbeats 8000000
namespace K08
open PySem PySem.Spec PyProof.Rows L2 DL
nonrec def top (i:Nat):Uab:=PySem.Challenge.pw_allsome_k35_whole_picks_of_papers_are_go.main.body.getD i (.Pass ⟨0,0,0,0⟩)
nonrec abbrev s_is_whole:Uab:=top 2
theorem Zoo:FnScope ["thing"] ["thing"] (Zad s_is_whole):=⟨rfl,rfl,rfl,by decide +kernel,rfl,by decide +kernel,by decide +kernel⟩
nonrec abbrev s_is_open:Uab:=top 3
theorem Zrl:FnScope ["literal","play"] ["literal","play"] (Zad s_is_open):=⟨rfl,rfl,rfl,by decide +kernel,rfl,by decide +kernel,by decide +kernel⟩
nonrec abbrev s_is_right:Uab:=top 4
theorem Zom:FnScope ["literal","play"] ["literal","play"] (Zad s_is_right):=⟨rfl,rfl,rfl,by decide +kernel,rfl,by decide +kernel,by decide +kernel⟩
nonrec abbrev s_is_lost:Uab:=top 5
theorem Zkt:FnScope ["row","play","literal"] ["row","play"] (Zad s_is_lost):=⟨rfl,rfl,rfl,by decide +kernel,rfl,by decide +kernel,by decide +kernel⟩
nonrec abbrev s_first_numbers:Uab:=top 11
theorem Zes:FnScope ["rows","told","number","row"] ["rows"] (Zad s_first_numbers):=⟨rfl,rfl,rfl,by decide +kernel,rfl,by decide +kernel,by decide +kernel⟩
nonrec abbrev s_rows_behind:Uab:=top 12
theorem Zfz:FnScope ["rows","name","truth","right","told","row","first"] ["rows","name","truth"] (Zad s_rows_behind):=⟨rfl,rfl,rfl,by decide +kernel,rfl,by decide +kernel,by decide +kernel⟩
nonrec abbrev s_rows_behind_play:Uab:=top 13
theorem Zdn:FnScope ["rows","play","told","name","truth"] ["rows","play"] (Zad s_rows_behind_play):=⟨rfl,rfl,rfl,by decide +kernel,rfl,by decide +kernel,by decide +kernel⟩
nonrec abbrev s_other_side:Uab:=top 14
theorem Zlv:FnScope ["side"] ["side"] (Zad s_other_side):=⟨rfl,rfl,rfl,by decide +kernel,rfl,by decide +kernel,by decide +kernel⟩
nonrec abbrev s_winner_behind:Uab:=top 15
theorem Zdc:FnScope ["kinds","rows","many","who","truth"] ["kinds","rows","many"] (Zad s_winner_behind):=⟨rfl,rfl,rfl,by decide +kernel,rfl,by decide +kernel,by decide +kernel⟩
nonrec abbrev s_winner:Uab:=top 16
theorem Zt5:FnScope ["claim","play"] ["claim","play"] (Zad s_winner):=⟨rfl,rfl,rfl,by decide +kernel,rfl,by decide +kernel,by decide +kernel⟩
nonrec abbrev s_good_picks:Uab:=top 17
theorem Zgp:FnScope ["claim","play","who"] ["claim","play"] (Zad s_good_picks):=⟨rfl,rfl,rfl,by decide +kernel,rfl,by decide +kernel,by decide +kernel⟩
nonrec abbrev s_are_of_all:Uab:=top 19
theorem Zlq:FnScope ["kinds","literals"] ["kinds","literals"] (Zad s_are_of_all):=⟨rfl,rfl,rfl,by decide +kernel,rfl,by decide +kernel,by decide +kernel⟩
nonrec abbrev s_number_of_lost:Uab:=top 20
theorem Zd5:FnScope ["kinds","rows","row"] ["kinds","rows"] (Zad s_number_of_lost):=⟨rfl,rfl,rfl,by decide +kernel,rfl,by decide +kernel,by decide +kernel⟩
nonrec abbrev s_is_number_of:Uab:=top 25
theorem Zjs:FnScope ["thing","many"] ["thing","many"] (Zad s_is_number_of):=⟨rfl,rfl,rfl,by decide +kernel,rfl,by decide +kernel,by decide +kernel⟩
nonrec abbrev s_is_name_of_other:Uab:=top 26
theorem Zf6:FnScope ["kinds","side","thing"] ["kinds","side","thing"] (Zad s_is_name_of_other):=⟨rfl,rfl,rfl,by decide +kernel,rfl,by decide +kernel,by decide +kernel⟩
nonrec abbrev s_lessened:Uab:=top 27
theorem Zgf:FnScope ["kinds","side","row","stays"] ["kinds","side","row"] (Zad s_lessened):=⟨rfl,rfl,rfl,by decide +kernel,rfl,by decide +kernel,by decide +kernel⟩
nonrec abbrev s_without:Uab:=top 28
theorem Zrs:FnScope ["row","literal"] ["row","literal"] (Zad s_without):=⟨rfl,rfl,rfl,by decide +kernel,rfl,by decide +kernel,by decide +kernel⟩
nonrec abbrev s_both:Uab:=top 29
theorem Zou:FnScope ["one","other","told","literal"] ["one","other"] (Zad s_both):=⟨rfl,rfl,rfl,by decide +kernel,rfl,by decide +kernel,by decide +kernel⟩
nonrec abbrev s_joined:Uab:=top 30
theorem Ztw:FnScope ["one","other","name"] ["one","other","name"] (Zad s_joined):=⟨rfl,rfl,rfl,by decide +kernel,rfl,by decide +kernel,by decide +kernel⟩
nonrec abbrev s_made_by_less:Uab:=top 31
theorem Zid:FnScope ["kinds","side","made","step"] ["kinds","side","made","step"] (Zad s_made_by_less):=⟨rfl,rfl,rfl,by decide +kernel,rfl,by decide +kernel,by decide +kernel⟩
nonrec abbrev s_made_by_joined:Uab:=top 32
theorem Zhb:FnScope ["kinds","side","made","step"] ["kinds","side","made","step"] (Zad s_made_by_joined):=⟨rfl,rfl,rfl,by decide +kernel,rfl,by decide +kernel,by decide +kernel⟩
nonrec abbrev s_put_step:Uab:=top 35
theorem Zjm:FnScope ["kinds","side","pairs","step","row","less"] ["kinds","side","pairs","step","row"] (Zad s_put_step):=⟨rfl,rfl,rfl,by decide +kernel,rfl,by decide +kernel,by decide +kernel⟩
nonrec abbrev s_claims_row:Uab:=top 40
theorem Zll:FnScope ["claim","step"] ["claim","step"] (Zad s_claims_row):=⟨rfl,rfl,rfl,by decide +kernel,rfl,by decide +kernel,by decide +kernel⟩
nonrec abbrev s_is_used_up:Uab:=top 43
theorem Zk1:FnScope ["side","row","play"] ["side","row","play"] (Zad s_is_used_up):=⟨rfl,rfl,rfl,by decide +kernel,rfl,by decide +kernel,by decide +kernel⟩
nonrec abbrev s_literal_used:Uab:=top 44
theorem Zip:FnScope ["side","name","truth"] ["side","name","truth"] (Zad s_literal_used):=⟨rfl,rfl,rfl,by decide +kernel,rfl,by decide +kernel,by decide +kernel⟩
nonrec abbrev s_told_term:Uab:=top 45
theorem Zno:FnScope ["claim","step"] ["claim","step"] (Zad s_told_term):=⟨rfl,rfl,rfl,by decide +kernel,rfl,by decide +kernel,by decide +kernel⟩
nonrec abbrev s_made_by:Uab:=top 33
theorem Zrf:FnScope ["claim","side","first","made","step"] ["claim","side","first","made","step"] (Zad s_made_by):=⟨rfl,rfl,rfl,by decide +kernel,rfl,by decide +kernel,by decide +kernel⟩
nonrec abbrev s_all_made:Uab:=top 34
theorem Ziw:FnScope ["claim","side","first","steps","made","number","step","row"] ["claim","side","first","steps"] (Zad s_all_made):=⟨rfl,rfl,rfl,by decide +kernel,rfl,by decide +kernel,by decide +kernel⟩
nonrec abbrev s_by_paper:Uab:=top 46
theorem Zib:FnScope ["claim","side","first","steps","play","rows","name","step","row","truth"] ["claim","side","first","steps","play"] (Zad s_by_paper):=⟨rfl,rfl,rfl,by decide +kernel,rfl,by decide +kernel,by decide +kernel⟩
nonrec abbrev s_by_rows:Uab:=top 47
theorem Zqw:FnScope ["claim","steps","play"] ["claim","steps","play"] (Zad s_by_rows):=⟨rfl,rfl,rfl,by decide +kernel,rfl,by decide +kernel,by decide +kernel⟩
nonrec abbrev s_by_terms:Uab:=top 48
theorem Zoa:FnScope ["claim","steps","play"] ["claim","steps","play"] (Zad s_by_terms):=⟨rfl,rfl,rfl,by decide +kernel,rfl,by decide +kernel,by decide +kernel⟩
nonrec abbrev s_have_one_in_common:Uab:=top 50
theorem Zfl:FnScope ["one","other"] ["one","other"] (Zad s_have_one_in_common):=⟨rfl,rfl,rfl,by decide +kernel,rfl,by decide +kernel,by decide +kernel⟩
nonrec abbrev s_term_of_play:Uab:=top 51
theorem Ze4:FnScope ["rows","play","told","row","right"] ["rows","play"] (Zad s_term_of_play):=⟨rfl,rfl,rfl,by decide +kernel,rfl,by decide +kernel,by decide +kernel⟩
nonrec abbrev s_law_mix:Uab:=top 54
theorem Zkl:FnScope ["cell","k","prime","one"] ["cell","k"] (Zad s_law_mix):=⟨rfl,rfl,rfl,by decide +kernel,rfl,by decide +kernel,by decide +kernel⟩
nonrec abbrev s_law_digits:Uab:=top 55
theorem Zgr:FnScope ["cell","many","found","left_over","wide","k"] ["cell","many"] (Zad s_law_digits):=⟨rfl,rfl,rfl,by decide +kernel,rfl,by decide +kernel,by decide +kernel⟩
nonrec abbrev s_law_at:Uab:=top 56
theorem Zr7:FnScope ["script","k"] ["script","k"] (Zad s_law_at):=⟨rfl,rfl,rfl,by decide +kernel,rfl,by decide +kernel,by decide +kernel⟩
nonrec abbrev s_law_kinds:Uab:=top 57
theorem Zhr:FnScope ["some","many","found","k","kind"] ["some","many"] (Zad s_law_kinds):=⟨rfl,rfl,rfl,by decide +kernel,rfl,by decide +kernel,by decide +kernel⟩
nonrec abbrev s_law_row:Uab:=top 58
theorem Zkr:FnScope ["cell","many","wide","some","found","k"] ["cell","many","wide"] (Zad s_law_row):=⟨rfl,rfl,rfl,by decide +kernel,rfl,by decide +kernel,by decide +kernel⟩
nonrec abbrev s_law_claim:Uab:=top 59
theorem Zhn:FnScope ["script","most","some","many","kinds","size","rows"] ["script","most"] (Zad s_law_claim):=⟨rfl,rfl,rfl,by decide +kernel,rfl,by decide +kernel,by decide +kernel⟩
nonrec abbrev s_law_right:Uab:=top 60
theorem Zn3:FnScope ["literal","play"] ["literal","play"] (Zad s_law_right):=⟨rfl,rfl,rfl,by decide +kernel,rfl,by decide +kernel,by decide +kernel⟩
nonrec abbrev s_law_plays:Uab:=top 61
theorem Zhp:FnScope ["many","found","turn","more_plays","one"] ["many"] (Zad s_law_plays):=⟨rfl,rfl,rfl,by decide +kernel,rfl,by decide +kernel,by decide +kernel⟩
nonrec abbrev s_law_lost:Uab:=top 62
theorem Zif:FnScope ["rows","play","row"] ["rows","play"] (Zad s_law_lost):=⟨rfl,rfl,rfl,by decide +kernel,rfl,by decide +kernel,by decide +kernel⟩
nonrec abbrev s_law_winners:Uab:=top 63
theorem Zf2:FnScope ["claim","found","play","many","kinds","rows","both_v","other"] ["claim"] (Zad s_law_winners):=⟨rfl,rfl,rfl,by decide +kernel,rfl,by decide +kernel,by decide +kernel⟩
nonrec abbrev s_law_picked:Uab:=top 64
theorem Zla:FnScope ["claim","side","steps","play"] ["claim","side","steps","play"] (Zad s_law_picked):=⟨rfl,rfl,rfl,by decide +kernel,rfl,by decide +kernel,by decide +kernel⟩
nonrec abbrev s_law_match_right:Uab:=top 65
theorem Zds:FnScope ["claim","side","steps","some","play","kind","truth"] ["claim","side","steps","some"] (Zad s_law_match_right):=⟨rfl,rfl,rfl,by decide +kernel,rfl,by decide +kernel,by decide +kernel⟩
nonrec abbrev s_plan_behind:Uab:=top 21
theorem Zf1:FnScope ["kinds","rows","many","number"] ["kinds","rows","many"] (Zad s_plan_behind):=⟨rfl,rfl,rfl,by decide +kernel,rfl,by decide +kernel,by decide +kernel⟩
nonrec abbrev s_plan_by_picks:Uab:=top 22
theorem Zbs:FnScope ["kinds","rows","many","who","trees","truth","told"] ["kinds","rows","many"] (Zad s_plan_by_picks):=⟨rfl,rfl,rfl,by decide +kernel,rfl,by decide +kernel,by decide +kernel⟩
nonrec abbrev s_plan:Uab:=top 23
theorem Zzq:FnScope ["claim"] ["claim"] (Zad s_plan):=⟨rfl,rfl,rfl,by decide +kernel,rfl,by decide +kernel,by decide +kernel⟩
nonrec abbrev s_put_tree:Uab:=top 36
theorem Zje:FnScope ["kinds","side","end","pairs","tree","play","told"] ["kinds","side","end","pairs","tree","play"] (Zad s_put_tree):=⟨rfl,rfl,rfl,by decide +kernel,rfl,by decide +kernel,by decide +kernel⟩
nonrec abbrev s_put_each:Uab:=top 37
theorem Zb5:FnScope ["kinds","side","end","pairs","tree","play","name","numbers","one","other","truth","branch","row"] ["kinds","side","end","pairs","tree","play"] (Zad s_put_each):=⟨rfl,rfl,rfl,by decide +kernel,rfl,by decide +kernel,by decide +kernel⟩
nonrec abbrev s_paper:Uab:=top 38
theorem Zlr:FnScope ["claim","side","end","told","pairs"] ["claim","side","end"] (Zad s_paper):=⟨rfl,rfl,rfl,by decide +kernel,rfl,by decide +kernel,by decide +kernel⟩
nonrec abbrev s_row_paper:Uab:=top 41
theorem Zhl:FnScope ["claim","end"] ["claim"] (Zad s_row_paper):=⟨rfl,rfl,rfl,by decide +kernel,rfl,by decide +kernel,by decide +kernel⟩
nonrec abbrev s_term_paper:Uab:=top 52
theorem Zgq:FnScope ["claim","end"] ["claim"] (Zad s_term_paper):=⟨rfl,rfl,rfl,by decide +kernel,rfl,by decide +kernel,by decide +kernel⟩
nonrec abbrev s_law:Uab:=top 66
theorem Zyv:FnScope ["script","claim","side","steps","k"] ["script"] (Zad s_law):=⟨rfl,rfl,rfl,by decide +kernel,rfl,by decide +kernel,by decide +kernel⟩
nonrec abbrev Zfc:Uab:=(Za6 s_row_paper).getD 0 (.Pass ⟨0,0,0,0⟩)
theorem Zh0:ClScope ["tree","play","claim"] ["tree","play"] "claim" (Zad Zfc):=⟨rfl,rfl,rfl,by decide +kernel,rfl,by decide +kernel,by decide +kernel,rfl,by decide +kernel⟩
nonrec abbrev Zeq:Uab:=(Za6 s_term_paper).getD 0 (.Pass ⟨0,0,0,0⟩)
theorem Zd0:ClScope ["tree","play","claim","term"] ["tree","play"] "claim" (Zad Zeq):=⟨rfl,rfl,rfl,by decide +kernel,rfl,by decide +kernel,by decide +kernel,rfl,by decide +kernel⟩
structure Top (K:Xb) (mg:Str->Option Vb):Prop where
 t_is_whole:Tf K mg "is_whole" K08.s_is_whole
 t_is_open:Tf K mg "is_open" K08.s_is_open
 t_is_right:Tf K mg "is_right" K08.s_is_right
 t_is_lost:Tf K mg "is_lost" K08.s_is_lost
 t_first_numbers:Tf K mg "first_numbers" K08.s_first_numbers
 t_rows_behind:Tf K mg "rows_behind" K08.s_rows_behind
 t_rows_behind_play:Tf K mg "rows_behind_play" K08.s_rows_behind_play
 t_other_side:Tf K mg "other_side" K08.s_other_side
 t_winner_behind:Tf K mg "winner_behind" K08.s_winner_behind
 t_winner:Tf K mg "winner" K08.s_winner
 t_good_picks:Tf K mg "good_picks" K08.s_good_picks
 t_are_of_all:Tf K mg "are_of_all" K08.s_are_of_all
 t_number_of_lost:Tf K mg "number_of_lost" K08.s_number_of_lost
 t_is_number_of:Tf K mg "is_number_of" K08.s_is_number_of
 t_is_name_of_other:Tf K mg "is_name_of_other" K08.s_is_name_of_other
 t_lessened:Tf K mg "lessened" K08.s_lessened
 t_without:Tf K mg "without" K08.s_without
 t_both:Tf K mg "both" K08.s_both
 t_joined:Tf K mg "joined" K08.s_joined
 t_made_by_less:Tf K mg "made_by_less" K08.s_made_by_less
 t_made_by_joined:Tf K mg "made_by_joined" K08.s_made_by_joined
 t_put_step:Tf K mg "put_step" K08.s_put_step
 t_claims_row:Tf K mg "claims_row" K08.s_claims_row
 t_is_used_up:Tf K mg "is_used_up" K08.s_is_used_up
 t_literal_used:Tf K mg "literal_used" K08.s_literal_used
 t_told_term:Tf K mg "told_term" K08.s_told_term
 t_made_by:Tf K mg "made_by" K08.s_made_by
 t_all_made:Tf K mg "all_made" K08.s_all_made
 t_by_paper:Tf K mg "by_paper" K08.s_by_paper
 t_by_rows:Tf K mg "by_rows" K08.s_by_rows
 t_by_terms:Tf K mg "by_terms" K08.s_by_terms
 t_have_one_in_common:Tf K mg "have_one_in_common" K08.s_have_one_in_common
 t_term_of_play:Tf K mg "term_of_play" K08.s_term_of_play
 t_law_mix:Tf K mg "_law_mix" K08.s_law_mix
 t_law_digits:Tf K mg "_law_digits" K08.s_law_digits
 t_law_at:Tf K mg "_law_at" K08.s_law_at
 t_law_kinds:Tf K mg "_law_kinds" K08.s_law_kinds
 t_law_row:Tf K mg "_law_row" K08.s_law_row
 t_law_claim:Tf K mg "_law_claim" K08.s_law_claim
 t_law_right:Tf K mg "_law_right" K08.s_law_right
 t_law_plays:Tf K mg "_law_plays" K08.s_law_plays
 t_law_lost:Tf K mg "_law_lost" K08.s_law_lost
 t_law_winners:Tf K mg "_law_winners" K08.s_law_winners
 t_law_picked:Tf K mg "_law_picked" K08.s_law_picked
 t_law_match_right:Tf K mg "_law_match_right" K08.s_law_match_right
 t_plan_behind:Tf K mg "plan_behind" K08.s_plan_behind
 t_plan_by_picks:Tf K mg "plan_by_picks" K08.s_plan_by_picks
 t_plan:Tf K mg "plan" K08.s_plan
 t_put_tree:Tf K mg "put_tree" K08.s_put_tree
 t_put_each:Tf K mg "put_each" K08.s_put_each
 t_paper:Tf K mg "paper" K08.s_paper
 t_row_paper:Tn K mg "row_paper" K08.s_row_paper
 t_term_paper:Tn K mg "term_paper" K08.s_term_paper
 t_law:Tf K mg "law" K08.s_law
 n_abs:mg "abs" = none
 n_all:mg "all" = none
 n_any:mg "any" = none
 n_bool:mg "bool" = none
 n_enumerate:mg "enumerate" = none
 n_int:mg "int" = none
 n_isinstance:mg "isinstance" = none
 n_len:mg "len" = none
 n_list:mg "list" = none
 n_max:mg "max" = none
 n_range:mg "range" = none
 n_sorted:mg "sorted" = none
 n_tuple:mg "tuple" = none
 n_zip:mg "zip" = none
 c_TRUTHS:Gc K mg "TRUTHS" k_TRUTHS
 v_claims_row:Fv K mg "claims_row"
 v_told_term:Fv K mg "told_term"
section
variable {P:Vh} {w:Vu} {K:Xb} {mg:Str->Option Vb} {base:Vz}
local macro_rules | `(tactic| fail $s:str)=>do
 if s.getString.take 1 != "~" then Lean.Macro.throwUnsupported
 let mut o:Array (Lean.TSyntax `tactic) := #[]
 let ls:=("a=Q _;b=R Zaw ? ? ?;c=E Za2;d=R Zaj ? Za8;e=R Zaj ? ?;g=E nd;h=E ( Zaa ( pv 0 ) );i=R Zbr ?;j=E ( Zaa ( pv 1 ) );k=R Zf3 ? ? Za8;l=E ( Zaa ( pv 2 ) );m=E ( Zaa ( pv 4 ) );n=R Zbz Zi0 ? T.n_len Zny ?;o=R Zo4 Tbe ? ? ? ?;p=E ( Zaa ( pv 3 ) );q=I _;r=E Zae;s=E Za1 ixf ( Zaa ( pv 0 ) ) Zae @f;t=R Za0 Zfk ? Zae;u=R Za9 @i3 ? ? ? ?;v=E Zbe;w=R Za1 ixf ? ? @f;y=R Zcv ?;z=R Zot ?;A=R Zel ?;B=E Za1 ixf ( Zaa ( pv 3 ) ) Zae @f;D=E Zbr Zkk;E=R Za9 @i4 ? ? ? ?;F=E Za1 ixf ( Zaa ( pv 2 ) ) Zae @f;G=R PWf.pt ?;H=R Za9 @i2 ? ? ? ?;I=E Zot Za2;J=R Yc5 ? ?;K=E Zbr Zoj;L=R Zzb ?;M=R Za0 Zhk ? Zae;N=R Zcl @i2 ? ? ?;O=R Zbz Zu7 ? T.n_abs Zux ?;P=R Yax ?;Q=R Zcl @i3 ? ? ?;R=R Zcl @i5 ? ? ?;S=E ( Zaa ( pv 5 ) );T=E Zcv Za2;U=R Zfo ?;V=R Zha Zob ? T.n_tuple Zpw ?;W=R Zp1 Ux Uy Zfq ( Zaa ( pv 2 ) ) ?;X=R Zrq ? T.n_range ?;Y=R Yaa ? ?;Z=E Zfo ( Zaa ( pv 0 ) );0=R Ztz ? ?;1=R Zgy ? ?;2=R Zgy ? Zpa;3=R Za9 @i6 ? ? ? ?;4=R Zcl @i4 ? ? ?;5=R Zw2 ?;6=E Zxh;7=E Za0 Zbj ( Zaa ( pv 1 ) ) Zae;8=R Zat ( Zby hr.units ) ? Zae ( Za3 _ );9=R Za0 Zbj ( Zaa ( pv 2 ) ) ?;aa=E Zfo ( Zaa ( pv 1 ) );ab=R Za1 ixf ( Zaa ( pv 0 ) ) ? @f;ac=R Za1 ixf ( Zaa ( pv 2 ) ) ? @f;ad=R Zal ( ok_is_number_of T ) ( hr.mono @d ) ? ?;ae=E Za1 ixf ( Zaa ( pv 1 ) ) Zae @f;af=E ( Zaa ( pv 6 ) );ag=R Za0 Zbj ? Zae;ah=R Za0 Zbj ? ?;ai=R Zha Zsu ? T.n_int Zym ?;aj=R Zal ( ok_law_digits T ) ( hr.mono @d ) ? ?;ak=R Zal ( ok_law_at T ) ( hr.mono @d ) ? ?;al=R Zbz Zsi ? T.n_isinstance Zk9 ?;am=R Zcs ( Zby hr.units ) ? ? ( Za3 _ );an=R Za1 ixf ( Zaa ( pv 1 ) ) ? @f;ao=R Zal ( ok_is_right T ) ( hr.mono @d ) ? ?;ap=R Zal ( ok_winner T ) ( hr.mono @d ) ? ?;aq=R Zat ( Zhq hr.units ) ? Zae ( Za3 _ );ar=R Zat ( Zby hr.units ) ? Zbe ( Za3 _ );as=E Za1 ixf ( Zaa ( pv 4 ) ) Zae @f;at=E Za0 Zin Zae ( Zaa ( pv 1 ) );au=R Za1 ixf ( Zaa ( pv 3 ) ) ? @f;av=R Za0 Zbj ( Zaa ( pv 4 ) ) ?;aw=E Za1 ixf ( Zaa ( pv 4 ) ) ( Zaa ( pv 3 ) ) @f;ax=R Zat ( Zhq hr.units ) ? ( Zaa ( pv 1 ) ) ( Za3 _ )" : String).splitOn ";"
 for w in (s.getString.drop 1).toString.splitOn " " do
  if w == "f" then o:=o.push (<- `(tactic| first | exact Tbb rfl | exact Tav rfl)); continue
  if w == "x" then o:=o.push (<- `(tactic| refine Zgu ?_ (fun _=>rfl))); continue
  if w == "C" then o:=o.push (<- `(tactic| with_unfolding_all rfl)); continue
  if w == "U1" then o:=o.push (<- `(tactic| (intro _ _ _ _ _ _ us hl; obtain⟨_,e⟩:=us1 hl; subst e; rfl))); continue
  if w == "U2" then o:=o.push (<- `(tactic| (intro _ _ _ _ _ _ us hl; obtain⟨_,_,e⟩:=us2 hl; subst e; rfl))); continue
  if w == "U3" then o:=o.push (<- `(tactic| (intro _ _ _ _ _ _ us hl; obtain⟨_,_,_,e⟩:=us3 hl; subst e; rfl))); continue
  if w == "U4" then o:=o.push (<- `(tactic| (intro _ _ _ _ _ _ us hl; obtain⟨_,_,_,_,e⟩:=us4 hl; subst e; rfl))); continue
  if w == "U5" then o:=o.push (<- `(tactic| (intro _ _ _ _ _ _ us hl; obtain⟨_,_,_,_,_,e⟩:=us5 hl; subst e; rfl))); continue
  let some l:=ls.find? (·.startsWith (w ++ "=")) | Lean.Macro.throwUnsupported
  let ts:=(l.drop (w.length+1)).toString.splitOn " "
  let mut st:Array (Array Lean.Term) := #[#[]]
  for t in ts.drop 1 do
   if t == "(" then st:=st.push #[] else
    let mut x:Lean.Term:=⟨Lean.mkIdent t.toName⟩
    if t == ")" then
     let a:=st.back!
     st:=st.pop
     x <- `(($(Lean.Syntax.mkApp a[0]! (a.extract 1 a.size))))
    else if t == "?" then x <- `(?_)
    else if t == "_" then x <- `(_)
    else if t == "@d" then x <- `(by decide)
    else if t == "@r" then x <- `(by rfl)
    else if t == "@f" then x <- `(fun _ _=>rfl)
    else if t.startsWith "@i" then
     let n <- `(a ($(Lean.mkIdent `i) := $(Lean.Syntax.mkNumLit (t.drop 2).toString)))
     x:=⟨n.raw[1][0]⟩
    else if t.all Char.isDigit then x:=Lean.Syntax.mkNumLit t
    st:=st.push (st.back!.push x)
    st:=(st.extract 0 (st.size - 2)).push st.back!
  let a:=st[0]!
  let e:=Lean.Syntax.mkApp a[0]! (a.extract 1 a.size)
  o:=o.push (<- match ts.head! with
   | "R" => `(tactic| refine $e)
   | "E" => `(tactic| exact $e)
   | "I" => `(tactic| intro _ _ _ _ _ _)
   | "F" => `(tactic| first | exact Or.inl rfl | exact Or.inr rfl)
   | _ => `(tactic| rfl))
 `(tactic| ($[$o]*))
theorem Zi9 (T:Top K mg):Fn P w K mg base 1 "is_whole" ["thing"] Zfr:=by
 refine(fun h=>h:_->Fn P w K mg base 1 "is_whole" ["thing"] (Za7 1 1 Zd6)) (Zba (N:=["thing"]) (k:=0) T.t_is_whole Zoo (by fail "~U1") ?_)
 intro f cdv A outer s H E hr
 unfold Zd6
 fail "~d i Y al a b h b"
 refine Ztc ?_ T.n_int Zym
 fail "~a c a a"
 refine Zlk ?_
 refine Ztj ?_
 fail "~al a b h b"
 refine Ztc ?_ T.n_bool Yay
 fail "~a c a a"
theorem Zka (T:Top K mg):Fn P w K mg base 1 "is_open" ["literal","play"] Zgn:=by
 refine(fun h=>h:_->Fn P w K mg base 1 "is_open" ["literal","play"] (Za7 2 2 Zfh)) (Zba (N:=["literal","play"]) (k:=0) T.t_is_open Zrl (by fail "~U2") ?_)
 intro f cdv A outer s H E hr
 unfold Zfh
 fail "~d i"
 refine Zcs Ziv ?_ ?_ (Za3 _)
 fail "~O a b h c a n a b j c a"
theorem ok_is_right (T:Top K mg):Fn P w K mg base 2 "is_right" ["literal","play"] Zdf:=by
 refine(fun h=>h:_->Fn P w K mg base 2 "is_right" ["literal","play"] (Za7 2 2 Zec)) (Zba (N:=["literal","play"]) (k:=1) T.t_is_right Zom (by fail "~U2") ?_)
 intro f cdv A outer s H E hr
 unfold Zec
 fail "~d i Y"
 refine Ztj ?_
 refine Zal (Zka T) (hr.mono (by decide)) ?_ ?_
 fail "~a b h b j c a a"
 refine Zlk ?_
 fail "~am an M O a b h c a"
 exact Zcs Ziv (Zaa (pv 0)) Zae (Za3 _)
theorem Zre (T:Top K mg):Fn P w K mg base 3 "is_lost" ["row","play"] Zik:=by
 refine(fun h=>h:_->Fn P w K mg base 3 "is_lost" ["row","play"] (Za7 2 3 Ze0)) (Zba (N:=["row","play","literal"]) (k:=2) T.t_is_lost Zkt (by fail "~U2") ?_)
 intro f cdv A outer s H E hr
 unfold Ze0
 fail "~e o a Z N"
 exact Zkt.nd
 fail "~a f d k G J x"
 refine Zal (Zka T) (hr.mono (by decide)) ?_ ?_
 fail "~a b l b j c a a P x ao a b l b j c a a d D d D"
theorem Zet (T:Top K mg):Fn P w K mg base 1 "first_numbers" ["rows"] Zbo:=by
 refine(fun h=>h:_->Fn P w K mg base 1 "first_numbers" ["rows"] (Za7 1 4 Zb3)) (Zba (N:=["rows","told","number","row"]) (k:=0) T.t_first_numbers Zes (by fail "~U1") ?_)
 intro f cdv A outer s H E hr
 unfold Zb3
 have nd:=Zes.nd
 fail "~e"
 refine Za9 (i:=1) ?_ ?_ ?_ Zlx
 fail "~g a f e o a"
 refine Zxl ?_ T.n_enumerate ?_
 fail "~a b h c a 0 a 1 N g a f 2 Q g a f d A"
 refine Zup Uo Tag (Yan hr.units) (Zaa (pv 1)) ?_
 fail "~b p b l c a a d"
 exact Zbr (Zaa (pv 1))
theorem Zdz (T:Top K mg):Fn P w K mg base 1 "rows_behind" ["rows","name","truth"] Za5:=by
 refine(fun h=>h:_->Fn P w K mg base 1 "rows_behind" ["rows","name","truth"] (Za7 3 7 Zck)) (Zba (N:=["rows","name","truth","right","told","row","first"]) (k:=0) T.t_rows_behind Zfz (by fail "~U3") ?_)
 intro f cdv A outer s H E hr
 unfold Zck
 have nd:=Zfz.nd
 fail "~e u g a f"
 refine Zpb ?_ (Zaa (pv 1)) ?_
 exact Zgu (Zaa (pv 2)) (fun _=>rfl)
 exact Zew Zda (Zaa (pv 1))
 fail "~e"
 refine Za9 (i:=4) ?_ ?_ ?_ Zlx
 fail "~g a f e o a"
 exact Zsh (Zaa (pv 0))
 fail "~R g a f e 3 g a f"
 refine Zpb ?_ ?_ Zae
 exact Zgu (Zaa (pv 5)) (fun _=>rfl)
 exact Za1 ixf (Zaa (pv 5)) Zae (fun _ _=>rfl)
 fail "~d"
 refine Zf3 ?_ ?_ ?_
 refine Zat (Zby hr.units) (Zaa (pv 6)) ?_ (Za3 _)
 exact Zew Zda (Zaa (pv 3))
 fail "~d A"
 refine Zup Uo Tag (Yan hr.units) (Zaa (pv 4)) ?_
 fail "~b"
 refine Ze7 (Zaa (pv 5)) ?_ Zgv
 exact Zgo Zae
 fail "~b"
 exact Za1 (Zqo hr.units) (Zaa (pv 0)) (Zaa (pv 5)) (fun _ _=>rfl)
 fail "~c a a d k"
 exact Zat (Zhq hr.units) (Zaa (pv 6)) (Zaa (pv 3)) (Za3 _)
 fail "~d A"
 refine Zup Uo Tag (Yan hr.units) (Zaa (pv 4)) ?_
 fail "~b S b"
 exact Za1 (Zqo hr.units) (Zaa (pv 0)) (Zaa (pv 5)) (fun _ _=>rfl)
 fail "~c a a d"
 exact Zbr (Zaa (pv 4))
theorem Zf7 (T:Top K mg):Fn P w K mg base 2 "rows_behind_play" ["rows","play"] Zbx:=by
 refine(fun h=>h:_->Fn P w K mg base 2 "rows_behind_play" ["rows","play"] (Za7 2 5 Zbg)) (Zba (N:=["rows","play","told","name","truth"]) (k:=1) T.t_rows_behind_play Zdn (by fail "~U2") ?_)
 intro f cdv A outer s H E hr
 unfold Zbg
 have nd:=Zdn.nd
 fail "~e H g a f"
 refine Zal (Zet T) (hr.mono (by decide)) ?_ ?_
 fail "~a b h c a e o a"
 refine Zt8 ?_ T.n_enumerate ?_
 fail "~a b j c a 0 a 1 Q g a f 2 4 g a f d H g a f"
 refine Zal (Zdz T) (hr.mono (by decide)) ?_ ?_
 fail "~a b l b p b m c a a a d"
 exact Zbr (Zaa (pv 2))
theorem Zgw (T:Top K mg):Fn P w K mg base 1 "other_side" ["side"] Zbp:=by
 refine(fun h=>h:_->Fn P w K mg base 1 "other_side" ["side"] (Za7 1 1 Zc2)) (Zba (N:=["side"]) (k:=0) T.t_other_side Zlv (by fail "~U1") ?_)
 intro f cdv A outer s H E hr
 unfold Zc2
 fail "~d i"
 refine Zpb ?_ Zbe Zbe
 exact Zat (Zby hr.units) (Zaa (pv 0)) Zbe (Za3 _)
theorem Zhx (T:Top K mg):Fn P w K mg base 12 "winner_behind" ["kinds","rows","many"] Zcm:=by
 refine(fun h=>h:_->Fn P w K mg base 12 "winner_behind" ["kinds","rows","many"] (Zzx 3 5 Za4 10)) (Zx1 (N:=["kinds","rows","many","who","truth"]) (k:=1) T.t_winner_behind Zdc (by fail "~U3") ?_ 10)
 intro F j G f cdv A outer s H E hr
 unfold Za4
 fail "~e k"
 refine Zat (dinf hr.units) ?_ (Zaa (pv 1)) ?_
 fail "~T C d"
 exact Zbr Zbe
 fail "~e k 8"
 refine Zbz Zkf ?_ T.n_len Zny ?_
 fail "~a b j c a d"
 exact Zbr Zbe
 fail "~e u"
 exact Zdc.nd
 fail "~a f"
 exact Za1 ixf (Zaa (pv 0)) (Zaa (pv 2)) (fun _ _=>rfl)
 fail "~e o a U"
 refine Zmj ?_ T.c_TRUTHS
 fail "~a 4"
 exact Zdc.nd
 fail "~a f d k"
 refine Zat (Zby hr.units) ?_ (Zaa (pv 3)) (Za3 _)
 refine Zal G (hr.mono (Xe _)) ?_ ?_
 fail "~a b h b"
 refine Zal (Zdz T) (hr.mono (by omega)) ?_ ?_
 fail "~a b j b"
 exact Za0 Zbj (Zaa (pv 2)) Zae
 fail "~b m c a a a b"
 exact Za0 Zbj (Zaa (pv 2)) Zae
 fail "~c a a a d"
 exact Zbr (Zaa (pv 3))
 fail "~d i"
 refine Zal (Zgw T) (hr.mono (by omega)) ?_ ?_
 fail "~a b p c a"
theorem ok_winner (T:Top K mg):Fn P w K mg base 13 "winner" ["claim","play"] Zeo:=by
 refine(fun h=>h:_->Fn P w K mg base 13 "winner" ["claim","play"] (Za7 2 2 Zgz)) (Zba (N:=["claim","play"]) (k:=12) T.t_winner Zt5 (by fail "~U2") ?_)
 intro f cdv A outer s H E hr
 unfold Zgz
 fail "~d i"
 refine Zal (Zhx T) (hr.mono (by decide)) ?_ ?_
 fail "~a b s b"
 refine Zal (Zf7 T) (hr.mono (by decide)) ?_ ?_
 fail "~a b s b j c a a b n a b j c a c a a a"
theorem Zln (T:Top K mg):Fn P w K mg base 14 "good_picks" ["claim","play"] Zfj:=by
 refine(fun h=>h:_->Fn P w K mg base 14 "good_picks" ["claim","play"] (Za7 2 3 Zc3)) (Zba (N:=["claim","play","who"]) (k:=13) T.t_good_picks Zgp (by fail "~U2") ?_)
 intro f cdv A outer s H E hr
 unfold Zc3
 fail "~e k"
 refine Zat (Zby hr.units) ?_ ?_ (Za3 _)
 fail "~n a b j c a n a b s c a d i I e H"
 exact Zgp.nd
 fail "~a f w s n a b j c a d i"
 refine Zkh (cn:=["claim","play","who"]) ?_ (Zg2 (x := "truth") (cn:=["claim","play","who"]) (ci:=[0,1,2]) (by decide +kernel)) ?_ ?_ ?_
 fail "~a U"
 refine Zmj ?_ T.c_TRUTHS
 fail "~a q 5"
 refine Zat (Zby hr.units) ?_ (Zaa (pv 3)) (Za3 _)
 fail "~ap a b j b 9 y b h c a c a a q h"
theorem Zls (T:Top K mg):Fn P w K mg base 1 "are_of_all" ["kinds","literals"] Ze9:=by
 refine(fun h=>h:_->Fn P w K mg base 1 "are_of_all" ["kinds","literals"] (Za7 2 2 Zc4)) (Zba (N:=["kinds","literals"]) (k:=0) T.t_are_of_all Zlq (by fail "~U2") ?_)
 intro f cdv A outer s H E hr
 unfold Zc4
 fail "~d i"
 refine Zbz (Zmx (by rfl)) ?_ T.n_all Zx3 ?_
 fail "~a b"
 refine Zkh (cn:=["kinds"]) ?_ (Zg2 (x := "literal") (cn:=["kinds"]) (ci:=[0]) (by decide +kernel)) ?_ ?_ ?_
 fail "~a aa q 6 q"
 refine Zcs (Zby hr.units) ?_ Zbe (Za3 _)
 fail "~an M O a b h c a c a"
theorem Zhc (T:Top K mg):Fn P w K mg base 2 "number_of_lost" ["kinds","rows"] Zdd:=by
 refine(fun h=>h:_->Fn P w K mg base 2 "number_of_lost" ["kinds","rows"] (Za7 2 3 Zbt)) (Zba (N:=["kinds","rows","row"]) (k:=1) T.t_number_of_lost Zd5 (by fail "~U2") ?_)
 intro f cdv A outer s H E hr
 unfold Zbt
 fail "~e o a"
 exact Zsh (Zaa (pv 1))
 fail "~N"
 exact Zd5.nd
 fail "~a f d k x"
 refine Zal (Zls T) (hr.mono (by decide)) ?_ ?_
 fail "~a b h b l c a a d i"
 exact Za1 (Zqo hr.units) (Zaa (pv 1)) (Zaa (pv 2)) (fun _ _=>rfl)
 fail "~d K"
theorem ok_is_number_of (T:Top K mg):Fn P w K mg base 2 "is_number_of" ["thing","many"] Zbw:=by
 refine(fun h=>h:_->Fn P w K mg base 2 "is_number_of" ["thing","many"] (Za7 2 2 Zb8)) (Zba (N:=["thing","many"]) (k:=1) T.t_is_number_of Zjs (by fail "~U2") ?_)
 intro f cdv A outer s H E hr
 unfold Zb8
 fail "~d i Y"
 refine Zal (Zi9 T) (hr.mono (by decide)) ?_ ?_
 fail "~a b h c a"
 refine Zlk ?_
 refine Zmb Zu1 Zuh Zae (Zaa (pv 0)) (Zaa (pv 1)) ?_
 fail "~C"
theorem Zgc (T:Top K mg):Fn P w K mg base 2 "is_name_of_other" ["kinds","side","thing"] Zco:=by
 refine(fun h=>h:_->Fn P w K mg base 2 "is_name_of_other" ["kinds","side","thing"] (Za7 3 3 Zbh)) (Zba (N:=["kinds","side","thing"]) (k:=1) T.t_is_name_of_other Zf6 (by fail "~U3") ?_)
 intro f cdv A outer s H E hr
 unfold Zbh
 fail "~d i Y"
 refine Zal (Zi9 T) (hr.mono (by decide)) ?_ ?_
 fail "~a b l c a Y"
 refine Zmb Zu1 Zu1 Zae (Zaa (pv 2)) ?_ ?_
 fail "~n a b h c a C"
 refine Zlk ?_
 refine Zcs (Zhq hr.units) ?_ (Zaa (pv 1)) (Za3 _)
 fail "~ab"
 exact Za0 Zhk (Zaa (pv 2)) Zae
theorem Ziy (T:Top K mg):Fn P w K mg base 1 "lessened" ["kinds","side","row"] Zfu:=by
 refine(fun h=>h:_->Fn P w K mg base 1 "lessened" ["kinds","side","row"] (Za7 3 4 Zd1)) (Zba (N:=["kinds","side","row","stays"]) (k:=0) T.t_lessened Zgf (by fail "~U3") ?_)
 intro f cdv A outer s H E hr
 unfold Zd1
 fail "~e u"
 exact Zgf.nd
 fail "~a f n a b l c a e"
 refine Zun Tbe ?_ ?_
 fail "~G"
 refine Zlz ?_ ?_
 exact Zat Ziv (Zaa (pv 3)) Zae (Za3 _)
 refine Zh4 ?_
 refine Zat (Zby hr.units) ?_ (Zaa (pv 1)) (Za3 _)
 fail "~ab M O a b ac"
 exact Za0 Zhk (Zaa (pv 3)) Zae
 fail "~c a d"
 refine Zy3 (i:=3) Yd1 ?_ ?_ ?_ Zae
 exact Zgf.nd
 fail "~a f d i"
 refine Ze7 (Zaa (pv 2)) Zgv ?_
 exact Zgo (Zaa (pv 3))
theorem Zko (T:Top K mg):Fn P w K mg base 1 "without" ["row","literal"] Zgt:=by
 refine(fun h=>h:_->Fn P w K mg base 1 "without" ["row","literal"] (Za7 2 2 Ze5)) (Zba (N:=["row","literal"]) (k:=0) T.t_without Zrs (by fail "~U2") ?_)
 intro f cdv A outer s H E hr
 unfold Ze5
 fail "~d i V a b"
 refine Zkh (cn:=["literal"]) ?_ (Zg2 (x := "other") (cn:=["literal"]) (ci:=[1]) (by decide +kernel)) ?_ ?_ ?_
 fail "~a Z q 5"
 exact Zat (Zhq hr.units) (Zaa (pv 0)) (Zaa (pv 1)) (Za3 _)
 fail "~q h c a"
theorem Zz1 (T:Top K mg):Fn P w K mg base 1 "both" ["one","other"] Zs7:=by
 refine(fun h=>h:_->Fn P w K mg base 1 "both" ["one","other"] (Za7 2 4 Zni)) (Zba (N:=["one","other","told","literal"]) (k:=0) T.t_both Zou (by fail "~U2") ?_)
 intro f cdv A outer s H E hr
 unfold Zni
 fail "~e H"
 exact Zou.nd
 fail "~a f"
 refine Zha Zrn ?_ T.n_list Yar ?_
 fail "~a b h c a e o a aa Q"
 exact Zou.nd
 fail "~a f e k"
 refine Zat (Zua hr.units) ?_ (Zaa (pv 0)) ?_
 exact Zew Zda (Zaa (pv 3))
 fail "~C d K d k"
 refine Zat (Zkg hr.units) (Zaa (pv 3)) (Zaa (pv 0)) ?_
 fail "~C d A W b p c a d i V a b"
 refine Zvb ?_ T.n_sorted ?_ T.n_abs ?_
 fail "~a a b l c a c a"
theorem Zmr (T:Top K mg):Fn P w K mg base 2 "joined" ["one","other","name"] Zh8:=by
 refine(fun h=>h:_->Fn P w K mg base 2 "joined" ["one","other","name"] (Za7 3 3 Zgm)) (Zba (N:=["one","other","name"]) (k:=1) T.t_joined Ztw (by fail "~U3") ?_)
 intro f cdv A outer s H E hr
 unfold Zgm
 fail "~e k G J"
 refine Zat (Zkg hr.units) (Zaa (pv 2)) (Zaa (pv 0)) ?_
 fail "~C P"
 refine Zat (Zkg hr.units) ?_ (Zaa (pv 1)) ?_
 exact Zew Zda (Zaa (pv 2))
 fail "~C d K d i"
 refine Zal (Zz1 T) (hr.mono (by decide)) ?_ ?_
 fail "~a b"
 refine Zal (Zko T) (hr.mono (by decide)) ?_ ?_
 fail "~a b h b l c a a b"
 refine Zal (Zko T) (hr.mono (by decide)) ?_ ?_
 fail "~a b j b"
 exact Zew Zda (Zaa (pv 2))
 fail "~c a a c a a"
theorem Zii (T:Top K mg):Fn P w K mg base 3 "made_by_less" ["kinds","side","made","step"] Zf0:=by
 refine(fun h=>h:_->Fn P w K mg base 3 "made_by_less" ["kinds","side","made","step"] (Za7 4 4 Zb9)) (Zba (N:=["kinds","side","made","step"]) (k:=2) T.t_made_by_less Zid (by fail "~U4") ?_)
 intro f cdv A outer s H E hr
 unfold Zb9
 fail "~e k G J aq n a b p c a P L x ad a b B b n a b l c a c a a d K d i"
 refine Zal (Ziy T) (hr.mono (by decide)) ?_ ?_
 fail "~a b h b j b ac B c a a a"
theorem Zg9 (T:Top K mg):Fn P w K mg base 3 "made_by_joined" ["kinds","side","made","step"] Zer:=by
 refine(fun h=>h:_->Fn P w K mg base 3 "made_by_joined" ["kinds","side","made","step"] (Za7 4 4 Zbu)) (Zba (N:=["kinds","side","made","step"]) (k:=2) T.t_made_by_joined Zhb (by fail "~U4") ?_)
 intro f cdv A outer s H E hr
 unfold Zbu
 fail "~e k G J aq n a b p c a J L x ad a b B b n a b l c a c a a P L x ad a b B b n a b l c a c a a d K e k L x"
 refine Zal (Zgc T) (hr.mono (by decide)) ?_ ?_
 fail "~a b h b j b B c a a a d K d i"
 refine Zal (Zmr T) (hr.mono (by decide)) ?_ ?_
 fail "~a b ac B b ac B b B c a a a"
theorem Zjd (T:Top K mg):Fn P w K mg base 2 "put_step" ["kinds","side","pairs","step","row"] Zfp:=by
 refine(fun h=>h:_->Fn P w K mg base 2 "put_step" ["kinds","side","pairs","step","row"] (Za7 5 6 Zd2)) (Zba (N:=["kinds","side","pairs","step","row","less"]) (k:=1) T.t_put_step Zjm (by fail "~U5") ?_)
 intro f cdv A outer s H E hr
 unfold Zd2
 fail "~e A W b y b p b m c a a c a e"
 refine Za9 (i:=5) ?_ ?_ ?_ ?_
 exact Zjm.nd
 fail "~a f"
 refine Zal (Ziy T) (hr.mono (by decide)) ?_ ?_
 fail "~a b h b j b m c a a a d k"
 exact Zat (Zhq hr.units) (Zaa (pv 5)) (Zaa (pv 4)) (Za3 _)
 fail "~d A W b y b y b v b M n a b l c a c a a b S c a a c a"
theorem Zli (T:Top K mg):Fn P w K mg base 3 "claims_row" ["claim","step"] Zhv:=by
 refine(fun h=>h:_->Fn P w K mg base 3 "claims_row" ["claim","step"] (Za7 2 2 Zc1)) (Zba (N:=["claim","step"]) (k:=2) T.t_claims_row Zll (by fail "~U2") ?_)
 intro f cdv A outer s H E hr
 unfold Zc1
 fail "~e k G J aq n a b j c a J"
 refine Zat (Zhq hr.units) ?_ Zbe (Za3 _)
 fail "~ae P L x ad a b ae b n a b s c a c a a d K d i w s ae"
theorem Zlo (T:Top K mg):Fn P w K mg base 4 "is_used_up" ["side","row","play"] Zff:=by
 refine(fun h=>h:_->Fn P w K mg base 4 "is_used_up" ["side","row","play"] (Za7 3 3 Zb4)) (Zba (N:=["side","row","play"]) (k:=3) T.t_is_used_up Zk1 (by fail "~U3") ?_)
 intro f cdv A outer s H E hr
 unfold Zb4
 fail "~e k"
 exact Zat (Zby hr.units) (Zaa (pv 0)) Zbe (Za3 _)
 fail "~d i"
 refine Zal (Zre T) (hr.mono (by decide)) ?_ ?_
 fail "~a b j b l c a a d i"
 refine Zbz (Zmx (by rfl)) ?_ T.n_all Zx3 ?_
 fail "~a b"
 refine Zkh (cn:=["play"]) ?_ (Zg2 (x := "literal") (cn:=["play"]) (ci:=[2]) (by decide +kernel)) ?_ ?_ ?_
 fail "~a aa q 6 q ao a b h b j c a a c a"
theorem Zjr (T:Top K mg):Fn P w K mg base 1 "literal_used" ["side","name","truth"] Zdy:=by
 refine(fun h=>h:_->Fn P w K mg base 1 "literal_used" ["side","name","truth"] (Za7 3 3 Zcb)) (Zba (N:=["side","name","truth"]) (k:=0) T.t_literal_used Zip (by fail "~U3") ?_)
 intro f cdv A outer s H E hr
 unfold Zcb
 fail "~d i"
 refine Zpb ?_ (Zaa (pv 1)) ?_
 refine Zat (Zby hr.units) (Zaa (pv 2)) ?_ (Za3 _)
 exact Zcs (Zby hr.units) (Zaa (pv 0)) Zbe (Za3 _)
 exact Zew Zda (Zaa (pv 1))
theorem Znx (T:Top K mg):Fn P w K mg base 1 "told_term" ["claim","step"] Zi1:=by
 refine(fun h=>h:_->Fn P w K mg base 1 "told_term" ["claim","step"] (Za7 2 2 Zdj)) (Zba (N:=["claim","step"]) (k:=0) T.t_told_term Zno (by fail "~U2") ?_)
 intro f cdv A outer s H E hr
 unfold Zdj
 fail "~d i ae"
theorem Zrp (T:Top K mg):Fn P w K mg base 4 "made_by" ["claim","side","first","made","step"] Zg3:=by
 refine(fun h=>h:_->Fn P w K mg base 4 "made_by" ["claim","side","first","made","step"] (Za7 5 5 Zca)) (Zba (N:=["claim","side","first","made","step"]) (k:=3) T.t_made_by Zrf (by fail "~U5") ?_)
 intro f cdv A outer s H E hr
 unfold Zca
 fail "~e k G J L x al a b m b"
 refine Ztc ?_ T.n_tuple Zpw
 fail "~a c a a P 8 n a b m c a d K e k ar as d i"
 refine Zal (Zii T) (hr.mono (by decide)) ?_ ?_
 fail "~a b s b j b p b m c a a a a e k ar as d i"
 refine Zal (Zg9 T) (hr.mono (by decide)) ?_ ?_
 fail "~a b s b j b p b m c a a a a d i"
 refine Ztx ?_ ?_
 refine Zm7 (i:=2) (Zli T) T.v_claims_row (hr.mono (by decide)) (pv 2) ?_
 fail "~b h b m c a a"
 refine Zm7 (i:=2) (Znx T) T.v_told_term (hr.mono (by decide)) (pv 2) ?_
 fail "~b h b m c a a"
theorem Zon (T:Top K mg):Fn P w K mg base 5 "all_made" ["claim","side","first","steps"] Zhe:=by
 refine(fun h=>h:_->Fn P w K mg base 5 "all_made" ["claim","side","first","steps"] (Za7 4 8 Zea)) (Zba (N:=["claim","side","first","steps","made","number","step","row"]) (k:=4) T.t_all_made Ziw (by fail "~U4") ?_)
 intro f cdv A outer s H E hr
 unfold Zea
 have nd:=Ziw.nd
 fail "~e E g a f I e o a"
 refine Ztl ?_ T.n_enumerate ?_
 fail "~a b p c a 0 a 1 R g a f 2"
 refine Zcl (i:=6) ?_ ?_ ?_
 fail "~g a f e"
 refine Za9 (i:=7) ?_ ?_ ?_ ?_
 fail "~g a f"
 refine Zal (Zrp T) (hr.mono (by decide)) ?_ ?_
 fail "~a b h b j b l b m b af c a a a a a e k"
 exact Zat Ydu (Zaa (pv 7)) Zoj (Za3 _)
 exact Zaj Zth Za8
 fail "~d A"
 refine Zp1 Ux Uy Zfq (Zaa (pv 4)) ?_
 fail "~b"
 exact(Zaa (pv 7))
 fail "~c a d"
 exact Zbr (Zaa (pv 4))
theorem Zis (T:Top K mg):Fn P w K mg base 6 "by_paper" ["claim","side","first","steps","play"] Zft:=by
 refine(fun h=>h:_->Fn P w K mg base 6 "by_paper" ["claim","side","first","steps","play"] (Za7 5 10 Zd8)) (Zba (N:=["claim","side","first","steps","play","rows","name","step","row","truth"]) (k:=5) T.t_by_paper Zib (by fail "~U5") ?_)
 intro f cdv A outer s H E hr
 unfold Zd8
 have nd:=Zib.nd
 fail "~e"
 refine Za9 (i:=5) ?_ ?_ ?_ ?_
 fail "~g a f"
 refine Zal (Zon T) (hr.mono (by decide)) ?_ ?_
 fail "~a b h b j b l b p c a a a a e 3 g a f ag n a b m c a e o a"
 refine Zpd ?_ T.n_zip ?_
 fail "~a b p b S c a a 0 a 1"
 refine Zcl (i:=7) ?_ ?_ ?_
 fail "~g a f 2"
 refine Zcl (i:=8) ?_ ?_ ?_
 fail "~g a f d k G"
 refine Zlz ?_ ?_
 fail "~ar"
 exact Za1 ixf (Zaa (pv 7)) Zae (fun _ _=>rfl)
 refine Zh4 ?_
 fail "~x"
 refine Zal (Zlo T) (hr.mono (by decide)) ?_ ?_
 fail "~a b j b"
 exact(Zaa (pv 8))
 fail "~b m c a a a d o a U"
 refine Zmj ?_ T.c_TRUTHS
 fail "~a"
 refine Zcl (i:=9) ?_ ?_ ?_
 fail "~g a f d k"
 refine Zat (Zua hr.units) ?_ ?_ ?_
 refine Zal (Zjr T) (hr.mono (by decide)) ?_ ?_
 fail "~a b j b af b"
 exact(Zaa (pv 9))
 fail "~c a a a"
 refine Za1 ixf (Zaa (pv 5)) ?_ (fun _ _=>rfl)
 exact Za1 ixf (Zaa (pv 7)) Zae (fun _ _=>rfl)
 fail "~C d"
 exact Zbr (Zaa (pv 9))
 fail "~d D"
theorem Zq8 (T:Top K mg):Fn P w K mg base 7 "by_rows" ["claim","steps","play"] Znc:=by
 refine(fun h=>h:_->Fn P w K mg base 7 "by_rows" ["claim","steps","play"] (Za7 3 3 Zfn)) (Zba (N:=["claim","steps","play"]) (k:=6) T.t_by_rows Zqw (by fail "~U3") ?_)
 intro f cdv A outer s H E hr
 unfold Zfn
 fail "~d i"
 refine Zal (Zis T) (hr.mono (by decide)) ?_ ?_
 fail "~a b h b v b"
 exact Zx2 T.v_claims_row
 fail "~b j b l c a a a a a"
theorem Zog (T:Top K mg):Fn P w K mg base 7 "by_terms" ["claim","steps","play"] Zkm:=by
 refine(fun h=>h:_->Fn P w K mg base 7 "by_terms" ["claim","steps","play"] (Za7 3 3 Zd7)) (Zba (N:=["claim","steps","play"]) (k:=6) T.t_by_terms Zoa (by fail "~U3") ?_)
 intro f cdv A outer s H E hr
 unfold Zd7
 fail "~d i"
 refine Zal (Zis T) (hr.mono (by decide)) ?_ ?_
 fail "~a b h b v b"
 exact Zx2 T.v_told_term
 fail "~b j b l c a a a a a"
theorem Ze6 (T:Top K mg):Fn P w K mg base 1 "have_one_in_common" ["one","other"] Zb6:=by
 refine(fun h=>h:_->Fn P w K mg base 1 "have_one_in_common" ["one","other"] (Za7 2 2 Zbd)) (Zba (N:=["one","other"]) (k:=0) T.t_have_one_in_common Zfl (by fail "~U2") ?_)
 intro f cdv A outer s H E hr
 unfold Zbd
 fail "~d i"
 refine Zbz (Zs9 (by rfl)) ?_ T.n_any Yb9 ?_
 fail "~a b"
 refine Zkh (cn:=["other"]) ?_ (Zg2 (x := "literal") (cn:=["other"]) (ci:=[1]) (by decide +kernel)) ?_ ?_ ?_
 fail "~a Z q 6 q"
 refine Zcs iinf (Zaa (pv 0)) (Zaa (pv 1)) ?_
 fail "~C c a"
theorem Zi2 (T:Top K mg):Fn P w K mg base 3 "term_of_play" ["rows","play"] Zdx:=by
 refine(fun h=>h:_->Fn P w K mg base 3 "term_of_play" ["rows","play"] (Za7 2 5 Zcc)) (Zba (N:=["rows","play","told","row","right"]) (k:=2) T.t_term_of_play Ze4 (by fail "~U2") ?_)
 intro f cdv A outer s H E hr
 unfold Zcc
 have nd:=Ze4.nd
 fail "~e"
 refine Za9 (i:=2) ?_ ?_ ?_ Zm9
 fail "~g a f e o a Z Q g a f d k L x"
 refine Zal (Ze6 T) (hr.mono (by decide)) ?_ ?_
 fail "~a b p b l c a a e"
 refine Zjj (i:=4) (cn:=["play"]) ?_ (Zg2 (x := "literal") (cn:=["play"]) (ci:=[1]) (by decide +kernel)) ?_ ?_ ?_ ?_ ?_ ?_
 fail "~a"
 exact Zfo (Zaa (pv 3))
 fail "~q 5 x ao a b h b j c a a q h g a a d"
 refine Zih Zkk ?_
 refine Zk6 (Zaa (pv 2)) ?_ Ybo
 fail "~as d i V a b"
 refine Zqx ?_ ?_ T.n_sorted ?_ T.n_abs ?_
 fail "~a a a b l c a c a"
theorem Zqv (T:Top K mg):Fn P w K mg base 1 "_law_mix" ["cell","k"] Zjb:=by
 refine(fun h=>h:_->Fn P w K mg base 1 "_law_mix" ["cell","k"] (Za7 2 4 Zfm)) (Zba (N:=["cell","k","prime","one"]) (k:=0) T.t_law_mix Zkl (by fail "~U2") ?_)
 intro f cdv A outer s H E hr
 unfold Zfm
 have nd:=Zkl.nd
 fail "~e H g a f w z b r b r b r b r b r b r b r c a a a a a a a"
 exact Za0 Zfk (Zaa (pv 1)) Zae
 fail "~e u g a f"
 refine Za0 Zfk ?_ (Zaa (pv 2))
 refine Za0 Zin ?_ ?_
 fail "~ah"
 exact Za0 Zfk (Zaa (pv 0)) Zae
 refine Za0 Zin Zae ?_
 fail "~7 ag ah"
 exact Za0 Zin (Zaa (pv 1)) (Zaa (pv 1))
 fail "~at e u g a f t"
 exact Za0 Zoh (Zaa (pv 3)) Zae
 fail "~e u g a f"
 refine Za0 Zfk ?_ (Zaa (pv 2))
 fail "~ag ah"
 exact Za0 Zin (Zaa (pv 3)) Zae
 fail "~at d i"
 refine Za0 Zlw ?_ Zae
 fail "~t"
 exact Za0 Zoh (Zaa (pv 3)) Zae
theorem ok_law_digits (T:Top K mg):Fn P w K mg base 2 "_law_digits" ["cell","many"] Zch:=by
 refine(fun h=>h:_->Fn P w K mg base 2 "_law_digits" ["cell","many"] (Za7 2 6 Zc7)) (Zba (N:=["cell","many","found","left_over","wide","k"]) (k:=1) T.t_law_digits Zgr (by fail "~U2") ?_)
 intro f cdv A outer s H E hr
 unfold Zc7
 have nd:=Zgr.nd
 fail "~e H g a f I e u g a f O a b h c a e E g a f"
 refine Zcs Ydn (Zaa (pv 3)) ?_ (Za3 _)
 exact Za0 Zoh Zae Zae
 fail "~e o a X a b j c a R g a f d"
 refine Zf3 ?_ ?_ ?_
 fail "~G"
 refine Zlz ?_ ?_
 exact Zgu (Zaa (pv 4)) (fun _=>rfl)
 refine Zh4 ?_
 exact Zat Ziv (Zaa (pv 3)) Zae (Za3 _)
 fail "~e A W b"
 exact Za0 Zfk (Zaa (pv 3)) Zae
 fail "~c a d u g a f"
 exact Za0 Zlw (Zaa (pv 3)) Zae
 fail "~d A W b"
 refine Zal (Zqv T) (hr.mono (by decide)) ?_ ?_
 fail "~a b h b S c a a c a d"
 exact Zbr (Zaa (pv 2))
theorem ok_law_at (T:Top K mg):Fn P w K mg base 1 "_law_at" ["script","k"] Zep:=by
 refine(fun h=>h:_->Fn P w K mg base 1 "_law_at" ["script","k"] (Za7 2 2 Zgk)) (Zba (N:=["script","k"]) (k:=0) T.t_law_at Zr7 (by fail "~U2") ?_)
 intro f cdv A outer s H E hr
 unfold Zgk
 fail "~e k"
 refine Zat Zuh (Zaa (pv 1)) ?_ (Za3 _)
 fail "~n a b h c a d i"
 exact Za1 ixf (Zaa (pv 0)) (Zaa (pv 1)) (fun _ _=>rfl)
 fail "~d i ah ag at n a b h c a"
theorem Znr (T:Top K mg):Fn P w K mg base 1 "_law_kinds" ["some","many"] Zga:=by
 refine(fun h=>h:_->Fn P w K mg base 1 "_law_kinds" ["some","many"] (Za7 2 5 Zdl)) (Zba (N:=["some","many","found","k","kind"]) (k:=0) T.t_law_kinds Zhr (by fail "~U2") ?_)
 intro f cdv A outer s H E hr
 unfold Zdl
 have nd:=Zhr.nd
 fail "~e H g a f I e o a X a b j c a Q g a f e E g a f w z b v b v c a a t ab"
 exact Za0 Zbj Zae (Zaa (pv 3))
 fail "~e k 8 t s d E g a f w z b v b v c a a t"
 refine Za0 Zbj (Zaa (pv 3)) ?_
 fail "~s e k 8 t s d E g a f w z b v b v c a a ai a b"
 refine Zcs Ziv ?_ Zae (Za3 _)
 fail "~t ab"
 exact Za0 Zbj Zae (Zaa (pv 3))
 fail "~c a d A W b m c a d i V a b l c a"
theorem Zqr (T:Top K mg):Fn P w K mg base 3 "_law_row" ["cell","many","wide"] Zi4:=by
 refine(fun h=>h:_->Fn P w K mg base 3 "_law_row" ["cell","many","wide"] (Za7 3 6 Ze8)) (Zba (N:=["cell","many","wide","some","found","k"]) (k:=2) T.t_law_row Zkr (by fail "~U3") ?_)
 intro f cdv A outer s H E hr
 unfold Ze8
 have nd:=Zkr.nd
 fail "~e u g a f aj a b h b 7 c a a e E g a f I e o a X a b j c a R g a f d k"
 refine Zat Zuh ?_ ?_ (Za3 _)
 refine Za0 Zfk ?_ ?_
 fail "~au"
 exact Za0 Zbj Zae (Zaa (pv 5))
 fail "~7 9 t B d A"
 refine Zp1 Ux Uy Zfq (Zaa (pv 4)) ?_
 fail "~b w z b"
 exact Za0 Zbj (Zaa (pv 5)) Zae
 fail "~b M"
 exact Za0 Zhk Zae (Zaa (pv 5))
 fail "~c a a t"
 refine Za0 Zlw ?_ ?_
 fail "~au"
 exact Za0 Zbj Zae (Zaa (pv 5))
 fail "~7 c a d i V a b m c a"
theorem Zl9 (T:Top K mg):Fn P w K mg base 4 "_law_claim" ["script","most"] Zgg:=by
 refine(fun h=>h:_->Fn P w K mg base 4 "_law_claim" ["script","most"] (Za7 2 7 Zdr)) (Zba (N:=["script","most","some","many","kinds","size","rows"]) (k:=3) T.t_law_claim Zhn (by fail "~U2") ?_)
 intro f cdv A outer s H E hr
 unfold Zdr
 have nd:=Zhn.nd
 fail "~e H g a f aj a b ak a b h b r c a a b r c a a e u g a f w z b"
 refine Za0 Zfk ?_ ?_
 fail "~F 7 b"
 refine Za0 Zhk (Zaa (pv 1)) ?_
 fail "~t F b j c a a a t F e E g a f"
 refine Zal (Znr T) (hr.mono (by decide)) ?_ ?_
 fail "~a b"
 refine Ze7 (Zaa (pv 2)) ?_ Zgv
 exact Zgo Zae
 fail "~b"
 refine Zbz (Zte (by rfl)) ?_ T.n_max Ybd ?_
 fail "~a b r b p c a a c a a e"
 refine Za9 (i:=5) ?_ ?_ ?_ ?_
 fail "~g a f w z b t F b t F b"
 refine Za0 Zbj Zae ?_
 fail "~t F c a a a t F e"
 refine Zjj (i:=6) (cn:=["script","kinds"]) ?_ (Zg2 (x := "k") (cn:=["script","kinds"]) (ci:=[0,4]) (by decide +kernel)) ?_ ?_ ?_ ?_ ?_ ?_
 fail "~a X a b S c a q 6 q"
 refine Zal (Zqr T) (hr.mono (by decide)) ?_ ?_
 fail "~a b ak a b j b"
 exact Za0 Zbj Zae (Zaa (pv 0))
 fail "~c a a b n a b l c a b r c a a a g a a e k"
 refine Zat Ziv ?_ Zae (Za3 _)
 fail "~t F d"
 refine Zjj (i:=6) (cn:=[]) ?_ (Zg2 (x := "row") (cn:=[]) (ci:=[]) (by decide +kernel)) ?_ ?_ ?_ ?_ ?_ ?_
 fail "~a"
 exact Zfo (Zaa (pv 6))
 fail "~q 5"
 refine Zat (Zhq hr.units) (Zaa (pv 0)) ?_ (Za3 _)
 fail "~T q h g a a d i y b m b V a b af c a c a a"
theorem Zma (T:Top K mg):Fn P w K mg base 1 "_law_right" ["literal","play"] Zen:=by
 refine(fun h=>h:_->Fn P w K mg base 1 "_law_right" ["literal","play"] (Za7 2 2 Zdm)) (Zba (N:=["literal","play"]) (k:=0) T.t_law_right Zn3 (by fail "~U2") ?_)
 intro f cdv A outer s H E hr
 unfold Zdm
 fail "~d i am an M O a b h c a"
 exact Zcs Ziv (Zaa (pv 0)) Zae (Za3 _)
theorem Zhs (T:Top K mg):Fn P w K mg base 1 "_law_plays" ["many"] Zek:=by
 refine(fun h=>h:_->Fn P w K mg base 1 "_law_plays" ["many"] (Za7 1 5 Zdk)) (Zba (N:=["many","found","turn","more_plays","one"]) (k:=0) T.t_law_plays Zhp (by fail "~U1") ?_)
 intro f cdv A outer s H E hr
 unfold Zdk
 have nd:=Zhp.nd
 fail "~e"
 refine Za9 (i:=1) ?_ ?_ ?_ ?_
 fail "~g a f z b T c a e o a X a b h c a N g a f e u g a f I e o a aa 4 g a f d u g a f"
 refine Za0 Zbj (Zaa (pv 3)) ?_
 fail "~z b av y b"
 exact Zkk
 fail "~c a b av y b"
 exact Zkk
 fail "~c a c a a d"
 refine Za9 (i:=1) ?_ ?_ ?_ (Zaa (pv 3))
 fail "~g a f d"
 exact Zbr (Zaa (pv 1))
theorem Zjf (T:Top K mg):Fn P w K mg base 2 "_law_lost" ["rows","play"] Zeg:=by
 refine(fun h=>h:_->Fn P w K mg base 2 "_law_lost" ["rows","play"] (Za7 2 3 Zd4)) (Zba (N:=["rows","play","row"]) (k:=1) T.t_law_lost Zif (by fail "~U2") ?_)
 intro f cdv A outer s H E hr
 unfold Zd4
 fail "~e o a Z N"
 exact Zif.nd
 fail "~a f d k"
 refine Zat (Zby hr.units) ?_ ?_ (Za3 _)
 refine Zkh (cn:=["play"]) ?_ (Zg2 (x := "literal") (cn:=["play"]) (ci:=[1]) (by decide +kernel)) ?_ ?_ ?_
 fail "~a"
 exact Zfo (Zaa (pv 2))
 fail "~q 5 x"
 refine Zal (Zma T) (hr.mono (by decide)) ?_ ?_
 fail "~a b h b j c a a q h I d D d D"
theorem Zjz (T:Top K mg):Fn P w K mg base 3 "_law_winners" ["claim"] Zeh:=by
 refine(fun h=>h:_->Fn P w K mg base 3 "_law_winners" ["claim"] (Za7 1 8 Zcj)) (Zba (N:=["claim","found","play","many","kinds","rows","both_v","other"]) (k:=2) T.t_law_winners Zf2 (by fail "~U1") ?_)
 intro f cdv A outer s H E hr
 unfold Zcj
 have nd:=Zf2.nd
 fail "~e"
 refine Zih (Zaa (pv 0)) ?_
 fail "~0 a 1 4 g a f 2 R g a f e"
 refine Za9 (i:=1) ?_ ?_ ?_ Zlx
 fail "~g a f e o a U"
 refine Zal (Zhs T) (hr.mono (by decide)) ?_ ?_
 fail "~a b n a b m c a c a N g a f d"
 refine Zih ?_ ?_
 fail "~w z b v b v c a a ai a b"
 refine Zal (Zjf T) (hr.mono (by decide)) ?_ ?_
 fail "~a b S b l c a a c a"
 exact Zk6 (Zaa (pv 1)) (Zaa (pv 2)) (Yea hr.units)
 fail "~e o a"
 refine Zrc ?_ T.n_range ?_
 fail "~a b M n a b m c a b"
 exact Zew Zda Zae
 fail "~b"
 exact Zew Zda Zae
 fail "~c a a a Q g a f d o a U"
 refine Zal (Zhs T) (hr.mono (by decide)) ?_ ?_
 fail "~a b p c a N g a f e 3 g a f z b"
 refine Za1 (Zqo hr.units) (Zaa (pv 1)) ?_ (fun _ _=>rfl)
 fail "~9 y b"
 exact Zkk
 fail "~c a b"
 refine Za1 (Zqo hr.units) (Zaa (pv 1)) ?_ (fun _ _=>rfl)
 fail "~9 y b"
 exact Zkk
 fail "~c a c a a e"
 refine Za9 (i:=7) ?_ ?_ ?_ ?_
 fail "~g a f w z b v b v c a a ai a b"
 refine Zcs (Zby hr.units) ?_ Zbe (Za3 _)
 fail "~aw c a d"
 refine Zih ?_ ?_
 fail "~w z b"
 exact(Zaa (pv 7))
 fail "~b aw c a a ai a b"
 refine Zcs (Zua hr.units) ?_ (Zaa (pv 6)) ?_
 fail "~aw C c a"
 exact Zk6 (Zaa (pv 1)) (Zaa (pv 2)) (Yea hr.units)
 fail "~d"
 exact Zbr (Zaa (pv 1))
theorem Zlh (T:Top K mg):Fn P w K mg base 8 "_law_picked" ["claim","side","steps","play"] Zfe:=by
 refine(fun h=>h:_->Fn P w K mg base 8 "_law_picked" ["claim","side","steps","play"] (Za7 4 4 Zc6)) (Zba (N:=["claim","side","steps","play"]) (k:=7) T.t_law_picked Zla (by fail "~U4") ?_)
 intro f cdv A outer s H E hr
 unfold Zc6
 fail "~e k"
 exact Zat (Zby hr.units) (Zaa (pv 1)) Zbe (Za3 _)
 fail "~d i"
 refine Zal (Zq8 T) (hr.mono (by decide)) ?_ ?_
 fail "~a b h b l b p c a a a d i"
 refine Zal (Zog T) (hr.mono (by decide)) ?_ ?_
 fail "~a b h b l b p c a a a"
theorem Zgs (T:Top K mg):Fn P w K mg base 15 "_law_match_right" ["claim","side","steps","some"] Zcy:=by
 refine(fun h=>h:_->Fn P w K mg base 15 "_law_match_right" ["claim","side","steps","some"] (Za7 4 7 Zbm)) (Zba (N:=["claim","side","steps","some","play","kind","truth"]) (k:=14) T.t_law_match_right Zds (by fail "~U4") ?_)
 intro f cdv A outer s H E hr
 unfold Zbm
 have nd:=Zds.nd
 fail "~e E g a f T e o a U s R g a f e k ax ap a b h b m c a a d D e 3 g a f"
 refine Zcs (Zby hr.units) ?_ Zae (Za3 _)
 fail "~t au n a b m c a e k"
 exact Zat (Zby hr.units) (Zaa (pv 5)) (Zaa (pv 1)) (Za3 _)
 fail "~e 3 g a f"
 refine Zal (Zlh T) (hr.mono (by decide)) ?_ ?_
 fail "~a b h b j b l b m c a a a a d k"
 refine Zat (Zkg hr.units) (Zaa (pv 6)) ?_ ?_
 refine Zal (Zln T) (hr.mono (by decide)) ?_ ?_
 fail "~a b h b m c a a C d D d E g a f av y b af c a e k ax ap a b h b m c a a d D d i am"
 refine Zal (Zjf T) (hr.mono (by decide)) ?_ ?_
 fail "~a b s b m c a a"
 exact Zcs (Zby hr.units) (Zaa (pv 1)) Zbe (Za3 _)
theorem Zhy (T:Top K mg):Ya7 P w K mg base 1 "row_paper" "claim" 2 Zdh:=by
 refine(fun h=>h:_->Ya7 P w K mg base 1 "row_paper" "claim" 2 (Zyi 2 3 Zb2)) (Ydt (N:=["tree","play","claim"]) (k:=0) (st:=Zfc) (T.t_row_paper.first rfl) Zh0 (fun _ _ _ _ _ _ _ us hl=>by obtain⟨_,_,rfl⟩:=us2 hl; rfl) ?_)
 intro qual f cdv c A outer s H hr
 unfold Zb2
 fail "~d i y b y b v b s c a a b w F s c a a"
theorem Zhi (T:Top K mg):Ya7 P w K mg base 4 "term_paper" "claim" 2 Zdb:=by
 refine(fun h=>h:_->Ya7 P w K mg base 4 "term_paper" "claim" 2 (Zyi 2 4 Zbv)) (Ydt (N:=["tree","play","claim","term"]) (k:=3) (st:=Zeq) (T.t_term_paper.first rfl) Zd0 (fun _ _ _ _ _ _ _ us hl=>by obtain⟨_,_,rfl⟩:=us2 hl; rfl) ?_)
 intro qual f cdv c A outer s H hr
 unfold Zbv
 fail "~e u"
 exact Zd0.nd
 fail "~a f"
 refine Zal (Zi2 T) (hr.mono (by decide)) ?_ ?_
 fail "~a b F b j c a a d i y b y b v b p c a a b p c a a"
theorem Zj1 (T:Top K mg):Fn P w K mg base 25 "plan_behind" ["kinds","rows","many"] (Zdv 3 4 3 7 Zax Zap 22).1/\Fn P w K mg base 25 "plan_by_picks" ["kinds","rows","many"] (Zdv 3 4 3 7 Zax Zap 22).2:=by
 refine(fun h=>h:_->Fn P w K mg base 25 "plan_behind" ["kinds","rows","many"] (Zdv 3 4 3 7 Zax Zap 22).1/\Fn P w K mg base 25 "plan_by_picks" ["kinds","rows","many"] (Zdv 3 4 3 7 Zax Zap 22).2) (Zo0 (N1:=["kinds","rows","many","number"]) (N2:=["kinds","rows","many","who","trees","truth","told"]) (k:=2) T.t_plan_behind Zf1 (fun _ _ _ _ _ _ us hl=>by obtain⟨_,_,_,rfl⟩:=us3 hl; rfl) T.t_plan_by_picks Zbs (fun _ _ _ _ _ _ us hl=>by obtain⟨_,_,_,rfl⟩:=us3 hl; rfl) ?_ ?_ 22)
 ·intro F1 F2 j G1 G2 f cdv A outer s H E hr
  unfold Zax
  refine Zaj ?_ ?_
  refine Zf3 ?_ ?_ Za8
  refine Zat (Zby hr.units) ?_ Zae (Za3 _)
  refine Zbz Zkf ?_ T.n_len Zny ?_
  rfl
  refine Zaw ?_ ?_ ?_
  exact(Zaa (pv 1))
  exact Za2
  rfl
  refine Zaj ?_ Za8
  refine Zbr ?_
  refine Zcv ?_
  refine Zaw ?_ ?_ ?_
  exact Zbe
  refine Zaw ?_ ?_ ?_
  refine Zcv ?_
  refine Zaw ?_ ?_ ?_
  exact Zbe
  exact Za2
  rfl
  exact Za2
  rfl
  rfl
  refine Zaj ?_ ?_
  refine Za9 (i:=3) ?_ ?_ ?_ ?_
  exact Zf1.nd
  rfl
  first | exact Tbb rfl | exact Tav rfl
  refine Zal (Zhc T) (hr.mono (by omega)) ?_ ?_
  rfl
  refine Zaw ?_ ?_ ?_
  exact(Zaa (pv 0))
  refine Zaw ?_ ?_ ?_
  exact(Zaa (pv 1))
  exact Za2
  rfl
  rfl
  refine Zaj ?_ ?_
  refine Zf3 ?_ ?_ Za8
  exact Zat Zz5 (Zaa (pv 3)) Zoj (Za3 _)
  refine Zaj ?_ Za8
  refine Zbr ?_
  refine Zcv ?_
  refine Zaw ?_ ?_ ?_
  exact Zbe
  refine Zaw ?_ ?_ ?_
  refine Zcv ?_
  refine Zaw ?_ ?_ ?_
  exact Zbe
  refine Zaw ?_ ?_ ?_
  exact(Zaa (pv 3))
  exact Za2
  rfl
  rfl
  exact Za2
  rfl
  rfl
  refine Zaj ?_ Za8
  refine Zbr ?_
  refine Zal G2 (hr.mono (Xe _)) ?_ ?_
  rfl
  refine Zaw ?_ ?_ ?_
  exact(Zaa (pv 0))
  refine Zaw ?_ ?_ ?_
  exact(Zaa (pv 1))
  refine Zaw ?_ ?_ ?_
  exact(Zaa (pv 2))
  exact Za2
  rfl
  rfl
  rfl
 ·intro F1 F2 j G1 G2 f cdv A outer s H E hr
  unfold Zap
  refine Zaj ?_ ?_
  refine Za9 (i:=3) ?_ ?_ ?_ ?_
  exact Zbs.nd
  rfl
  first | exact Tbb rfl | exact Tav rfl
  exact Za1 ixf (Zaa (pv 0)) (Zaa (pv 2)) (fun _ _=>rfl)
  refine Zaj ?_ ?_
  refine Za9 (i:=4) ?_ ?_ ?_ ?_
  exact Zbs.nd
  rfl
  first | exact Tbb rfl | exact Tav rfl
  exact Zot Za2
  refine Zaj ?_ ?_
  refine Zo4 Tbe ?_ ?_ ?_ ?_
  rfl
  refine Zfo ?_
  refine Zmj ?_ T.c_TRUTHS
  rfl
  refine Zcl (i:=5) ?_ ?_ ?_
  exact Zbs.nd
  rfl
  first | exact Tbb rfl | exact Tav rfl
  refine Zaj ?_ ?_
  refine Za9 (i:=6) ?_ ?_ ?_ ?_
  exact Zbs.nd
  rfl
  first | exact Tbb rfl | exact Tav rfl
  refine Zal G1 (hr.mono (Xe _)) ?_ ?_
  rfl
  refine Zaw ?_ ?_ ?_
  exact(Zaa (pv 0))
  refine Zaw ?_ ?_ ?_
  refine Zal (Zdz T) (hr.mono (by omega)) ?_ ?_
  rfl
  refine Zaw ?_ ?_ ?_
  exact(Zaa (pv 1))
  refine Zaw ?_ ?_ ?_
  exact Za0 Zbj (Zaa (pv 2)) Zae
  refine Zaw ?_ ?_ ?_
  exact(Zaa (pv 5))
  exact Za2
  rfl
  rfl
  rfl
  refine Zaw ?_ ?_ ?_
  exact Za0 Zbj (Zaa (pv 2)) Zae
  exact Za2
  rfl
  rfl
  rfl
  refine Zaj ?_ ?_
  refine Zf3 ?_ ?_ Za8
  refine Zat (Zby hr.units) ?_ (Zaa (pv 3)) (Za3 _)
  exact Za1 ixf (Zaa (pv 6)) Zae (fun _ _=>rfl)
  refine Zaj ?_ Za8
  refine Zbr ?_
  refine Zcv ?_
  refine Zaw ?_ ?_ ?_
  exact(Zaa (pv 3))
  refine Zaw ?_ ?_ ?_
  refine Zcv ?_
  refine Zaw ?_ ?_ ?_
  exact Zbe
  refine Zaw ?_ ?_ ?_
  exact(Zaa (pv 5))
  refine Zaw ?_ ?_ ?_
  exact Za1 ixf (Zaa (pv 6)) Zae (fun _ _=>rfl)
  exact Za2
  rfl
  rfl
  rfl
  exact Za2
  rfl
  rfl
  refine Zaj ?_ Za8
  refine Zel ?_
  refine Zp1 Ux Uy Zfq (Zaa (pv 4)) ?_
  refine Zaw ?_ ?_ ?_
  exact Za1 ixf (Zaa (pv 6)) Zae (fun _ _=>rfl)
  exact Za2
  rfl
  refine Zaj ?_ Za8
  refine Zbr ?_
  refine Zcv ?_
  refine Zaw ?_ ?_ ?_
  refine Zal (Zgw T) (hr.mono (by omega)) ?_ ?_
  rfl
  refine Zaw ?_ ?_ ?_
  exact(Zaa (pv 3))
  exact Za2
  rfl
  refine Zaw ?_ ?_ ?_
  refine Zcv ?_
  refine Zaw ?_ ?_ ?_
  exact Zbe
  refine Zaw ?_ ?_ ?_
  exact Za1 ixf (Zaa (pv 4)) Zae (fun _ _=>rfl)
  refine Zaw ?_ ?_ ?_
  exact Za1 ixf (Zaa (pv 4)) Zae (fun _ _=>rfl)
  exact Za2
  rfl
  rfl
  rfl
  exact Za2
  rfl
  rfl
theorem Ya1 (T:Top K mg):Fn P w K mg base 26 "plan" ["claim"] Ztt:=by
 refine(fun h=>h:_->Fn P w K mg base 26 "plan" ["claim"] (Za7 1 1 Znb)) (Zba (N:=["claim"]) (k:=25) T.t_plan Zzq (by fail "~U1") ?_)
 intro f cdv A outer s H E hr
 unfold Znb
 fail "~d i"
 refine Zal (Zj1 T).1 (hr.mono (by decide)) ?_ ?_
 fail "~a b s b"
 refine Zal (Zet T) (hr.mono (by decide)) ?_ ?_
 fail "~a b s c a b r c a a a"
theorem Zoz (T:Top K mg):Fn P w K mg base 27 "put_tree" ["kinds","side","end","pairs","tree","play"] (Zdv 6 7 6 13 Zan Zas 22).1/\Fn P w K mg base 27 "put_each" ["kinds","side","end","pairs","tree","play"] (Zdv 6 7 6 13 Zan Zas 22).2:=by
 refine(fun h=>h:_->Fn P w K mg base 27 "put_tree" ["kinds","side","end","pairs","tree","play"] (Zdv 6 7 6 13 Zan Zas 22).1/\Fn P w K mg base 27 "put_each" ["kinds","side","end","pairs","tree","play"] (Zdv 6 7 6 13 Zan Zas 22).2) (Zo0 (N1:=["kinds","side","end","pairs","tree","play","told"]) (N2:=["kinds","side","end","pairs","tree","play","name","numbers","one","other","truth","branch","row"]) (k:=4) T.t_put_tree Zje (fun _ _ _ _ _ _ us hl=>by obtain⟨_,_,_,_,_,_,rfl⟩:=us6 hl; rfl) T.t_put_each Zb5 (fun _ _ _ _ _ _ us hl=>by obtain⟨_,_,_,_,_,_,rfl⟩:=us6 hl; rfl) ?_ ?_ 22)
 ·intro F1 F2 j G1 G2 f cdv A outer s H E hr
  unfold Zan
  refine Zaj ?_ Za8
  refine Zf3 ?_ ?_ ?_
  refine Zat (Zby hr.units) ?_ Zbe (Za3 _)
  exact Za1 ixf (Zaa (pv 4)) Zae (fun _ _=>rfl)
  refine Zaj ?_ Za8
  refine Zel ?_
  refine Zal G1 (hr.mono (Xe _)) ?_ ?_
  rfl
  refine Zaw ?_ ?_ ?_
  exact(Zaa (pv 0))
  refine Zaw ?_ ?_ ?_
  exact(Zaa (pv 1))
  refine Zaw ?_ ?_ ?_
  exact(Zaa (pv 2))
  refine Zaw ?_ ?_ ?_
  exact(Zaa (pv 3))
  refine Zaw ?_ ?_ ?_
  exact Za1 ixf (Zaa (pv 4)) Zae (fun _ _=>rfl)
  refine Zaw ?_ ?_ ?_
  refine Za0 Zbj (Zaa (pv 5)) ?_
  refine Zcv ?_
  refine Zaw ?_ ?_ ?_
  exact Za1 ixf (Zaa (pv 4)) Zae (fun _ _=>rfl)
  exact Za2
  rfl
  exact Za2
  rfl
  rfl
  rfl
  rfl
  rfl
  rfl
  refine Zaj ?_ Za8
  refine Zf3 ?_ ?_ ?_
  refine Zat (Zby hr.units) ?_ Zbe (Za3 _)
  exact Za1 ixf (Zaa (pv 4)) Zae (fun _ _=>rfl)
  refine Zaj ?_ Za8
  refine Zel ?_
  refine Zal G2 (hr.mono (Xe _)) ?_ ?_
  rfl
  refine Zaw ?_ ?_ ?_
  exact(Zaa (pv 0))
  refine Zaw ?_ ?_ ?_
  exact(Zaa (pv 1))
  refine Zaw ?_ ?_ ?_
  exact(Zaa (pv 2))
  refine Zaw ?_ ?_ ?_
  exact(Zaa (pv 3))
  refine Zaw ?_ ?_ ?_
  exact(Zaa (pv 4))
  refine Zaw ?_ ?_ ?_
  exact(Zaa (pv 5))
  exact Za2
  rfl
  rfl
  rfl
  rfl
  rfl
  rfl
  refine Zaj ?_ ?_
  refine Za9 (i:=6) ?_ ?_ ?_ ?_
  exact Zje.nd
  rfl
  first | exact Tbb rfl | exact Tav rfl
  refine Ztx ?_ ?_
  refine Znu (i:=2) (Zhy T) (hr.mono (by omega)) (pv 2) ?_
  refine Zaw ?_ ?_ ?_
  exact(Zaa (pv 4))
  refine Zaw ?_ ?_ ?_
  exact(Zaa (pv 5))
  exact Za2
  rfl
  rfl
  refine Znu (i:=2) (Zhi T) (hr.mono (by omega)) (pv 2) ?_
  refine Zaw ?_ ?_ ?_
  exact(Zaa (pv 4))
  refine Zaw ?_ ?_ ?_
  exact(Zaa (pv 5))
  exact Za2
  rfl
  rfl
  refine Zaj ?_ Za8
  refine Zel ?_
  refine Zal (Zjd T) (hr.mono (by omega)) ?_ ?_
  rfl
  refine Zaw ?_ ?_ ?_
  exact(Zaa (pv 0))
  refine Zaw ?_ ?_ ?_
  exact(Zaa (pv 1))
  refine Zaw ?_ ?_ ?_
  exact(Zaa (pv 3))
  refine Zaw ?_ ?_ ?_
  exact Za1 ixf (Zaa (pv 6)) Zae (fun _ _=>rfl)
  refine Zaw ?_ ?_ ?_
  exact Za1 ixf (Zaa (pv 6)) Zae (fun _ _=>rfl)
  exact Za2
  rfl
  rfl
  rfl
  rfl
  rfl
 ·intro F1 F2 j G1 G2 f cdv A outer s H E hr
  unfold Zas
  refine Zaj ?_ ?_
  refine Za9 (i:=6) ?_ ?_ ?_ ?_
  exact Zb5.nd
  rfl
  first | exact Tbb rfl | exact Tav rfl
  refine Za0 Zbj ?_ Zae
  refine Zbz Zi0 ?_ T.n_len Zny ?_
  rfl
  refine Zaw ?_ ?_ ?_
  exact(Zaa (pv 5))
  exact Za2
  rfl
  refine Zaj ?_ ?_
  refine Za9 (i:=7) ?_ ?_ ?_ Zm9
  exact Zb5.nd
  rfl
  first | exact Tbb rfl | exact Tav rfl
  refine Zaj ?_ ?_
  refine Zo4 Tbe ?_ ?_ ?_ ?_
  rfl
  refine Zpd ?_ T.n_zip ?_
  rfl
  refine Zaw ?_ ?_ ?_
  refine Zmj ?_ T.c_TRUTHS
  rfl
  refine Zaw ?_ ?_ ?_
  refine Ze7 (Zaa (pv 4)) ?_ Zgv
  exact Zgo Zae
  exact Za2
  rfl
  rfl
  refine Ztz ?_ ?_
  rfl
  refine Zgy ?_ ?_
  refine Zcl (i:=10) ?_ ?_ ?_
  exact Zb5.nd
  rfl
  first | exact Tbb rfl | exact Tav rfl
  refine Zgy ?_ Zpa
  refine Zcl (i:=11) ?_ ?_ ?_
  exact Zb5.nd
  rfl
  first | exact Tbb rfl | exact Tav rfl
  refine Zaj ?_ ?_
  refine Zel ?_
  refine Zal G1 (hr.mono (Xe _)) ?_ ?_
  rfl
  refine Zaw ?_ ?_ ?_
  exact(Zaa (pv 0))
  refine Zaw ?_ ?_ ?_
  exact(Zaa (pv 1))
  refine Zaw ?_ ?_ ?_
  exact(Zaa (pv 2))
  refine Zaw ?_ ?_ ?_
  exact(Zaa (pv 3))
  refine Zaw ?_ ?_ ?_
  exact(Zaa (pv 11))
  refine Zaw ?_ ?_ ?_
  refine Za0 Zbj (Zaa (pv 5)) ?_
  refine Zcv ?_
  refine Zaw ?_ ?_ ?_
  exact(Zaa (pv 10))
  exact Za2
  rfl
  exact Za2
  rfl
  rfl
  rfl
  rfl
  rfl
  rfl
  refine Zaj ?_ ?_
  refine Za9 (i:=12) ?_ ?_ ?_ ?_
  exact Zb5.nd
  rfl
  first | exact Tbb rfl | exact Tav rfl
  refine Za1 ixf ?_ Zae (fun _ _=>rfl)
  refine Za1 ixf (Zaa (pv 3)) ?_ (fun _ _=>rfl)
  exact Zew Zda Zae
  refine Zaj ?_ ?_
  refine Zf3 ?_ ?_ Za8
  refine PWf.pt ?_
  refine Zlz ?_ ?_
  refine Zat (Zkg hr.units) (Zaa (pv 6)) (Zaa (pv 12)) ?_
  with_unfolding_all rfl
  refine Zh4 ?_
  refine Zat (Zkg hr.units) ?_ (Zaa (pv 12)) ?_
  exact Zew Zda (Zaa (pv 6))
  with_unfolding_all rfl
  exact Zaj Zxf Za8
  refine Zaj ?_ Za8
  refine Zih ?_ ?_
  refine Za0 Zhk ?_ Zae
  refine Zbz Zi0 ?_ T.n_len Zny ?_
  rfl
  refine Zaw ?_ ?_ ?_
  exact(Zaa (pv 3))
  exact Za2
  rfl
  refine Zk6 (Zaa (pv 7)) ?_ Ybo
  refine Za1 ixf (Zaa (pv 12)) ?_ (fun _ _=>rfl)
  exact Zew Zda Zae
  refine Zaj ?_ ?_
  refine Za9 (i:=8) ?_ ?_ ?_ ?_
  exact Zb5.nd
  rfl
  first | exact Tbb rfl | exact Tav rfl
  exact Za1 Ybg (Zaa (pv 7)) (Zaa (pv 6)) (fun _ _=>rfl)
  refine Zaj ?_ ?_
  refine Za9 (i:=9) ?_ ?_ ?_ ?_
  exact Zb5.nd
  rfl
  first | exact Tbb rfl | exact Tav rfl
  refine Za1 Ybg (Zaa (pv 7)) ?_ (fun _ _=>rfl)
  exact Zew Zda (Zaa (pv 6))
  refine Zaj ?_ Za8
  refine Zel ?_
  refine Zal (Zjd T) (hr.mono (by omega)) ?_ ?_
  rfl
  refine Zaw ?_ ?_ ?_
  exact(Zaa (pv 0))
  refine Zaw ?_ ?_ ?_
  exact(Zaa (pv 1))
  refine Zaw ?_ ?_ ?_
  exact(Zaa (pv 3))
  refine Zaw ?_ ?_ ?_
  refine Zcv ?_
  refine Zaw ?_ ?_ ?_
  exact Zbe
  refine Zaw ?_ ?_ ?_
  exact(Zaa (pv 8))
  refine Zaw ?_ ?_ ?_
  exact(Zaa (pv 9))
  refine Zaw ?_ ?_ ?_
  exact(Zaa (pv 6))
  exact Za2
  rfl
  rfl
  rfl
  rfl
  refine Zaw ?_ ?_ ?_
  refine Zal (Zmr T) (hr.mono (by omega)) ?_ ?_
  rfl
  refine Zaw ?_ ?_ ?_
  refine Za1 ixf ?_ Zae (fun _ _=>rfl)
  exact Za1 ixf (Zaa (pv 3)) (Zaa (pv 8)) (fun _ _=>rfl)
  refine Zaw ?_ ?_ ?_
  refine Za1 ixf ?_ Zae (fun _ _=>rfl)
  exact Za1 ixf (Zaa (pv 3)) (Zaa (pv 9)) (fun _ _=>rfl)
  refine Zaw ?_ ?_ ?_
  exact(Zaa (pv 6))
  exact Za2
  rfl
  rfl
  rfl
  exact Za2
  rfl
  rfl
  rfl
  rfl
  rfl
theorem Zpe (T:Top K mg):Fn P w K mg base 28 "paper" ["claim","side","end"] Zl2:=by
 refine(fun h=>h:_->Fn P w K mg base 28 "paper" ["claim","side","end"] (Za7 3 5 Zil)) (Zba (N:=["claim","side","end","told","pairs"]) (k:=27) T.t_paper Zlr (by fail "~U3") ?_)
 intro f cdv A outer s H E hr
 unfold Zil
 fail "~e u"
 exact Zlr.nd
 fail "~a f"
 refine Zal (Ya1 T) (hr.mono (by decide)) ?_ ?_
 fail "~a b h c a e k ax B"
 exact Zaj Zth Za8
 fail "~e E"
 exact Zlr.nd
 fail "~a f I e A"
 refine Zal (Zoz T).1 (hr.mono (by decide)) ?_ ?_
 fail "~a b s b j b l b m b B b T c a a a a a a d i"
 refine Zzt (cn:=[]) ?_ (Ya3 (x := "step") (y0 := "row") (cn:=[]) (ci:=[]) (by decide +kernel)) ?_ ?_ ?_
 fail "~a"
 exact Zfo (Zaa (pv 4))
 fail "~q 6 q h"
theorem Zms (T:Top K mg) (NB_row_paper:Zmw K mg base "row_paper"):Fn P w K mg base 29 "row_paper" ["claim"] Zf4:=by
 refine(fun h=>h:_->Fn P w K mg base 29 "row_paper" ["claim"] (Za7 1 2 Zdq)) (Zyb (N:=["claim","end"]) (k:=28) T.t_row_paper NB_row_paper Zhl (by fail "~U1") ?_)
 intro f c TT A outer s H E ht hC hB hr hnew
 unfold Zdq
 fail "~e"
 refine Zsv (n := "row_paper") (x := "claim") (i:=1) (j:=0) (t:=0) (cx:=s.heap.objs.size+1) (T.t_row_paper.first rfl) (fun _=>rfl) Zhl.nd rfl rfl rfl rfl rfl ht hC hB rfl (by with_unfolding_all rfl) (by with_unfolding_all rfl) (hnew "claim" _ (by with_unfolding_all rfl)) rfl rfl rfl
 fail "~d i"
 refine Zal (Zpe T) (hr.mono (by decide)) ?_ ?_
 fail "~a b h b v b j c a a a"
theorem Zk4 (T:Top K mg) (NB_term_paper:Zmw K mg base "term_paper"):Fn P w K mg base 29 "term_paper" ["claim"] Ze3:=by
 refine(fun h=>h:_->Fn P w K mg base 29 "term_paper" ["claim"] (Za7 1 2 Zc8)) (Zyb (N:=["claim","end"]) (k:=28) T.t_term_paper NB_term_paper Zgq (by fail "~U1") ?_)
 intro f c TT A outer s H E ht hC hB hr hnew
 unfold Zc8
 fail "~e"
 refine Zsv (n := "term_paper") (x := "claim") (i:=1) (j:=0) (t:=1) (cx:=s.heap.objs.size+1) (T.t_term_paper.first rfl) (fun _=>rfl) Zgq.nd rfl rfl rfl rfl rfl ht hC hB rfl (by with_unfolding_all rfl) (by with_unfolding_all rfl) (hnew "claim" _ (by with_unfolding_all rfl)) rfl rfl rfl
 fail "~d i"
 refine Zal (Zpe T) (hr.mono (by decide)) ?_ ?_
 fail "~a b h b v b j c a a a"
theorem Ydl (T:Top K mg) (NB_row_paper:Zmw K mg base "row_paper") (NB_term_paper:Zmw K mg base "term_paper"):Fn P w K mg base 30 "law" ["script"] Zqp:=by
 refine(fun h=>h:_->Fn P w K mg base 30 "law" ["script"] (Za7 1 5 Zsy)) (Zba (N:=["script","claim","side","steps","k"]) (k:=29) T.t_law Zyv (by fail "~U1") ?_)
 intro f cdv A outer s H E hr
 unfold Zsy
 have nd:=Zyv.nd
 fail "~e"
 refine Za9 (i:=1) ?_ ?_ ?_ ?_
 fail "~g a f"
 refine Zal (Zl9 T) (hr.mono (by decide)) ?_ ?_
 fail "~a b h b w z b r b r b r b r c a a a a t"
 refine Za1 ixf ?_ Zae (fun _ _=>rfl)
 fail "~aj a b ak a b h b r c a a b r c a a c a a e H g a f"
 refine Za1 (Zqo hr.units) ?_ ?_ (fun _ _=>rfl)
 refine Zal (Zjz T) (hr.mono (by decide)) ?_ ?_
 fail "~a b j c a T e u g a f I e"
 refine Zf3 ?_ ?_ ?_
 exact Zat (Zby hr.units) (Zaa (pv 2)) Zbe (Za3 _)
 fail "~d u g a f"
 refine Zal (Zms T NB_row_paper) (hr.mono (by decide)) ?_ ?_
 fail "~a b j c a d u g a f"
 refine Zal (Zk4 T NB_term_paper) (hr.mono (by decide)) ?_ ?_
 fail "~a b j c a e o a X a b r c a 4 g a f d k L x"
 refine Zal (Zgs T) (hr.mono (by decide)) ?_ ?_
 fail "~a b j b l b p b"
 refine Ze7 ?_ ?_ Zgv
 fail "~aj a b ak a b h b m c a a b r c a a"
 exact Zgo Zae
 fail "~c a a a a d D d D"
theorem Ycg (T:Top K mg) (NB_row_paper:Zmw K mg base "row_paper") (NB_term_paper:Zmw K mg base "term_paper"):Fn P w K mg base 30 "law" ["script"] Zqp:=by
 exact Ydl T NB_row_paper NB_term_paper
end
theorem walk {l:Tcn} {q:Vh} {loose:List Str} {XP:(Str->Option Vb)->Vz->Prop} {YP:Vu->Vz->Prop} {d:DefRec} {K:Params->Xb} (hn:l.most=some 63) (hdf:d.params.defaults=[])
  (hd:d.name = "law") (hY:∀ (w:Vu) (h:Vz),YP w h->(K w.params).In h) (hrec:∀ n∈(["row_paper","term_paper"]:List String),((PyProof.Rows.recsOf q).find? (fun e=>e.name==Ua n)).isSome=true) (hT:∀ (w:Vu) (mg:Str->Option Vb) (h:Vz),(K w.params).In h->h.Ns Vl mg->Top (K w.params) mg/\∃ tabs,Tabs (K w.params) ["row_paper","term_paper"] tabs)
  (pure:∀ ns:List Int,ns.length<=63->∃ Hd',Zqp [.fl (ns.map .int)] (Zeu ["row_paper","term_paper"])=some (.bl true,Hd')):Wfy q loose XP YP l.row.toRowW d [] (fun f vs=>Tcs f vs):=by
 refine Zv3 (k:=30) (x := "script") (G:=Zqp) (names:=["row_paper","term_paper"]) hn hdf ⟨rfl,by decide,by decide,rfl⟩ hY hrec (fun w mg h KX G=>(hT w mg h KX G).2) (fun w mg fa h KX G hmg=>?_) pure
 have T:=(hT w mg h KX G).1
 obtain⟨f,fd,F,hm⟩:=T.t_law
 have e0:f=fa:=by rw[hd] at hmg; rw[hm] at hmg; cases hmg; rfl
 subst e0
 have B:=F.binds (ps:=["script"]) (fun _ _ _ _ _ _ us hl=>by obtain⟨_,rfl⟩:=us1 hl; rfl)
 refine⟨fd,fun s u=>?_,fun base kb nb NB=>?_⟩
 ·obtain⟨oc,od,kV,doc,pm,an,cdv,ct,osl,rfl,lk,hcd⟩:=F.ex
  exact .of_eq rfl
 ·obtain⟨f',fd',G1,hb,hk,hm',oc',od',osl',lk'⟩:=(Ycg (P:=l.prog) (w:=w) (base:=base) T (NB "row_paper" (by simp)) (NB "term_paper" (by simp))).ex
  have e1:f'=f:=by rw[hm] at hm'; cases hm'; rfl
  subst e1
  have e2:fd'=fd:=by
   obtain⟨oc,od,kV,doc,pm,an,cdv,ct,osl,e3,lk,hcd⟩:=F.ex
   rw[lk] at lk'
   have e4:=Xw.inj lk'
   injection e4 with _ _ e5 _
   injection e5 with e6
   exact e6.symm
  subst e2
  exact G1
end K08
open PySem PySem.W PyProof.Rows L2 DL
local macro_rules | `(tactic| fail $s:str)=>do
 if s.getString.take 1 != "=" then Lean.Macro.throwUnsupported
 let i:=Lean.mkIdent
 match (s.getString.drop 1).toString with
  | "T" => `(tactic| (show Tf (L2.KOf $(i `KX)) _ _ _; dsimp only[L2.KOf]; refine' tf_mk $(i `KX) $(i `G) ?a ?l ?c ?k; (case a=>k_is); (case l=>k_is); (case c=>k_is); (case k=>k_is)))
  | "N" => `(tactic| (refine' PySem.W.mg_none_of $(i `KX) $(i `G) ?z; (case z=>k_is)))
  | _=>Lean.Macro.throwUnsupported
set_option maxRecDepth 100000 in
set_option maxHeartbeats 0 in
theorem PySem.Challenge.cw_allsome_k35_whole_picks_of_papers_are_go_holds : PySem.Challenge.rw_allsome_k35_whole_picks_of_papers_are_go.Holds := by
 w_on; o_law; refine holds_open (q:=(PySem.Challenge.vwOf PySem.Challenge.pw_allsome_k35_whole_picks_of_papers_are_go)) (loose:=[]) (Xt:=PySem.Challenge.xt0) (XP:=XL (PySem.Challenge.vwOf PySem.Challenge.pw_allsome_k35_whole_picks_of_papers_are_go) []) (Yf:=Hook.obs PySem.Challenge.hk0) (Ya:=Hook.val PySem.Challenge.hk0) (YP:=InK PySem.Challenge.mk0.heap_39) (N:=4970) PySem.Challenge.left0 (Hook.of PySem.Challenge.hk0) (Hook.keeps PySem.Challenge.hk0) (fun s e=>xl_of s (Wep.mp e).1) XL.keeps (by rfl) (by rfl) (by rfl) (fun s e=>recFacts_of (Wep.mp e).2) (by rfl) (by assumption) (by decide +kernel) ⟨rfl,rfl,rfl,rfl,rfl,by decide +kernel⟩ ?hw ?hc
 (case hw=>w_witness2)
 k_fill
 refine K08.walk (l:=PySem.Challenge.rw_allsome_k35_whole_picks_of_papers_are_go) rfl rfl rfl (fun w h Y=>Y) ?R ?T K08.pure_law
 case R=>decide +kernel
 case T =>
  intro w mg h KX G
  have t_row_paper:Tn (L2.KOf KX) mg "row_paper" K08.s_row_paper:=by
   dsimp only[L2.KOf]
   refine' Yc0 KX G ?a ?l ?c ?k ?m ?v
   (case a=>k_is); (case l=>k_is); (case c=>k_is); (case k=>k_is); (case m=>k_is); (case v=>rfl)
  have t_term_paper:Tn (L2.KOf KX) mg "term_paper" K08.s_term_paper:=by
   dsimp only[L2.KOf]
   refine' Yc0 KX G ?a ?l ?c ?k ?m ?v
   (case a=>k_is); (case l=>k_is); (case c=>k_is); (case k=>k_is); (case m=>k_is); (case v=>rfl)
  have c_TRUTHS:Gc (L2.KOf KX) mg "TRUTHS" K08.k_TRUTHS:=by
   dsimp only[L2.KOf]
   refine' Zr5 KX G ?a ?l
   (case a=>k_is); (case l=>k_is)
  have v_claims_row:Fv (L2.KOf KX) mg "claims_row" := by
   dsimp only[L2.KOf]
   refine' Ybp KX G ?za
   (case za=>k_is)
  have v_told_term:Fv (L2.KOf KX) mg "told_term" := by
   dsimp only[L2.KOf]
   refine' Ybp KX G ?za
   (case za=>k_is)
  refine' ⟨⟨by fail "=T",by fail "=T",by fail "=T",by fail "=T",by fail "=T",by fail "=T",by fail "=T",by fail "=T",by fail "=T",by fail "=T",by fail "=T",by fail "=T",by fail "=T",by fail "=T",by fail "=T",by fail "=T",by fail "=T",by fail "=T",by fail "=T",by fail "=T",by fail "=T",by fail "=T",by fail "=T",by fail "=T",by fail "=T",by fail "=T",by fail "=T",by fail "=T",by fail "=T",by fail "=T",by fail "=T",by fail "=T",by fail "=T",by fail "=T",by fail "=T",by fail "=T",by fail "=T",by fail "=T",by fail "=T",by fail "=T",by fail "=T",by fail "=T",by fail "=T",by fail "=T",by fail "=T",by fail "=T",by fail "=T",by fail "=T",by fail "=T",by fail "=T",by fail "=T",t_row_paper,t_term_paper,by fail "=T",by fail "=N",by fail "=N",by fail "=N",by fail "=N",by fail "=N",by fail "=N",by fail "=N",by fail "=N",by fail "=N",by fail "=N",by fail "=N",by fail "=N",by fail "=N",by fail "=N",c_TRUTHS,v_claims_row,v_told_term⟩,Zwc t_row_paper rfl t_term_paper rfl ?td ?tn⟩
  (case td=>kernel_rfl)
  (case tn=>kernel_rfl)
