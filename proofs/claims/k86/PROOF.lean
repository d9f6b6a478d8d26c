import PyProof.Rows.All
import Wide.All
import Wide.FinOn
import Lean
import PyProof.EqAt
import PyProof.EqKinds
import PyProof.TupleCall
import KE.KDictList
import KE.KDictOf
import KE.KIntText
import KE.KItemsList
import KE.KNest
import KE.KSortKey
import KE.KSortTup
import KE.KTryMore
import PyProof.AttrMissHeap
import PyProof.AutoSeq1
import PyProof.ExcAttrAll.ValueError
import PyProof.FitsBits
import PyProof.MeetsStr2
import PyProof.MinMaxWalk
import PyProof.P3Eq
import PyProof.P3In
import PyProof.ReprLen
import PyProof.Rows.DictRows
import PyProof.Rows.Own
import PyProof.Rows.RuleB_bool
import PyProof.Rows.TupIter
import PyProof.SeqI3
import PyProof.StrBlockG
import PyProof.StrOps2
import PyProof.StrWalks
import PyProof.SumWalkG
import PyProof.TupleOfSeq
import PyProof.WalkInts
import KE.KNest
import KE.KDictList
import KE.KSortAsk
import KE.KSortKey
import KE.KTryMore
import PySem.Challenge.RW_allsome_k86_whole_matches_by_papers
set_option Elab.async false
set_option compiler.extract_closed false
set_option bootstrap.genMatcherCode false
set_option linter.all false
set_option maxRecDepth 100000
open PySem.Str renaming ofString → Ua, empty → Tda
open PySem.PyData renaming eqv → Ub, eqvAll → Uo, canLay0 → Tae, canLayAll0 → Tal, depth → Taq, depthAll → Tcb, strOk → Tco, bool → Tcr
open PySem.Builtin.SmallTypes renaming ownedTupleIsFree → Uc, ownedTupleHandOut → Ud
open PySem.NameKind renaming free → Ue, cell → Tab
open PyProof.Rows renaming slot_tuple_getitem → Uf, callWith_type1 → Ui
open False renaming elim → Ug
open PySem.Value renaming ref → Uh, none → Uq, type → Tbb, bool → Tbp, int → Tcy, str → Tcz
open PySem renaming mem_of_lookup → Uj, sizeLine_eq → Ux, Spec → Taf, Within → Tcm, seqSlot_of → Tcp, call → Tcw
open PySem.F renaming slot_enumerate_next → Uk, slot_dict_keyiterator_next → Um, slot_dict_setdefault → Ur, slot_tuple_iterator_next → Ut, slot_list_append → Uy, type_list_append → Uz, args_enumerate_next_1 → Tac, entry_enumerate_next → Tag, called_enumerate → Tah, type_dict_setdefault → Tai, slot_tuple_mul → Tan, args_tuple_add_2 → Tao, entry_tuple_add → Tar, slot_tuple_add → Tat, entry_enumerate_new → Tau, args_dict_keyiterator_next_1 → Tav, slot_bool_hash → Taw, entry_dict_keyiterator_next → Tax, args_tuple_iterator_next_1 → Taz, slot_int_rmul → Tbd, entry_tuple_iterator_next → Tbf, slot_zip_next → Tbg, args_tuple_mul_2 → Tbm, entry_tuple_mul → Tbq, typeCall_enumerate_1 → Tbv, newCall_enumerate_1 → Tby, slot_dict_len → Tbz, args_object_init_2 → Tce, args_int_rmul_2 → Tcj, args_zip_next_1 → Tcl
open Ne renaming symm → Ul
open PySem.Builtin.List renaming listExtendWith → Us, listTooLong → Tap
open PySem.Builtin.Slice renaming slicePlaces → Uu, sliceAdjust → Tam, sliceApplied → Tbi
open Decidable renaming byContradiction → Uv
open PySem.Builtin.Tuple renaming tupleExact → Uw, tupleItemsOf → Tbj, tupleTooMany → Tbk, tupleIsExact → Tbl, tupleHashOf → Tbo
open PySem.Builtin.Range renaming rangeSize → Taa, small → Tcg
open True renaming intro → Tad
open ForInStep renaming yield → Taj
open PySem.PassesOwn renaming never → Tak
open PySem.Obj renaming data_mapFields → Tas, mapSeq → Tbc, isFreed_of_fields → Tbx, data_mapDictKeys → Tcf, cls_mapFields → Tck
open Or renaming inr → Tay, inl → Tbe
open PySem.Builtin.Dict_items renaming ownsTuple → Tba
open PySem.Calls renaming Name_function_global → Tbh, callWith_builtin → Tbu, evalArgs_plain → Tcd
open PySem.Code renaming quiet_builtin → Tbn, isFrame → Tcn
open PySem.Shared renaming heap → Tbr
open PySem.AutoSeq1 renaming idx_int → Tbs
open PyProof renaming noPylong_small → Tbt
open PySem.Around renaming under → Tbw, frames_deeper → Tcc
open PySem.Builtin.Dict renaming showsAll → Tca
open Sum renaming inl → Tch, inr → Tci
open PySem.W renaming OpenLaw → Tcq
open PySem.SeqAt.EqAt renaming bool_bool → Tcs, int_bool → Tct, bool_int → Tcu
open PySem.FuncBody renaming stmts → Tcv
open PySem.Paired renaming length → Tcx
open PyProof.Rows.KskEnd renaming intro → Tdb
open PySem.IsRange renaming new → Tdc
open Lean in
local macro_rules (kind:=Lean.Parser.Command.declaration) | d=>do
 if d[0].getArgs.any (fun x=>x[0].isOfKind `Lean.Parser.Command.nonrec) then return d.setArg 0 (<- `(command| noncomputable def a:=1)).raw[0]
 else Macro.throwUnsupported
open PySem renaming wpAny_bind → Va, Value → Vb, wpAny_pure → Vc, Shared → Vd, Addr → Ve, starEach → Vf, wpAny → Vg, mainGlobals → Vh, Program → Vi, Paired → Vj, wpAny_callSpecial?_slot → Vk, model → Vl, wpAny_setField_rec → Vm, wpAny_field → Vn, wpAny_loadPart' → Vo, wpAny_call_entry → Vp, bootBuiltins → Vq, Around → Vr, World → Vs, compareOp → Vt, wpAny_newObj_type → Vu, Expr → Vv, Stmt → Vw, wpAny_holding → Vx, Heap → Vy, wpAny_truthy_bool → Vz, foldedSetIterable → Uaa, binaryOp → Uab, backTo → Uac, rawInt → Uad, wpAny_typeNameOfWhole_keyiter → Uae, lookup_relabel_local → Uaf, sysModules → Uag, PyData → Uah, wpAny_Call_Name_kw → Uai, wpAny_pyIter_tuple → Uaj, keywordEach → Uak, wpAny_seqItems → Ual, wpAny_passesOwn → Uam, DictEntry → Uan, wpAny_pyIter_list → Uao, wpAny_attempt → Uap, wpAny_mono → Uaq, assignEach → Uar, codeAny_mono → Uas, FuncData → Uat, wpAny_pyIter_enum → Uau, wpAny_dictEntries → Uav, IsEnum → Uax, IsPair → Uaz, sizeLine_eq → Uba, wpAny_comprehension_free → Ubb, tupleKind → Ubc, behindInMarks → Ubd, attributeBase → Ube, NameKind → Ubf, codeAny_builtin → Ubh, sliceBounds → Ubi, wpAny_rule → Ubj, backToKw → Ubk, pyNext → Ubl, wpAny_isInstance → Ubm, wpAny_updateSeq_pair → Ubn, Scope → Ubo, wpAny_standAt → Ubp, bindArgs → Ubq, call_meets → Ubr, swapsWith → Ubs, holding → Ubt, wpAny_letGo → Ubu, wpAny_newFunctionEnv_cells → Ubv, wpAny_letOwnedTupleGo_enum → Ubw, callWith → Ubx, compEnvC → Uby, tupleKind_room_in1 → Ubz, codeAny → Uca, wpAny_binaryOp_repeat_ref → Ucb, wpAny_setField → Ucc, firstArgMember → Ucd, isSubtype_stop → Uce, Keyword → Ucf, wpAny_newList → Ucg, wpAny_onRaise → Uch, noFill_tuple_add → Uci, wpAny_pyNext_range_end → Ucj, wpAny_pyIter_rangeiter → Uck, wpAny_Call_method_late → Ucm, codeAny_compStart_list → Ucn, wpAny_execs_nil → Ucq, letOwnedTupleGo → Ucr, getMethod → Ucs, codeAny_call_function → Uct, wpAny_typeOf → Ucu, IsEnumOut → Ucv, wpAny_stack_any → Ucw, wpAny_notOrdered_dict → Ucx, wpAny_dictEpoch → Ucy, wpAny_isOneOf_keyiter → Ucz, typeIs_int → Uda, wpAny_loadName_local → Udb, wpAny_newFunctionEnv → Udc, wpAny_pyIter_keyiter → Udd, codeAny_call_builtin → Ude, assign → Udh, wpAny_newTuple → Udi, dictSetDefault → Udk, wpAny_loadName_cell → Udl, standAt → Udm, IsRangeIter → Udn, getItem → Udo, field → Udp, IsZip → Udr, seq_tuple_add → Uds, IsPart → Udt, setField → Udu, sub_enumerate → Udv, ZipApart → Udw, wpAny_call → Udx, callerA → Udy, concat_meets → Ueb, callType_new → Uec, Operator → Uee, hashInt → Uef, storeName → Ueg, PassesOwn → Ueh, cellsFrom → Uei, Arguments → Uej, wpAny_of_eq → Uek, wpAny_mkInt → Uel, storedH → Uem, Meets → Uen, stored → Uep, newList → Uer
open PyProof.Rows renaming envOfC → Uaw, seqObj → Uay, IntsAre → Ubg, subscriptTail_builtinR → Ucl, call_function_entry_kw → Uco, AllBare → Ucp, entry_proto_collect' → Udf, callWith_builtin_kwB → Udg, boot_enumerate → Udj, wpAny_call_entry_kw → Udq, call_abs_int → Uea, evalArgs_kwB → Ued, IsTup → Ueq
open PySem.W renaming tabIn → Udz, nsIn → Ueo
open PySem.Heap renaming get?_push_of_some → Xa, get?_push_size → Xd, lt_size → Xf, SameBut → Xw, size_push → Wam, get?_update_self → Wdm, ExtBut → Web
open PySem.W renaming Frag → Xb, fnOf → Wba, emptyDict → Wbe, findIn → Wbs, keepIn → Wbt, instObj → Wbv, kia_one → Wcd, codeIn → Wcs, nsIn → Wcy, callWith_K → Wda, cellsFrom_some → Wde, plainGet → Wdp, plainGet_of → Wdz, lookIn → Weh, methodObj → Wek, hasDictIn → Wel, takerIn → Weu, methodCall_KW → Wev, codeRec_of → Wfj, mg_of → Wfk, plainOver → Wfq, kitx_list → Wft, isFn → Wfz, handedIn → Wgh, makesIn → Wgm, WalkO → Wgs
open List renaming getElem?_eq_some_iff → Xc, getElem?_append_left → Xg, mem_cons → Xi, mem_of_getElem? → Xk, replicate → Xl, getElem?_eq_getElem → Xm, map_cons → Xn, size_toArray → Xo, getElem?_map → Xp, length_append → Xq, length_map → Xr, getElem?_append_right → Xs, all_eq_true → Xu, mem_append_right → Xv, mem_append → Xy, mem_map → Xz, append_assoc → Wab, getElem_mem → Wac, append_nil → Wad, mem_cons_of_mem → Wae, lookup_cons → Waf, mem_filter → Wag, exists_cons_of_length_eq_add_one → Waj, getElem?_set_ne → Wal, length_filter_le → Wan, map_append → Wap, drop_eq_getElem_cons → Waq, getElem?_set_self → War, replicate_succ → Was, map_map → Wat, any_eq_true → Wau, filter_cons_of_neg → Waw, mem_append_left → Wax, getLast?_eq_some_iff → Wbb, length_cons → Wbc, nodup_append → Wbf, nodup_cons → Wbg, mem_singleton → Wbh, length_take → Wbj, getD_eq_getElem?_getD → Wbk, filter_sublist → Wbl, length_singleton → Wbm, length → Wbn, cons → Wbo, getElem?_replicate → Wbp, filter_cons_of_pos → Wbq, any_eq_false → Wbu, find?_cons_of_neg → Wbx, mem_iff_getElem? → Wby, getElem?_eq_none → Wbz, lookup → Wca, flatten_cons → Wcb, find?_cons → Wce, getElem?_cons_succ → Wcf, length_eq_zero_iff → Wcg, not_mem_nil → Wci, take_append_of_le_length → Wcj, mem_cons_self → Wck, zip_cons_cons → Wcl, length_nil → Wcm, set_getElem_self → Wcn, getElem?_concat_length → Wco, filter_map → Wcp, any_cons → Wcq, mem_range → Wcr, filterMap_cons → Wcu, map_congr_left → Wcw, getElem?_take_of_lt → Wcx, mem_filterMap → Wcz, of_mem_zip → Wdb, nil_append → Wdc, all_cons → Wdd, drop_eq_nil_of_le → Wdf, find?_cons_of_pos → Wdh, filter_eq_nil_iff → Wdi, getElem?_set → Wdj, take_left → Wdk, map_nil → Wdl, eq_nil_or_concat → Wdn, concat_eq_append → Wdo, cons_append → Wdq, getElem_map → Wdr, mem_flatMap → Wds, mem_of_getLast? → Wdt, mem_iff_getElem → Wdu, getLast?_append → Wdv, range → Wdx, exists_cons_of_ne_nil → Wec, pairwise_cons → Wee, lookup_append → Wef, getLast?_cons → Weg, getElem?_zip_eq_some → Wei, mem_of_find?_eq_some → Wej, foldl → Wem, pairwise_map → Wen, reverse_cons → Weo, length_drop → Weq, drop_of_length_le → Wes, range_succ_eq_map → Wet, length_replicate → Wew, forIn_cons → Wex, take_append_drop → Wfc, getElem_of_mem → Wff, mem_map_of_mem → Wfh, set → Wfm, map_drop → Wfn, filter_append → Wfo, take_sublist → Wfr, getElem?_inj → Wfs, ext_getElem? → Wfu, all_eq_false → Wfw, getElem_take → Wfx, flatMap_cons → Wfy, set_set → Wgd, any_map → Wge, getElem_inj → Wgg, zipIdx_cons → Wgj, zipIdx_nil → Wgo, find?_some → Wgp, all_append → Wgq, forIn_nil → Wgr
open Nat renaming le_refl → Xe, ne_of_lt → Xh, lt_of_lt_of_le → Xj, le_trans → Waa, lt_irrefl → Wav, zero_le → Wbd, ne_of_gt → Wbr, lt_succ_of_lt → Wcc, pow_le_pow_right → Wdw, le_succ → Wea, le_of_lt → Wed, lt_succ_self → Wep, succ_ne_self → Wer, pow_succ → Wfd, mul_le_mul_left → Wfi, one_le_two_pow → Wfp, le_of_eq → Wga, mul_comm → Wgb, add_zero → Wgc, sub_self → Wgf, succ_le_succ → Wgk, not_lt_zero → Wgn
open Option renaming some → Xx, isSome_iff_exists → Wak, map_some → Wey, isSome_map → Wfv, getD_none → Wgi, getD_some → Wgl
open Int renaming toNat_natCast → Wah, emod_lt_of_pos → Wbi, emod_nonneg → Wbw, toNat_of_nonneg → Wch, le_refl → Wcv
open Bool renaming and_eq_true → Wai, false_eq_true → Wao, false_ne_true → Waz, or_eq_true → Wez, eq_iff_iff → Wfa, and_eq_true_iff → Wfe
open Prod renaming mk → Way
open Array renaming getElem?_eq_getElem → Wct, getElem?_eq_none → Wdg, length_toList → Wdy, getElem?_toList → Wfb, toList_append → Wfg, empty_append → Wfl
theorem Zo {α β:Type} {x:Option α} {f:α->Option β} {b:β} (h:x.bind f=some b):∃ a,x=some a/\f a=some b:=Option.bind_eq_some_iff.1 h
theorem Zm {α β:Type} {x:Option α} {f:α->β} {b:β} (h:x.map f=some b):∃ a,x=some a/\f a=b:=Option.map_eq_some_iff.1 h
theorem Zb {α β:Type} (a:α) (f:α->Option β):(some a).bind f=f a:=rfl
namespace PySem.W
open PySem
/-! the top run on a tree -/
def treeOf:List Obj->Nat->BT->Option BT
  | [],_,t=>some t
  | o::r,i,t=>match ((t.ins i o).get i).isSome with
    | true=>treeOf r (i+1) (t.ins i o)
    | false=>none
theorem treeOf_abs {life}:∀ (l:List Obj) (i:Nat) (t T:BT),treeOf l i t=some T->absHeap T (i+l.length) life=⟨(absHeap t i life).objs++l.toArray,life⟩
  | [],i,t,T,h=>by cases h; simp[absHeap]
  | o::r,i,t,T,h=>by
    unfold treeOf at h
    cases e:((t.ins i o).get i).isSome with
    | false=>rw[e] at h; cases h
    | true =>
      rw[e] at h
      have a:=treeOf_abs (life:=life) r (i+1) (t.ins i o) T h
      rw[absHeap_ins e] at a
      rw[List.length_cons,show i+(r.length+1)=i+1+r.length by omega,a]
      simp[Heap.push]
def topRunT (tb:String->Option Builtin) (p:Program) (w:World) (n₀:Nat) (ann:Option Value):Nat->SharedT->Thread->Option SharedT
  | 0,_,_=>none
  | n+1,s,t=>match through t with
    | true=>some s
    | false=>match stepOk n₀ ann t with
      | false=>none
      | true=>match stepT (denote tb) p w s t with
        | some (s',t')=>topRunT tb p w n₀ ann n s' t'
        | none=>none
theorem topRun_of {tb:String->Option Builtin} {p:Program} {w:World} {n₀:Nat} {ann:Option Value}:∀ {n:Nat} {s s':SharedT} {t:Thread},topRunT tb p w n₀ ann n s t=some s'->topRun tb p w n₀ ann n s.abs t=some s'.abs
  | 0,_,_,_,h=>by cases h
  | n+1,s,s',t,h=>by
    unfold topRunT at h
    unfold topRun
    cases he:through t with
    | true=>rw[he] at h; cases h; rfl
    | false =>
      rw[he] at h
      cases hk:stepOk n₀ ann t with
      | false=>rw[hk] at h; cases h
      | true =>
        rw[hk] at h
        cases hs:stepT (denote tb) p w s t with
        | none=>rw[hs] at h; cases h
        | some r=>obtain⟨s₂,t₂⟩:=r; rw[hs] at h; rw[stepT_spec hs]; exact topRun_of h
def topT (tb:String->Option Builtin) (p:Program) (w:World) (N:Nat) (s₀:Shared):Option Shared :=
  match s₀.heap.isNs mainGlobals&&s₀.gens.size==0 with
  | true=>(treeOf s₀.heap.objs.toList 0 .nil).bind fun T=>(topRunT tb p w s₀.heap.objs.size (s₀.heap.nsMap mainGlobals "__annotations__") N ⟨T,s₀.heap.objs.size,s₀.heap.life,s₀.gens,s₀.drawn,s₀.toks,s₀.os⟩ (topStub p)).bind fun s₁ =>
    match staticsOk (importedModules p.main.body) s₀.heap s₁.abs.heap&&namesBound p s₁.abs.heap&&gensDone s₁.abs&&laidKept s₀.heap s₁.abs.heap with
    | true=>some s₁.abs
    | false=>none
  | false=>none
theorem topT_of {tb:String->Option Builtin} {p:Program} {w:World} {N:Nat} {s₀ r:Shared} (h:topT tb p w N s₀=some r):topFrom tb p w N s₀=some r:=by
  unfold topT at h
  unfold topFrom
  cases e:(s₀.heap.isNs mainGlobals&&s₀.gens.size==0) with
  | false=>rw[e] at h; cases h
  | true =>
    rw[e] at h
    obtain⟨T,h1,h⟩:=Option.bind_eq_some_iff.mp h
    obtain⟨s₁,h2,h⟩:=Option.bind_eq_some_iff.mp h
    have a:=treeOf_abs (life:=s₀.heap.life) _ _ _ _ h1
    have b:=topRun_of h2
    have c:(SharedT.mk T s₀.heap.objs.size s₀.heap.life s₀.gens s₀.drawn s₀.toks s₀.os).abs=s₀:=by
      unfold SharedT.abs
      have z:absHeap T s₀.heap.objs.size s₀.heap.life=s₀.heap:=by
        have a':=a
        rw[Nat.zero_add] at a'
        rw[show s₀.heap.objs.size=s₀.heap.objs.toList.length by simp,a']
        obtain⟨⟨objs,life⟩,g,d,t,o⟩:=s₀
        simp[absHeap,BT.list]
      show Shared.mk (absHeap T s₀.heap.objs.size s₀.heap.life) s₀.gens s₀.drawn s₀.toks s₀.os=s₀
      rw[z]
    rw[c] at b
    rw[b]
    exact h
end PySem.W
section
open PySem PySem.W PyProof.Rows
nonrec def PySem.Challenge.vwOf (p:Vi):Vi:={ p with main:={ p.main with body:=[1,2,3,4,5,6,7,8,9,10,11,13,14,15,16,17,19,20,21,22,23,24,25,27,29,30,31,32,33,35,36,37,38,39,40,41,42,43,44,45,46,47,48,50,51,53,54,55,56,57,58,60,61,62,64,65,66,67,68,69,70,71,72,73,74,75,76,77].filterMap fun i=>p.main.body[i]? } }
local macro_rules | `(tactic| o_head $_) => `(tactic| exact Ug (by assumption))
set_option maxRecDepth 100000 in
set_option maxHeartbeats 0 in
theorem PySem.Challenge.mk0:False->PySem.Challenge.rw_allsome_k86_whole_matches_by_papers.Holds:=by
 intro f; w_on; o_law; k_head
nonrec def PySem.Challenge.hk0:Hook:=kHook PySem.Challenge.mk0.heap_39 [2,3,15,16,18,19,21,22,23,25,26,28,29,30,32,33,35,36,37,39,40,42,43,44,46,47,49,50,51,53,54,56,57,58,60,61,63,64,65,68,69,70,73,74,75,82,83,84,85,88,95,97,98,100,101,102,103,104,107,114,115,116,119,126,127,128,131,138,139,140,143,145,146,148,149,150,152,153,155,156,157,159,160,162,163,164,166,167,169,170,171,173,174,176,177,178,180,181,183,184,185,188,189,197,199,200,202,203,204,206,207,209,210,211,213,214,216,217,218,220,221,223,224,225,227,228,230,231,232,234,235,237,238,239,241,242,244,245,246,248,249,251,252,253,254,255,256,257,260,263,264,265,267,268,270,271,272,274,275,277,278,279,281,282,284,285,286,288,289,291,292,293,295,296,298,299,300,302,303,305,306,307,309,310,312,313,314,317,318,319,321,322,324,325,326,328,329,331,332,333,335,336,338,339,340,342,343,345,346,347,349,350,352,353,354,356,357,359,360,361,363,364,366,367,368,370,371,373,374,375,377,378,380,381,382,385,386,387,389,390,392,393,394,396,397,399,400,401,404,405,406,408,409,411,412,413,415,416,418,419,420,422,423,425,426,427,429,430,432,433,434,436,437,439,440,441,444,445,446,449,450,451,453,454,456,457,458,460,461,463,464,465,467,468,470,471,472,474,475,477,478,479,481,482,484,485,486,488,489,491,492,493,496,497,498,500,501,503,504,505,507,508,510,511,512,515,516,517,519,520,522,523,524,526,527,529,530,531,533,534,536,537,538,540,541,543,544,545,547,548,550,551] (fun _=>by kernel_rfl)
nonrec def PySem.Challenge.xt0 (s:Vd):Bool:=xlAt (PySem.Challenge.vwOf PySem.Challenge.pw_allsome_k86_whole_matches_by_papers) [] s&&recOk (RowW.records (OpenRow.toRowW (OpenLaw.row PySem.Challenge.rw_allsome_k86_whole_matches_by_papers))) s
set_option maxRecDepth 100000
namespace PySem.Challenge
nonrec abbrev oV:=(vwOf pw_allsome_k86_whole_matches_by_papers)
nonrec abbrev oP:=(OpenLaw.row rw_allsome_k86_whole_matches_by_papers).prog
nonrec abbrev oS:=openSeen oV [("left_claims" : Str)] (importedModules oP.main.body) xt0 true
nonrec abbrev oG:=openGood oV [("left_claims" : Str)]
nonrec abbrev oT:=topT treeTable oP
local macro_rules|`(tactic|fail "K")=>`(tactic|(delta oS oG oT oP oV xt0; (try rewrite[PySem.W.Fast.te4187177175401517315]); (try rewrite[PySem.W.Fast.te5923862056798008813]); (try rewrite[PySem.W.Fast.te2368527892694137696]); (try rewrite[PySem.W.Fast.te16214729917858586319]); (try rewrite[PySem.W.Fast.te6469783580417403361]); (try rewrite[PySem.W.Fast.te14364793385576792824]); (kernel_rfl)))
theorem left1 (w:World) (os:OsState):(oT w 7104 ⟨boot_heap w.params,Array.mk [],boot_drawn,boot_toks,os⟩).map (fun s=>(oS s).1)=some (oG.1):=by
 fail "K"
theorem left2 (w:World) (os:OsState):(oT w 7104 ⟨boot_heap w.params,Array.mk [],boot_drawn,boot_toks,os⟩).map (fun s=>(oS s).2.1)=some (oG.2.1):=by
 fail "K"
theorem left3 (w:World) (os:OsState):(oT w 7104 ⟨boot_heap w.params,Array.mk [],boot_drawn,boot_toks,os⟩).map (fun s=>(oS s).2.2.1)=some (oG.2.2.1):=by
 fail "K"
theorem left456789 (w:World) (os:OsState):(oT w 7104 ⟨boot_heap w.params,Array.mk [],boot_drawn,boot_toks,os⟩).map (fun s=>((oS s).2.2.2.1,(oS s).2.2.2.2.1,(oS s).2.2.2.2.2.1,(oS s).2.2.2.2.2.2.1,(oS s).2.2.2.2.2.2.2.1,(oS s).2.2.2.2.2.2.2.2))=some ((oG.2.2.2.1,oG.2.2.2.2.1,oG.2.2.2.2.2.1,oG.2.2.2.2.2.2.1,oG.2.2.2.2.2.2.2.1,oG.2.2.2.2.2.2.2.2)):=by
 fail "K"
theorem leftc (w:World) (os:OsState):(oT w 7104 ⟨boot_heap w.params,Array.mk [],boot_drawn,boot_toks,os⟩).map (fun s=>hk0.obs s)=some (hk0.val w):=by
 fail "K"
theorem lx {A B:Type} {o:Option A} {f:A->B} {r b} (h:o=some r) (k:o.map f=some b):f r=b:=by subst h; exact Option.some.inj k
theorem left0:LeftO oP oV [("left_claims" : Str)] xt0 hk0.obs hk0.val 7104:=fun w=>by
 obtain⟨⟨h,g,d,t,os⟩,hs,hv⟩:=Option.map_eq_some_iff.mp (boot_open (p:=oP) (N:=7104) (by kernel_rfl) (by kernel_rfl) (fun s=>by kernel_rfl) w)
 obtain⟨e1,hv⟩:=Prod.mk.inj (show (h,g,d,t)=_ from hv)
 obtain⟨e2,hv⟩:=Prod.mk.inj hv
 obtain⟨e3,e4⟩:=Prod.mk.inj hv
 subst e1; subst e2; subst e3; subst e4
 obtain⟨r,hr,hc⟩:=Option.map_eq_some_iff.mp (leftc w os)
 have j1:=lx hr (left1 w os)
 have j2:=lx hr (left2 w os)
 have j3:=lx hr (left3 w os)
 have j456789:=lx hr (left456789 w os)
 unfold openEnds
 rw[hs,Option.bind_some,topT_of hr]
 exact congrArg some (Prod.ext (Prod.ext j1 (Prod.ext j2 (Prod.ext j3 (Prod.ext (congrArg (fun z=>z.1) j456789) (Prod.ext (congrArg (fun z=>z.2.1) j456789) (Prod.ext (congrArg (fun z=>z.2.2.1) j456789) (Prod.ext (congrArg (fun z=>z.2.2.2.1) j456789) (Prod.ext (congrArg (fun z=>z.2.2.2.2.1) j456789) (congrArg (fun z=>z.2.2.2.2.2) j456789))))))))) hc)
end PySem.Challenge
end
namespace L2
open PySem PySem.Spec PyProof.Rows
nonrec abbrev Key:=Sum Int Str
nonrec def Yga:Key->Vb->Bool
 | .inl k,v=>Value.isInt k v
 | .inr x,v=>Value.isStrOf x v
nonrec def keyH (w:Vs):Key->Int
 | .inl k=>Uef k
 | .inr x=>hashStr w x
theorem Zbs:∀ {k:Key} {v:Vb},Yga k v=true->(∃ i t,k=Tch i/\v=Tcy i t)\/(∃ x t,k=Tci x/\v=Tcz x t)
 | .inl i,v,h=>by
  obtain⟨t,e⟩:=Value.isInt_shape (k:=i) (v:=v) h
  exact .inl ⟨i,t,rfl,e⟩
 | .inr x,v,h=>by
  obtain⟨t,e⟩:=Value.isStrOf_shape (x:=x) (v:=v) h
  exact .inr ⟨x,t,rfl,e⟩
theorem Yf4 (a b:Int):decide ((Tch a:Key)=Tch b)=(a==b):=by
 by_cases e:a=b
 ·subst e; simp
 ·have h:¬ (Tch a:Key)=Tch b:=fun q=>e (Sum.inl.inj q)
  rw[decide_eq_false h]
  exact(beq_eq_false_iff_ne.mpr e).symm
theorem Yfz (a b:Str):decide ((Tci a:Key)=Tci b)=decide (a=b):=by
 by_cases e:a=b
 ·subst e; simp
 ·have h:¬ (Tci a:Key)=Tci b:=fun q=>e (Sum.inr.inj q)
  rw[decide_eq_false h,decide_eq_false e]
theorem Ygq (a:Int) (b:Str):decide ((Tch a:Key)=Tci b)=false:=decide_eq_false (fun q=>nomatch q)
theorem Yhp (a:Str) (b:Int):decide ((Tci a:Key)=Tch b)=false:=decide_eq_false (fun q=>nomatch q)
nonrec def Zp9 (prog:Vi) (w:Vs):PySem.KeyKind prog w Key where
 is:=Yga
 hash:=keyH w
 inj:=fun v a b ha hb=>by
  rcases Zbs ha with ⟨i,t,rfl,rfl⟩ | ⟨x,t,rfl,rfl⟩
  ·rcases Zbs hb with ⟨j,u,rfl,e⟩ | ⟨y,u,rfl,e⟩
   ·injection e with e1 _; rw[e1]
   ·exact nomatch e
  ·rcases Zbs hb with ⟨j,u,rfl,e⟩ | ⟨y,u,rfl,e⟩
   ·exact nomatch e
   ·injection e with e1 _; rw[e1]
 byValue:=fun k v h=>by
  rcases Zbs h with ⟨i,t,rfl,rfl⟩ | ⟨x,t,rfl,rfl⟩<;>rfl
 pyHash:=fun hv h=>by
  rcases Zbs hv with ⟨i,t,rfl,rfl⟩ | ⟨x,t,rfl,rfl⟩
  ·exact wpAny_pyHash_int h
  ·exact wpAny_pyHash_str h
 eqBool:=fun hu hv h=>by
  rcases Zbs hu with ⟨i,t,rfl,rfl⟩ | ⟨x,t,rfl,rfl⟩
  ·rcases Zbs hv with ⟨j,u,rfl,rfl⟩ | ⟨y,u,rfl,rfl⟩
   ·rw[Yf4] at h; exact wpAny_eqBool_int h
   ·rw[Ygq] at h; exact SeqAt.EqAt.int_str i t y u _ _ _ _ h
  ·rcases Zbs hv with ⟨j,u,rfl,rfl⟩ | ⟨y,u,rfl,rfl⟩
   ·rw[Yhp] at h; exact SeqAt.EqAt.str_int x t j u _ _ _ _ h
   ·rw[Yfz] at h; exact wpAny_eqBool_str h
 «strs»:=fun k x t v h=>by
  rcases Zbs h with ⟨i,u,rfl,e⟩ | ⟨y,u,rfl,e⟩
  ·exact nomatch e
  ·injection e with e1 _
   subst e1
   cases v<;>rfl
inductive V where
 | non | bl (b:Bool) | int (i:Int) | str (x:Str) | byt (b:Array UInt8) | flt (b:UInt64) | ref (a:Ve) | ty (n:String)
nonrec def Zcd:V->Vb->Prop
 | .non,u=>u=Uq
 | .bl b,u=>u=Tbp b
 | .int i,u=>∃ t,u=Tcy i t
 | .str x,u=>∃ t,u=Tcz x t
 | .byt b,u=>∃ t,u=Value.bytes b t
 | .flt b,u=>∃ t,u=Value.float b t
 | .ref a,u=>u=Uh a
 | .ty n,u=>u=Tbb n
nonrec abbrev Zb4:List V->List Vb->Prop:=Vj Zcd
theorem Zb4.length {xs:List V} {us:List Vb} (r:Zb4 xs us):xs.length=us.length:=Tcx r
theorem Zb4.get:∀ {xs:List V} {us:List Vb} {i:Nat} {x:V},Zb4 xs us->xs[i]? = some x->∃ u,us[i]? = some u/\Zcd x u
 | _,_,_,_,.nil,e=>by simp at e
 | _,_,0,_,.cons r _,e=>by simp at e; subst e; exact⟨_,rfl,r⟩
 | _,_,i+1,x,.cons _ t,e=>by
  obtain⟨u,h1,h2⟩:=Zb4.get (i:=i) (x:=x) t (by simpa using e)
  exact⟨u,by simpa using h1,h2⟩
theorem Zb4.append:∀ {xs ys:List V} {us ws:List Vb},Zb4 xs us->Zb4 ys ws->Zb4 (xs++ys) (us++ws)
 | _,_,_,_,.nil,s=>s
 | _,_,_,_,.cons r t,s=>.cons r (Zb4.append t s)
theorem Zb4.take:∀ {xs:List V} {us:List Vb} (n:Nat),Zb4 xs us->Zb4 (xs.take n) (us.take n)
 | _,_,0,_=>.nil
 | _,_,_+1,.nil=>.nil
 | _,_,n+1,.cons r t=>.cons r (Zb4.take n t)
theorem Zb4.drop:∀ {xs:List V} {us:List Vb} (n:Nat),Zb4 xs us->Zb4 (xs.drop n) (us.drop n)
 | _,_,0,r=>r
 | _,_,_+1,.nil=>.nil
 | _,_,n+1,.cons _ t=>Zb4.drop n t
nonrec def Zyq:Option V->Option Vb->Prop
 | some v,some u=>Zcd v u
 | none,none=>True
 | _,_=>False
nonrec def KV {κ:Type}:List (κ×V)->List (κ×Vb)->Prop:=Vj fun(p:κ×V) (q:κ×Vb)=>p.1=q.1/\Zcd p.2 q.2
nonrec def kV:Key->V
 | .inl i=>.int i
 | .inr x=>.str x
inductive HO where
 | lst (xs:List V)
 | tup (xs:List V)
 | dK (kvs:List (Key×V)) | dT (kvs:List (List Key×V))
 | set (S:Int->Bool) (n:Nat)
 | ins (C dx:Ve) (fs:List (Str×V))
 | own (x:Ve)
 | xd (fs:List (Str×V))
 | met (f x:Ve)
 | rng (lo hi:Int)
 | frz (o:Obj) (u:HO)
 | tbl (ps:Array Vb)
 | ext (φ:Vy->Prop)
nonrec abbrev Hp:=Ve->Option HO
nonrec def upd (H:Hp) (a:Ve) (o:HO):Hp:=fun b=>if b=a then some o else H b
theorem Zas {H:Hp} {a:Ve} {o:HO}:upd H a o a=some o:=by unfold upd; rw[if_pos rfl]
theorem Zah {H:Hp} {a b:Ve} {o:HO} (h:b≠a):upd H a o b=H b:=by unfold upd; rw[if_neg h]
theorem Zok {H:Hp} {a b:Ve} {o u:HO} (h:H a=some o) (h':H b=some u) (d:o≠u):a≠b:=by
 intro e; subst e; rw[h] at h'; exact d (Xx.inj h')
theorem Zai {H:Hp} {a b:Ve} {o:HO} (h:H a=some o) (h':H b=none):a≠b:=by
 intro e; subst e; rw[h] at h'; cases h'
def Zme (h:Vy) (a:Ve) (items:Array Vb):Prop:=∃ o,h.get? a=some o/\o.cls=.type "tuple" /\ (∃ n,o.data=.seq items n)/\o.dict=none
theorem Zme.new (h:Vy) (items:Array Vb):Zme (h.push { cls:=.type "tuple",data:=.seq items }) h.objs.size items:=⟨_,Xd _ rfl,rfl,⟨_,rfl⟩,rfl⟩
theorem Zme.tup {h:Vy} {a:Ve} {items:Array Vb} (x:Zme h a items):Ueq h a items:=let ⟨o,e,c,d,_⟩:=x; ⟨o,e,c,d⟩
section
variable (P:Vi) (w:Vs)
nonrec def Zc2 (H:Hp) (h:Vy) (a:Ve):HO->Prop
 | .lst xs=>xs.length<=sizeLine/\∃ (its:List Vb) (n:Nat),Zb4 xs its/\h.get? a=some { cls:=.type "list",data:=.seq its.toArray n }
 | .tup xs=>xs.length<=sizeLine/\∃ its:List Vb,Zb4 xs its/\Zme h a its.toArray
 | .dK kvs=>kvs.length<=sizeLine/\(a==Uag)=false/\∃ vs,KV kvs vs/\h.DictOf (Zp9 P w) a vs
 | .dT kvs=>kvs.length<=sizeLine/\(a==Uag)=false/\∃ xs:List (List Key×Ve×Vb),
   Vj (fun(p:List Key×V) (q:List Key×Ve×Vb)=>p.1=q.1/\H q.2.1=some (.tup (p.1.map kV))/\Zcd p.2 q.2.2) kvs xs /\
   ∃ o es ep,h.get? a=some o/\o.ExactDict/\o.data=.dict es ep/\es.toList=xs.map (entryOfKey (Ubc (Zp9 P w)))/\(xs.map (·.1)).Nodup
 | .set S n=>h.SetOf (intKind P w) a S n
 | .ins C dx fs=>H dx=some (.own a)/\fs.length<=1000/\dx≠a/\h.get? a=some (Wbv C dx) /\
   ∃ mA,h.Ns1 dx mA/\(∀ f,Zyq (fs.lookup f) (mA f))/\Tcm mA (fs.map (·.1))
 | .own _=>∃ o,h.get? a=some o
 | .xd fs=>∃ mA,h.Ns1 a mA/\∀ f,Zyq (fs.lookup f) (mA f)
 | .rng lo hi=>∃ t u v,h.get? a=some { cls:=.type "range",data:=.fields #[.int lo t,.int hi u,.int 1 v] }
 | .frz o u=>h.get? a=some o/\Zc2 H h a u
 | .tbl ps=>h.get? a=some { cls:=.none,data:=.fields ps }
 | .met f x=>h.get? a=some (Wek (.ref f) (.ref x))
 | .ext φ=>φ h/\(∃ o,h.get? a=some o)/\∀ h1 h2:Vy,φ h1->(∀ o,h1.get? a=some o->h2.get? a=some o)->φ h2
def HOk (H:Hp) (h:Vy):Prop:=∀ a o,H a=some o->Zc2 P w H h a o
end
section
variable {P:Vi} {w:Vs} {H H':Hp} {h h':Vy} {a:Ve} {o:HO}
theorem Zc2.lt (x:Zc2 P w H h a o):a<h.objs.size:=by
 cases o with
 | lst xs=>obtain⟨_,_,_,_,e⟩:=x; exact Xf e
 | tup xs=>obtain⟨_,_,_,p⟩:=x; exact p.tup.lt
 | dK kvs=>obtain⟨_,_,_,_,o,_,_,e,_⟩:=x; exact Xf e
 | dT kvs=>obtain⟨_,_,_,_,o,_,_,e,_⟩:=x; exact Xf e
 | set S n=>obtain⟨o,_,_,_,e,_⟩:=x; exact Xf e
 | ins C dx fs=>obtain⟨_,_,_,e,_⟩:=x; exact Xf e
 | own y=>obtain⟨_,e⟩:=x; exact Xf e
 | xd fs=>obtain⟨_,⟨_,_,_,e,_⟩,_⟩:=x; exact Xf e
 | rng lo hi=>obtain⟨_,_,_,e⟩:=x; exact Xf e
 | frz ob u=>obtain⟨e,_⟩:=x; exact Xf e
 | tbl ps=>exact Xf (show h.get? a=some _ from x)
 | met f y=>exact Xf (show h.get? a=some _ from x)
 | ext φ=>obtain⟨_,⟨_,e⟩,_⟩:=x; exact Xf e
theorem Paired.mapP {α β:Type} {F G:α->β->Prop}:∀ {l₁:List α} {l₂:List β},Vj F l₁ l₂->(∀ a b,F a b->G a b)->Vj G l₁ l₂
 | _,_,.nil,_=>.nil
 | _,_,.cons r t,f=>.cons (f _ _ r) (Paired.mapP t f)
theorem Zc2.stay (x:Zc2 P w H h a o) (k:∀ b u,(b=a\/H b=some (.own a))->h.get? b=some u->h'.get? b=some u)
  (ho:∀ b,H b=some (.own a)->H' b=some (.own a)) (ht:∀ b xs,H b=some (.tup xs)->H' b=some (.tup xs)):Zc2 P w H' h' a o:=by
 induction o with
 | lst xs=>obtain⟨z,its,n,r,e⟩:=x; exact⟨z,its,n,r,k _ _ (.inl rfl) e⟩
 | tup xs=>obtain⟨z,its,r,ob,e,c⟩:=x; exact⟨z,its,r,ob,k _ _ (.inl rfl) e,c⟩
 | dK kvs=>obtain⟨z,y,vs,r,ob,es,ep,e,c⟩:=x; exact⟨z,y,vs,r,ob,es,ep,k _ _ (.inl rfl) e,c⟩
 | dT kvs =>
  obtain⟨z,y,xs,r,ob,es,ep,e,c⟩:=x
  exact⟨z,y,xs,Paired.mapP r fun p q z=>⟨z.1,ht _ _ z.2.1,z.2.2⟩,ob,es,ep,k _ _ (.inl rfl) e,c⟩
 | set S n=>obtain⟨ob,es,ep,t,e,c⟩:=x; exact⟨ob,es,ep,t,k _ _ (.inl rfl) e,c⟩
 | ins C dx fs =>
  obtain⟨d,z,ne,e,mA,⟨od,es,ep,e2,c⟩,r⟩:=x
  exact⟨ho _ d,z,ne,k _ _ (.inl rfl) e,mA,⟨od,es,ep,k _ _ (.inr d) e2,c⟩,r⟩
 | own y=>obtain⟨ob,e⟩:=x; exact⟨ob,k _ _ (.inl rfl) e⟩
 | xd fs=>obtain⟨mA,⟨od,es,ep,e,c⟩,r⟩:=x; exact⟨mA,⟨od,es,ep,k _ _ (.inl rfl) e,c⟩,r⟩
 | rng lo hi=>obtain⟨t,u,v,e⟩:=x; exact⟨t,u,v,k _ _ (.inl rfl) e⟩
 | frz ob u ih=>obtain⟨e,q⟩:=x; exact⟨k _ _ (.inl rfl) e,ih q⟩
 | tbl ps =>
  have e:h.get? a=some { cls:=.none,data:=.fields ps }:=x
  show h'.get? a=some { cls:=.none,data:=.fields ps }
  exact k a _ (.inl rfl) e
 | met f y =>
  have e:h.get? a=some (Wek (.ref f) (.ref y)):=x
  show h'.get? a=some (Wek (.ref f) (.ref y))
  exact k a _ (.inl rfl) e
 | ext φ=>obtain⟨p,⟨o,e⟩,st⟩:=x; exact⟨st _ _ p fun o q=>k _ _ (.inl rfl) q,⟨o,k _ _ (.inl rfl) e⟩,st⟩
theorem HOk.lt (x:HOk P w H h) (e:H a=some o):a<h.objs.size:=(x a o e).lt
theorem HOk.fresh (x:HOk P w H h) (e:h.objs.size<=a):H a=none:=by
 cases q:H a with
 | none=>rfl
 | some u=>exact absurd (Xj (x.lt q) e) (Wav _)
theorem HOk.kept (x:HOk P w H h) (k:∀ b u,h.get? b=some u->h'.get? b=some u):HOk P w H h':=fun a o e =>
 (x a o e).stay (fun b u _ q=>k b u q) (fun _ q=>q) fun _ _ q=>q
theorem HOk.laid (x:HOk P w H h) (k:∀ b u,h.get? b=some u->h'.get? b=some u) (hp:h.objs.size<=a) (new:Zc2 P w (upd H a o) h' a o):HOk P w (upd H a o) h':=fun b u e=>by
 have hn:=x.fresh hp
 by_cases hb:b=a
 ·subst hb; rw[Zas] at e; cases e; exact new
 ·rw[Zah hb] at e
  exact(x b u e).stay (fun c v _ q=>k c v q) (fun c q=>by rw[Zah (Zai q hn)]; exact q) fun c xs q=>by rw[Zah (Zai q hn)]; exact q
end
def Rd (H:Hp) (a:Ve) (u:HO):Prop:=H a=some u\/∃ o,H a=some (.frz o u)
theorem Rd.ok {P:Vi} {w:Vs} {H:Hp} {h:Vy} {a:Ve} {u:HO} (r:Rd H a u) (x:HOk P w H h):Zc2 P w H h a u:=by
 rcases r with r | ⟨o,r⟩
 ·exact x a u r
 ·obtain⟨_,q⟩:=x a _ r
  exact q
nonrec def Mut:Option HO->Prop
 | some (.lst _)=>True
 | some (.dK _)=>True
 | some (.dT _)=>True
 | some (.set _ _)=>True
 | some (.ins _ _ _)=>True
 | some (.ext _)=>True
 | _=>False
section
variable {P:Vi} {w:Vs} {H:Hp} {h h':Vy} {x e:Ve} {o':HO}
theorem HOk.write (ok:HOk P w H h) (mu:Mut (H x)) (he:e=x\/H e=some (.own x)) (k:∀ b u,b≠e->h.get? b=some u->h'.get? b=some u) (heo:∃ u,h'.get? e=some u)
  (new:Zc2 P w (upd H x o') h' x o'):HOk P w (upd H x o') h':=fun b u q=>by
 have nown:∀ c y,H c=some (.own y)->c≠x:=fun c y r z=>by subst z; rw[r] at mu; exact mu
 have ntup:∀ c xs,H c=some (.tup xs)->c≠x:=fun c xs r z=>by subst z; rw[r] at mu; exact mu
 by_cases hb:b=x
 ·subst hb; rw[Zas] at q; cases q; exact new
 ·rw[Zah hb] at q
  by_cases hbe:b=e
  ·have q':H b=some (.own x):=by
    rcases he with z | z
    ·exact absurd (hbe.trans z) hb
    ·rw[hbe]; exact z
   rw[q] at q'; cases q'
   obtain⟨v,hv⟩:=heo
   exact⟨v,by rw[hbe]; exact hv⟩
  ·refine(ok b u q).stay (fun c v hc r=>k c v ?_ r) (fun c r=>by rw[Zah (nown c b r)]; exact r) fun c xs r=>by rw[Zah (ntup c xs r)]; exact r
   rcases hc with rfl | hc
   ·exact hbe
   ·rintro rfl
    rcases he with z | z
    ·exact nown c b hc z
    ·rw[hc] at z; cases z; exact hb rfl
end
structure Un (fs ex:List Ve) (H H':Hp) (h h':Vy):Prop where
 keep:∀ b o,h.get? b=some o->H b=none->b∉fs->b∉ex->h'.get? b=some o
 slot:∀ b o,h.get? b=some o->H b=none->b∈fs->b∉ex->∃ sl,h'.get? b=some { o with slots:=sl }
 free:∀ b o,h.get? b=some o->H b=none->b∉ex->H' b=none
 there:∀ b o,h.get? b=some o->b∉ex->∃ o',h'.get? b=some o'
 tups:∀ b xs,H b=some (.tup xs)->H' b=some (.tup xs)
 frzs:∀ b o u,H b=some (.frz o u)->H' b=some (.frz o u)
 tbls:∀ b ps,H b=some (.tbl ps)->∃ more,H' b=some (.tbl (ps++more))
section
variable {fs fs' ex ex':List Ve} {H H1 H2:Hp} {h h1 h2 h':Vy} {a x e:Ve} {o:HO}
theorem Un.any (u:Un fs ex H H1 h h1) {b:Ve} {ob:Obj} (q:h.get? b=some ob) (n:H b=none) (hx:b∉ex):∃ sl,h1.get? b=some { ob with slots:=sl }:=by
 by_cases hb:b∈fs
 ·exact u.slot b ob q n hb hx
 ·exact⟨ob.slots,u.keep b ob q n hb hx⟩
theorem Un.kept (k:∀ b u,h.get? b=some u->h'.get? b=some u):Un fs ex H H h h' :=
 ⟨fun b ob q _ _ _=>k b ob q,fun b ob q _ _ _=>⟨ob.slots,k b ob q⟩,fun _ _ _ n _=>n,fun b ob q _=>⟨ob,k b ob q⟩,fun _ _ q=>q,fun _ _ _ q=>q,fun _ ps q=>⟨#[],by rw[q]; simp⟩⟩
theorem Un.refl:Un fs ex H H h h:=Un.kept fun _ _ q=>q
theorem Un.laid (k:∀ b u,h.get? b=some u->h'.get? b=some u) (hp:h.objs.size<=a) (hn:H a=none):Un fs ex H (upd H a o) h h' where
 keep:=fun b u q _ _ _=>k b u q
 slot:=fun b u q _ _ _=>⟨u.slots,k b u q⟩
 free:=fun b u q n _=>by rw[Zah (Xh (Xj (Xf q) hp))]; exact n
 there:=fun b u q _=>⟨u,k b u q⟩
 tups:=fun b xs q=>by rw[Zah (Zai q hn)]; exact q
 frzs:=fun b u xs q=>by rw[Zah (Zai q hn)]; exact q
 tbls:=fun b ps q=>⟨#[],by rw[Zah (Zai q hn),q]; simp⟩
theorem Un.write (mu:Mut (H x)) (he:e=x\/H e=some (.own x)) (k:∀ b u,b≠e->h.get? b=some u->h'.get? b=some u) (heo:∃ u,h'.get? e=some u):Un fs ex H (upd H x o) h h':=by
 have hx:∀ b,H b=none->b≠x:=fun b n z=>by subst z; rw[n] at mu; exact mu
 have hb:∀ b,H b=none->b≠e:=fun b n z=>by
  subst z
  rcases he with r | r
  ·exact hx b n r
  ·rw[n] at r; cases r
 have hm:∀ b u,H b=some u->¬ Mut (some u)->b≠x:=fun b u q nm z=>by subst z; rw[q] at mu; exact nm mu
 refine⟨fun b u q n _ _=>k b u (hb b n) q,fun b u q n _ _=>⟨u.slots,k b u (hb b n) q⟩,fun b u q n _=>by rw[Zah (hx b n)]; exact n,fun b u q _=>?_,
  fun b xs q=>by rw[Zah (hm b _ q fun z=>z)]; exact q,fun b u xs q=>by rw[Zah (hm b _ q fun z=>z)]; exact q,fun b ps q=>⟨#[],by rw[Zah (hm b _ q fun z=>z),q]; simp⟩⟩
 by_cases hbe:b=e
 ·subst hbe; exact heo
 ·exact⟨u,k b u hbe q⟩
end
nonrec def trk (h:Vy) (H:Hp):List Ve:=(Wdx h.objs.size).filter fun a=>(H a).isSome
nonrec def Zyg (h:Vy) (H:Hp):Vy:=PySem.W.hideAll h (trk h H)
theorem Zuj (h:Vy) (H:Hp):(Zyg h H).objs.size=h.objs.size:=PySem.W.hideAll_size _ _
theorem Zzb {h:Vy} {H:Hp} {b:Ve} {o:Obj} (e:h.get? b=some o) (n:H b=none):(Zyg h H).get? b=some o :=
 PySem.W.hideAll_get _ e fun hm=>by
  have q:(H b).isSome=true:=(Wag.mp hm).2
  rw[n] at q; simp at q
theorem Ycy {h:Vy} {H:Hp} {b:Ve} {o:Obj} (e:(Zyg h H).get? b=some o):h.get? b=some o/\H b=none:=by
 have e':h.get? b=some o:=PySem.W.of_hideAll (trk h H) e
 refine⟨e',?_⟩
 cases q:H b with
 | none=>rfl
 | some x =>
  have hm:b∈trk h H:=Wag.mpr ⟨Wcr.mpr (Xf e'),by simp[q]⟩
  have z:(Zyg h H).get? b=none:=PySem.W.hideAll_none (trk h H) hm
  rw[z] at e; cases e
structure Mod (K:Xb) (mg:Str->Option Vb) (base:Vy):Prop where
 kin:K.In base
 glob:base.Ns Vh mg
 blt:∃ mb,base.Ns builtinsNs mb/\∀ x:Str,x ≠ "__name__" -> mb x=Vq x
 nolimit:base.NoLimit
structure Cx where
 prog:Vi
 w:Vs
 K:Xb
 mg:Str->Option Vb
 base:Vy
 A:Vr
 N:List Str
 s₀:Vd
 H₀:Hp
 env:Env
 outer:List Env
 stack:List Env
 ex:List Ve
 fn:Str->Bool
 calm:Bool
 pn:List (Ve×Obj)
 xe:Vb->Vd->Prop
nonrec def frs (l:List Env):List Ve:=l.filterMap (·.frame)
nonrec abbrev Cx.fs (X:Cx):List Ve:=frs X.outer
def Vis (sc:Ubo) (x:Str):Prop:=sc.names.lookup x=some .local\/sc.names.lookup x=some .cell\/sc.names.lookup x=some .free
def Loc (sc:Ubo) (x:Str):Prop:=sc.names.lookup x=some .local\/sc.names.lookup x=some .cell
def Look (env:Env) (h:Vy) (m:Str->Option Vb) (x:Str) (u:Vb):Prop :=
 (env.kindOf x=some .local/\m x=some u)\/((env.kindOf x=some .cell\/env.kindOf x=some .free)/\∃ c,env.cells.lookup x=some c/\h.IsCell c (some u))
structure Cx.Ok (X:Cx):Prop where
 mod:Mod X.K X.mg X.base
 kind:X.env.scope.kind=.function
 glob:X.env.globals=Vh
 blt:X.env.builtins=builtinsNs
 above:X.s₀.heap.objs.size<=X.env.locals
 inj:∀ x y c,X.env.cells.lookup x=some c->X.env.cells.lookup y=some c->x=y
 has:∀ x,(X.env.kindOf x=some .cell\/X.env.kindOf x=some .free)->∃ c,X.env.cells.lookup x=some c
 cab:∀ x c,X.fn x=true->X.env.cells.lookup x=some c->X.s₀.heap.objs.size<=c
 hd:X.calm=true->X.A.handled=none
 frames:X.A.frames=some X.stack
 stk:X.stack=X.outer\/(X.stack=X.env::X.outer/\X.env.frame=some X.env.locals)
 exf:∀ b∈X.ex,b≠X.env.locals/\∀ x c,X.env.cells.lookup x=some c->c≠b
 bs:∀ b o,X.base.get? b=some o->X.s₀.heap.get? b=some o/\X.H₀ b=none
 bsz:X.base.objs.size<=X.s₀.heap.objs.size
 noex:∀ b o,X.base.get? b=some o->b∉X.ex
 exfs:∀ b∈X.ex,b∉X.fs
 funs:X.s₀.heap.FunFrames X.base X.outer
 frf:∀ b∈X.fs,X.H₀ b=none
structure Inv (X:Cx) (pins:List (Ve×Obj)) (σ:List (Option V)) (H:Hp) (s:Vd):Prop where
 ok:X.Ok
 os:s.os=X.s₀.os
 bare:Ucp s.gens
 base:Un X.fs X.ex X.H₀ H X.s₀.heap s.heap
 loc:∃ m,s.heap.Ns X.env.locals m/\∀ (i:Nat) (x:Str) (v:V),X.N[i]? = some x->σ[i]? = some (some v)->Vis X.env.scope x->∃ u,Zcd v u/\Look X.env s.heap m x u
 cell:∀ x c,X.env.cells.lookup x=some c->∃ v,s.heap.IsCell c v
 free:H X.env.locals=none
 freeC:∀ x c,X.env.cells.lookup x=some c->H c=none\/(X.fn x=false/\∃ o u,H c=some (.frz o u))
 pin:∀ p∈X.pn++pins,s.heap.get? p.1=some p.2/\H p.1=none/\p.1≠X.env.locals/\p.1∉X.fs/\∀ v,p.2.data≠.cell v
 hok:HOk X.prog X.w H s.heap
 len:σ.length=X.N.length
section
variable {X:Cx} {pins:List (Ve×Obj)} {σ:List (Option V)} {H H':Hp} {s:Vd} {h':Vy}
theorem Cx.Ok.nofr (ok:X.Ok) {b:Ve} {o:Obj} (e:X.base.get? b=some o):b∉X.fs:=fun hb=>by
 have:=(ok.funs.mem hb).1
 rw[e] at this; cases this
theorem Inv.bs (I:Inv X pins σ H s):∀ b o,X.base.get? b=some o->s.heap.get? b=some o/\H b=none:=fun b o e =>
 ⟨I.base.keep b o (I.ok.bs b o e).1 (I.ok.bs b o e).2 (I.ok.nofr e) (I.ok.noex b o e),I.base.free b o (I.ok.bs b o e).1 (I.ok.bs b o e).2 (I.ok.noex b o e)⟩
theorem Inv.bk (I:Inv X pins σ H s):∀ b o,X.base.get? b=some o->s.heap.get? b=some o:=fun b o e=>(I.bs b o e).1
theorem Inv.mod (I:Inv X pins σ H s):Mod X.K X.mg X.base:=I.ok.mod
theorem Inv.kIn (I:Inv X pins σ H s):X.K.In s.heap:=I.ok.mod.kin.keeps I.bk
theorem Inv.lt (I:Inv X pins σ H s):X.env.locals<s.heap.objs.size:=let ⟨_,hn,_⟩:=I.loc; hn.lt
theorem Inv.sz (I:Inv X pins σ H s):X.s₀.heap.objs.size<=s.heap.objs.size:=Waa I.ok.above (Wed I.lt)
theorem Inv.nofs (I:Inv X pins σ H s) {a:Ve} (h:s.heap.objs.size<=a):a∉X.fs:=fun hb=>by
 obtain⟨_,o,ho,_⟩:=I.ok.funs.mem hb
 exact absurd (Xj (Xf ho) (Waa I.sz h)) (Wav _)
theorem Inv.cne (I:Inv X pins σ H s):∀ x c,X.env.cells.lookup x=some c->c≠X.env.locals:=fun x c e z=>by
 obtain⟨v,o,ho,hd⟩:=I.cell x c e
 obtain⟨m,⟨o',es,ep,ho',hd',_⟩,_⟩:=I.loc
 rw[z,ho'] at ho; cases ho; rw[hd'] at hd; cases hd
theorem Inv.funs (I:Inv X pins σ H s):s.heap.FunFrames X.base X.outer:=by
 have all:∀ (l:List Env),(∀ b∈frs l,b∈X.fs)->X.s₀.heap.FunFrames X.base l->s.heap.FunFrames X.base l:=by
  intro l
  induction l with
  | nil=>intro _ _; trivial
  | cons env r ih =>
   intro hs hl
   obtain⟨hk,⟨L,o,hf,hn,ho,hd⟩,hr⟩:=hl
   have hL:L∈X.fs:=hs L (by unfold frs; rw[Wcu,hf]; exact Wck)
   obtain⟨sl,e⟩:=I.base.slot L o ho (I.ok.frf L hL) hL fun z=>I.ok.exfs L z hL
   exact⟨hk,⟨L,_,hf,hn,e,hd⟩,ih (fun b hb=>hs b (by unfold frs; rw[Wcu,hf]; exact Wae _ hb)) hr⟩
 exact all X.outer (fun _ hb=>hb) I.ok.funs
theorem Inv.stack (I:Inv X pins σ H s):s.heap.FunFrames X.base X.stack:=by
 rcases I.ok.stk with e | ⟨e,hf⟩
 ·rw[e]; exact I.funs
 ·rw[e]
  obtain⟨m,hn,_⟩:=I.loc
  refine .cons (by rw[I.ok.kind]; decide) hf hn ?_ I.funs
  exact Heap.get?_none_of_le (Waa I.ok.bsz I.ok.above)
theorem Inv.stkSub (I:Inv X pins σ H s):∀ b∈frs X.stack,b∈X.env.locals::X.fs:=fun b hb=>by
 rcases I.ok.stk with e | ⟨e,hf⟩
 ·rw[e] at hb; exact Wae _ hb
 ·rw[e] at hb
  unfold frs at hb
  rw[Wcu,hf] at hb
  exact hb
theorem Inv.stkFree (I:Inv X pins σ H s):∀ b∈frs X.stack,H b=none:=fun b hb=>by
 rcases Xi.mp (I.stkSub b hb) with e | hb
 ·rw[e]; exact I.free
 ·obtain⟨_,o,ho,_⟩:=I.ok.funs.mem hb
  exact I.base.free b o ho (I.ok.frf b hb) fun z=>I.ok.exfs b z hb
theorem Inv.step {g':Array GenState} {t':Nat} {d':Drawn} {ch:List Ve} (I:Inv X pins σ H s)
  (hch:∀ b∈ch,(b∈X.ex\/X.s₀.heap.objs.size<=b)/\b≠X.env.locals/\(∀ x c,X.env.cells.lookup x=some c->c≠b)/\∀ p∈X.pn++pins,p.1≠b)
  (keep:∀ b o,b≠X.env.locals->b∉X.fs->b∉ch->s.heap.get? b=some o->H b=none->h'.get? b=some o)
  (slot:∀ b o,b≠X.env.locals->b∈X.fs->b∉ch->s.heap.get? b=some o->H b=none->∃ sl,h'.get? b=some { o with slots:=sl }) (free:∀ b o,b∉ch->s.heap.get? b=some o->H b=none->H' b=none)
  (there:∀ b o,b∉ch->s.heap.get? b=some o->∃ o',h'.get? b=some o')
  (tups:∀ b xs,H b=some (.tup xs)->H' b=some (.tup xs)) (frzs:∀ b o u,H b=some (.frz o u)->H' b=some (.frz o u)) (tbls:∀ b ps,H b=some (.tbl ps)->∃ more,H' b=some (.tbl (ps++more)))
  (ns:∀ m,s.heap.Ns X.env.locals m->h'.Ns X.env.locals m) (hok:HOk X.prog X.w H' h') (hg:Ucp g') :
  Inv X pins σ H' { s with heap:=h',gens:=g',drawn:=d',toks:=t' }:=by
 have neL:∀ b o,X.s₀.heap.get? b=some o->b≠X.env.locals:=fun b o e=>Xh (Xj (Xf e) I.ok.above)
 have neC:∀ b o,X.s₀.heap.get? b=some o->b∉X.ex->b∉ch:=fun b o e hx hb=>by
  rcases(hch b hb).1 with z | z
  ·exact hx z
  ·exact absurd (Xj (Xf e) z) (Wav _)
 have cellK:∀ x c,X.env.cells.lookup x=some c->∀ v,s.heap.IsCell c v->h'.IsCell c v:=fun x c e v ⟨o,ho,hd⟩=>by
  have nch:c∉ch:=fun z=>(hch c z).2.2.1 x c e rfl
  rcases I.freeC x c e with fc | ⟨_,o2,u2,fc⟩
  ·by_cases hc:c∈X.fs
   ·obtain⟨sl,q⟩:=slot c o (I.cne x c e) hc nch ho fc
    exact⟨_,q,hd⟩
   ·exact⟨o,keep c o (I.cne x c e) hc nch ho fc,hd⟩
  ·have h1:=(I.hok c _ fc).1
   have h2:=(hok c _ (frzs c o2 u2 fc)).1
   rw[ho] at h1
   cases h1
   exact⟨o,h2,hd⟩
 refine⟨I.ok,I.os,hg,⟨fun b o e n hb hx=>?_,fun b o e n hb hx=>?_,fun b o e n hx=>?_,fun b o e hx=>?_,fun b xs e=>tups b xs (I.base.tups b xs e),fun b o xs e=>frzs b o xs (I.base.frzs b o xs e),fun b ps e=>?_⟩,?_,fun x c e=>?_,?_,fun x c e=>?_,fun p hp=>?_,hok,I.len⟩
 ·exact keep b o (neL b o e) hb (neC b o e hx) (I.base.keep b o e n hb hx) (I.base.free b o e n hx)
 ·obtain⟨sl,e1⟩:=I.base.slot b o e n hb hx
  obtain⟨sl',e2⟩:=slot b _ (neL b o e) hb (neC b o e hx) e1 (I.base.free b o e n hx)
  exact⟨sl',e2⟩
 ·obtain⟨o',e1⟩:=I.base.there b o e hx
  exact free b o' (neC b o e hx) e1 (I.base.free b o e n hx)
 ·obtain⟨o',e1⟩:=I.base.there b o e hx
  exact there b o' (neC b o e hx) e1
 ·obtain⟨m1,e1⟩:=I.base.tbls b ps e
  obtain⟨m2,e2⟩:=tbls b _ e1
  exact⟨m1++m2,by rw[e2,Array.append_assoc]⟩
 ·obtain⟨m,hn,hl⟩:=I.loc
  refine⟨m,ns m hn,fun i x v e1 e2 e3=>?_⟩
  obtain⟨u,r,l⟩:=hl i x v e1 e2 e3
  refine⟨u,r,?_⟩
  rcases l with l | ⟨k,c,e,z⟩
  ·exact .inl l
  ·exact .inr ⟨k,c,e,cellK x c e _ z⟩
 ·obtain⟨v,z⟩:=I.cell x c e
  exact⟨v,cellK x c e v z⟩
 ·obtain⟨m,⟨o,_,_,ho,_⟩,_⟩:=I.loc
  exact free _ o (fun z=>(hch _ z).2.1 rfl) ho I.free
 ·obtain⟨v,o,ho,hd⟩:=I.cell x c e
  rcases I.freeC x c e with fc | ⟨fn,o2,u2,fc⟩
  ·exact .inl (free c o (fun z=>(hch c z).2.2.1 x c e rfl) ho fc)
  ·exact .inr ⟨fn,o2,u2,frzs c o2 u2 fc⟩
 ·obtain⟨e,n,ne,nf,d⟩:=I.pin p hp
  have nch:p.1∉ch:=fun z=>(hch p.1 z).2.2.2 p hp rfl
  exact⟨keep p.1 p.2 ne nf nch e n,free p.1 p.2 nch e n,ne,nf,d⟩
theorem Inv.un {t':Nat} (I:Inv X pins σ H s) (u:Un X.fs [] H H' s.heap h') (hok:HOk X.prog X.w H' h'):Inv X pins σ H' { s with heap:=h',toks:=t' }:=by
 obtain⟨m,⟨o,es,ep,ho,r⟩,_⟩:=id I.loc
 obtain⟨sl,hL⟩:=u.any ho I.free (by simp)
 exact I.step (g':=s.gens) (d':=s.drawn) (ch:=[]) (fun _ z=>nomatch z) (fun b o _ hb _ e n=>u.keep b o e n hb (by simp)) (fun b o _ hb _ e n=>u.slot b o e n hb (by simp)) (fun b o _ e n=>u.free b o e n (by simp)) (fun b o _ e=>u.there b o e (by simp)) u.tups u.frzs u.tbls (fun m' hm=>by
  obtain⟨o',es',ep',ho',r'⟩:=hm
  rw[ho] at ho'; cases ho'
  exact⟨_,es',ep',hL,r'⟩) hok I.bare
theorem Inv.call {g':Array GenState} {t':Nat} {d':Drawn} {ch:List Ve} (I:Inv X pins σ H s) (u:Un (frs X.stack) ch H H' s.heap h') (hok:HOk X.prog X.w H' h') (hg:Ucp g')
  (hch:∀ b∈ch,(b∈X.ex\/X.s₀.heap.objs.size<=b)/\b≠X.env.locals/\(∀ x c,X.env.cells.lookup x=some c->c≠b)/\∀ p∈X.pn++pins,p.1≠b) :
  Inv X pins σ H' { s with heap:=h',gens:=g',drawn:=d',toks:=t' }:=by
 obtain⟨m,⟨o,es,ep,ho,r⟩,_⟩:=id I.loc
 obtain⟨sl,hL⟩:=u.any ho I.free fun z=>(hch _ z).2.1 rfl
 exact I.step (ch:=ch) hch (fun b o hL hb hc e n=>u.keep b o e n (fun z=>(Xi.mp (I.stkSub b z)).elim hL hb) hc) (fun b o _ _ hc e n=>u.any e n hc) (fun b o hc e n=>u.free b o e n hc) (fun b o hc e=>u.there b o e hc) u.tups u.frzs u.tbls (fun m' hm=>by
  obtain⟨o',es',ep',ho',r'⟩:=hm
  rw[ho] at ho'; cases ho'
  exact⟨_,es',ep',hL,r'⟩) hok hg
theorem Inv.turned {t':Nat} {it:Ve} (I:Inv X pins σ H s) (k:∀ b o,b≠it->s.heap.get? b=some o->h'.get? b=some o) (hn:H it=none) (hL:it≠X.env.locals)
  (h1:it∈X.ex\/X.s₀.heap.objs.size<=it) (h2:∀ x c,X.env.cells.lookup x=some c->c≠it) (h3:∀ p∈X.pn++pins,p.1≠it):Inv X pins σ H { s with heap:=h',toks:=t' }:=by
 have nit:∀ b u,H b=some u->b≠it:=fun b u e z=>by rw[z,hn] at e; cases e
 refine I.step (g':=s.gens) (d':=s.drawn) (ch:=[it]) (fun b hb=>?_) (fun b o _ _ hc e _=>k b o (fun z=>hc (by simp[z])) e) (fun b o _ _ hc e _=>⟨o.slots,k b o (fun z=>hc (by simp[z])) e⟩) (fun _ _ _ _ n=>n)
  (fun b o hc e=>⟨o,k b o (fun z=>hc (by simp[z])) e⟩) (fun _ _ e=>e) (fun _ _ _ e=>e) (fun b ps e=>⟨#[],by rw[e]; simp⟩) (fun m hm=>?_) (fun b u e=>?_) I.bare
 ·have e:b=it:=by simpa using hb
  subst e
  exact⟨h1,hL,h2,h3⟩
 ·obtain⟨o,es,ep,ho,r⟩:=hm
  exact⟨o,es,ep,k _ o (Ul hL) ho,r⟩
 ·refine(I.hok b u e).stay (fun c v hc q=>k c v ?_ q) (fun _ q=>q) fun _ _ q=>q
  rcases hc with z | z
  ·rw[z]; exact nit b u e
  ·exact nit c _ z
theorem Inv.tok (I:Inv X pins σ H s) (t:Nat):Inv X pins σ H { s with toks:=t }:=I.un (h':=s.heap) (t':=t) Un.refl I.hok
theorem Inv.kept {t':Nat} (I:Inv X pins σ H s) (k:∀ b u,s.heap.get? b=some u->h'.get? b=some u):Inv X pins σ H { s with heap:=h',toks:=t' }:=I.un (Un.kept k) (I.hok.kept k)
theorem Inv.laid {a:Ve} {o:HO} {t':Nat} (I:Inv X pins σ H s) (k:∀ b u,s.heap.get? b=some u->h'.get? b=some u) (hp:s.heap.objs.size<=a) (new:Zc2 X.prog X.w (upd H a o) h' a o) :
  Inv X pins σ (upd H a o) { s with heap:=h',toks:=t' }:=I.un (Un.laid k hp (I.hok.fresh hp)) (I.hok.laid k hp new)
theorem Inv.write {x e:Ve} {o:HO} {t':Nat} (I:Inv X pins σ H s) (mu:Mut (H x)) (he:e=x\/H e=some (.own x)) (k:∀ b u,b≠e->s.heap.get? b=some u->h'.get? b=some u) (heo:∃ u,h'.get? e=some u)
  (new:Zc2 X.prog X.w (upd H x o) h' x o):Inv X pins σ (upd H x o) { s with heap:=h',toks:=t' }:=I.un (Un.write mu he k heo) (I.hok.write mu he k heo new)
theorem Inv.pins_of {pins':List (Ve×Obj)} (I:Inv X pins σ H s) (h:∀ p∈pins',s.heap.get? p.1=some p.2/\H p.1=none/\p.1≠X.env.locals/\p.1∉X.fs/\∀ v,p.2.data≠.cell v):Inv X pins' σ H s :=
 ⟨I.ok,I.os,I.bare,I.base,I.loc,I.cell,I.free,I.freeC,fun p hp=>(Xy.mp hp).elim (fun z=>I.pin p (Wax _ z)) (h p),I.hok,I.len⟩
theorem Zrz {N:List Str} (hN:N.Nodup) {i j:Nat} {x:Str} (a:N[i]? = some x) (b:N[j]? = some x):i=j:=by
 obtain⟨h1,e1⟩:=Xc.mp a
 obtain⟨h2,e2⟩:=Xc.mp b
 exact(Wgg hN).mp (e1.trans e2.symm)
theorem Zk3 {M:Model} {A:Vr} {E:Vb->Vd->Prop} {i:Nat} {x:Str} {v:V} {u:Vb} {Q:Unit->Vd->Prop} (I:Inv X pins σ H s) (hN:X.N.Nodup) (hi:X.N[i]? = some x) (hx:Loc X.env.scope x) (r:Zcd v u)
  (h:∀ s',Inv X pins (σ.set i (some v)) H s'->(∃ a,Xw a s.heap s'.heap/\(a=X.env.locals\/X.env.cells.lookup x=some a))->Q () s') (hf:X.fn x=true\/X.env.scope.names.lookup x=some .local:=by first | exact .inl rfl | exact .inr rfl | assumption):Vg M A (Ueg X.env x u) Q E s:=by
 obtain⟨m,hn,hl⟩:=id I.loc
 have hcls:(X.env.scope.kind==.class||(X.env.scope.kind==.module&&X.env.locals != X.env.globals))=false:=by rw[I.ok.kind]; rfl
 have hiσ:i<σ.length:=by rw[I.len]; exact(Xc.mp hi).1
 have cne:=I.cne
 have tracked:∀ {a:Ve} {h':Vy},(∃ o,s.heap.get? a=some o/\H a=none)->Xw a s.heap h'->HOk X.prog X.w H h':=fun {a h'} ha hs b ob e=>by
  obtain⟨_,_,hfree⟩:=ha
  refine(I.hok b ob e).stay (fun c w' hc q=>(hs.2 c ?_).trans q) (fun _ q=>q) fun _ _ q=>q
  rintro rfl
  rcases hc with rfl | hc
  ·rw[hfree] at e; cases e
  ·rw[hfree] at hc; cases hc
 rcases hx with hk | hk
 ·refine wpAny_storeName_local hk hn (fun h' hn' hs=>?_) hcls
  obtain⟨oL,_,_,hoL,_⟩:=id hn
  refine h _ ⟨I.ok,I.os,I.bare,⟨fun b o e n hb hx=>?_,fun b o e n hb hx=>?_,I.base.free,fun b o e hx=>?_,I.base.tups,I.base.frzs,I.base.tbls⟩,⟨_,hn',fun j y v' e1 e2 e3=>?_⟩,fun y c e=>?_,I.free,I.freeC,fun p hp=>?_,tracked ⟨oL,hoL,I.free⟩ hs,by simpa using I.len⟩ ⟨_,hs,.inl rfl⟩
  ·exact(hs.2 b (Xh (Xj (Xf e) I.ok.above))).trans (I.base.keep b o e n hb hx)
  ·obtain⟨sl,e1⟩:=I.base.slot b o e n hb hx
   exact⟨sl,(hs.2 b (Xh (Xj (Xf e) I.ok.above))).trans e1⟩
  ·obtain⟨o',e1⟩:=I.base.there b o e hx
   exact⟨o',(hs.2 b (Xh (Xj (Xf e) I.ok.above))).trans e1⟩
  ·by_cases hj:j=i
   ·subst hj
    rw[hi] at e1; cases e1
    rw[War hiσ] at e2
    cases e2
    exact⟨u,r,.inl ⟨hk,by simp⟩⟩
   ·rw[Wal (Ul hj)] at e2
    obtain⟨u',r',q⟩:=hl j y v' e1 e2 e3
    refine⟨u',r',?_⟩
    rcases q with ⟨k,e⟩ | ⟨k,c,e,z⟩
    ·refine .inl ⟨k,?_⟩
     have:y≠x:=fun e=>hj (Zrz hN e1 (e ▸ hi))
     simp[this,e]
    ·exact .inr ⟨k,c,e,z.sameBut hs (cne y c e)⟩
  ·obtain⟨w',z⟩:=I.cell y c e
   exact⟨w',z.sameBut hs (cne y c e)⟩
  ·obtain⟨e,n,ne,nf,d⟩:=I.pin p hp
   exact⟨(hs.2 p.1 ne).trans e,n,ne,nf,d⟩
 ·have hfn:X.fn x=true:=by
   rcases hf with z | z
   ·exact z
   ·rw[z] at hk; cases hk
  obtain⟨c,hc⟩:=I.ok.has x (.inl hk)
  obtain⟨w',z⟩:=I.cell x c hc
  refine wpAny_storeName_cell I.ok.kind hk hc z (fun h' hc' hs=>?_)
  obtain⟨oc,hoc,hocd⟩:=id z
  refine h { s with heap:=h' } ⟨I.ok,I.os,I.bare,⟨fun b o e n hb hx=>?_,fun b o e n hb hx=>?_,I.base.free,fun b o e hx=>?_,I.base.tups,I.base.frzs,I.base.tbls⟩,⟨m,hn.sameBut hs (Ul (cne x c hc)),fun j y v' e1 e2 e3=>?_⟩,fun y c' e=>?_,I.free,I.freeC,fun p hp=>?_,tracked ⟨oc,hoc,(I.freeC x c hc).resolve_right (fun z=>by rw[hfn] at z; cases z.1)⟩ hs,by simpa using I.len⟩ ⟨c,hs,.inr hc⟩
  ·exact(hs.2 b (Xh (Xj (Xf e) (I.ok.cab x c hfn hc)))).trans (I.base.keep b o e n hb hx)
  ·obtain⟨sl,e1⟩:=I.base.slot b o e n hb hx
   exact⟨sl,(hs.2 b (Xh (Xj (Xf e) (I.ok.cab x c hfn hc)))).trans e1⟩
  ·obtain⟨o',e1⟩:=I.base.there b o e hx
   exact⟨o',(hs.2 b (Xh (Xj (Xf e) (I.ok.cab x c hfn hc)))).trans e1⟩
  ·by_cases hj:j=i
   ·subst hj
    rw[hi] at e1; cases e1
    rw[War hiσ] at e2
    cases e2
    exact⟨u,r,.inr ⟨.inl hk,c,hc,hc'⟩⟩
   ·rw[Wal (Ul hj)] at e2
    obtain⟨u',r',q⟩:=hl j y v' e1 e2 e3
    refine⟨u',r',?_⟩
    rcases q with q | ⟨k,c',e,z'⟩
    ·exact .inl q
    ·refine .inr ⟨k,c',e,z'.sameBut hs ?_⟩
     rintro rfl
     exact hj (Zrz hN e1 (I.ok.inj _ _ _ e hc ▸ hi))
  ·by_cases hcc:c'=c
   ·subst hcc; exact⟨_,hc'⟩
   ·obtain⟨w2,z2⟩:=I.cell y c' e
    exact⟨w2,z2.sameBut hs hcc⟩
  ·obtain⟨e,n,ne,nf,d⟩:=I.pin p hp
   refine⟨(hs.2 p.1 ?_).trans e,n,ne,nf,d⟩
   intro q
   rw[q,hoc] at e
   have q':oc=p.2:=Xx.inj e
   exact d w' (by rw[<- q']; exact hocd)
theorem Zmk {M:Model} {A:Vr} {E:Vb->Vd->Prop} {i:Nat} {x:Str} {v:V} {u:Vb} {Q:Unit->Vd->Prop} (I:Inv X pins σ H s) (hN:X.N.Nodup) (hi:X.N[i]? = some x) (hx:Loc X.env.scope x) (r:Zcd v u)
  (h:∀ s',Inv X pins (σ.set i (some v)) H s'->Q () s') (hf:X.fn x=true\/X.env.scope.names.lookup x=some .local:=by first | exact .inl rfl | exact .inr rfl | assumption):Vg M A (Ueg X.env x u) Q E s :=
 Zk3 I hN hi hx r (fun s' I' _=>h s' I') hf
theorem Inv.call' {s':Vd} {ch:List Ve} (I:Inv X pins σ H s) (ho:s'.os=s.os) (u:Un (frs X.stack) ch H H' s.heap s'.heap) (hok:HOk X.prog X.w H' s'.heap) (hg:Ucp s'.gens)
  (hch:∀ b∈ch,(b∈X.ex\/X.s₀.heap.objs.size<=b)/\b≠X.env.locals/\(∀ x c,X.env.cells.lookup x=some c->c≠b)/\∀ p∈X.pn++pins,p.1≠b):Inv X pins σ H' s':=by
 obtain⟨h',g',d',t',o'⟩:=s'
 have e:o'=s.os:=ho
 subst e
 exact I.call (g':=g') (t':=t') (d':=d') u hok hg hch
end
nonrec abbrev XK:=Vb->Option Ve->Hp->Prop
nonrec abbrev St:=List (Option V)
nonrec abbrev VK:=V->Hp->Prop
nonrec abbrev TE:=St->Hp->VK->Prop
nonrec abbrev TT:=St->Hp->(Bool->Hp->Prop)->Prop
nonrec abbrev TA:=St->Hp->(List V->Hp->Prop)->Prop
structure Ends where
 nx:St->Hp->Prop
 rt:VK
 bk:St->Hp->Prop:=fun _ _=>False
 ct:St->Hp->Prop:=fun _ _=>False
nonrec abbrev TS:=Ends->St->Hp->Prop
def EP (X:Cx) (pins:List (Ve×Obj)) (σ:St) (Q:VK) (u:Vb) (s':Vd):Prop:=∃ v H',Inv X pins σ H' s'/\Zcd v u/\Q v H'
def TP (X:Cx) (pins:List (Ve×Obj)) (σ:St) (Q:Bool->Hp->Prop) (b:Bool) (s':Vd):Prop:=∃ H',Inv X pins σ H' s'/\Q b H'
def AP (X:Cx) (pins:List (Ve×Obj)) (σ:St) (Q:List V->Hp->Prop) (us:List Vb) (s':Vd):Prop:=∃ vs H',Inv X pins σ H' s'/\Zb4 vs us/\Q vs H'
def SP (X:Cx) (pins:List (Ve×Obj)) (D:Ends) (f:Flow) (s':Vd):Prop :=
 match f with
 | .next=>∃ σ' H',Inv X pins σ' H' s'/\D.nx σ' H'
 | .brk=>∃ σ' H',Inv X pins σ' H' s'/\D.bk σ' H'
 | .cont=>∃ σ' H',Inv X pins σ' H' s'/\D.ct σ' H'
 | .ret u=>∃ v σ' H',Inv X pins σ' H' s'/\Zcd v u/\D.rt v H'
def PE (X:Cx) (e:Vv) (t:TE):Prop :=
 ∀ (pins:List (Ve×Obj)) (s:Vd) (σ:St) (H:Hp) (Q:VK),Inv X pins σ H s->t σ H Q->Vg (Vl X.prog X.w) X.A (eval e X.env) (EP X pins σ Q) X.xe s
def PT (X:Cx) (e:Vv) (t:TT):Prop :=
 ∀ (pins:List (Ve×Obj)) (s:Vd) (σ:St) (H:Hp) (Q:Bool->Hp->Prop),Inv X pins σ H s->t σ H Q->Vg (Vl X.prog X.w) X.A (isTrue e X.env (eval e X.env)) (TP X pins σ Q) X.xe s
def PW (X:Cx) (e:Vv) (t:TT):Prop :=
 ∀ (whole:Sem Vb) (pins:List (Ve×Obj)) (s:Vd) (σ:St) (H:Hp) (Q:Bool->Hp->Prop),Inv X pins σ H s->t σ H Q->Vg (Vl X.prog X.w) X.A (isTrue e X.env whole) (TP X pins σ Q) X.xe s
def PA (X:Cx) (es:List Vv) (t:TA):Prop :=
 ∀ (pos:Pos) (pins:List (Ve×Obj)) (s:Vd) (σ:St) (H:Hp) (Q:List V->Hp->Prop),Inv X pins σ H s->t σ H Q->Vg (Vl X.prog X.w) X.A (spliced (Uac pos (Vf es X.env))) (AP X pins σ Q) X.xe s
def PS (X:Cx) (st:Vw) (t:TS):Prop :=
 ∀ (pins:List (Ve×Obj)) (s:Vd) (σ:St) (H:Hp) (D:Ends),Inv X pins σ H s->t D σ H->Vg (Vl X.prog X.w) X.A (exec st X.env) (SP X pins D) X.xe s
def PSs (X:Cx) (st:List Vw) (t:TS):Prop :=
 ∀ (pins:List (Ve×Obj)) (s:Vd) (σ:St) (H:Hp) (D:Ends),Inv X pins σ H s->t D σ H->Vg (Vl X.prog X.w) X.A (execs st X.env) (SP X pins D) X.xe s
theorem thn {α:Type} {t:Sem α} {Q Q':α->Vd->Prop} {M:Model} {A:Vr} {E:Vb->Vd->Prop} {s:Vd} (h:Vg M A t Q E s) (hQ:∀ a s,Q a s->Q' a s):Vg M A t Q' E s:=Uaq h hQ fun _ _ x=>x
section
variable {X:Cx}
nonrec def Yfj (i:Nat):TE:=fun σ H Q=>∃ v,σ[i]? = some (some v)/\Q v H
nonrec def tC (v:V):TE:=fun _ H Q=>Q v H
theorem Yhr {i:Nat} {x:Str} {pos:Pos} (hN:X.N[i]? = some x) (hv:Vis X.env.scope x) (hd:(x==("__debug__" : Str))=false:=by decide) (hcd:(x==("__classdict__" : Str))=false:=by decide):PE X (.Name x pos) (Yfj i):=by
 intro pins s σ H Q I h
 obtain⟨v,e,h⟩:=h
 obtain⟨m,hn,hl⟩:=I.loc
 obtain⟨u,r,l⟩:=hl i x v hN e hv
 have fin:EP X pins σ Q u s:=⟨v,H,I,r,h⟩
 rcases l with ⟨hk,hm⟩ | ⟨hk,c,hc,hcell⟩
 ·exact wpAny_Name (Udb I.ok.kind hk hn hm fin) hd
 ·rcases hk with hk | hk
  ·exact wpAny_Name (Udl I.ok.kind hk hc hcell fin) hd
  ·exact wpAny_Name (wpAny_loadName_free I.ok.kind hk hc hcell fin hcd) hd
theorem Yb0 {i j pos}:PE X (.Constant (.int i) j pos) (tC (.int i)):=fun _ _ _ H _ I h=>wpAny_Constant_int ⟨.int i,H,I.tok _,⟨_,rfl⟩,h⟩
theorem pe_bl {b j pos}:PE X (.Constant (.bool b) j pos) (tC (.bl b)):=fun _ _ _ H _ I h=>Constant_bool ⟨.bl b,H,I,rfl,h⟩
theorem Ygg {j pos}:PE X (.Constant .none j pos) (tC .non):=fun _ _ _ H _ I h=>Constant_none ⟨.non,H,I,rfl,h⟩
theorem Yfo {x j pos}:PE X (.Constant (.str x) j pos) (tC (.str x)):=fun _ _ _ H _ I h=>Calls.Constant_str ⟨.str x,H,I.tok _,⟨_,rfl⟩,h⟩
def Gl (X:Cx) (x:Str):Prop:=X.env.kindOf x=some .globalImplicit
theorem Zq2 {E:Vb->Vd->Prop} {pins:List (Ve×Obj)} {s:Vd} {σ:St} {H:Hp} {x:Str} {u:Vb} {pos:Pos} {Q:Vb->Vd->Prop} (I:Inv X pins σ H s) (hg:Gl X x) (hm:X.mg x=some u) (h:Q u s)
  (hd:(x==("__debug__" : Str))=false:=by decide):Vg (Vl X.prog X.w) X.A (eval (.Name x pos) X.env) Q E s :=
 Tbh I.ok.kind hg (Calls.loadGlobal_global (by rw[I.ok.glob]; exact I.mod.glob.keeps I.bk) hm h) hd
theorem Zet {E:Vb->Vd->Prop} {pins:List (Ve×Obj)} {s:Vd} {σ:St} {H:Hp} {x:Str} {u:Vb} {pos:Pos} {Q:Vb->Vd->Prop} (I:Inv X pins σ H s) (hg:Gl X x) (hm:X.mg x=none) (hv:Vq x=some u) (h:Q u s)
  (hn:x ≠ "__name__" := by decide) (hd:(x==("__debug__" : Str))=false:=by decide):Vg (Vl X.prog X.w) X.A (eval (.Name x pos) X.env) Q E s:=by
 obtain⟨mb,h1,h2⟩:=I.mod.blt
 exact Tbh I.ok.kind hg (Calls.loadGlobal_builtin (by rw[I.ok.glob]; exact I.mod.glob.keeps I.bk) hm (by rw[I.ok.blt]; exact h1.keeps I.bk) ((h2 x hn).trans hv) h) hd
theorem Zxe {x:Str} {v:V} {u:Vb} {pos:Pos} (hg:Gl X x) (hm:X.mg x=some u) (r:Zcd v u) (hd:(x==("__debug__" : Str))=false:=by decide):PE X (.Name x pos) (tC v) :=
 fun _ _ _ H _ I h=>Zq2 I hg hm ⟨v,H,I,r,h⟩ hd
theorem Ycx {x:Str} {v:V} {u:Vb} {pos:Pos} (hg:Gl X x) (hm:X.mg x=none) (hv:Vq x=some u) (r:Zcd v u) (hn:x ≠ "__name__" := by decide) (hd:(x==("__debug__" : Str))=false:=by decide):PE X (.Name x pos) (tC v) :=
 fun _ _ _ H _ I h=>Zet I hg hm hv ⟨v,H,I,r,h⟩ hn hd
variable {a b:Vv} {ta tb:TE} {pos:Pos}
variable {tA tB':TT} {rest:List Vv}
nonrec def tAnd (t u:TT):TT:=fun σ H Q=>t σ H fun c H1=>if c=true then u σ H1 Q else Q false H1
nonrec def tOr (t u:TT):TT:=fun σ H Q=>t σ H fun c H1=>if c=true then Q true H1 else u σ H1 Q
nonrec def tNot (t:TT):TT:=fun σ H Q=>t σ H fun c H1=>Q (!c) H1
theorem Ydc (ha:PT X a tA):PW X (.BoolOp .And [a] pos) tA:=by
 intro wh pins s σ H Q I h
 refine isTrue_and (thn (ha pins s σ H Q I h) fun c s1 e=>?_)
 cases c with
 | true=>exact isTrue_and_nil e
 | false=>exact e
theorem Yhx (ha:PT X a tA):PW X (.BoolOp .Or [a] pos) tA:=by
 intro wh pins s σ H Q I h
 refine isTrue_or (thn (ha pins s σ H Q I h) fun c s1 e=>?_)
 cases c with
 | false=>exact isTrue_or_nil e
 | true=>exact e
theorem Ygy (ha:PT X a tA) (hb:PW X (.BoolOp .And (b::rest) pos) tB'):PW X (.BoolOp .And (a::b::rest) pos) (tAnd tA tB'):=by
 intro wh pins s σ H Q I h
 refine isTrue_and (thn (ha pins s σ H _ I h) fun c s1 zz=>?_)
 obtain⟨H1,I1,q1⟩:=zz
 cases c with
 | true=>exact hb wh pins s1 σ H1 Q I1 q1
 | false=>exact⟨H1,I1,q1⟩
theorem pw_or (ha:PT X a tA) (hb:PW X (.BoolOp .Or (b::rest) pos) tB'):PW X (.BoolOp .Or (a::b::rest) pos) (tOr tA tB'):=by
 intro wh pins s σ H Q I h
 refine isTrue_or (thn (ha pins s σ H _ I h) fun c s1 zz=>?_)
 obtain⟨H1,I1,q1⟩:=zz
 cases c with
 | true=>exact⟨H1,I1,q1⟩
 | false=>exact hb wh pins s1 σ H1 Q I1 q1
theorem Yh7 (ha:PT X a tA):PT X (.UnaryOp .Not a pos) (tNot tA):=by
 intro pins s σ H Q I h
 exact isTrue_not (ha pins s σ H (fun c H1=>Q (!c) H1) I h)
nonrec def tAndV (ta tb:TE):TE:=fun σ H Q=>ta σ H fun x H1=>∃ c,x=.bl c/\if c=true then tb σ H1 Q else Q (.bl false) H1
nonrec def tOrV (ta tb:TE):TE:=fun σ H Q=>ta σ H fun x H1=>∃ c,x=.bl c/\if c=true then Q (.bl true) H1 else tb σ H1 Q
nonrec def tNotV (ta:TE):TE:=fun σ H Q=>ta σ H fun x H1=>∃ c,x=.bl c/\Q (.bl (!c)) H1
theorem Yha {op} {t:TE} (h:PE X a t):PE X (.BoolOp op [a] pos) t:=fun pins s σ H Q I hw=>BoolOp_one (h pins s σ H Q I hw)
theorem Yhs (ha:PE X a ta) (hb:PE X (.BoolOp .And (b::rest) pos) tb):PE X (.BoolOp .And (a::b::rest) pos) (tAndV ta tb):=by
 intro pins s σ H Q I h
 refine BoolOp_and (thn (ha pins s σ H _ I h) fun v s1 zz=>?_)
 obtain⟨x,H1,I1,r1,q1⟩:=zz
 obtain⟨c,rfl,q1⟩:=q1
 cases r1
 refine Vz ?_
 cases c with
 | true=>exact hb pins s1 σ H1 Q I1 q1
 | false=>exact⟨.bl false,H1,I1,rfl,q1⟩
theorem pe_or (ha:PE X a ta) (hb:PE X (.BoolOp .Or (b::rest) pos) tb):PE X (.BoolOp .Or (a::b::rest) pos) (tOrV ta tb):=by
 intro pins s σ H Q I h
 refine BoolOp_or (thn (ha pins s σ H _ I h) fun v s1 zz=>?_)
 obtain⟨x,H1,I1,r1,q1⟩:=zz
 obtain⟨c,rfl,q1⟩:=q1
 cases r1
 refine Vz ?_
 cases c with
 | false=>exact hb pins s1 σ H1 Q I1 q1
 | true=>exact⟨.bl true,H1,I1,rfl,q1⟩
theorem Yh1 (ha:PE X a ta):PE X (.UnaryOp .Not a pos) (tNotV ta):=by
 intro pins s σ H Q I h
 refine UnaryOp_ (thn (ha pins s σ H _ I h) fun v s1 zz=>?_)
 obtain⟨x,H1,I1,r1,q1⟩:=zz
 obtain⟨c,rfl,q1⟩:=q1
 cases r1
 exact not_of (Vz ⟨.bl (!c),H1,I1,rfl,q1⟩)
nonrec def tIf (t:TT) (ta tb:TE):TE:=fun σ H Q=>t σ H fun c H1=>if c=true then ta σ H1 Q else tb σ H1 Q
theorem Zz5 {c:Vv} (hc:PT X c tA) (ha:PE X a ta) (hb:PE X b tb):PE X (.IfExp c a b pos) (tIf tA ta tb):=by
 intro pins s σ H Q I h
 refine wpAny_IfExp (thn (hc pins s σ H _ I h) fun d s1 zz=>?_)
 obtain⟨H1,I1,q1⟩:=zz
 cases d with
 | true=>exact ha pins s1 σ H1 Q I1 q1
 | false=>exact hb pins s1 σ H1 Q I1 q1
end
def SqL (K:Xb) (H:Hp) (a:Ve) (xs:List V):Prop :=
 Rd H a (.lst xs) \/
  ∃ (o:Obj) (its:Array Vb) (n:Nat),K.lookup a=some o/\o.cls=.type "list" /\ o.dict=none/\o.data=.seq its n/\its.size<=sizeLine/\Zb4 xs its.toList
def SqT (K:Xb) (H:Hp) (a:Ve) (xs:List V):Prop :=
 Rd H a (.tup xs) \/
  ∃ (o:Obj) (its:Array Vb) (n:Nat),K.lookup a=some o/\o.cls=.type "tuple" /\ o.data=.seq its n/\its.size<=sizeLine/\Zb4 xs its.toList/\o.dict=none
nonrec def absV:Vb->Option V
 | .none=>some .non
 | .bool b=>some (.bl b)
 | .int i _=>some (.int i)
 | .str x _=>some (.str x)
 | .bytes b _=>some (.byt b)
 | .float b _=>some (.flt b)
 | .ref a=>some (.ref a)
 | .type n=>some (.ty n)
 | _=>none
theorem Zcd.abs {x:V} {u:Vb} (r:Zcd x u):absV u=some x:=by
 cases x with
 | non=>cases r; rfl
 | bl _=>cases r; rfl
 | int _=>obtain⟨t,rfl⟩:=r; rfl
 | str _=>obtain⟨t,rfl⟩:=r; rfl
 | byt _=>obtain⟨t,rfl⟩:=r; rfl
 | flt _=>obtain⟨t,rfl⟩:=r; rfl
 | ref _=>cases r; rfl
 | ty _=>cases r; rfl
theorem Zcd.inj {x y:V} {u:Vb} (r:Zcd x u) (q:Zcd y u):x=y:=Xx.inj (r.abs.symm.trans q.abs)
theorem Zb4.inj:∀ {xs ys:List V} {us:List Vb},Zb4 xs us->Zb4 ys us->xs=ys:=by
 intro xs ys us h
 induction h generalizing ys with
 | nil=>intro h'; cases h'; rfl
 | cons r t ih =>
  intro h'
  cases h' with
  | cons r' t'=>rw[r.inj r',ih t']
section
variable {X:Cx} {pins:List (Ve×Obj)} {σ:St} {H:Hp} {s:Vd} {a:Ve} {xs ys:List V}
theorem SqL.of {K:Xb} (h:H a=some (.lst xs)):SqL K H a xs:=.inl (.inl h)
theorem SqT.of {K:Xb} (h:H a=some (.tup xs)):SqT K H a xs:=.inl (.inl h)
theorem Inv.list (I:Inv X pins σ H s) (h:SqL X.K H a xs):∃ its:List Vb,Zb4 xs its/\PlainL s.heap a its.toArray/\xs.length<=sizeLine:=by
 rcases h with h | ⟨o,its,n,hk,hc,hd,hs,hz,r⟩
 ·obtain⟨z,its,n,r,e⟩:=h.ok I.hok
  exact⟨its,r,⟨_,n,e,rfl,rfl,rfl⟩,z⟩
 ·refine⟨its.toList,r,⟨o,n,I.kIn a o hk,hc,hd,by simpa using hs⟩,?_⟩
  have e:=r.length
  simp only[Wdy] at e
  omega
theorem Inv.tuple (I:Inv X pins σ H s) (h:SqT X.K H a xs):∃ its:List Vb,Zb4 xs its/\Ueq s.heap a its.toArray/\xs.length<=sizeLine:=by
 rcases h with h | ⟨o,its,n,hk,hc,hs,hz,r,_⟩
 ·obtain⟨z,its,r,p⟩:=h.ok I.hok
  exact⟨its,r,p.tup,z⟩
 ·refine⟨its.toList,r,⟨o,I.kIn a o hk,hc,n,by simpa using hs⟩,?_⟩
  have e:=r.length
  simp only[Wdy] at e
  omega
theorem Inv.list_inj (I:Inv X pins σ H s) (h:SqL X.K H a xs) (h':SqL X.K H a ys):xs=ys:=by
 obtain⟨its,r,⟨o,n,e,_,_,d⟩,_⟩:=I.list h
 obtain⟨its',r',⟨o',n',e',_,_,d'⟩,_⟩:=I.list h'
 rw[e] at e'; cases e'
 rw[d] at d'
 injection d' with d1 _
 have:its=its':=by simpa using congrArg Array.toList d1
 subst this
 exact r.inj r'
theorem Inv.tuple_inj (I:Inv X pins σ H s) (h:SqT X.K H a xs) (h':SqT X.K H a ys):xs=ys:=by
 obtain⟨its,r,⟨o,e,_,n,d⟩,_⟩:=I.tuple h
 obtain⟨its',r',⟨o',e',_,n',d'⟩,_⟩:=I.tuple h'
 rw[e] at e'; cases e'
 rw[d] at d'
 injection d' with d1 _
 have:its=its':=by simpa using congrArg Array.toList d1
 subst this
 exact r.inj r'
end
nonrec abbrev Cx.wish (X:Cx) (E:Vb->Vd->Prop):Cx:={ X with xe:=E }
nonrec abbrev Cx.nox (X:Cx):Cx:=X.wish fun _ _=>False
theorem Cx.Ok.wish {X:Cx} (ok:X.Ok) (E:Vb->Vd->Prop):(X.wish E).Ok :=
 ⟨ok.mod,ok.kind,ok.glob,ok.blt,ok.above,ok.inj,ok.has,ok.cab,ok.hd,ok.frames,ok.stk,ok.exf,ok.bs,ok.bsz,ok.noex,ok.exfs,ok.funs,ok.frf⟩
theorem Cx.Ok.unwish {X:Cx} {E:Vb->Vd->Prop} (ok:(X.wish E).Ok):X.Ok :=
 ⟨ok.mod,ok.kind,ok.glob,ok.blt,ok.above,ok.inj,ok.has,ok.cab,ok.hd,ok.frames,ok.stk,ok.exf,ok.bs,ok.bsz,ok.noex,ok.exfs,ok.funs,ok.frf⟩
section
variable {X:Cx} {pins:List (Ve×Obj)} {σ:St} {H:Hp} {s:Vd} {E:Vb->Vd->Prop}
theorem Inv.wish (I:Inv X pins σ H s) (E:Vb->Vd->Prop):Inv (X.wish E) pins σ H s:=⟨I.ok.wish E,I.os,I.bare,I.base,I.loc,I.cell,I.free,I.freeC,I.pin,I.hok,I.len⟩
theorem Inv.unwish (I:Inv (X.wish E) pins σ H s):Inv X pins σ H s:=⟨I.ok.unwish,I.os,I.bare,I.base,I.loc,I.cell,I.free,I.freeC,I.pin,I.hok,I.len⟩
theorem SP.unwish {D:Ends} {f:Flow} {s':Vd} (h:SP (X.wish E) pins D f s'):SP X pins D f s':=by
 cases f with
 | next=>obtain⟨σ',H',I,q⟩:=h; exact⟨σ',H',I.unwish,q⟩
 | brk=>obtain⟨σ',H',I,q⟩:=h; exact⟨σ',H',I.unwish,q⟩
 | cont=>obtain⟨σ',H',I,q⟩:=h; exact⟨σ',H',I.unwish,q⟩
 | ret u=>obtain⟨v,σ',H',I,r,q⟩:=h; exact⟨v,σ',H',I.unwish,r,q⟩
theorem PSs.nox {st:List Vw} {t:TS} (h:PSs X.nox st t):PSs X st t:=fun pins s σ H D I hw =>
 Uaq (h pins s σ H D (I.wish _) hw) (fun _ _ q=>q.unwish) fun _ _ z=>Ug z
end
section
variable {X:Cx} {st:Vw} {rest:List Vw} {t u:TS} {e:Vv} {te:TE} {pos:Pos}
nonrec def tNext:TS:=fun D σ H=>D.nx σ H
nonrec def tSeq (t u:TS):TS:=fun D σ H=>t { D with nx:=u D } σ H
theorem Yci:PSs X [] tNext:=fun _ _ σ H _ I h=>Ucq ⟨σ,H,I,h⟩
theorem Yar (h1:PS X st t) (h2:PSs X rest u):PSs X (st::rest) (tSeq t u):=by
 intro pins s σ H D I h
 refine wpAny_execs_cons (thn (h1 pins s σ H { D with nx:=u D } I h) fun f s1 q=>?_)
 cases f with
 | next =>
  obtain⟨σ',H',I',q⟩:=q
  exact h2 pins s1 σ' H' D I' q
 | ret v=>exact q
 | brk=>exact q
 | cont=>exact q
theorem Inv.quiet {pins:List (Ve×Obj)} {σ:St} {H:Hp} {s:Vd} (I:Inv X pins σ H s):interactive X.env=false:=by simp[interactive,I.ok.kind]
nonrec def tDrop (te:TE):TS:=fun D σ H=>te σ H fun _ H1=>D.nx σ H1
theorem Ydi (he:PE X e te) (hs:Ubs e none pos.line X.env=pure false:=by rfl):PS X (.Expr e pos) (tDrop te):=by
 intro pins s σ H D I h
 exact wpAny_Expr_any (thn (he pins s σ H _ I h) fun v s1 ⟨x,H1,I1,r1,q1⟩=>⟨σ,H1,I1,q1⟩) I.quiet hs
nonrec def tRet (te:TE):TS:=fun D σ H=>te σ H D.rt
theorem Yhz (he:PE X e te):PS X (.Return (some e) pos) (tRet te):=by
 intro pins s σ H D I h
 exact wpAny_Return_some (thn (he pins s σ H _ I h) fun v s1 ⟨x,H1,I1,r1,q1⟩=>⟨x,σ,H1,I1,r1,q1⟩)
nonrec def tRetN:TS:=fun D _ H=>D.rt .non H
theorem Yes:PS X (.Return none pos) tRetN:=fun _ _ σ H _ I h=>wpAny_Return_none ⟨.non,σ,H,I,rfl,h⟩
nonrec def tIfS (c:TT) (t u:TS):TS:=fun D σ H=>c σ H fun b H1=>if b=true then t D σ H1 else u D σ H1
theorem ps_if {c:Vv} {a b:List Vw} {tc:TT} (hc:PT X c tc) (ha:PSs X a t) (hb:PSs X b u):PS X (.If c a b pos) (tIfS tc t u):=by
 intro pins s σ H D I h
 refine wpAny_If (thn (hc pins s σ H _ I h) fun d s1 zz=>?_)
 obtain⟨H1,I1,q1⟩:=zz
 cases d with
 | true=>exact ha pins s1 σ H1 D I1 q1
 | false=>exact hb pins s1 σ H1 D I1 q1
end
nonrec abbrev TG:=V->St->Hp->(St->Hp->Prop)->Prop
nonrec abbrev TGs:=List V->St->Hp->(St->Hp->Prop)->Prop
def PG (X:Cx) (target:Vv) (t:TG):Prop :=
 ∀ (pins:List (Ve×Obj)) (s:Vd) (σ:St) (H:Hp) (v:V) (u:Vb) (Q:St->Hp->Prop),Inv X pins σ H s->Zcd v u->t v σ H Q ->
  Vg (Vl X.prog X.w) X.A (Udh target X.env u) (fun _ s'=>∃ σ' H',Inv X pins σ' H' s'/\Q σ' H') X.xe s
def PGs (X:Cx) (ts:List Vv) (t:TGs):Prop :=
 ∀ (pins:List (Ve×Obj)) (s:Vd) (σ:St) (H:Hp) (vs:List V) (us:List Vb) (Q:St->Hp->Prop),Inv X pins σ H s->Zb4 vs us->t vs σ H Q ->
  Vg (Vl X.prog X.w) X.A (assignInOrder ((Uar ts X.env).map (·.2)) us) (fun _ s'=>∃ σ' H',Inv X pins σ' H' s'/\Q σ' H') X.xe s
nonrec abbrev TSet:=V->V->V->Hp->(Hp->Prop)->Prop
def PSet (X:Cx) (t:TSet):Prop :=
 ∀ (pins:List (Ve×Obj)) (s:Vd) (σ:St) (H:Hp) (o i v:V) (ov iv u:Vb) (Q:Hp->Prop),Inv X pins σ H s->Zcd o ov->Zcd i iv->Zcd v u->t o i v H Q ->
  Vg (Vl X.prog X.w) X.A (setItem ov iv u) (fun _ s'=>∃ H',Inv X pins σ H' s'/\Q H') X.xe s
nonrec abbrev TIp:=V->V->Hp->VK->Prop
def PIp (X:Cx) (op:Uee) (t:TIp):Prop :=
 ∀ (pins:List (Ve×Obj)) (s:Vd) (σ:St) (H:Hp) (x y:V) (v u:Vb) (Q:VK),Inv X pins σ H s->Zcd x v->Zcd y u->t x y H Q ->
  Vg (Vl X.prog X.w) X.A (inplaceOp op v u) (EP X pins σ Q) X.xe s
section
variable {X:Cx} {pos:Pos}
nonrec def Znw (i:Nat):TG:=fun v σ H Q=>Q (σ.set i (some v)) H
theorem Zny {i:Nat} {x:Str} (hN:X.N.Nodup) (hi:X.N[i]? = some x) (hx:Loc X.env.scope x) (hf:X.fn x=true\/X.env.scope.names.lookup x=some .local:=by first | exact .inl rfl | exact .inr rfl | assumption):PG X (.Name x pos) (Znw i):=by
 intro pins s σ H v u Q I r h
 exact wpAny_assign_Name (Zmk I hN hi hx r (fun s' I'=>⟨_,H,I',h⟩) hf)
nonrec def gNil:TGs:=fun vs σ H Q=>vs=[]/\Q σ H
nonrec def Zxj (t:TG) (u:TGs):TGs:=fun vs σ H Q=>∃ v r,vs=v::r/\t v σ H fun σ' H'=>u r σ' H' Q
theorem Zut:PGs X [] gNil:=by
 intro pins s σ H vs us Q I r h
 obtain⟨e,h⟩:=h
 subst e
 cases r
 exact assignInOrder_nil ⟨σ,H,I,h⟩
theorem Zmm {e:Vv} {es:List Vv} {t:TG} {u:TGs} (h1:PG X e t) (h2:PGs X es u)
  (hs:(Uar (e::es) X.env).map (·.2)=Udh e X.env::(Uar es X.env).map (·.2):=by rfl):PGs X (e::es) (Zxj t u):=by
 intro pins s σ H vs us Q I r h
 obtain⟨v,vr,e1,h⟩:=h
 subst e1
 cases r with
 | cons r rr =>
  rw[hs]
  refine assignInOrder_cons (thn (h1 pins s σ H _ _ _ I r h) fun _ s1 zz=>?_)
  obtain⟨σ1,H1,I1,q1⟩:=zz
  exact h2 pins s1 σ1 H1 _ _ Q I1 rr q1
nonrec def gTup (K:Xb) (n:Nat) (t:TGs):TG:=fun v σ H Q=>∃ a xs,v=.ref a/\SqT K H a xs/\xs.length=n/\t xs σ H Q
theorem Yb2 {es:List Vv} {k:Nat} {t:TGs} {n:Nat} (hc:X.calm=true) (h:PGs X es t)
  (hn:(Uar es X.env).length=n:=by rfl) (hst:(Uar es X.env).findIdx? (·.1)=none:=by rfl):PG X (.Tuple es k pos) (gTup X.K n t):=by
 intro pins s σ H v u Q I r hw
 obtain⟨a,xs,e1,hq,hl,hw⟩:=hw
 subst e1
 cases r
 obtain⟨its,rv,ht,hz⟩:=I.tuple hq
 refine assign_Tuple_tuple (I.ok.hd hc) ht (by simp[hn,<- hl,rv.length]) hst fun h' hx=>?_
 have I1:Inv X pins σ H { s with heap:=h' }:=I.kept (t':=s.toks) fun b o e=>hx b o (Xh (Xf e)) e
 exact h pins _ σ H xs _ Q I1 (by simpa using rv) hw
nonrec def gSub (to ti:TE) (t:TSet):TG:=fun v σ H Q=>to σ H fun o H1=>ti σ H1 fun i H2=>t o i v H2 fun H3=>Q σ H3
theorem Yfl {o i:Vv} {to ti:TE} {t:TSet} (ho:PE X o to) (hi:PE X i ti) (hs:PSet X t)
  (ha:∀ v,Udh (.Subscript o i pos) X.env v=(do
   let ov<-Ubt [v] (eval o X.env)
   let iv<-Ubt [v,ov] (eval i X.env)
   Udm pos
   Ubt [v,ov,iv] (setItem ov iv v)
   release [v,ov,iv] []):=by intro _; rfl):PG X (.Subscript o i pos) (gSub to ti t):=by
 intro pins s σ H v u Q I r h
 rw[ha]
 refine Va (Vx (thn (ho pins s σ H _ I h) fun ov s1 zz=>?_))
 obtain⟨x,H1,I1,r1,q1⟩:=zz
 refine Va (Vx (thn (hi pins s1 σ H1 _ I1 q1) fun iv s2 zz=>?_))
 obtain⟨y,H2,I2,r2,q2⟩:=zz
 refine Va (Ubp (Va (Vx (thn (hs pins s2 σ H2 x y v ov iv u _ I2 r1 r2 r q2) fun _ s3 zz=>?_))))
 obtain⟨H3,I3,q3⟩:=zz
 exact wpAny_release ⟨σ,H3,I3,q3⟩
nonrec def tAsg (te:TE) (g:TG):TS:=fun D σ H=>te σ H fun x H1=>g x σ H1 D.nx
theorem Ygh {tg e:Vv} {te:TE} {g:TG} (he:PE X e te) (hg:PG X tg g) (hs:swapsWithSole [tg] e pos.line X.env=pure false:=by rfl) (hw:swappedStores [tg] e X.env=pure none:=by rfl)
  (h1:(Uar [tg] X.env).map (·.2)=[Udh tg X.env]:=by rfl):PS X (.Assign [tg] e pos) (tAsg te g):=by
 intro pins s σ H D I h
 refine wpAny_Assign_stores (thn (he pins s σ H _ I h) fun v s1 ⟨x,H1,I1,r1,q1⟩=>?_) hs hw
 rw[h1]
 exact thn (hg pins s1 σ H1 x v _ I1 r1 q1) fun _ s2 q=>q
theorem Yhm {i:Nat} {x:Str} {e:Vv} {te:TE} {pos':Pos} (hN:X.N.Nodup) (hi:X.N[i]? = some x) (hx:Loc X.env.scope x) (he:PE X e te) (hs:Ubs e (some (.Name x pos')) pos.line X.env=pure false:=by rfl) (hf:X.fn x=true\/X.env.scope.names.lookup x=some .local:=by first | exact .inl rfl | exact .inr rfl | assumption) :
  PS X (.Assign [.Name x pos'] e pos) (tAsg te (Znw i)):=by
 intro pins s σ H D I h
 refine wpAny_Assign_Name (thn (he pins s σ H _ I h) fun v s1 ⟨y,H1,I1,r1,q1⟩=>?_) hs
 exact Zmk I1 hN hi hx r1 (fun s2 I2=>⟨_,H1,I2,q1⟩) hf
nonrec def tAug (i:Nat) (te:TE) (ti:TIp):TS:=fun D σ H=>∃ x,σ[i]? = some (some x)/\te σ H fun y H1=>ti x y H1 fun z H2=>D.nx (σ.set i (some z)) H2
theorem Ygo {i:Nat} {x:Str} {e:Vv} {te:TE} {op:Uee} {ti:TIp} {pos':Pos} (hN:X.N.Nodup) (hi:X.N[i]? = some x) (hx:Loc X.env.scope x) (he:PE X e te) (ho:PIp X op ti) (hf:X.fn x=true\/X.env.scope.names.lookup x=some .local:=by first | exact .inl rfl | exact .inr rfl | assumption) :
  PS X (.AugAssign (.Name x pos') op e pos) (tAug i te ti):=by
 intro pins s σ H D I h
 obtain⟨v,e1,h⟩:=h
 obtain⟨m,hn,hl⟩:=I.loc
 have vis:Vis X.env.scope x:=by rcases hx with k | k; exact .inl k; exact .inr (.inl k)
 obtain⟨u,r,l⟩:=hl i x v hi e1 vis
 refine wpAny_AugAssign_Name ?_
 have go:Vg (Vl X.prog X.w) X.A (eval e X.env) (fun w s₂=>Vg (Vl X.prog X.w) X.A (inplaceOp op u w) (fun r s₃=>Vg (Vl X.prog X.w) X.A (Ueg X.env x r) (fun _=>SP X pins D .next) X.xe s₃) X.xe s₂) X.xe s:=by
  refine thn (he pins s σ H _ I h) fun w s1 zz=>?_
  obtain⟨y,H1,I1,r1,q1⟩:=zz
  refine thn (ho pins s1 σ H1 v y u w _ I1 r r1 q1) fun z s2 zz=>?_
  obtain⟨zv,H2,I2,r2,q2⟩:=zz
  exact Zmk I2 hN hi hx r2 (fun s3 I3=>⟨_,H2,I3,q2⟩) hf
 rcases l with ⟨hk,hm⟩ | ⟨hk,c,hc,hcell⟩
 ·exact Udb I.ok.kind hk hn hm go
 ·rcases hk with hk | hk
  ·exact Udl I.ok.kind hk hc hcell go
  ·rcases hx with k | k
   ·have:X.env.scope.names.lookup x=some .free:=hk
    rw[k] at this; cases this
   ·have:X.env.scope.names.lookup x=some .free:=hk
    rw[k] at this; cases this
nonrec def ipI (f:Int->Int->Int):TIp:=fun x y H Q=>∃ i j,x=.int i/\y=.int j/\Q (.int (f i j)) H
theorem Yhe:PIp X .Sub (ipI fun i j=>i - j):=by
 intro pins s σ H x y v u Q I r1 r2 h
 obtain⟨i,j,e1,e2,q⟩:=h
 subst e1; subst e2
 obtain⟨t,rfl⟩:=r1
 obtain⟨t',rfl⟩:=r2
 exact isub_int ⟨.int _,H,I.tok _,⟨_,rfl⟩,q⟩
end
section
variable {X:Cx} {pos:Pos}
nonrec def Yff (c:TT) (tb:TS):TS:=fun D σ H=>∃ W:Nat->St->Hp->Prop,(∃ m,W m σ H)/\∀ m σ H,W m σ H ->
 c σ H fun b H1=>if b=true then ∃ N:St->Hp->Prop,(∀ σ' H',N σ' H'->∃ m',m'<m/\W m' σ' H')/\tb { D with nx:=N,ct:=N,bk:=D.nx } σ H1 else D.nx σ H1
theorem Zz0 {c:Vv} {body:List Vw} {tc:TT} {tb:TS} (hp:Ueh (Vl X.prog X.w) X.A X.env X.xe) (hc:PT X c tc) (hb:PSs X body tb):PS X (.While c body [] pos) (Yff tc tb):=by
 intro pins s σ H D I h
 obtain⟨W,⟨m0,w0⟩,turn⟩:=h
 refine wpAny_While (codeAny_whileLoop (fun n s'=>∃ σ' H',Inv X pins σ' H' s'/\W n σ' H') ?_ m0 ⟨σ,H,I,w0⟩)
 rintro n s1 ⟨σ1,H1,I1,w1⟩
 refine Uam hp (thn (hc pins s1 σ1 H1 _ I1 (turn n σ1 H1 w1)) fun b s2 zz=>?_)
 obtain⟨H2,I2,q2⟩:=zz
 cases b with
 | true =>
  obtain⟨N,hN,q2⟩:=q2
  rw[if_pos rfl]
  refine Uam hp (thn (hb pins s2 σ1 H2 _ I2 q2) fun f s3 q3=>?_)
  cases f with
  | next =>
   obtain⟨σ3,H3,I3,n3⟩:=q3
   obtain⟨m',hm,w3⟩:=hN σ3 H3 n3
   exact⟨m',hm,σ3,H3,I3,w3⟩
  | cont =>
   obtain⟨σ3,H3,I3,n3⟩:=q3
   obtain⟨m',hm,w3⟩:=hN σ3 H3 n3
   exact⟨m',hm,σ3,H3,I3,w3⟩
  | brk=>exact q3
  | ret v=>exact q3
 | false =>
  rw[if_neg Waz]
  exact Ucq ⟨σ1,H2,I2,q2⟩
end
structure It where
 go:Nat->Hp->Prop
 yld:Nat->Hp->V->Hp->Prop
 stop:Nat->Hp->Prop
def Znd (X:Cx) (pins:List (Ve×Obj)) (H:Hp) (b:Ve):Prop :=
 H b=none/\b≠X.env.locals/\b∉X.fs/\(b∈X.ex\/X.s₀.heap.objs.size<=b)/\(∀ x c,X.env.cells.lookup x=some c->c≠b)/\∀ p∈X.pn++pins,p.1≠b
theorem Inv.fpOk {X:Cx} {pins:List (Ve×Obj)} {σ:St} {H H':Hp} {s:Vd} {b:Ve} (I:Inv X pins σ H s) (hb:s.heap.objs.size<=b) (hn:H' b=none):Znd X pins H' b:=by
 refine⟨hn,Wbr (Xj I.lt hb),I.nofs hb,.inr (Waa I.sz hb),fun x c e z=>?_,fun p hp z=>?_⟩
 ·obtain⟨v,q⟩:=I.cell x c e
  exact absurd (Xj q.lt (by rw[z]; exact hb)) (Wav _)
 ·exact absurd (Xj (Xf (I.pin p hp).1) (by rw[z]; exact hb)) (Wav _)
structure Turn (P:Vi) (w:Vs) (K:Xb) (tg:Vv) (J:It) (fp:List Ve) (it:Ve) (tn:Nat->Vy->Prop):Prop where
 mem:it∈fp
 obj:∀ i h,tn i h->∀ b∈fp,∃ o,h.get? b=some o/\∀ v,o.data≠.cell v
 keep:∀ i h h',tn i h->(∀ b∈fp,∀ o,h.get? b=some o->h'.get? b=some o)->tn i h'
 item:∀ (X:Cx),X.prog=P->X.w=w->X.K=K->X.calm=true->∀ (i:Nat) (pins:List (Ve×Obj)) (s:Vd) (σ:St) (H:Hp) (E:Vb->Vd->Prop),Inv X pins σ H s->(∀ b∈fp,Znd X pins H b)->tn i s.heap->J.go i H ->
  Vg (Vl P w) X.A (Ubl (.ref it)) (fun r s1=>∃ u,r=some u /\
   Vg (Vl P w) X.A (Ucr tg (.ref it) u) (fun _ s2=>∃ x H',Inv X pins σ H' s2/\Zcd x u/\J.yld i H x H'/\tn (i+1) s2.heap/\∀ b∈fp,H' b=none) E s1) E s
 done:∀ (X:Cx),X.prog=P->X.w=w->X.K=K->X.calm=true->∀ (i:Nat) (pins:List (Ve×Obj)) (s:Vd) (σ:St) (H:Hp) (E:Vb->Vd->Prop),Inv X pins σ H s->(∀ b∈fp,Znd X pins H b)->tn i s.heap->J.stop i H ->
  Vg (Vl P w) X.A (Ubl (.ref it)) (fun r s1=>r=none/\Inv X pins σ H s1) E s
 self:∀ (A:Vr) (i:Nat) (s:Vd) (Q:Vb->Vd->Prop) (E:Vb->Vd->Prop),tn i s.heap->Q (.ref it) s->Vg (Vl P w) A (pyIter (.ref it)) Q E s
nonrec abbrev TI:=St->Hp->(It->Hp->Prop)->Prop
def PIE (X:Cx) (pins:List (Ve×Obj)) (σ:St) (tg:Vv) (R:It->Hp->Prop) (itv:Vb) (s2:Vd):Prop :=
 ∃ (it:Ve) (fp:List Ve) (tn:Nat->Vy->Prop) (J:It) (H':Hp),itv=.ref it/\Inv X pins σ H' s2/\Turn X.prog X.w X.K tg J fp it tn/\tn 0 s2.heap/\(∀ b∈fp,Znd X pins H' b)/\R J H'
def PI (X:Cx) (tg iter:Vv) (wi:TI):Prop :=
 ∀ (pins:List (Ve×Obj)) (s:Vd) (σ:St) (H:Hp) (R:It->Hp->Prop),Inv X pins σ H s->wi σ H R ->
  Vg (Vl X.prog X.w) X.A (eval iter X.env) (fun v s1=>Vg (Vl X.prog X.w) X.A (pyIter v) (PIE X pins σ tg R) X.xe s1) X.xe s
theorem Zx5 {M:Model} {A:Vr} {E:Vb->Vd->Prop} {s:Vd} {tg:Vv} {it:Ve} {u:Vb} {o:Obj} {n:String} {vs:Array Vb} {Q:Unit->Vd->Prop} (ho:s.heap.get? it=some o) (hc:o.cls=.type n) (hd:o.data=.fields vs)
  (hn:["enumerate","zip","dict_itemiterator","dict_reverseitemiterator","odict_iterator","itertools.zip_longest","itertools.pairwise"].contains n=false) (hQ:Q () s):Vg M A (Ucr tg (.ref it) u) Q E s:=by
 unfold Ucr
 cases tg<;>first
  | exact Vc hQ
  | (cases u<;>first
    | exact Vc hQ
    | (refine Va (wpAny_load ho ?_)
       rw[hc,hd]
       show Vg M A (if (["enumerate","zip","dict_itemiterator","dict_reverseitemiterator","odict_iterator","itertools.zip_longest","itertools.pairwise"].contains n&&vs[0]? == some (Uad _))=true then _ else _) Q E s
       rw[if_neg (by intro h; rw[hn,Bool.false_and] at h; cases h)]
       exact Vc hQ))
nonrec def Itl (K:Xb) (a:Ve):It :=
 ⟨fun i H=>∃ xs x,SqL K H a xs/\xs[i]? = some x,fun i H x H'=>H'=H/\∀ xs,SqL K H a xs->xs[i]? = some x,fun i H=>∃ xs,SqL K H a xs/\xs.length<=i⟩
nonrec def Itt (K:Xb) (a:Ve):It :=
 ⟨fun i H=>∃ xs x,SqT K H a xs/\xs[i]? = some x,fun i H x H'=>H'=H/\∀ xs,SqT K H a xs->xs[i]? = some x,fun i H=>∃ xs,SqT K H a xs/\xs.length<=i⟩
nonrec def Itr (lo:Int) (n:Nat):It:=⟨fun i _=>i<n,fun i H x H'=>H'=H/\x=.int (lo+i),fun i _=>n<=i⟩
theorem Zu4 {P:Vi} {w:Vs} {K:Xb} {tg:Vv} (a it:Ve):Turn P w K tg (Itl K a) [it] it (fun i h=>h.IsListIter it a i) where
 mem:=by simp
 obj:=fun i h st b hb=>by
  have e:b=it:=by simpa using hb
  subst e
  obtain⟨o,e,c,d⟩:=st
  exact⟨o,e,fun v z=>by rw[d] at z; cases z⟩
 keep:=fun i h h' st k=>st.at fun o e=>k it (by simp) o e
 item:=by
  intro X hP hw hK hc i pins s σ H E I hf st hg
  subst hP hw hK
  obtain⟨xs,x,hq,hx⟩:=hg
  obtain⟨its,rv,p,hz⟩:=I.list hq
  obtain⟨u,hu,ru⟩:=rv.get hx
  obtain⟨f0,f1,f2,f3,f4,f5⟩:=hf it (by simp)
  refine wpAny_pyNext_list_item st p.isList (x:=u) (by simpa using hu) fun h' st' sb=>?_
  have I1:Inv X pins σ H { s with heap:=h' }:=I.turned (t':=s.toks) (fun b o hb e=>(sb.2 b hb).trans e) f0 f1 f3 f4 f5
  obtain⟨o,e,c,d⟩:=id st'
  exact⟨u,rfl,Zx5 (s:={ s with heap:=h' }) e c d (by decide) ⟨x,H,I1,ru,⟨rfl,fun ys hy=>by rw[I.list_inj hy hq]; exact hx⟩,st',fun b hb=>(hf b hb).1⟩⟩
 done:=by
  intro X hP hw hK hc i pins s σ H E I hf st hg
  subst hP hw hK
  obtain⟨xs,hq,hx⟩:=hg
  obtain⟨its,rv,p,hz⟩:=I.list hq
  obtain⟨f0,f1,f2,f3,f4,f5⟩:=hf it (by simp)
  have hl:=rv.length
  exact wpAny_pyNext_list_end (I.ok.hd hc) st p.isList (by simp; omega) fun h' eb=>⟨rfl,I.turned (t':=s.toks) (fun b o hb e=>eb b o hb e) f0 f1 f3 f4 f5⟩
 self:=fun _ _ _ _ _ st h=>wpAny_pyIter_listiter st h
theorem Zs3 {P:Vi} {w:Vs} {K:Xb} {tg:Vv} (a it:Ve):Turn P w K tg (Itt K a) [it] it (fun i h=>h.IsTupleIter it a i) where
 mem:=by simp
 obj:=fun i h st b hb=>by
  have e:b=it:=by simpa using hb
  subst e
  obtain⟨o,e,c,d⟩:=st
  exact⟨o,e,fun v z=>by rw[d] at z; cases z⟩
 keep:=fun i h h' st k=>st.at fun o e=>k it (by simp) o e
 item:=by
  intro X hP hw hK hc i pins s σ H E I hf st hg
  subst hP hw hK
  obtain⟨xs,x,hq,hx⟩:=hg
  obtain⟨its,rv,p,hz⟩:=I.tuple hq
  obtain⟨u,hu,ru⟩:=rv.get hx
  obtain⟨f0,f1,f2,f3,f4,f5⟩:=hf it (by simp)
  refine wpAny_pyNext_tuple_item st (show s.heap.IsTuple a its.toArray from p) (x:=u) (by simpa using hu) fun h' st' sb=>?_
  have I1:Inv X pins σ H { s with heap:=h' }:=I.turned (t':=s.toks) (fun b o hb e=>(sb.2 b hb).trans e) f0 f1 f3 f4 f5
  obtain⟨o,e,c,d⟩:=id st'
  exact⟨u,rfl,Zx5 (s:={ s with heap:=h' }) e c d (by decide) ⟨x,H,I1,ru,⟨rfl,fun ys hy=>by rw[I.tuple_inj hy hq]; exact hx⟩,st',fun b hb=>(hf b hb).1⟩⟩
 done:=by
  intro X hP hw hK hc i pins s σ H E I hf st hg
  subst hP hw hK
  obtain⟨xs,hq,hx⟩:=hg
  obtain⟨its,rv,p,hz⟩:=I.tuple hq
  obtain⟨f0,f1,f2,f3,f4,f5⟩:=hf it (by simp)
  have hl:=rv.length
  exact wpAny_pyNext_tuple_end (I.ok.hd hc) st (show s.heap.IsTuple a its.toArray from p) (by simp; omega) fun h' eb=>⟨rfl,I.turned (t':=s.toks) (fun b o hb e=>eb b o hb e) f0 f1 f3 f4 f5⟩
 self:=fun _ _ _ _ _ st h=>wpAny_pyIter_tupleiter st h
theorem Zs2 {P:Vi} {w:Vs} {K:Xb} {tg:Vv} (it:Ve) (lo:Int) (n:Nat):Turn P w K tg (Itr lo n) [it] it (fun i h=>Udn h it (lo+(i:Nat)*1) ((n:Int) - (i:Nat)) 1) where
 mem:=by simp
 obj:=fun i h st b hb=>by
  have e:b=it:=by simpa using hb
  subst e
  exact⟨_,st,fun v z=>by
   have z':Data.fields _=Data.cell v:=z
   cases z'⟩
 keep:=fun i h h' st k=>k it (by simp) _ st
 item:=by
  intro X hP hw hK hc i pins s σ H E I hf st hg
  subst hP hw hK
  obtain⟨f0,f1,f2,f3,f4,f5⟩:=hf it (by simp)
  have W:=Walks.range (prog:=X.prog) (w:=X.w) (I.ok.hd hc) it lo 1 n
  refine W.item i s _ _ hg st fun v h' tk hv st' kk=>?_
  obtain⟨t,rfl⟩:=hv
  have I1:Inv X pins σ H { s with heap:=h',toks:=tk }:=I.turned (fun b o hb e=>kk b o (by simpa using hb) e) f0 f1 f3 f4 f5
  refine⟨_,rfl,Zx5 (s:={ s with heap:=h',toks:=tk }) (n := "range_iterator") st' rfl rfl (by decide) ⟨.int (lo+i),H,I1,⟨t,?_⟩,⟨rfl,rfl⟩,st',fun b hb=>(hf b hb).1⟩⟩
  rw[Int.mul_one]
 done:=by
  intro X hP hw hK hc i pins s σ H E I hf st hg
  subst hP hw hK
  obtain⟨f0,f1,f2,f3,f4,f5⟩:=hf it (by simp)
  exact Ucj (I.ok.hd hc) st (by have:n<=i:=hg; omega) fun h' eb=>⟨rfl,I.turned (t':=s.toks) (fun b o hb e=>eb b o hb e) f0 f1 f3 f4 f5⟩
 self:=fun _ _ _ _ _ st h=>Uck st h
section
variable {X:Cx} {tg:Vv}
theorem Yaf {pins:List (Ve×Obj)} {σ:St} {H:Hp} {s:Vd} {R:It->Hp->Prop} {E:Vb->Vd->Prop} {lo hi:Int} {t u v:Tok} {tk:Nat} (I:Inv X pins σ H s) (h1 : -(2 ^ 62)<=lo) (h2:lo<2 ^ 62) (h3 : -(2 ^ 62)<=hi) (h4:hi<2 ^ 62)
  (q:R (Itr lo (hi - lo).toNat) H):Vg (Vl X.prog X.w) X.A (pyIter (.ref s.heap.objs.size)) (PIE X pins σ tg R) E { s with heap:=s.heap.push { cls:=.type "range",data:=.fields #[.int lo t,.int hi u,.int 1 v] },toks:=tk }:=by
 refine wpAny_pyIter_range (Tdc ..) (small_one h1 h2 h3 h4) ?_
 have I1:Inv X pins σ H { s with heap:=s.heap.push { cls:=.type "range",data:=.fields #[.int lo t,.int hi u,.int 1 v] },toks:=tk }:=I.kept fun b o e=>Xa _ e
 refine⟨(s.heap.push { cls:=.type "range",data:=.fields #[.int lo t,.int hi u,.int 1 v] }).objs.size,[(s.heap.push { cls:=.type "range",data:=.fields #[.int lo t,.int hi u,.int 1 v] }).objs.size],_,_,H,rfl,
  I1.kept (t':=tk) fun b o e=>Xa _ e,Zs2 _ lo (hi - lo).toNat,?_,fun b hb=>?_,q⟩
 ·have e1:lo+((0:Nat):Int)*1=lo:=by simp
  have e2:(((hi - lo).toNat:Nat):Int) - ((0:Nat):Int)=Taa lo hi 1:=by rw[rangeSize_one]; split<;>omega
  show Udn _ _ (lo+((0:Nat):Int)*1) ((((hi - lo).toNat:Nat):Int) - ((0:Nat):Int)) 1
  rw[e1,e2]
  exact Xd _ rfl
 ·have e:b=(s.heap.push { cls:=.type "range",data:=.fields #[.int lo t,.int hi u,.int 1 v] }).objs.size:=by simpa using hb
  subst e
  exact I1.fpOk (Xe _) (I1.hok.fresh (Xe _))
nonrec def iRng1 (ta:TA):TI:=fun σ H R=>ta σ H fun vs H1=>∃ j:Int,vs=[.int j] /\ -(2 ^ 62)<=j/\j<2 ^ 62/\R (Itr 0 j.toNat) H1
theorem Zxr {a:Vv} {ta:TA} {p pos:Pos} (hg:Gl X "range") (hm:X.mg "range" = none) (ha:PA X [a] ta) (hs:Vf [a] X.env=[(false,eval a X.env)]:=by rfl):PI X tg (.Call (.Name "range" p) [a] [] pos) (iRng1 ta):=by
 intro pins s σ H R I h
 refine Call_ (Zet I hg hm boot_range (Ui (thn (ha pos pins s σ H _ I h) fun us s1 ⟨vs,H1,I1,r1,q1⟩=>?_) hs rfl))
 obtain⟨j,e,q1,q2,q⟩:=q1
 subst e
 cases r1 with
 | cons r rr =>
  cases rr
  obtain⟨t,rfl⟩:=r
  exact call_range_1 (Yaf I1 (by omega) (by omega) q1 q2 (by simpa using q))
nonrec def tFor (wi:TI) (g:TG) (tb:TS):TS:=fun D σ H=>wi σ H fun J H1=>∃ W:Nat->Nat->St->Hp->Prop,(∃ m,W 0 m σ H1)/\∀ i m σ H,W i m σ H ->
 (J.stop i H/\D.nx σ H)\/(J.go i H/\∃ N:St->Hp->Prop,(∀ σ' H',N σ' H'->∃ m',m'<m/\W (i+1) m' σ' H')/\∀ x H',J.yld i H x H'->g x σ H' fun σ2 H2=>tb { D with nx:=N,ct:=N,bk:=D.nx } σ2 H2)
nonrec def Zlq (fp:List Ve) (h:Vy):List (Ve×Obj):=fp.filterMap fun b=>(h.get? b).map fun o=>(b,o)
theorem Zdu {fp:List Ve} {h:Vy} {b:Ve} {o:Obj} (hb:b∈fp) (e:h.get? b=some o):(b,o)∈Zlq fp h:=Wcz.mpr ⟨b,hb,by rw[e]; rfl⟩
theorem Zw6 {fp:List Ve} {h:Vy} {p:Ve×Obj} (hp:p∈Zlq fp h):p.1∈fp/\h.get? p.1=some p.2:=by
 obtain⟨b,hb,e⟩:=Wcz.mp hp
 cases q:h.get? b with
 | none=>rw[q] at e; cases e
 | some o =>
  rw[q] at e
  have e':(b,o)=p:=Xx.inj e
  subst e'
  exact⟨hb,q⟩
theorem Inv.pinned {pins:List (Ve×Obj)} {σ:St} {H:Hp} {s:Vd} {fp:List Ve} (I:Inv X pins σ H s) (hf:∀ b∈fp,Znd X pins H b) (ho:∀ b∈fp,∃ o,s.heap.get? b=some o/\∀ v,o.data≠.cell v):Inv X (pins++Zlq fp s.heap) σ H s :=
 I.pins_of fun p hp=>(Xy.mp hp).elim (fun z=>I.pin p (Xv _ z)) fun z=>by
  obtain⟨hb,e⟩:=Zw6 z
  obtain⟨f0,f1,f2,_⟩:=hf p.1 hb
  obtain⟨o,e',d⟩:=ho p.1 hb
  rw[e] at e'; cases e'
  exact⟨e,f0,f1,f2,d⟩
theorem Inv.unpinned {pins pl:List (Ve×Obj)} {σ:St} {H:Hp} {s:Vd} (I:Inv X (pins++pl) σ H s):Inv X pins σ H s:=I.pins_of fun p hp=>I.pin p (Xv _ (Wax _ hp))
theorem Ygd {iter:Vv} {body:List Vw} {wi:TI} {g:TG} {tb:TS} {pos:Pos} (hp:Ueh (Vl X.prog X.w) X.A X.env X.xe) (hc:X.calm=true) (hi:PI X tg iter wi) (hg:PG X tg g) (hb:PSs X body tb)
  (hs:∀ x,Uaa iter X.env x=pure x:=by intro _; rfl):PS X (.For tg iter body [] pos) (tFor wi g tb):=by
 intro pins s σ H D I h
 refine wpAny_For (thn (hi pins s σ H _ I h) fun v s1 h1=>thn h1 fun itv s2 h2=>?_) hs
 obtain⟨it,fp,tn,J,H2,e,I2,T,st2,f2,W,⟨m0,w0⟩,turn⟩:=h2
 subst e
 -- what stays true of the iterator's objects through the loop
 have stat:∀ {H':Hp},(∀ b∈fp,H' b=none)->∀ b∈fp,Znd X pins H' b:=fun hn b hb=>⟨hn b hb,(f2 b hb).2⟩
 refine codeAny_forLoop_any (fun n s'=>∃ i σ' H',Inv X pins σ' H' s'/\tn i s'.heap/\(∀ b∈fp,H' b=none)/\W i n σ' H') ?_ m0 ⟨0,σ,H2,I2,st2,fun b hb=>(f2 b hb).1,w0⟩
 rintro n s3 ⟨i,σ3,H3,I3,st3,fr3,w3⟩
 rcases turn i n σ3 H3 w3 with ⟨stop,qn⟩ | ⟨go,N,hN,step⟩
 ·refine Uam hp (thn (T.done X rfl rfl rfl hc i pins s3 σ3 H3 X.xe I3 (stat fr3) st3 stop) fun r s4 zz=>?_)
  obtain⟨hr,I4⟩:=zz
  subst hr
  exact Ucq ⟨σ3,H3,I4,qn⟩
 ·refine Uam hp (thn (T.item X rfl rfl rfl hc i pins s3 σ3 H3 X.xe I3 (stat fr3) st3 go) fun r s4 zz=>?_)
  obtain⟨u,hr,h4⟩:=zz
  subst hr
  refine Uam hp (thn h4 fun _ s5 zz=>?_)
  obtain⟨x,H5,I5,r5,y5,st5,fr5⟩:=zz
  have I5':=I5.pinned (stat fr5) (T.obj _ _ st5)
  refine Uam hp (thn (hg _ s5 σ3 H5 x u _ I5' r5 (step x H5 y5)) fun _ s6 zz=>?_)
  obtain⟨σ6,H6,I6,q6⟩:=zz
  refine Uam hp (thn (hb _ s6 σ6 H6 _ I6 q6) fun f s7 q7=>?_)
  have again:∀ {σ7:St} {H7:Hp},Inv X (pins++Zlq fp s5.heap) σ7 H7 s7->N σ7 H7->∃ m,m<n/\∃ i σ' H',Inv X pins σ' H' s7/\tn i s7.heap/\(∀ b∈fp,H' b=none)/\W i m σ' H':=fun {σ7 H7} I7 n7=>by
   obtain⟨m',hm,w7⟩:=hN σ7 H7 n7
   refine⟨m',hm,i+1,σ7,H7,I7.unpinned,T.keep _ _ _ st5 fun b hb o e=>(I7.pin (b,o) (Xv _ (Xv _ (Zdu hb e)))).1,fun b hb=>?_,w7⟩
   obtain⟨o,e,d⟩:=T.obj _ _ st5 b hb
   exact(I7.pin (b,o) (Xv _ (Xv _ (Zdu hb e)))).2.1
  cases f with
  | next=>obtain⟨σ7,H7,I7,n7⟩:=q7; exact again I7 n7
  | cont=>obtain⟨σ7,H7,I7,n7⟩:=q7; exact again I7 n7
  | brk=>obtain⟨σ7,H7,I7,q7⟩:=q7; exact⟨σ7,H7,I7.unpinned,q7⟩
  | ret v=>obtain⟨x7,σ7,H7,I7,r7,q7⟩:=q7; exact⟨x7,σ7,H7,I7.unpinned,r7,q7⟩
end
nonrec abbrev R2:=V->V->Hp->VK->Prop
def OpR (X:Cx) (f:Vb->Vb->Sem Vb) (r:R2):Prop :=
 ∀ (pins:List (Ve×Obj)) (s:Vd) (σ:St) (H:Hp) (x y:V) (v u:Vb) (Q:VK),Inv X pins σ H s->Zcd x v->Zcd y u->r x y H Q ->
  Vg (Vl X.prog X.w) X.A (f v u) (EP X pins σ Q) X.xe s
def UnR (X:Cx) (f:Vb->Sem Vb) (r:V->Hp->VK->Prop):Prop :=
 ∀ (pins:List (Ve×Obj)) (s:Vd) (σ:St) (H:Hp) (x:V) (v:Vb) (Q:VK),Inv X pins σ H s->Zcd x v->r x H Q ->
  Vg (Vl X.prog X.w) X.A (f v) (EP X pins σ Q) X.xe s
def Zj0 (X:Cx) (f:Vb) (r:List V->Hp->VK->Prop):Prop :=
 ∀ (pins:List (Ve×Obj)) (s:Vd) (σ:St) (H:Hp) (xs:List V) (us:List Vb) (Q:VK),Inv X pins σ H s->Zb4 xs us->r xs H Q ->
  Vg (Vl X.prog X.w) X.A (call f us) (EP X pins σ Q) X.xe s
def TruR (X:Cx) (r:V->Hp->(Bool->Hp->Prop)->Prop):Prop :=
 ∀ (pins:List (Ve×Obj)) (s:Vd) (σ:St) (H:Hp) (x:V) (v:Vb) (Q:Bool->Hp->Prop),Inv X pins σ H s->Zcd x v->r x H Q ->
  Vg (Vl X.prog X.w) X.A (truthy v) (TP X pins σ Q) X.xe s
nonrec def tOp (r:R2) (ta tb:TE):TE:=fun σ H Q=>ta σ H fun x H1=>tb σ H1 fun y H2=>r x y H2 Q
nonrec def tUn (r:V->Hp->VK->Prop) (ta:TE):TE:=fun σ H Q=>ta σ H fun x H1=>r x H1 Q
nonrec def rI (C:Int->Int->Prop) (g:Int->Int->V):R2:=fun x y H Q=>∃ i j,x=.int i/\y=.int j/\C i j/\Q (g i j) H
nonrec def rI0 (g:Int->Int->V):R2:=fun x y H Q=>∃ i j,x=.int i/\y=.int j/\Q (g i j) H
nonrec def rU (g:Int->V):V->Hp->VK->Prop:=fun x H Q=>∃ i,x=.int i/\Q (g i) H
section
variable {X:Cx} {a b c:Vv} {ta tb tc:TE} {pos:Pos}
theorem binT (ha:PE X a ta) (hb:PE X b tb) {pins:List (Ve×Obj)} {s:Vd} {σ:St} {H:Hp} {R:V->V->Hp->Prop} (I:Inv X pins σ H s)
  (h:ta σ H fun x H1=>tb σ H1 fun y H2=>R x y H2) {Q:Vb->Vd->Prop} {f:Vb->Vb->Sem Vb}
  (hf:∀ v u s2 x y H2,Inv X pins σ H2 s2->Zcd x v->Zcd y u->R x y H2->Vg (Vl X.prog X.w) X.A (f v u) Q X.xe s2) :
  Vg (Vl X.prog X.w) X.A (eval a X.env) (fun v s₁=>Vg (Vl X.prog X.w) X.A (eval b X.env) (fun u s₂=>Vg (Vl X.prog X.w) X.A (f v u) Q X.xe s₂) X.xe s₁) X.xe s:=by
 refine thn (ha pins s σ H _ I h) fun v s1 zz=>?_
 obtain⟨x,H1,I1,r1,q1⟩:=zz
 refine thn (hb pins s1 σ H1 _ I1 q1) fun u s2 zz=>?_
 obtain⟨y,H2,I2,r2,q2⟩:=zz
 exact hf v u s2 x y H2 I2 r1 r2 q2
theorem pe_op {op:Uee} {r:R2} (ho:OpR X (Uab op) r) (ha:PE X a ta) (hb:PE X b tb):PE X (.BinOp a op b pos) (tOp r ta tb):=by
 intro pins s σ H Q I h
 exact wpAny_BinOp (binT ha hb I h fun v u s2 x y H2 I2 rx ry q=>ho pins s2 σ H2 x y v u Q I2 rx ry q)
theorem pe_un {op:UnaryOp} {r:V->Hp->VK->Prop} (ho:UnR X (unaryOp op) r) (ha:PE X a ta):PE X (.UnaryOp op a pos) (tUn r ta):=by
 intro pins s σ H Q I h
 exact UnaryOp_ (thn (ha pins s σ H _ I h) fun v s1 ⟨x,H1,I1,r1,q1⟩=>ho pins s1 σ H1 x v Q I1 r1 q1)
theorem opI {f:Vb->Vb->Sem Vb} {C:Int->Int->Prop} {g:Int->Int->Int}
  (rule:∀ (i j:Int) (t u:Tok) (s:Vd) (Q:Vb->Vd->Prop) (E:Vb->Vd->Prop),C i j->Q (.int (g i j) s.toks) { s with toks:=s.toks+1 }->Vg (Vl X.prog X.w) X.A (f (.int i t) (.int j u)) Q E s) :
  OpR X f (rI C fun i j=>.int (g i j)):=by
 intro pins s σ H x y v u Q I rx ry h
 obtain⟨i,j,rfl,rfl,hc,q⟩:=h
 obtain⟨t,rfl⟩:=rx
 obtain⟨t',rfl⟩:=ry
 exact rule i j t t' s _ _ hc ⟨.int (g i j),H,I.tok _,⟨_,rfl⟩,q⟩
theorem opI0 {f:Vb->Vb->Sem Vb} {g:Int->Int->Int}
  (rule:∀ (i j:Int) (t u:Tok) (s:Vd) (Q:Vb->Vd->Prop) (E:Vb->Vd->Prop),Q (.int (g i j) s.toks) { s with toks:=s.toks+1 }->Vg (Vl X.prog X.w) X.A (f (.int i t) (.int j u)) Q E s) :
  OpR X f (rI0 fun i j=>.int (g i j)):=by
 intro pins s σ H x y v u Q I rx ry h
 obtain⟨i,j,rfl,rfl,q⟩:=h
 obtain⟨t,rfl⟩:=rx
 obtain⟨t',rfl⟩:=ry
 exact rule i j t t' s _ _ ⟨.int (g i j),H,I.tok _,⟨_,rfl⟩,q⟩
theorem opB0 {f:Vb->Vb->Sem Vb} {g:Int->Int->Bool}
  (rule:∀ (i j:Int) (t u:Tok) (s:Vd) (Q:Vb->Vd->Prop) (E:Vb->Vd->Prop),Q (.bool (g i j)) s->Vg (Vl X.prog X.w) X.A (f (.int i t) (.int j u)) Q E s) :
  OpR X f (rI0 fun i j=>.bl (g i j)):=by
 intro pins s σ H x y v u Q I rx ry h
 obtain⟨i,j,rfl,rfl,q⟩:=h
 obtain⟨t,rfl⟩:=rx
 obtain⟨t',rfl⟩:=ry
 exact rule i j t t' s _ _ ⟨.bl (g i j),H,I,rfl,q⟩
def Yfk (i j:Int):Prop:=0<j/\j<1073741824
def Yib (i j:Int):Prop:=0<=j/\j<=1000000/\i.natAbs<2 ^ 64
def Ya0 (i j:Int):Prop:=(-(2 ^ 64)<i/\i<2 ^ 64)\/(-(2 ^ 64)<j/\j<2 ^ 64)
theorem Ya0.ok {i j:Int} (h:Ya0 i j):IntMulOk i j:=by
 rcases h with ⟨h1,h2⟩ | ⟨h1,h2⟩
 ·exact .of_left (intBits_le_64 h1 h2)
 ·exact .of_right (intBits_le_64 h1 h2)
theorem Yf7:OpR X (Uab .Add) (rI0 fun i j=>.int (i+j)):=opI0 fun _ _ _ _ _ _ _ q=>add_int q
theorem Ye2:OpR X (Uab .Sub) (rI0 fun i j=>.int (i - j)):=opI0 fun _ _ _ _ _ _ _ q=>sub_int q
theorem Yhc:OpR X (Uab .Mult) (rI Ya0 fun i j=>.int (i*j)):=opI fun _ _ _ _ _ _ _ hc q=>mul_int q hc.ok
theorem Ycz:OpR X (Uab .FloorDiv) (rI Yfk fun i j=>.int (i / j)):=opI fun i j _ _ _ _ _ hc q=>by
 have h1:(0:Int)<j:=hc.1
 have h2:j<1073741824:=hc.2
 exact floordiv_int (by omega) (by rw[Int.fdiv_eq_ediv_of_nonneg i (by omega)]; exact q) (.inl (Tbt (by omega)))
theorem Yg2:OpR X (Uab .Mod) (rI (fun _ j=>0<j) fun i j=>.int (i % j)):=opI fun i j _ _ _ _ _ hc q=>by
 have h1:(0:Int)<j:=hc
 exact mod_int' (by omega) (by rw[Int.fmod_eq_emod_of_nonneg i (by omega)]; exact q)
theorem Ye6:OpR X (Uab .Pow) (rI Yib fun i j=>.int (i ^ j.toNat)):=opI fun _ _ _ _ _ _ _ hc q=>pow_int_small hc.1 hc.2.1 hc.2.2 q
theorem unI {f:Vb->Sem Vb} {g:Int->Int}
  (rule:∀ (i:Int) (t:Tok) (s:Vd) (Q:Vb->Vd->Prop) (E:Vb->Vd->Prop),Q (.int (g i) s.toks) { s with toks:=s.toks+1 }->Vg (Vl X.prog X.w) X.A (f (.int i t)) Q E s) :
  UnR X f (rU fun i=>.int (g i)):=by
 intro pins s σ H x v Q I rx h
 obtain⟨i,rfl,q⟩:=h
 obtain⟨t,rfl⟩:=rx
 exact rule i t s _ _ ⟨.int (g i),H,I.tok _,⟨_,rfl⟩,q⟩
theorem Ye7:UnR X (unaryOp .USub) (rU fun i=>.int (-i)):=unI fun _ _ _ _ _ q=>neg_int q
end
section
variable {X:Cx} {a b c:Vv} {ta tb tc:TE} {pos:Pos}
theorem op_lt:OpR X (Vt .Lt) (rI0 fun i j=>.bl (decide (i<j))):=opB0 fun _ _ _ _ _ _ _ q=>lt_int q
theorem op_le:OpR X (Vt .LtE) (rI0 fun i j=>.bl (decide (i<=j))):=opB0 fun _ _ _ _ _ _ _ q=>le_int q
theorem op_gt:OpR X (Vt .Gt) (rI0 fun i j=>.bl (decide (j<i))):=opB0 fun _ _ _ _ _ _ _ q=>gt_int q
theorem op_ge:OpR X (Vt .GtE) (rI0 fun i j=>.bl (decide (j<=i))):=opB0 fun _ _ _ _ _ _ _ q=>ge_int q
theorem Zaw (b:Vv) {op:CmpOp} (h:op≠.In:=by decide) (h2:op≠.NotIn:=by decide):Ubd op b=false:=by
 have e1:(op==CmpOp.In)=false:=by cases op<;>first | rfl | exact absurd rfl h
 have e2:(op==CmpOp.NotIn)=false:=by cases op<;>first | rfl | exact absurd rfl h2
 cases b<;>simp[Ubd,e1,e2]
theorem Yco {op:CmpOp} {r:R2} (ho:OpR X (Vt op) r) (ha:PE X a ta) (hb:PE X b tb) (hm:Ubd op b=false):PE X (.Compare a [op] [b] pos) (tOp r ta tb):=by
 intro pins s σ H Q I h
 exact wpAny_Compare1 (binT ha hb I h fun v u s2 x y H2 I2 rx ry q=>ho pins s2 σ H2 x y v u Q I2 rx ry q) hm
nonrec def tTest (t:TE):TT:=fun σ H Q=>t σ H fun x H'=>∃ k,x=.bl k/\Q k H'
theorem Ydm {op:CmpOp} {r:R2} (ho:OpR X (Vt op) r) (ha:PE X a ta) (hb:PE X b tb) (hm:Ubd op b=false):PT X (.Compare a [op] [b] pos) (tTest (tOp r ta tb)):=by
 intro pins s σ H Q I h
 refine wpAny_isTrue_Compare1 (thn (ha pins s σ H _ I h) fun v s1 ⟨x,H1,I1,r1,q1⟩=>thn (hb pins s1 σ H1 _ I1 q1) fun u s2 ⟨y,H2,I2,r2,q2⟩ =>
  thn (ho pins s2 σ H2 x y v u _ I2 r1 r2 q2) fun c s3 ⟨z,H3,I3,r3,k,e,q3⟩=>?_) hm
 subst e
 cases r3
 exact Vz ⟨H3,I3,q3⟩
nonrec def Ya7 (r r':R2) (ta tb tc:TE):TE:=fun σ H Q=>ta σ H fun x H1=>tb σ H1 fun y H2=>r x y H2 fun z H3=>∃ k,z=.bl k /\
 (if k=true then tc σ H3 fun w' H4=>r' y w' H4 Q else Q (.bl false) H3)
theorem Yas {op op':CmpOp} {r r':R2} (ho:OpR X (Vt op) r) (ho':OpR X (Vt op') r') (ha:PE X a ta) (hb:PE X b tb) (hc:PE X c tc)
  (hm:lastMarks [op,op'] [b,c]=false:=by with_unfolding_all rfl):PE X (.Compare a [op,op'] [b,c] pos) (Ya7 r r' ta tb tc):=by
 intro pins s σ H Q I h
 refine Compare_chain (thn (ha pins s σ H _ I h) fun v s1 ⟨x,H1,I1,r1,q1⟩=>chain_link (thn (hb pins s1 σ H1 _ I1 q1) fun u s2 ⟨y,H2,I2,r2,q2⟩ =>
  thn (ho pins s2 σ H2 x y v u _ I2 r1 r2 q2) fun d s3 ⟨z,H3,I3,r3,k,e,q3⟩=>?_)) hm
 subst e
 cases r3
 refine Vz ?_
 cases k with
 | false=>exact ite_ff ⟨.bl false,H3,I3,rfl,q3⟩
 | true=>exact ite_tt (chain_last (thn (hc pins s3 σ H3 _ I3 q3) fun w' s4 ⟨z',H4,I4,r4,q4⟩=>ho' pins s4 σ H4 y z' u w' Q I4 r2 r4 q4))
def TruV (K:Xb) (x:V) (H:Hp) (k:Bool):Prop :=
 match x with
 | .non=>k=false
 | .bl b=>k=b
 | .int i=>k=(i != 0)
 | .str y=>y.length<=sizeLine/\k=((y.length:Int) != 0)
 | .byt y=>y.size<=sizeLine/\k=((y.size:Int) != 0)
 | .ref p=>(∃ xs,SqL K H p xs/\k = !xs.isEmpty)\/(∃ xs,SqT K H p xs/\k = !xs.isEmpty)\/∃ kvs,H p=some (.dK kvs)/\k = !kvs.isEmpty
 | _=>False
theorem Ztn {κ:Type} {kvs:List (κ×V)} {vs:List (κ×Vb)} (r:KV kvs vs):(!vs.isEmpty) = !kvs.isEmpty:=by
 cases r<;>rfl
theorem Zl4 {xs:List V} {its:List Vb} (r:Zb4 xs its):(!its.toArray.isEmpty) = !xs.isEmpty:=by
 cases r<;>simp
theorem Zpu:(sizeLine:Nat)<2 ^ 63:=by rw[Uba]; decide
theorem Yfy:TruR X (fun x H Q=>∃ k,TruV X.K x H k/\Q k H):=by
 intro pins s σ H x v Q I rx h
 obtain⟨k,e,q⟩:=h
 have hl:=Zpu
 have hs:sizeLine=16777216:=Uba
 cases x with
 | non =>
  cases rx
  have e':k=false:=e
  subst e'
  exact truthy_none ⟨H,I,q⟩
 | bl b =>
  cases rx
  have e':k=b:=e
  subst e'
  exact Vz ⟨H,I,q⟩
 | int i =>
  obtain⟨t,rfl⟩:=rx
  have e':k=(i != 0):=e
  subst e'
  exact PySem.P.truthy_int ⟨H,I,q⟩
 | str y =>
  obtain⟨t,rfl⟩:=rx
  obtain⟨hy,e'⟩:y.length<=sizeLine/\k=((y.length:Int) != 0):=e
  subst e'
  exact PySem.P.truthy_str (by omega) ⟨H,I.tok _,q⟩
 | byt y =>
  obtain⟨t,rfl⟩:=rx
  obtain⟨hy,e'⟩:y.size<=sizeLine/\k=((y.size:Int) != 0):=e
  subst e'
  exact PySem.W.truthy_bytes (by omega) ⟨H,I.tok _,q⟩
 | ref p =>
  cases rx
  have e':(∃ xs,SqL X.K H p xs/\k = !xs.isEmpty)\/(∃ xs,SqT X.K H p xs/\k = !xs.isEmpty)\/∃ kvs,H p=some (.dK kvs)/\k = !kvs.isEmpty:=e
  rcases e' with ⟨xs,hx,e'⟩ | ⟨xs,hx,e'⟩ | ⟨kvs,hx,e'⟩
  ·subst e'
   obtain⟨its,r,pl,hz⟩:=I.list hx
   have hlen:=r.length
   exact wpAny_truthy_list pl.isList (by simp only[Xo]; omega) ⟨H,I.tok _,by rw[Zl4 r]; exact q⟩
  ·subst e'
   obtain⟨its,r,pl,hz⟩:=I.tuple hx
   have hlen:=r.length
   exact truthy_tuple pl (by simp only[Xo]; omega) ⟨H,I.tok _,by rw[Zl4 r]; exact q⟩
  ·subst e'
   obtain⟨hz,hS,vs,r,m⟩:kvs.length<=sizeLine/\(p==Uag)=false/\∃ vs,KV kvs vs/\s.heap.DictOf (Zp9 X.prog X.w) p vs:=I.hok p _ hx
   have hlen:kvs.length=vs.length:=Tcx r
   exact wpAny_truthy_dict hS m (by omega) ⟨H,I.tok _,by rw[Ztn r]; exact q⟩
 | _=>exact(show False from e).elim
theorem Zy3 (ha:PE X a ta) (he:∀ whole,isTrue a X.env whole=(do let v<-whole; Udm a.pos; Ubt [v] (truthy v))) :
  PT X a (fun σ H Q=>ta σ H fun x H'=>∃ k,TruV X.K x H' k/\Q k H'):=by
 intro pins s σ H Q I h
 exact isTrue_plain (thn (ha pins s σ H _ I h) fun v s1 ⟨x,H1,I1,r1,q1⟩=>Yfy pins s1 σ H1 x v Q I1 r1 q1) (he _)
theorem Zt8:OpR X (Uab .Add) (fun x y H Q=>∃ i j,x=.str i/\y=.str j/\i.length+j.length<=sizeLine/\Q (.str (i++j)) H):=by
 intro pins s σ H x y v u Q I rx ry h
 obtain⟨i,j,rfl,rfl,hz,q⟩:=h
 obtain⟨t,rfl⟩:=rx
 obtain⟨t',rfl⟩:=ry
 exact add_str (fun t' tk=>⟨.str (i++j),H,I.tok _,⟨_,rfl⟩,q⟩) hz
theorem Zja {x:V} {us:List Vb} (r:Zb4 [x] us):∃ u,us=[u]/\Zcd x u:=by
 cases r with
 | cons r1 r2=>cases r2; exact⟨_,rfl,r1⟩
theorem Zw3 {x y:V} {us:List Vb} (r:Zb4 [x,y] us):∃ u w',us=[u,w']/\Zcd x u/\Zcd y w':=by
 cases r with
 | cons r1 r2 =>
  cases r2 with
  | cons r3 r4=>cases r4; exact⟨_,_,rfl,r1,r3⟩
theorem Yal:Zj0 X (.builtin "abs") (fun xs H Q=>∃ i,xs=[.int i]/\Q (.int (if i<0 then -i else i)) H):=by
 intro pins s σ H xs us Q I r h
 obtain⟨i,rfl,q⟩:=h
 obtain⟨u,rfl,t,rfl⟩:=Zja r
 exact Uea fun u tk=>⟨.int (if i<0 then -i else i),H,I.tok _,⟨_,rfl⟩,q⟩
theorem Zuw (hc:X.calm=true):Zj0 X (.builtin "max") (fun xs H Q=>∃ i j,xs=[.int i,.int j]/\Q (.int (if j > i then j else i)) H):=by
 intro pins s σ H xs us Q I r h
 obtain⟨i,j,rfl,q⟩:=h
 obtain⟨u,w',rfl,⟨t,rfl⟩,⟨t',rfl⟩⟩:=Zw3 r
 refine max_two_ints (I.ok.hd hc) fun h' tk k=>⟨_,H,I.kept k,?_,q⟩
 by_cases hj:j > i
 ·rw[if_pos hj,if_pos hj]; exact⟨_,rfl⟩
 ·rw[if_neg hj,if_neg hj]; exact⟨_,rfl⟩
theorem Zv3 (hc:X.calm=true):Zj0 X (.builtin "min") (fun xs H Q=>∃ i j,xs=[.int i,.int j]/\Q (.int (if j<i then j else i)) H):=by
 intro pins s σ H xs us Q I r h
 obtain⟨i,j,rfl,q⟩:=h
 obtain⟨u,w',rfl,⟨t,rfl⟩,⟨t',rfl⟩⟩:=Zw3 r
 refine min_two_ints (I.ok.hd hc) fun h' tk k=>⟨_,H,I.kept k,?_,q⟩
 by_cases hj:j<i
 ·rw[if_pos hj,if_pos hj]; exact⟨_,rfl⟩
 ·rw[if_neg hj,if_neg hj]; exact⟨_,rfl⟩
theorem Zo7:Zj0 X (.type "int") (fun xs H Q=>(∃ i,xs=[.int i]/\Q (.int i) H)\/∃ k,xs=[.bl k]/\Q (.int (if k then 1 else 0)) H):=by
 intro pins s σ H xs us Q I r h
 rcases h with ⟨i,rfl,q⟩ | ⟨k,rfl,q⟩
 ·obtain⟨u,rfl,t,rfl⟩:=Zja r
  exact call_int_int ⟨.int i,H,I,⟨_,rfl⟩,q⟩
 ·obtain⟨u,rfl,r1⟩:=Zja r
  cases r1
  exact call_int_bool ⟨.int (if k then 1 else 0),H,I.tok _,⟨_,rfl⟩,q⟩
end
structure ObjM (h:Vy) (x dx C:Ve) (mA:Str->Option Vb):Prop where
 obj:h.get? x=some (Wbv C dx)
 ns:h.Ns1 dx mA
 ne:dx≠x
theorem Zx2 {h:Vy} {dx:Ve} {mA:Str->Option Vb} (n:h.Ns1 dx mA):∃ od,h.get? dx=some od/\∀ name,Weh name od=some (mA name):=by
 obtain⟨o,es,ep,ho,hd,hk,_,hm⟩:=n
 refine⟨o,ho,fun name=>?_⟩
 have e:=hm name
 unfold nsFind findBy at e
 rw[<- Array.find?_toList] at e
 unfold Weh
 rw[hd]
 dsimp only
 split
 ·rename_i y q
  rw[q] at e
  exact congrArg some e
 ·rename_i q
  rw[q] at e
  have a:es.toList.any (·.refKey)=false:=by
   rw[Wbu]
   intro y hy
   obtain⟨z,t,hkey⟩:=hk y (Array.mem_toList_iff.mp hy)
   simp[DictEntry.refKey,hkey]
  have a':¬ es.toList.any (·.refKey)=true:=by rw[a]; exact Waz
  rw[if_neg a']
  exact congrArg some e
theorem ObjM.look {h:Vy} {x dx C:Ve} {mA:Str->Option Vb} (I:ObjM h x dx C mA):∃ od,PySem.W.InstAt h x (Wbv C dx) C (some od)/\∀ name,Weh name od=some (mA name) :=
 let ⟨od,ho,hl⟩:=Zx2 I.ns
 ⟨od,⟨I.obj,rfl,rfl,ho⟩,hl⟩
section
variable {prog:Vi} {w:Vs} {A:Vr} {E:Vb->Vd->Prop} {s:Vd} {K:Xb} {x dx C f:Ve} {mA:Str->Option Vb} {name:Str} {v:Vb}
theorem Ydz {expr:Bool} {Q:Vb->Vd->Prop} (X:K.In s.heap) (I:ObjM s.heap x dx C mA) (hg:Wdp K C name=true) (hh:Wel K C=true)
  (ha:Wbs K (.ref C) name=some none) (hv:mA name=some v) (hv':Wgh v=true) (h:Q v { s with toks:=s.toks+1 }) :
  Vg (Vl prog w) A (getAttr (.ref x) name expr) Q E s:=by
 obtain⟨od,J,hl⟩:=I.look
 exact PySem.W.get_value X J (Wdz hg).1 (PySem.W.findObj_own hh ha rfl (by rw[hl,hv])) hv' h
theorem Yag {pl:Sem Bool} {Q:Vb×List Vb->Vd->Prop} (X:K.In s.heap) (I:ObjM s.heap x dx C mA) (hg:Wdp K C name=true)
  (hf:Wbs K (.ref C) name=some (some (.ref f))) (ht:Wfz K (.ref f)=true) (hv:mA name=none) (h:Q (.ref f,[.ref x]) s) :
  Vg (Vl prog w) A (Ucs (.ref x) name pl) Q E s:=by
 obtain⟨od,J,hl⟩:=I.look
 exact PySem.W.method_fn X J (Wdz hg).1 (Wdz hg).2 hf (beq_iff_eq.mp ht) (by show (Weh name od).map (·.isSome)=some false; rw[hl,hv]; rfl) h
theorem Ydn {ns:List Str} {Q:Unit->Vd->Prop} (X:K.In s.heap) (I:ObjM s.heap x dx C mA)
  (hs:Wbs K (.ref C) "__setattr__" = some (some (.builtin "object.__setattr__"))) (hp:Wfq K C=true) (ht:Weu K C name=some none) (hh:Wel K C=true)
  (hw:Tcm mA ns) (hsz:ns.length<=sizeLine)
  (h:∀ h',ObjM h' x dx C (fun y=>if y=name then some v else mA y)->Xw dx s.heap h'->Q () { s with heap:=h',toks:=s.toks+2 }) :
  Vg (Vl prog w) A (setAttr (.ref x) name v) Q E s:=by
 obtain⟨od,J,hl⟩:=I.look
 refine PySem.W.set_plain X J hs (PySem.W.osa_open (s:={ s with toks:=s.toks+1 }) (r:=none) X J hp ht fun b=>?_)
 obtain⟨cd,hc,hd'⟩:=PySem.W.any_some hh
 have hx:s.heap.get? x=some ⟨.ref C,some dx,.plain,#[]⟩:=I.obj
 refine Va (Vc (Va (Va (wpAny_loadPart hx (Va (PySem.W.Looks.here (s:={ s with toks:=s.toks+1 }) (PySem.W.looks_clsIn X hc) ?_))))))
 rw[hd']
 refine Vc (a:=some dx) (Va (Vc (Va ?_)))
 refine wpAny_nsSet1 (s:={ s with toks:=s.toks+1 }) I.ns fun h' hn2 hs2=>?_
 obtain⟨oD,esD,epD,hoD,hdD,hcD⟩:=hn2.count (PySem.Within.cons name v hw)
 refine Va (wpAny_lookBehind hoD (by rw[hdD]; exact pastItsLine_dict (Waa hcD (by rw[Wbc]; omega))) ?_)
 exact Vc (h _ ⟨(hs2.2 _ (Ul I.ne)).trans I.obj,hn2,I.ne⟩ hs2)
theorem Yah {R:Result->Vd->Prop} {vs:List Vb} {kw:List (Str×Vb)} (X:K.In s.heap) (hm:Wgm K C=true)
  (hi:Wbs K (.ref C) "__init__" = some (some (.ref f))) (hf:PySem.W.typeIn K (.ref f)=some (.type "function"))
  (h:Uca (Vl prog w) (A.under (.builtin "type.__call__" ⟨.ref C::vs,kw⟩)) (.call (.ref f) ⟨.ref (s.heap.objs.size+1)::vs,kw⟩) (PySem.W.InitBack (s.heap.objs.size+1) R)
   { s with heap:=(s.heap.push Wbe).push (Wbv C s.heap.objs.size) }) :
  Uca (Vl prog w) A (.call (.ref C) ⟨vs,kw⟩) R s:=by
 obtain⟨hh,g,d,t,os⟩:=s
 exact PySem.W.make_core (PySem.W.makes_of X hm) (PySem.W.looks_findIn X hi) (fun self=>PySem.W.bind_fn X self hf) (.inl rfl) h
end
nonrec def Zle (f:Str) (v:V):List (Str×V)->List (Str×V)
 | []=>[(f,v)]
 | (g,x)::r=>if g=f then (g,v)::r else (g,x)::Zle f v r
theorem Zjv (f g:Str) (v:V):∀ fs:List (Str×V),(Zle f v fs).lookup g=if g=f then some v else fs.lookup g
 | []=>by
  show Wca g [(f,v)]=_
  by_cases h:g=f
  ·have hb:(g==f)=true:=beq_iff_eq.mpr h
   simp only[Wca,hb,if_pos h]
  ·have hb:(g==f)=false:=beq_eq_false_iff_ne.mpr h
   simp only[Wca,hb,if_neg h]
 | (k,x)::r=>by
  have ih:=Zjv f g v r
  rw[show Zle f v ((k,x)::r)=(if k=f then (k,v)::r else (k,x)::Zle f v r) from rfl]
  by_cases hk:k=f
  ·rw[if_pos hk]
   by_cases h:g=k
   ·have hb:(g==k)=true:=beq_iff_eq.mpr h
    simp only[Wca,hb,if_pos (h.trans hk)]
   ·have hb:(g==k)=false:=beq_eq_false_iff_ne.mpr h
    simp only[Wca,hb,if_neg (fun e:g=f=>h (e.trans hk.symm))]
  ·rw[if_neg hk]
   by_cases h:g=k
   ·have hb:(g==k)=true:=beq_iff_eq.mpr h
    simp only[Wca,hb,if_neg (fun e:g=f=>hk (h.symm.trans e))]
   ·have hb:(g==k)=false:=beq_eq_false_iff_ne.mpr h
    simp only[Wca,hb]
    exact ih
theorem Zke (f:Str) (v:V):∀ fs:List (Str×V),f∈(Zle f v fs).map (·.1)/\∀ g,g∈fs.map (·.1)->g∈(Zle f v fs).map (·.1)
 | []=>⟨by simp[Zle],fun g h=>by simp at h⟩
 | (k,x)::r=>by
  obtain⟨i1,i2⟩:=Zke f v r
  rw[show Zle f v ((k,x)::r)=(if k=f then (k,v)::r else (k,x)::Zle f v r) from rfl]
  by_cases hk:k=f
  ·rw[if_pos hk]
   subst hk
   exact⟨by simp,fun g h=>by simpa using h⟩
  ·rw[if_neg hk]
   refine⟨?_,fun g h=>?_⟩
   ·rw[Xn]
    exact Wae _ i1
   ·rw[Xn] at h ⊢
    rcases Xi.mp h with e | e
    ·exact Xi.mpr (.inl e)
    ·exact Wae _ (i2 g e)
theorem Zj9 (f:Str) (v:V):∀ fs:List (Str×V),(Zle f v fs).length<=fs.length+1
 | []=>by simp[Zle]
 | (k,x)::r=>by
  have ih:=Zj9 f v r
  rw[show Zle f v ((k,x)::r)=(if k=f then (k,v)::r else (k,x)::Zle f v r) from rfl]
  by_cases hk:k=f
  ·rw[if_pos hk,Wbc,Wbc]; omega
  ·rw[if_neg hk,Wbc,Wbc]; omega
theorem Zyq.some_of {v:V} {o:Option Vb} (r:Zyq (some v) o):∃ u,o=some u/\Zcd v u:=by
 cases o with
 | none=>exact(show False from r).elim
 | some u=>exact⟨u,rfl,r⟩
theorem Zyq.none_of {o:Option Vb} (r:Zyq none o):o=none:=by
 cases o with
 | none=>rfl
 | some u=>exact(show False from r).elim
theorem Zwa {v:V} {u:Vb} (r:Zcd v u):Wgh u=true:=by
 cases v with
 | non=>cases (show u=Uq from r); rfl
 | bl b=>cases (show u=Tbp b from r); rfl
 | int i=>obtain⟨t,e⟩:=(show ∃ t,u=Tcy i t from r); cases e; rfl
 | str x=>obtain⟨t,e⟩:=(show ∃ t,u=Tcz x t from r); cases e; rfl
 | byt b=>obtain⟨t,e⟩:=(show ∃ t,u=Value.bytes b t from r); cases e; rfl
 | flt b=>obtain⟨t,e⟩:=(show ∃ t,u=Value.float b t from r); cases e; rfl
 | ref a=>cases (show u=Uh a from r); rfl
 | ty n=>cases (show u=Tbb n from r); rfl
section
variable {P:Vi} {w:Vs} {H H':Hp} {h h':Vy} {a C dx:Ve} {fs fs':List (Str×V)}
theorem Zq1 (hok:HOk P w H h) (e:H a=some (.ins C dx fs)):∃ mA,ObjM h a dx C mA/\(∀ f,Zyq (fs.lookup f) (mA f))/\Tcm mA (fs.map (·.1))/\fs.length<=1000/\H dx=some (.own a):=by
 obtain⟨d,z,ne,ob,mA,n,r,q⟩:=(show Zc2 P w H h a (.ins C dx fs) from hok a _ e)
 exact⟨mA,⟨ob,n,ne⟩,r,q,z,d⟩
end
structure Cls (K:Xb) (C:Ve):Prop where
 pg:Wdp K C Tda=true
 hd:Wel K C=true
 po:Wfq K C=true
 sa:Wbs K (.ref C) "__setattr__" = some (some (.builtin "object.__setattr__"))
theorem Cls.get {K:Xb} {C:Ve} (c:Cls K C) (f:Str):Wdp K C f=true:=c.pg
def Zi5 (K:Xb) (C:Ve) (f:Str):Prop:=Wbs K (.ref C) f=some none
theorem Zi5.taker {K:Xb} {C:Ve} {f:Str} (n:Zi5 K C f):Weu K C f=some none:=by
 unfold Weu
 rw[show Wbs K (.ref C) f=some none from n]
 rfl
structure Meth (K:Xb) (C:Ve) (m:Str) (f:Ve):Prop where
 at_:Wbs K (.ref C) m=some (some (.ref f))
 fn:Wfz K (.ref f)=true
 kp:Wbt K (.ref f)=true
section
variable {X:Cx} {pins:List (Ve×Obj)} {σ:St} {H:Hp} {s:Vd} {a C dx:Ve} {fs:List (Str×V)} {f:Str} {v:V} {A:Vr} {E:Vb->Vd->Prop}
theorem Zs6 {b:Bool} {Q:Vb->Vd->Prop} (I:Inv X pins σ H s) (e:H a=some (.ins C dx fs)) (c:Cls X.K C) (n:Zi5 X.K C f) (l:fs.lookup f=some v)
  (h:∀ u s',Inv X pins σ H s'->Zcd v u->Q u s'):Vg (Vl X.prog X.w) A (getAttr (.ref a) f b) Q E s:=by
 obtain⟨mA,O,r,_,_,_⟩:=Zq1 I.hok e
 obtain⟨u,hu,ru⟩:=Zyq.some_of (v:=v) (o:=mA f) (by rw[<- l]; exact r f)
 exact Ydz I.kIn O (c.get f) c.hd n hu (Zwa ru) (h u _ (I.tok _) ru)
theorem Zl1 {m:Str} {g:Ve} {pl:Sem Bool} {Q:Vb×List Vb->Vd->Prop} (I:Inv X pins σ H s) (e:H a=some (.ins C dx fs)) (c:Cls X.K C) (k:Meth X.K C m g) (l:fs.lookup m=none)
  (h:Q (.ref g,[.ref a]) s):Vg (Vl X.prog X.w) A (Ucs (.ref a) m pl) Q E s:=by
 obtain⟨mA,O,r,_,_,_⟩:=Zq1 I.hok e
 have hn:mA m=none:=Zyq.none_of (by rw[<- l]; exact r m)
 exact Yag I.kIn O (c.get m) k.at_ k.fn hn h
theorem Ztm {y:V} {u:Vb} {Q:Unit->Vd->Prop} (I:Inv X pins σ H s) (e:H a=some (.ins C dx fs)) (c:Cls X.K C) (n:Zi5 X.K C f) (hl:fs.length<1000) (ry:Zcd y u)
  (h:∀ s',Inv X pins σ (upd H a (.ins C dx (Zle f y fs))) s'->Q () s'):Vg (Vl X.prog X.w) A (setAttr (.ref a) f u) Q E s:=by
 obtain⟨mA,O,r,wi,_,ho⟩:=Zq1 I.hok e
 have hz:(fs.map (·.1)).length<=sizeLine:=by rw[Xr,Uba]; omega
 refine Ydn I.kIn O c.sa c.po n.taker c.hd wi hz fun h' O' sb=>h _ ?_
 have hd:∃ o,h'.get? dx=some o:=let ⟨o,_,_,e',_⟩:=O'.ns; ⟨o,e'⟩
 refine I.write (x:=a) (e:=dx) (by rw[e]; exact Tad) (.inr ho) (fun b q hb z=>(sb.2 b hb).trans z) hd ?_
 refine⟨by rw[Zah O.ne]; exact ho,?_,O.ne,O'.obj,_,O'.ns,fun g=>?_,fun g hg=>?_⟩
 ·have:=Zj9 f y fs; omega
 ·show Zyq ((Zle f y fs).lookup g) (if g=f then some u else mA g)
  rw[Zjv]
  by_cases q:g=f
  ·rw[if_pos q,if_pos q]; exact ry
  ·rw[if_neg q,if_neg q]; exact r g
 ·by_cases q:g=f
  ·rw[q]; exact(Zke f y fs).1
  ·refine(Zke f y fs).2 g (wi g fun z=>hg ?_)
   show (if g=f then some u else mA g)=none
   rw[if_neg q]; exact z
theorem Inv.made (I:Inv X pins σ H s):Inv X pins σ (upd (upd H s.heap.objs.size (.own (s.heap.objs.size+1))) (s.heap.objs.size+1) (.ins C s.heap.objs.size []))
  { s with heap:=(s.heap.push Wbe).push (Wbv C s.heap.objs.size) }:=by
 have e1:(s.heap.push Wbe).get? s.heap.objs.size=some Wbe:=Xd s.heap rfl
 have e2:((s.heap.push Wbe).push (Wbv C s.heap.objs.size)).get? (s.heap.objs.size+1)=some (Wbv C s.heap.objs.size):=by
  have:=Xd (s.heap.push Wbe) (o:=Wbv C s.heap.objs.size) rfl
  rwa [Wam] at this
 have e3:(s.heap.push Wbe).Ns s.heap.objs.size (fun _=>none):=⟨Wbe,#[],_,e1,rfl,(fun e he=>absurd he (by simp)),fun _=>rfl⟩
 have I1:=I.laid (a:=s.heap.objs.size) (o:=.own (s.heap.objs.size+1)) (h':=s.heap.push Wbe) (t':=s.toks) (fun b u q=>Xa _ q) (Xe _) ⟨_,e1⟩
 refine I1.laid (a:=s.heap.objs.size+1) (o:=.ins C s.heap.objs.size []) (t':=s.toks) (fun b u q=>Xa _ q) (Wga (Wam _ _)) ?_
 have ne:s.heap.objs.size≠s.heap.objs.size+1:=Xh (Wep _)
 refine⟨by rw[Zah ne,Zas],Wbd _,ne,e2,fun _=>none,(Heap.Ns1.of_empty e3).at fun o q=>Xa _ q,fun _=>Tad,fun y hy=>absurd rfl hy⟩
theorem Yer {prog:Vi} {w:Vs} {env:Env} {e:Vv} {f:Str} {pos:Pos} {s:Vd} {Q:Vb->Vd->Prop} (hb:Ube e f env (eval e env)=eval e env)
  (h:Vg (Vl prog w) A (eval e env) (fun o s₁=>Vg (Vl prog w) A (getAttr o f true) Q E s₁) E s):Vg (Vl prog w) A (eval (.Attribute e f pos) env) Q E s :=
 Attribute_any_ h (by rw[arm_eval_Attribute,hb])
end
nonrec def tFld (K:Xb) (ta:TE) (f:Str):TE:=fun σ H Q=>ta σ H fun x H1=>∃ a C dx fs v,x=.ref a/\H1 a=some (.ins C dx fs)/\Cls K C/\Zi5 K C f/\fs.lookup f=some v/\Q v H1
nonrec def sFld (K:Xb) (ta tv:TE) (f:Str):TS:=fun D σ H=>tv σ H fun y H1=>ta σ H1 fun x H2=>∃ a C dx fs,x=.ref a/\H2 a=some (.ins C dx fs)/\Cls K C/\Zi5 K C f/\fs.length<1000 /\
 D.nx σ (upd H2 a (.ins C dx (Zle f y fs)))
section
variable {X:Cx} {o e value:Vv} {f:Str} {pos pos' tpos:Pos} {ta tv:TE}
theorem Yfq (he:PE X e ta) (hb:Ube e f X.env (eval e X.env)=eval e X.env):PE X (.Attribute e f pos) (tFld X.K ta f):=by
 intro pins s σ H Q I h
 refine Yer hb (thn (he pins s σ H _ I h) fun u s1 zz=>?_)
 obtain⟨x,H1,I1,rx,a,C,dx,fs,v,ex,ea,c,n,l,q⟩:=zz
 subst ex
 obtain rfl:u=Uh a:=rx
 exact Zs6 I1 ea c n l fun u' s2 I2 ru=>⟨v,H1,I2,ru,q⟩
theorem Ye5 (ha:PE X o ta) (hv:PE X value tv) (hs:Ubs value (some (.Attribute o f pos')) pos.line X.env=pure false):PS X (.Assign [.Attribute o f pos'] value pos) (sFld X.K ta tv f):=by
 intro pins s σ H D I h
 refine plainObj_wpAny_Assign_Attribute (thn (hv pins s σ H _ I h) fun u s1 ⟨y,H1,I1,ry,q⟩=>thn (ha pins s1 σ H1 _ I1 q) fun ov s2 ⟨x,H2,I2,rx,a,C,dx,fs,ex,ea,c,n,l,q2⟩=>?_) hs
 subst ex
 obtain rfl:ov=Uh a:=rx
 exact Ztm I2 ea c n l ry fun s3 I3=>⟨σ,_,I3,q2⟩
end
structure Room (k:Nat) (A:Vr):Prop where
 hd:A.handled=none
 dp:A.depth+3*k+5<recursionLimit
 un:A.units+16*k+200<cLine
 gd:A.guards=some []
theorem Room.mono {j k:Nat} {A:Vr} (r:Room k A) (h:j<=k):Room j A:=⟨r.hd,by have:=r.dp; omega,by have:=r.un; omega,r.gd⟩
theorem Room.deeper {k:Nat} {A:Vr} (r:Room (k+1) A) (env:Env):Room k (A.deeper env) :=
 ⟨r.hd,by have:=r.dp; show A.depth+1+3*k+5<_; omega,by have:=r.un; show A.units+3+16*k+200<_; omega,r.gd⟩
theorem Ztg {A:Vr} {C:Ve} {us:List Vb} {kw:List (Str×Vb)}:(A.under (.builtin "type.__call__" ⟨.ref C::us,kw⟩)).depth=A.depth+1:=by
 first | rfl | simp[Tbw,Code.weight,Code.isCreation,Code.isGuard,Code.isCaller,Code.frames,Tcn,guardIds]
theorem Zt2 {A:Vr} {C:Ve} {us:List Vb} {kw:List (Str×Vb)}:(A.under (.builtin "type.__call__" ⟨.ref C::us,kw⟩)).units=A.units+1:=by
 first | rfl | simp[Tbw,Code.cUnits,Code.frames,Tcn]
theorem Room.make {k:Nat} {A:Vr} (r:Room (k+1) A) (C:Ve) (us:List Vb) (kw:List (Str×Vb)):Room k (A.under (.builtin "type.__call__" ⟨.ref C::us,kw⟩)) :=
 ⟨r.hd,by have:=r.dp; rw[Ztg]; omega,by have:=r.un; rw[Zt2]; omega,by first | exact r.gd | (simpa [Tbw,Code.guards,Code.isGuard,guardIds,pushGuards] using r.gd)⟩
theorem Room.depth {k:Nat} {A:Vr} (r:Room k A):A.depth<recursionLimit:=by have:=r.dp; omega
theorem Room.units {k:Nat} {A:Vr} (r:Room k A):A.units+64<cLine:=by have:=r.un; omega
nonrec def tNil:TA:=fun _ H Q=>Q [] H
nonrec def tCons (ta:TE) (tr:TA):TA:=fun σ H Q=>ta σ H fun x H1=>tr σ H1 fun xs H2=>Q (x::xs) H2
section
variable {X:Cx} {e:Vv} {es:List Vv} {te:TE} {t:TA} {pos:Pos}
theorem Yf6:PA X [] tNil:=fun _ _ _ _ H Q I h=>Calls.spliced_nil ⟨[],H,I,.nil,h⟩
theorem Yei (ha:PE X e te) (hr:PA X es t) (hs:Vf (e::es) X.env=(false,eval e X.env)::Vf es X.env:=by rfl):PA X (e::es) (tCons te t):=by
 intro pos pins s σ H Q I h
 rw[hs]
 show Vg _ _ (spliced ((false,eval e X.env)::Uac pos (Vf es X.env))) _ _ s
 refine Calls.spliced_cons (thn (ha pins s σ H _ I h) fun u s1 zz=>?_)
 obtain⟨x,H1,I1,r1,q1⟩:=zz
 exact thn (hr pos pins s1 σ H1 _ I1 q1) fun us s2 ⟨xs,H2,I2,r2,q2⟩=>⟨x::xs,H2,I2,.cons r1 r2,q2⟩
nonrec def tTup (t:TA):TE:=fun σ H Q=>t σ H fun xs H1=>xs.length<=sizeLine/\∀ p,H1 p=none->Q (.ref p) (upd H1 p (.tup xs))
nonrec def tLst (t:TA):TE:=fun σ H Q=>t σ H fun xs H1=>xs.length<=sizeLine/\∀ p,H1 p=none->Q (.ref p) (upd H1 p (.lst xs))
theorem Yhg {x1} (h:PA X es t):PE X (.Tuple es x1 pos) (tTup t):=by
 intro pins s σ H Q I hq
 refine wpAny_Tuple_spliced (thn (h pos pins s σ H _ I hq) fun us s1 ⟨xs,H1,I1,r,z,q⟩=>⟨by rw[<- r.length]; exact z,?_⟩)
 have hf:H1 s1.heap.objs.size=none:=I1.hok.fresh (Xe _)
 refine⟨.ref s1.heap.objs.size,upd H1 s1.heap.objs.size (.tup xs),I1.laid (t':=s1.toks) (fun b u e=>Xa _ e) (Xe _) ?_,rfl,q _ hf⟩
 exact⟨z,us,r,⟨_,Xd _ rfl,rfl,⟨_,rfl⟩,rfl⟩⟩
theorem Yh3 (h:PA X es t):PE X (.List es pos) (tLst t):=by
 intro pins s σ H Q I hq
 refine wpAny_List_spliced (thn (h pos pins s σ H _ I hq) fun us s1 ⟨xs,H1,I1,r,z,q⟩=>⟨by rw[<- r.length]; exact z,?_⟩)
 have hf:H1 s1.heap.objs.size=none:=I1.hok.fresh (Xe _)
 refine⟨.ref s1.heap.objs.size,upd H1 s1.heap.objs.size (.lst xs),I1.laid (t':=s1.toks) (fun b u e=>Xa _ e) (Xe _) ?_,rfl,q _ hf⟩
 exact⟨z,us,0,r,Xd _ rfl⟩
end
nonrec abbrev Sp:=List V->Hp->VK->XK->Prop
nonrec abbrev CXT:=List Env->Hp->Vd->XK->Vb->Vd->Prop
structure Env0 (P:Vi) (w:Vs) (K:Xb) (mg:Str->Option Vb) (base:Vy) (A:Vr) (outer:List Env) (s:Vd) (H:Hp):Prop where
 frames:A.frames=some outer
 mod:Mod K mg base
 bs:∀ b o,base.get? b=some o->s.heap.get? b=some o/\H b=none
 bsz:base.objs.size<=s.heap.objs.size
 funs:s.heap.FunFrames base outer
 frf:∀ b∈frs outer,H b=none
 hok:HOk P w H s.heap
 bare:Ucp s.gens
def CE (outer:List Env) (P:Vi) (w:Vs) (H:Hp) (s:Vd) (Q:VK) (u:Vb) (s':Vd):Prop :=
 ∃ v H',s'.os=s.os/\Ucp s'.gens/\Un (frs outer) [] H H' s.heap s'.heap/\HOk P w H' s'.heap/\Zcd v u/\Q v H'
def CR (CX:CXT) (outer:List Env) (P:Vi) (w:Vs) (H:Hp) (s:Vd) (Q:VK) (E:XK) (r:Result) (s':Vd):Prop :=
 match r with
 | .ok (.ret u)=>CE outer P w H s Q u s'
 | .ok _=>False
 | .error e=>CX outer H s E e s'
structure FnOk (P:Vi) (w:Vs) (K:Xb) (mg:Str->Option Vb) (base:Vy) (CX:CXT) (k:Nat) (f:Ve) (fd:Uat) (ps:List Str) (sp:Sp):Prop where
 len:∀ vs H Q E,sp vs H Q E->vs.length=ps.length
 run:∀ (A:Vr) (outer:List Env) (s:Vd) (H:Hp) (args:Args) (us:List Vb) (vs:List V) (Q:VK) (E:XK),Room k A->Env0 P w K mg base A outer s H->BindsTo s fd args (ps.zip us)->Zb4 vs us->sp vs H Q E ->
  Uca (Vl P w) A (.call (.ref f) args) (CR CX outer P w H s Q E) s
theorem Env0.make {P:Vi} {w:Vs} {K:Xb} {mg:Str->Option Vb} {base:Vy} {A:Vr} {outer:List Env} {s:Vd} {H:Hp} (e:Env0 P w K mg base A outer s H) (C:Ve) (us:List Vb) (kw:List (Str×Vb)) :
  Env0 P w K mg base (A.under (.builtin "type.__call__" ⟨.ref C::us,kw⟩)) outer s H:=⟨by first | exact e.frames | (simpa [Tbw,Code.envs,Tcn,pushEnvs] using e.frames),e.mod,e.bs,e.bsz,e.funs,e.frf,e.hok,e.bare⟩
section
variable {X:Cx} {pins:List (Ve×Obj)} {σ:St} {H:Hp} {s s':Vd}
theorem Inv.env0 (I:Inv X pins σ H s):Env0 X.prog X.w X.K X.mg X.base X.A X.stack s H :=
 ⟨I.ok.frames,I.ok.mod,I.bs,Waa I.ok.bsz I.sz,I.stack,I.stkFree,I.hok,I.bare⟩
theorem Inv.after {Q:VK} {u:Vb} (I:Inv X pins σ H s) (h:CE X.stack X.prog X.w H s Q u s'):EP X pins σ Q u s':=by
 obtain⟨v,H',os,bare,un,hok,r,q⟩:=h
 obtain⟨hh,g,d,t,os'⟩:=s'
 obtain rfl:os'=s.os:=os
 exact⟨v,H',I.call (h':=hh) (g':=g) (d':=d) (t':=t) (ch:=[]) un hok bare (fun b z=>absurd z (by simp)),r,q⟩
end
nonrec def Yhk (sp:Sp) (dvs:List V) (E:XK) (t:TA):TE:=fun σ H Q=>t σ H fun vs H1=>sp (vs++dvs) H1 Q E
nonrec def Yc3 (C:Ve) (m:Str) (sp:Sp) (dvs:List V) (E:XK) (ta:TE) (t:TA):TE:=fun σ H Q=>ta σ H fun x H1=>∃ a dx fs,x=.ref a/\H1 a=some (.ins C dx fs)/\fs.lookup m=none /\
 t σ H1 fun vs H2=>sp (x::(vs++dvs)) H2 Q E
nonrec def Ye4 (C:Ve) (sp:Sp) (dvs:List V) (E:XK) (t:TA):TE:=fun σ H Q=>t σ H fun vs H1=>∀ x dx,H1 x=none->H1 dx=none->dx≠x ->
 sp (.ref x::(vs++dvs)) (upd (upd H1 dx (.own x)) x (.ins C dx [])) (fun v H2=>v=.non/\Q (.ref x) H2) E
def Zip (K:Xb) (fd:Uat) (ps:List Str) (ds:List Vb):Prop :=
 ∀ (s:Vd) (us:List Vb),K.In s.heap->(us++ds).length=ps.length->BindsTo s fd ⟨us,[]⟩ (ps.zip (us++ds))
theorem Zip.all {K:Xb} {fd:Uat} {ps:List Str} (h:∀ us:List Vb,us.length=ps.length->Ubq fd ⟨us,[]⟩=pure (ps.zip us)):Zip K fd ps []:=fun s us _ hl=>by
 rw[Wad] at hl ⊢
 exact .of_eq (h us hl)
def Zkf (CX:CXT) (X:Cx) (E:XK):Prop:=∀ (pins:List (Ve×Obj)) (σ:St) (H:Hp) (s:Vd) (e:Vb) (s':Vd),Inv X pins σ H s->CX X.stack H s E e s'->X.xe e s'
section
variable {X:Cx} {CX:CXT} {k:Nat} {f C:Ve} {fd:Uat} {ps:List Str} {sp:Sp} {dvs:List V} {ds:List Vb} {E:XK} {x m:Str} {p pos apos:Pos} {e o:Vv} {es:List Vv} {ta:TE} {t:TA}
theorem Zsk {pins:List (Ve×Obj)} {σ:St} {H:Hp} {s:Vd} {Q:VK} {us:List Vb} {vs:List V} (F:FnOk X.prog X.w X.K X.mg X.base CX k f fd ps sp) (hr:Room k X.A) (hb:Zip X.K fd ps ds) (hd:Zb4 dvs ds) (hx:Zkf CX X E)
  (I:Inv X pins σ H s) (r:Zb4 vs us) (h:sp (vs++dvs) H Q E):Vg (Vl X.prog X.w) X.A (call (.ref f) us) (EP X pins σ Q) X.xe s:=by
 have r2:Zb4 (vs++dvs) (us++ds):=r.append hd
 have hl:(us++ds).length=ps.length:=by rw[<- r2.length]; exact F.len _ _ _ _ h
 refine Udx (Uas (F.run X.A X.stack s H ⟨us,[]⟩ (us++ds) (vs++dvs) Q E hr I.env0 (hb s us I.kIn hl) r2 h) fun r s' hq=>?_)
 cases r with
 | error e=>exact hx pins σ H s e s' I hq
 | ok fl =>
  cases fl with
  | ret u=>exact I.after hq
  | next=>exact Ug hq
  | brk=>exact Ug hq
  | cont=>exact Ug hq
theorem Ydp (F:FnOk X.prog X.w X.K X.mg X.base CX k f fd ps sp) (hr:Room k X.A) (hg:Gl X x) (hm:X.mg x=some (.ref f)) (hk:Wbt X.K (.ref f)=true) (hb:Zip X.K fd ps ds) (hd:Zb4 dvs ds) (hx:Zkf CX X E)
  (ha:PA X (e::es) t) (hdb:(x==("__debug__" : Str))=false:=by decide) (he:Vf (e::es) X.env=(false,eval e X.env)::Vf es X.env:=by rfl) (hpl:(Uac pos (Vf es X.env)).any (·.1)=false:=by rfl) :
  PE X (.Call (.Name x p) (e::es) [] pos) (Yhk sp dvs E t):=by
 intro pins s σ H Q I h
 refine Uai (Zq2 I hg hm ?_ hdb)
 refine Wda (h₀:=X.base) I.ok.mod.kin hk (thn (ha pos pins s σ H _ I h) fun us s1 ⟨vs,H1,I1,r,q⟩=>⟨I1.kIn,?_⟩) he hpl
 exact Zsk F hr hb hd hx I1 r q
theorem Ycs {pl:Sem Bool} (he:PE X o ta) (c:Cls X.K C) (hm:Meth X.K C m f) (F:FnOk X.prog X.w X.K X.mg X.base CX k f fd ps sp) (hr:Room k X.A) (hb:Zip X.K fd ps ds) (hd:Zb4 dvs ds) (hx:Zkf CX X E) (ha:PA X (e::es) t)
  (hst:Vf (e::es) X.env=(false,eval e X.env)::Vf es X.env:=by rfl) (hpl:(Uac pos (Vf es X.env)).any (·.1)=false:=by rfl)
  (ht:eval (.Call (.Attribute o m apos) (e::es) [] pos) X.env=(do
   let ov<-eval o X.env
   Udm apos.atName
   let (f,first)<-Ubt [ov] (Ucs ov m pl)
   Ubx pos f first (Uac pos (Vf (e::es) X.env)) (Ubk pos (Uak [] X.env))):=by rfl) :
  PE X (.Call (.Attribute o m apos) (e::es) [] pos) (Yc3 C m sp dvs E ta t):=by
 intro pins s σ H Q I h
 refine Wev (pl:=pl) (thn (he pins s σ H _ I h) fun u s1 ⟨x,H1,I1,rx,a,dx,fs,ex,ea,l,q⟩=>?_) ht
 subst ex
 obtain rfl:u=Uh a:=rx
 refine Zl1 I1 ea c hm l ?_
 refine Wda (first:=[.ref a]) (h₀:=X.base) I.ok.mod.kin hm.kp (thn (ha pos pins s1 σ H1 _ I1 q) fun us s2 ⟨vs,H2,I2,r,q2⟩=>⟨I2.kIn,?_⟩) hst hpl
 exact Zsk (us:=.ref a::us) (vs:=.ref a::vs) F hr hb hd hx I2 (.cons rfl r) q2
theorem Yaa {pl:Sem Bool} (he:PE X o ta) (c:Cls X.K C) (hm:Meth X.K C m f) (F:FnOk X.prog X.w X.K X.mg X.base CX k f fd ps sp) (hr:Room k X.A) (hb:Zip X.K fd ps ds) (hd:Zb4 dvs ds) (hx:Zkf CX X E)
  (ht:eval (.Call (.Attribute o m apos) [] [] pos) X.env=(do
   let ov<-eval o X.env
   Udm apos.atName
   let (f,first)<-Ubt [ov] (Ucs ov m pl)
   Ubx pos f first (Uac pos (Vf [] X.env)) (Ubk pos (Uak [] X.env))):=by rfl) :
  PE X (.Call (.Attribute o m apos) [] [] pos) (Yc3 C m sp dvs E ta tNil):=by
 intro pins s σ H Q I h
 refine Wev (pl:=pl) (thn (he pins s σ H _ I h) fun u s1 ⟨x,H1,I1,rx,a,dx,fs,ex,ea,l,q⟩=>?_) ht
 subst ex
 obtain rfl:u=Uh a:=rx
 refine Zl1 I1 ea c hm l ?_
 exact PySem.W.callWith_K0 (first:=[.ref a]) I1.kIn hm.kp (Zsk (us:=[.ref a]) (vs:=[.ref a]) F hr hb hd hx I1 (.cons rfl .nil) q)
structure Mk (K:Xb) (C f:Ve):Prop where
 makes:Wgm K C=true
 init:Wbs K (.ref C) "__init__" = some (some (.ref f))
 fn:Wfz K (.ref f)=true
 kp:Wbt K (.ref C)=true
theorem Zze {pins:List (Ve×Obj)} {σ:St} {H:Hp} {s:Vd} {Q:VK} {us:List Vb} {vs:List V} (M:Mk X.K C f) (F:FnOk X.prog X.w X.K X.mg X.base CX k f fd ps sp) (hr:Room (k+1) X.A) (hb:Zip X.K fd ps ds) (hd:Zb4 dvs ds)
  (hx:Zkf CX X E) (I:Inv X pins σ H s) (r:Zb4 vs us)
  (h:∀ x dx,H x=none->H dx=none->dx≠x->sp (.ref x::(vs++dvs)) (upd (upd H dx (.own x)) x (.ins C dx [])) (fun v H2=>v=.non/\Q (.ref x) H2) E) :
  Vg (Vl X.prog X.w) X.A (call (.ref C) us) (EP X pins σ Q) X.xe s:=by
 have hq:=h (s.heap.objs.size+1) s.heap.objs.size (I.hok.fresh (Wea _)) (I.hok.fresh (Xe _)) (Xh (Wep _))
 have I2:=Inv.made (C:=C) I
 have r2:Zb4 (V.ref (s.heap.objs.size+1)::(vs++dvs)) (Uh (s.heap.objs.size+1)::(us++ds)):=.cons rfl (r.append hd)
 have hl:(Uh (s.heap.objs.size+1)::us++ds).length=ps.length:=by
  have e:=r2.length
  rw[F.len _ _ _ _ hq] at e
  exact e.symm
 refine Udx (Yah (f:=f) I.kIn M.makes M.init (beq_iff_eq.mp M.fn) (Uas (F.run _ X.stack _ _ ⟨Uh (s.heap.objs.size+1)::us,[]⟩ (Uh (s.heap.objs.size+1)::(us++ds)) _ _ E (hr.make C us [])
  (I2.env0.make C us []) (hb _ (Uh (s.heap.objs.size+1)::us) I2.kIn hl) r2 hq) fun r s' hq'=>?_))
 cases r with
 | error e=>exact hx pins σ _ _ e s' I2 hq'
 | ok fl =>
  cases fl with
  | ret u =>
   obtain⟨v,H',I3,rv,ev,q3⟩:=I2.after hq'
   subst ev
   exact⟨rv,⟨V.ref (s.heap.objs.size+1),H',I3,rfl,q3⟩⟩
  | next=>exact Ug hq'
  | brk=>exact Ug hq'
  | cont=>exact Ug hq'
theorem Yc1 (M:Mk X.K C f) (F:FnOk X.prog X.w X.K X.mg X.base CX k f fd ps sp) (hr:Room (k+1) X.A) (hg:Gl X x) (hm:X.mg x=some (.ref C)) (hb:Zip X.K fd ps ds) (hd:Zb4 dvs ds) (hx:Zkf CX X E)
  (ha:PA X (e::es) t) (hdb:(x==("__debug__" : Str))=false:=by decide) (he:Vf (e::es) X.env=(false,eval e X.env)::Vf es X.env:=by rfl) (hpl:(Uac pos (Vf es X.env)).any (·.1)=false:=by rfl) :
  PE X (.Call (.Name x p) (e::es) [] pos) (Ye4 C sp dvs E t):=by
 intro pins s σ H Q I h
 refine Uai (Zq2 I hg hm ?_ hdb)
 refine Wda (h₀:=X.base) I.ok.mod.kin M.kp (thn (ha pos pins s σ H _ I h) fun us s1 ⟨vs,H1,I1,r,q⟩=>⟨I1.kIn,?_⟩) he hpl
 exact Zze M F hr hb hd hx I1 r q
end
structure FnScope (N P:List Str) (sc:Ubo):Prop where
 kind:sc.kind=.function
 co:sc.isCoroutine=false
 gen:sc.isGenerator=false
 nd:N.Nodup
 pre:N.take P.length=P
 par:∀ x∈P,sc.names.lookup x=some .local\/sc.names.lookup x=some .cell
 nofree:∀ y∈sc.names,y.2≠.free
theorem Zpi {kindOf:Str->Option Ubf} {x:Str}:∀ {binds:List (Str×Vb)} {m:Str->Option Vb},(∀ v,(x,v)∉binds)->bindL kindOf binds m x=m x
 | [],_,_=>rfl
 | (n,v)::r,m,h=>by
  unfold bindL
  rw[Zpi fun w hw=>h w (Wae _ hw)]
  split
  ·have:x≠n:=by rintro rfl; exact h v Wck
   simp[this]
  ·rfl
theorem Zp5 {kindOf:Str->Option Ubf} {x:Str}:∀ {binds:List (Str×Vb)} {m:Str->Option Vb},(∀ v,(x,v)∉binds)->bindC kindOf binds m x=m x
 | [],_,_=>rfl
 | (n,v)::r,m,h=>by
  unfold bindC
  rw[Zp5 fun w hw=>h w (Wae _ hw)]
  split
  ·rfl
  ·have:x≠n:=by rintro rfl; exact h v Wck
   simp[this]
theorem Zo8 {kindOf:Str->Option Ubf} {x:Str} {v:Vb}:∀ {P:List Str} {vs:List Vb} {i:Nat} {m:Str->Option Vb},P.Nodup->P[i]? = some x->vs[i]? = some v->kindOf x=some .local ->
  bindL kindOf (P.zip vs) m x=some v
 | [],_,_,_,_,h,_,_=>by simp at h
 | _::_,[],_,_,_,_,h,_=>by simp at h
 | p::P,w::vs,0,m,nd,h1,h2,hk=>by
  simp at h1 h2; subst h1; subst h2
  show bindL kindOf ((p,w)::P.zip vs) m p=_
  unfold bindL
  rw[Zpi fun v hv=>(Wbg.mp nd).1 (Wdb hv).1,if_pos hk]
  simp
 | p::P,w::vs,i+1,m,nd,h1,h2,hk=>by
  show bindL kindOf ((p,w)::P.zip vs) m x=_
  unfold bindL
  exact Zo8 (i:=i) (Wbg.mp nd).2 (by simpa using h1) (by simpa using h2) hk
theorem Zoh {kindOf:Str->Option Ubf} {x:Str} {v:Vb}:∀ {P:List Str} {vs:List Vb} {i:Nat} {m:Str->Option Vb},P.Nodup->P[i]? = some x->vs[i]? = some v->kindOf x≠some .local ->
  bindC kindOf (P.zip vs) m x=some v
 | [],_,_,_,_,h,_,_=>by simp at h
 | _::_,[],_,_,_,_,h,_=>by simp at h
 | p::P,w::vs,0,m,nd,h1,h2,hk=>by
  simp at h1 h2; subst h1; subst h2
  show bindC kindOf ((p,w)::P.zip vs) m p=_
  unfold bindC
  rw[Zp5 fun v hv=>(Wbg.mp nd).1 (Wdb hv).1,if_neg hk]
  simp
 | p::P,w::vs,i+1,m,nd,h1,h2,hk=>by
  show bindC kindOf ((p,w)::P.zip vs) m x=_
  unfold bindC
  exact Zoh (i:=i) (Wbg.mp nd).2 (by simpa using h1) (by simpa using h2) hk
nonrec def start (N:List Str) (vs:List V):St:=vs.map some++Xl (N.length - vs.length) none
nonrec def Zlo (CX:CXT) (P:Vi) (w:Vs) (K:Xb) (mg:Str->Option Vb) (base:Vy) (N:List Str) (qual:Str) (scope:Ubo) (f:Ve) (cd:Vb) (A:Vr) (outer:List Env) (s:Vd) (H:Hp) (E:XK):Cx where
 prog:=P
 w:=w
 K:=K
 mg:=mg
 base:=base
 A:=A.deeper (Uaw qual scope s.heap.objs.size f cd)
 N:=N
 s₀:=s
 H₀:=H
 env:=Uaw qual scope s.heap.objs.size f cd
 outer:=outer
 stack:=Uaw qual scope s.heap.objs.size f cd::outer
 ex:=[]
 calm:=true
 fn:=fun _=>true
 pn:=[]
 xe:=fun e s'=>Vg (Vl P w) (A.deeper (Uaw qual scope s.heap.objs.size f cd)) (leaving (Uaw qual scope s.heap.objs.size f cd) e) (fun _ s''=>CX outer H s E e s'') (fun e' s''=>CX outer H s E e' s'') s'
theorem Zjf {sc:Ubo} {n:Nat} {x:Str} (h:sc.names.lookup x=some .cell):∃ c,(Uei n sc.names []).lookup x=some c:=by
 have q:=Wde sc.names n [] (.inl h)
 exact Wak.mp q
theorem Zof {CX:CXT} {P:Vi} {w:Vs} {K:Xb} {mg:Str->Option Vb} {base:Vy} {N ps:List Str} {qual:Str} {scope:Ubo} {f:Ve} {cd:Vb} {A:Vr} {outer:List Env} {s s1:Vd} {H:Hp} {E:XK} {us:List Vb} {vs:List V}
  (S:FnScope N ps scope) (hd:A.handled=none) (e0:Env0 P w K mg base A outer s H) (hl:vs.length=ps.length) (r:Zb4 vs us)
  (x:InCallC s s.heap.objs.size (bindL (Uaw qual scope s.heap.objs.size f cd).kindOf (ps.zip us) fun _=>none) (Uei (s.heap.objs.size+1) scope.names []) (bindC (Uaw qual scope s.heap.objs.size f cd).kindOf (ps.zip us) fun _=>none) s1) :
  Inv (Zlo CX P w K mg base N qual scope f cd A outer s H E) [] (start N vs) H s1:=by
 have hpl:ps.length<=N.length:=by have:=congrArg Wbn S.pre; rw[Wbj] at this; omega
 obtain⟨h1,tk,rfl,hk⟩:=x.done
 have noA:∀ b:Ve,b∉(Zlo CX P w K mg base N qual scope f cd A outer s H E).ex:=fun b z=>absurd (show b∈([]:List Ve) from z) (by simp)
 refine⟨⟨e0.mod,S.kind,rfl,rfl,Xe _,fun y z c h1 h2=>?_,fun y hy=>?_,fun y c _ h=>?_,fun _=>hd,Tcc e0.frames,.inr ⟨rfl,rfl⟩,fun b z=>absurd z (noA b),e0.bs,e0.bsz,fun b _ _=>noA b,fun b z=>absurd z (noA b),e0.funs,e0.frf⟩,
  rfl,e0.bare,Un.kept hk,⟨_,x.toInCall.ns,fun i y v h1 h2 h3=>?_⟩,fun y c h=>⟨_,x.cell y c h⟩,e0.hok.fresh (Xe _),fun y c h=>?_,fun p hp=>absurd (show p∈([]:List (Ve×Obj)) from hp) (by simp),e0.hok.kept hk,?_⟩
 ·exact name_of_addr x.apart (Uj h1) (Uj h2)
 ·have hy:scope.names.lookup y=some .cell\/scope.names.lookup y=some .free:=hy
  rcases hy with hy | hy
  ·exact Zjf hy
  ·exact absurd rfl (S.nofree _ (Uj hy))
 ·exact Wed (x.above y c (Uj h))
 ·have hi:i<vs.length:=by
   unfold start at h2
   by_cases hi:i<vs.length
   ·exact hi
   ·rw[Xs (by simpa using hi)] at h2
    rw[Wbp] at h2
    split at h2<;>cases h2
  have ha:vs[i]? = some v:=by
   unfold start at h2
   rw[Xg (by simpa using hi),Xp] at h2
   cases e:vs[i]? with
   | none=>rw[e] at h2; cases h2
   | some a=>rw[e] at h2; cases h2; rfl
  obtain⟨u,hu,rv⟩:=r.get ha
  have hp:ps[i]? = some y:=by
   rw[<- S.pre,Wcx (by omega)]; exact h1
  have ndP:ps.Nodup:=by rw[<- S.pre]; exact S.nd.sublist (Wfr _ _)
  refine⟨u,rv,?_⟩
  rcases S.par y (Xk hp) with k | k
  ·exact .inl ⟨k,Zo8 ndP hp hu k⟩
  ·obtain⟨c,e⟩:=Zjf (n:=s.heap.objs.size+1) k
   refine .inr ⟨.inl k,c,e,?_⟩
   have q:=x.cell y c e
   rw[Zoh ndP hp hu (by show scope.names.lookup y≠_; rw[k]; decide)] at q
   exact q
 ·exact .inl (e0.hok.fresh (Wed (x.above y c (Uj h))))
 ·unfold start
  show _=N.length
  rw[Xq,Xr,Wew]
  omega
theorem fn_of {CX:CXT} {P:Vi} {w:Vs} {K:Xb} {mg:Str->Option Vb} {base:Vy} {k:Nat} {f:Ve} {name qual:Str} {params:Uej} {body:List Vw} {scope:Ubo} {dV kV doc pm cdv ct oc:Vb} {an od:Option Ve}
  {osl:Array (Option Vb)} {N ps:List Str} {sp:Sp} (lk:K.lookup f=some ⟨oc,od,.func (Wba name qual params body scope dV kV doc pm an cdv ct),osl⟩) (hcd:Wcs K cdv qual=true) (S:FnScope N ps scope)
  (len:∀ vs H Q E,sp vs H Q E->vs.length=ps.length)
  (hbody:∀ (A:Vr) (outer:List Env) (s:Vd) (H:Hp) (vs:List V) (Q:VK) (E:XK),Room k (A.deeper (Uaw qual scope s.heap.objs.size f cdv))->sp vs H Q E ->
   ∃ t,PSs (Zlo CX P w K mg base N qual scope f cdv A outer s H E) body t/\t { nx:=fun _ H'=>Q .non H',rt:=Q } (start N vs) H) :
  FnOk P w K mg base CX (k+1) f (Wba name qual params body scope dV kV doc pm an cdv ct) ps sp:=by
 refine⟨len,fun A outer s H args us vs Q E hr e0 hb r hsp=>?_⟩
 have hl:=len _ _ _ _ hsp
 have KX:K.In s.heap:=e0.mod.kin.keeps fun b o e=>(e0.bs b o e).1
 have lim:s.heap.NoLimit:=e0.mod.nolimit.keeps fun b o e=>(e0.bs b o e).1
 have hkind:∀ y∈ps.zip us,scope.names.lookup y.1=some .local\/(scope.names.lookup y.1=some .cell/\((Uei (s.heap.objs.size+1) scope.names []).lookup y.1).isSome=true):=fun⟨n,v⟩ hy=>by
  rcases S.par n (Wdb hy).1 with q | q
  ·exact .inl q
  ·exact .inr ⟨q,Wde _ _ _ (.inl q)⟩
 refine Uct hr.depth (KX _ _ lk) rfl S.co S.gen rfl (Wfj KX hcd) (hb _ _ _ _ ?_)
 refine Ubv S.kind hkind fun env he s1 x=>?_
 subst he
 refine⟨lim.keeps x.toInCall.keep,codeAny_func ?_⟩
 obtain⟨t,ht,hq⟩:=hbody A outer s H vs Q E (hr.deeper _) hsp
 have I:Inv (Zlo CX P w K mg base N qual scope f cdv A outer s H E) [] (start N vs) H s1:=Zof S hr.hd e0 hl r x
 refine Uaq (ht [] s1 (start N vs) H _ I hq) (fun fl s' hs=>?_) fun e s' hs=>hs
 have fin:∀ {σ':St} {H':Hp} {v:V} {u:Vb},Inv (Zlo CX P w K mg base N qual scope f cdv A outer s H E) [] σ' H' s'->Zcd v u->Q v H'->CE outer P w H s Q u s' :=
  fun {σ' H' v u} J rv q=>⟨v,H',J.os,J.bare,J.base,J.hok,rv,q⟩
 cases fl with
 | ret u =>
  obtain⟨v,σ',H',J,rv,q⟩:=hs
  exact fin J rv q
 | next =>
  obtain⟨σ',H',J,q⟩:=hs
  exact fin (v:=V.non) (u:=Uq) J rfl q
 | brk =>
  obtain⟨_,_,_,q⟩:=hs
  exact Ug q
 | cont =>
  obtain⟨_,_,_,q⟩:=hs
  exact Ug q
section
variable {X:Cx} {x:Str} {p pos:Pos} {e:Vv} {es:List Vv} {t:TA} {id T:String} {r:List V->Hp->VK->Prop}
nonrec def tCB (r:List V->Hp->VK->Prop) (t:TA):TE:=fun σ H Q=>t σ H fun vs H1=>r vs H1 Q
theorem Zzz (hc:Zj0 X (.builtin id) r) (hg:Gl X x) (hm:X.mg x=none) (hv:Vq x=some (.builtin id)) (ha:PA X (e::es) t) (hn:x ≠ "__name__" := by decide) (hdb:(x==("__debug__" : Str))=false:=by decide)
  (he:Vf (e::es) X.env=(false,eval e X.env)::Vf es X.env:=by rfl) (hpl:(Uac pos (Vf es X.env)).any (·.1)=false:=by rfl):PE X (.Call (.Name x p) (e::es) [] pos) (tCB r t):=by
 intro pins s σ H Q I h
 refine Uai (Zet I hg hm hv ?_ hn hdb)
 exact PyProof.Rows.callWith_builtin1 (thn (ha pos pins s σ H _ I h) fun us s1 ⟨vs,H1,I1,r1,q1⟩=>hc pins s1 σ H1 vs us Q I1 r1 q1) he hpl
theorem Zwm (hc:Zj0 X (.type T) r) (hg:Gl X x) (hm:X.mg x=none) (hv:Vq x=some (.type T)) (ha:PA X (e::es) t) (hn:x ≠ "__name__" := by decide) (hdb:(x==("__debug__" : Str))=false:=by decide)
  (he:Vf (e::es) X.env=(false,eval e X.env)::Vf es X.env:=by rfl) (hpl:(Uac pos (Vf es X.env)).any (·.1)=false:=by rfl):PE X (.Call (.Name x p) (e::es) [] pos) (tCB r t):=by
 intro pins s σ H Q I h
 refine Uai (Zet I hg hm hv ?_ hn hdb)
 exact Ui (thn (ha pos pins s σ H _ I h) fun us s1 ⟨vs,H1,I1,r1,q1⟩=>hc pins s1 σ H1 vs us Q I1 r1 q1) he hpl
end
end L2
namespace HT
open PySem PyProof.Rows
section
variable {prog:Vi} {w:Vs} {A:Vr} {E:Vb->Vd->Prop} {s:Vd}
theorem cat_tup {t b:Ve} {vs ws:List Vb} {Q:Vb->Vd->Prop} (ht:Ueq s.heap t vs.toArray) (hb:Ueq s.heap b ws.toArray) (hv:vs≠[])
  (h1:ws=[]->Q (.ref t) s) (h2:ws≠[]->Q (.ref s.heap.objs.size) { s with heap:=s.heap.push { cls:=.type "tuple",data:=.seq (vs++ws).toArray } })
  (hsz:vs.length+ws.length<=sizeLine):Vg (Vl prog w) A (Uab .Add (.ref t) (.ref b)) Q E s:=by
 obtain⟨⟨cls,dd,data,sl⟩,ho,hc,n,hd⟩:=id ht
 obtain⟨⟨cls2,dd2,data2,sl2⟩,ho2,hc2,n2,hd2⟩:=id hb
 simp only at hc hd hc2 hd2
 subst hc hd hc2 hd2
 have e:vs.toArray++ws.toArray=(vs++ws).toArray:=by simp
 by_cases hw:ws=[]
 ·exact Ueb ⟨_,ho,rfl⟩ ⟨_,ho2,rfl⟩ Uci Uds Tat Tar (Tao _ _)
   (tuple_addW1 t b vs.toArray ws.toArray n n2 dd dd2 sl sl2 (by simpa using hv) (by simp[hw])) ⟨ho,ho2,h1 hw⟩
 ·refine Ueb ⟨_,ho,rfl⟩ ⟨_,ho2,rfl⟩ Uci Uds Tat Tar (Tao _ _)
   (tuple_addW2 t b vs.toArray ws.toArray n n2 dd dd2 sl sl2 (by simpa using hv) (by simpa using hw) (by rw[Xo,Xo]; exact hsz)) ⟨ho,ho2,?_⟩
  rw[e]
  exact h2 hw
nonrec def sIx (n d:Nat):Option Int->Nat
 | none=>d
 | some v=>if v<0 then (v+(n:Int)).toNat else min v.toNat n
theorem Yhj (n d:Nat) (hd:d<=n) (o:Option Int):sIx n d o<=n:=by
 cases o with
 | none=>exact hd
 | some v =>
  show (if v<0 then (v+(n:Int)).toNat else min v.toNat n)<=n
  by_cases hv:v<0
  ·rw[if_pos hv]; omega
  ·rw[if_neg hv]; exact Nat.min_le_right _ _
theorem Zuy (v:Int) (n d:Nat):(if v<0 then max (v+(n:Int)) 0 else min v (n:Int))=((sIx n d (some v):Nat):Int):=by
 show (if v<0 then max (v+(n:Int)) 0 else min v (n:Int))=(((if v<0 then (v+(n:Int)).toNat else min v.toNat n):Nat):Int)
 by_cases hv:v<0
 ·simp only[if_pos hv]; omega
 ·simp only[if_neg hv]; omega
theorem Zuc (lo hi:Option Int) (n:Nat):Tam lo hi 1 (n:Int)=(((sIx n 0 lo:Nat):Int),((sIx n n hi:Nat):Int)):=by
 have h1:¬ ((1:Int)<0):=by omega
 unfold Tam
 simp only[h1,if_false]
 refine Prod.ext ?_ ?_
 ·cases lo with
  | none=>rfl
  | some v=>exact Zuy v n 0
 ·cases hi with
  | none=>rfl
  | some v=>exact Zuy v n n
theorem Zsz (i j:Nat):Uu (i:Int) (j:Int) 1=j - i:=by
 unfold Uu
 have h1:(1:Int) > 0:=by omega
 simp only[h1,if_true,Int.ediv_one]
 split<;>omega
theorem Zmb {v:Vb} {o:Option Int} {Q:Option Int->Vd->Prop} (p:Udt v o) (h:Q o s):Vg (Vl prog w) A (Builtin.Slice.slicePartIndex v) Q E s:=by
 cases p with
 | none=>exact slicePart_none h
 | int i t=>exact slicePart_int h
theorem sliceApplied_gen {sl:Ve} {vl vu:Vb} {lo hi:Option Int} {n:Nat} {Q:Int×Int×Nat->Vd->Prop} (hs:s.heap.IsSliceOf sl vl vu .none) (pl:Udt vl lo) (pu:Udt vu hi)
  (h:Q (((sIx n 0 lo:Nat):Int),1,sIx n n hi - sIx n 0 lo) s):Vg (Vl prog w) A (Tbi (.ref sl) (pure (n:Int))) Q E s:=by
 obtain⟨os,hos,hcs,hds⟩:=id hs
 unfold Tbi Builtin.Slice.sliceFields
 refine Va (Va (Vn hos hds (x:=vl) rfl (Va (Vn hos hds (x:=vu) rfl (Va (Vn hos hds (x:=.none) rfl (Vc ?_)))))))
 refine Va (slicePart_none ?_)
 show Vg _ _ (if ((1:Int)==0)=true then _ else _) _ _ s
 rw[if_neg (by decide)]
 refine Va (Zmb pl (Va (Zmb pu (Va (Vc ?_)))))
 show Vg _ _ (match Tam lo hi 1 (n:Int) with | (lo,hi)=>pure (lo,(1:Int),Uu lo hi 1)) _ _ s
 rw[Zuc lo hi n]
 show Vg _ _ (pure (((sIx n 0 lo:Nat):Int),(1:Int),Uu ((sIx n 0 lo:Nat):Int) ((sIx n n hi:Nat):Int) 1)) _ _ s
 rw[Zsz]
 exact Vc h
theorem Zzr (xs:Array Vb) (i k:Nat):((Wdx k).filterMap fun(m:Nat)=>xs[((i:Int)+(m:Int)*1).toNat]?).toArray=((xs.toList.drop i).take k).toArray:=by
 have e:(fun(m:Nat)=>xs[((i:Int)+(m:Int)*1).toNat]?)=fun m=>xs[i+m]? := by
  funext m
  have:((i:Int)+(m:Int)*1).toNat=i+m:=by omega
  rw[this]
 rw[e]
 have:=pick_run xs i k
 rw[List.filterMap_map] at this
 have e2:((fun x=>xs[x]?) ∘ fun x=>i+x)=fun m=>xs[i+m]? := rfl
 rw[e2] at this
 rw[this]
theorem getItem_tuple_cut {t sl:Ve} {items:Array Vb} {vl vu:Vb} {lo hi:Option Int} {Q:Vb->Vd->Prop} (ht:Ueq s.heap t items) (hs:s.heap.IsSliceOf sl vl vu .none) (pl:Udt vl lo) (pu:Udt vu hi)
  (hw:¬ (sIx items.size 0 lo=0/\sIx items.size items.size hi=items.size))
  (h:Q (.ref s.heap.objs.size) { s with heap:=s.heap.push { cls:=.type "tuple",data:=.seq ((items.toList.drop (sIx items.size 0 lo)).take (sIx items.size items.size hi - sIx items.size 0 lo)).toArray } })
  (hsz:items.size<=sizeLine):Vg (Vl prog w) A (Udo (.ref t) (.ref sl)) Q E s:=by
 have htake:sizeOk (.seq ((items.toList.drop (sIx items.size 0 lo)).take (sIx items.size items.size hi - sIx items.size 0 lo)).toArray):=by
  show ((items.toList.drop (sIx items.size 0 lo)).take (sIx items.size items.size hi - sIx items.size 0 lo)).toArray.size<=sizeLine
  rw[Xo,Wbj,Weq,Wdy]
  omega
 have hj:sIx items.size items.size hi<=items.size:=Yhj _ _ (Xe _) hi
 obtain⟨os,hos,hcs,hds⟩:=id hs
 have hTs:s.TypeIs (.ref sl) "slice" := ⟨os,hos,hcs⟩
 unfold Udo
 try with_reducible refine Vx ?_
 first | refine Va (Vc ?_) | skip
 refine Va (wpAny_sequenceKey ht.typeIs (by decide) ?_)
 refine Va (Vk (name:=Ua "__getitem__") ht.typeIs Uf
  (Vp Uf ht.typeIs entry_tuple_getitem ?_ (args_tuple_getitem _ _)))
 show Vg _ _ (Tbj (.ref t) >>= _) _ _ s
 refine Va (tupleItemsOf_ ht ?_)
 refine Va (Ucu hTs ?_)
 rw[if_pos (by decide)]
 refine Va (sliceApplied_gen hs pl pu ?_)
 have hno:¬ ((((sIx items.size 0 lo:Nat):Int)==0&&(1:Int)==1&&(sIx items.size items.size hi - sIx items.size 0 lo)==items.size)=true):=by
  intro q
  rw[Wai,Wai] at q
  have q1:((sIx items.size 0 lo:Nat):Int)=0:=eq_of_beq q.1.1
  have q2:sIx items.size items.size hi - sIx items.size 0 lo=items.size:=eq_of_beq q.2
  exact hw ⟨by omega,by omega⟩
 show Vg _ _ (if (((sIx items.size 0 lo:Nat):Int)==0&&(1:Int)==1&&(sIx items.size items.size hi - sIx items.size 0 lo)==items.size)=true then _ else _) _ _ s
 rw[if_neg hno,Zzr]
 first
  | exact Va (m:=Uw _) (Vu (Vc ⟨_,rfl,Vc h⟩) htake)
  | exact Va (m:=Uw _) (Vu (Va (Vc (Vc ⟨_,rfl,Vc h⟩))) htake)
  | exact Va (Va (m:=Uw _) (Vu (Vc (Vc ⟨_,rfl,Vc h⟩)) htake))
  | exact Va (Va (m:=Uw _) (Vu (Vc ⟨_,rfl,Vc h⟩) htake))
end
end HT
namespace L2
open PySem PySem.Spec PyProof.Rows
nonrec abbrev TO:=St->Hp->(Option Int->Hp->Prop)->Prop
def PO (X:Cx) (e:Option Vv) (t:TO):Prop :=
 ∀ (pins:List (Ve×Obj)) (s:Vd) (σ:St) (H:Hp) (Q:Option Int->Hp->Prop),Inv X pins σ H s->t σ H Q ->
  Vg (Vl X.prog X.w) X.A (evalPart e X.env) (fun u s'=>∃ o H',Inv X pins σ H' s'/\Udt u o/\Q o H') X.xe s
nonrec def Ydh:TO:=fun _ H Q=>Q none H
nonrec def tPart (t:TE):TO:=fun σ H Q=>t σ H fun x H1=>∃ i,x=.int i/\Q (some i) H1
theorem Zl7 {ns:List Int}:∀ {us:List Vb},Zb4 (ns.map V.int) us->Ubg us ns:=by
 induction ns with
 | nil=>intro us r; rw[Wdl] at r; cases r; exact .nil
 | cons n ns ih =>
  intro us r
  rw[Xn] at r
  cases r with
  | cons r1 r2 =>
   obtain⟨t,e⟩:=r1
   subst e
   exact .cons n t (ih r2)
section
variable {X:Cx} {e:Vv} {te:TE} {lo hi:Option Vv} {tl th:TO} {pos p2:Pos}
theorem Ycn:PO X none Ydh:=by
 intro pins s σ H Q I h
 rw[evalPart_none]
 exact Vc ⟨none,H,I,.none,h⟩
theorem Ydv (h:PE X e te):PO X (some e) (tPart te):=by
 intro pins s σ H Q I hw
 rw[evalPart_some]
 refine thn (h pins s σ H _ I hw) fun u s1 zz=>?_
 obtain⟨x,H1,I1,r1,q1⟩:=zz
 obtain⟨i,rfl,q⟩:=q1
 obtain⟨t,rfl⟩:=r1
 exact⟨some i,H1,I1,.int i t,q⟩
def SlR (X:Cx) (r:V->Option Int->Option Int->Hp->VK->Prop):Prop :=
 ∀ (pins:List (Ve×Obj)) (s:Vd) (σ:St) (H:Hp) (x:V) (v vl vu:Vb) (lo hi:Option Int) (sl:Ve) (Q:VK),Inv X pins σ H s->Zcd x v->s.heap.IsSliceOf sl vl vu .none->Udt vl lo->Udt vu hi->r x lo hi H Q ->
  ∃ T id,typeLookup (.type T) "__getitem__" = pure (some (.builtin id))/\s.TypeIs v T/\Vg (Vl X.prog X.w) X.A (Udo v (.ref sl)) (EP X pins σ Q) X.xe s
nonrec def tSl (r:V->Option Int->Option Int->Hp->VK->Prop) (te:TE) (tl th:TO):TE:=fun σ H Q=>te σ H fun x H1=>tl σ H1 fun l H2=>th σ H2 fun u H3=>r x l u H3 Q
theorem Zzk {r:V->Option Int->Option Int->Hp->VK->Prop} (hr:SlR X r) (he:PE X e te) (hl:PO X lo tl) (hu:PO X hi th):PE X (.Subscript e (.Slice lo hi none p2) pos) (tSl r te tl th):=by
 intro pins s σ H Q I h
 refine Subscript_ (thn (he pins s σ H _ I h) fun v s1 zz=>?_)
 obtain⟨x,H1,I1,r1,q1⟩:=zz
 refine wpAny_Slice (thn (hl pins s1 σ H1 _ I1 q1) fun vl s2 ⟨l,H2,I2,pl,q2⟩=>thn (hu pins s2 σ H2 _ I2 q2) fun vu s3 zz=>?_)
 obtain⟨u,H3,I3,pu,q3⟩:=zz
 rw[evalPart_none]
 refine Vc ?_
 have I4:Inv X pins σ H3 { s3 with heap:=s3.heap.push { cls:=.type "slice",data:=.fields #[vl,vu,.none] } }:=I3.kept (t':=s3.toks) fun b ob q=>Xa _ q
 obtain⟨T,id,hT,ht,hg⟩:=hr pins { s3 with heap:=s3.heap.push { cls:=.type "slice",data:=.fields #[vl,vu,.none] } } σ H3 x v vl vu l u s3.heap.objs.size Q I4 r1 (Heap.IsSliceOf.new ..) pl pu q3
 show Vg (Vl X.prog X.w) X.A (subscriptTail e (.Slice lo hi none p2) v (.ref s3.heap.objs.size)) (EP X pins σ Q) X.xe { s3 with heap:=s3.heap.push { cls:=.type "slice",data:=.fields #[vl,vu,.none] } }
 exact tail_any (ops:=[.ref s3.heap.objs.size,v]) ht hT hg (by with_unfolding_all rfl)
nonrec def Ybr (xs:List V) (lo hi:Option Int):List V:=(xs.drop (HT.sIx xs.length 0 lo)).take (HT.sIx xs.length xs.length hi - HT.sIx xs.length 0 lo)
theorem Zfj (xs:List V) (lo hi:Option Int):(Ybr xs lo hi).length<=xs.length:=by
 unfold Ybr
 rw[Wbj,Weq]
 omega
nonrec def rSlT (K:Xb):V->Option Int->Option Int->Hp->VK->Prop:=fun x lo hi H Q=>∃ a xs,x=.ref a/\SqT K H a xs /\
 ¬ (HT.sIx xs.length 0 lo=0/\HT.sIx xs.length xs.length hi=xs.length)/\∀ p,H p=none->Q (.ref p) (upd H p (.tup (Ybr xs lo hi)))
theorem Yid:SlR X (rSlT X.K):=by
 intro pins s σ H x v vl vu lo hi sl Q I rx hs pl pu h
 obtain⟨a,xs,rfl,hx,hw,q⟩:=h
 cases rx
 obtain⟨its,r,ht,hz⟩:=I.tuple hx
 have hlen:its.toArray.size=xs.length:=by rw[Xo]; exact r.length.symm
 refine⟨"tuple",_,Uf.lookup,ht.typeIs,?_⟩
 refine HT.getItem_tuple_cut ht hs pl pu (by rw[hlen]; exact hw) ?_ (by rw[hlen]; exact hz)
 rw[hlen]
 refine⟨.ref s.heap.objs.size,_,I.laid (t':=s.toks) (o:=.tup (Ybr xs lo hi)) (fun b ob q=>Xa _ q) (Xe _) ?_,rfl,q _ (I.hok.fresh (Xe _))⟩
 exact⟨Waa (Zfj xs lo hi) hz,_,(r.drop (HT.sIx xs.length 0 lo)).take (HT.sIx xs.length xs.length hi - HT.sIx xs.length 0 lo),Zme.new _ _⟩
nonrec def rCatT (K:Xb):R2:=fun x y H Q=>∃ a b xs ys,x=.ref a/\y=.ref b/\SqT K H a xs/\SqT K H b ys/\xs≠[]/\xs.length+ys.length<=sizeLine /\
 (ys=[]->Q (.ref a) H)/\(ys≠[]->∀ p,H p=none->Q (.ref p) (upd H p (.tup (xs++ys))))
theorem Zb4.nil_iff {xs:List V} {us:List Vb} (r:Zb4 xs us):us=[] ↔ xs=[]:=by
 cases r with
 | nil=>simp
 | cons _ _=>simp
theorem Zvg:OpR X (Uab .Add) (rCatT X.K):=by
 intro pins s σ H x y v u Q I rx ry h
 obtain⟨a,b,xs,ys,rfl,rfl,ha,hb,hx,hz,q1,q2⟩:=h
 cases rx
 cases ry
 obtain⟨its,r1,p1,_⟩:=I.tuple ha
 obtain⟨its2,r2,p2,_⟩:=I.tuple hb
 refine HT.cat_tup p1 p2 (fun z=>hx (r1.nil_iff.mp z)) (fun z=>⟨.ref a,H,I,rfl,q1 (r2.nil_iff.mp z)⟩) (fun z=>?_) (by rw[<- r1.length,<- r2.length]; exact hz)
 refine⟨.ref s.heap.objs.size,_,I.laid (t':=s.toks) (o:=.tup (xs++ys)) (fun b ob q=>Xa _ q) (Xe _) ?_,rfl,q2 (fun w=>z (r2.nil_iff.mpr w)) _ (I.hok.fresh (Xe _))⟩
 exact⟨by rw[Xq]; exact hz,_,r1.append r2,Zme.new _ _⟩
end
nonrec def ixN (n:Nat) (i:Int):Option Nat:=if 0<=i then (if i<n then some i.toNat else none) else if -(n:Int)<=i then some (i+n).toNat else none
nonrec def atI {α:Type} (xs:List α) (i:Int):Option α:=(ixN xs.length i).bind fun j=>xs[j]?
theorem Yeg {n:Nat} {i:Int} {j:Nat} (h:ixN n i=some j):seqIndex? i n=some j/\j<n /\ -(n:Int)<=i/\i<n:=by
 unfold ixN at h
 by_cases h0:0<=i
 ·rw[if_pos h0] at h
  by_cases h1:i<n
  ·rw[if_pos h1] at h
   have e:i.toNat=j:=Xx.inj h
   exact⟨by rw[seqIndex_of h0 h1,e],by omega,by omega,h1⟩
  ·rw[if_neg h1] at h; cases h
 ·rw[if_neg h0] at h
  by_cases h1 : -(n:Int)<=i
  ·rw[if_pos h1] at h
   have e:(i+n).toNat=j:=Xx.inj h
   exact⟨by rw[seqIndex_neg (by omega) h1,e],by omega,h1,by omega⟩
  ·rw[if_neg h1] at h; cases h
theorem Zv1 {α:Type} {xs:List α} {i:Int} {v:α} (h:atI xs i=some v):∃ j,seqIndex? i xs.length=some j/\xs[j]? = some v/\j<xs.length /\ -(xs.length:Int)<=i/\i<xs.length:=by
 unfold atI at h
 cases e:ixN xs.length i with
 | none=>rw[e] at h; cases h
 | some j =>
  rw[e] at h
  obtain⟨h1,h2,h3,h4⟩:=Yeg e
  exact⟨j,h1,h,h2,h3,h4⟩
theorem Zbn {α:Type} {xs:List α} {j:Nat} {v:α} (h:xs[j]? = some v):atI xs (j:Int)=some v:=by
 have hj:j<xs.length:=(Xc.mp h).1
 have e:ixN xs.length (j:Int)=some j:=by
  unfold ixN
  rw[if_pos (by omega),if_pos (by omega)]; simp
 unfold atI; rw[e]; exact h
theorem Zm0 {α:Type} (xs:List α) (v:α):atI (xs++[v]) (-1)=some v:=by
 have hl:(xs++[v]).length=xs.length+1:=by simp
 have e:ixN (xs++[v]).length (-1)=some xs.length:=by
  unfold ixN
  rw[hl,if_neg (by decide),if_pos (by omega)]
  congr 1
  omega
 unfold atI
 rw[e]
 show (xs++[v])[xs.length]? = some v
 simp
def Zu9 (b:Vv):Prop:=∀ o i,subscripted b false o i=operate [o,i] (Udo o i)
def IxR (X:Cx) (r:R2):Prop :=
 ∀ (value slice:Vv) (pins:List (Ve×Obj)) (s:Vd) (σ:St) (H:Hp) (x y:V) (v u:Vb) (Q:VK),Inv X pins σ H s->Zcd x v->Zcd y u->r x y H Q ->
  subscripted slice false v u=operate [v,u] (Udo v u)->Vg (Vl X.prog X.w) X.A (subscriptTail value slice v u) (EP X pins σ Q) X.xe s
def MtR (X:Cx) (id:String) (r:V->List V->Hp->VK->Prop):Prop :=
 ∀ (pins:List (Ve×Obj)) (s:Vd) (σ:St) (H:Hp) (x:V) (xs:List V) (v:Vb) (us:List Vb) (Q:VK),Inv X pins σ H s->Zcd x v->Zb4 xs us->r x xs H Q ->
  Vg (Vl X.prog X.w) X.A (call (.builtin id) (v::us)) (EP X pins σ Q) X.xe s
section
variable {X:Cx} {a b:Vv} {ta tb:TE} {pos:Pos}
theorem pe_ix {r:R2} (hr:IxR X r) (ha:PE X a ta) (hb:PE X b tb) (hs:Zu9 b):PE X (.Subscript a b pos) (tOp r ta tb):=by
 intro pins s σ H Q I h
 exact Subscript_ (binT ha hb I h fun v u s2 x y H2 I2 rx ry q=>hr a b pins s2 σ H2 x y v u Q I2 rx ry q (hs _ _))
nonrec def rIxL (K:Xb):R2:=fun x y H Q=>∃ p xs i v,x=.ref p/\y=.int i/\SqL K H p xs/\atI xs i=some v/\Q v H
nonrec def rIxT (K:Xb):R2:=fun x y H Q=>∃ p xs i v,x=.ref p/\y=.int i/\SqT K H p xs/\atI xs i=some v/\Q v H
theorem Ydu:IxR X (rIxL X.K):=by
 intro value slice pins s σ H x y v u Q I rx ry h hs
 obtain⟨p,xs,i,z,rfl,rfl,hq,he,q⟩:=h
 cases rx
 obtain⟨t,rfl⟩:=ry
 obtain⟨its,r,pl,hz⟩:=I.list hq
 obtain⟨j,h1,h2,h3,h4,h5⟩:=Zv1 he
 obtain⟨w,ew,rw'⟩:=r.get h2
 have hl:=r.length
 have hn:=Zpu
 have fin:EP X pins σ Q w s:=⟨z,H,I,rw',q⟩
 by_cases h0:0<=i
 ·have hj:i.toNat=j:=by
   rw[seqIndex_of h0 h5] at h1
   exact Xx.inj h1
  exact item_listR pl.isList h0 (by omega) (by rw[hj]; simpa using ew) fin hs
 ·have hj:(i+(its.toArray.size:Int)).toNat=j:=by
   rw[seqIndex_neg (by omega) h4] at h1
   rw[Xo,<- hl]
   exact Xx.inj h1
  exact Ucl (x:=w) pl.isList.typeIs slot_list_getitem.lookup
   (wpAny_getItem_list_neg (Q:=fun r s'=>r=w/\EP X pins σ Q r s') pl.isList (by omega) (by rw[Xo]<;>omega) (by omega) (by rw[hj]; simpa using ew) ⟨rfl,fin⟩) hs
theorem Yhb:IxR X (rIxT X.K):=by
 intro value slice pins s σ H x y v u Q I rx ry h hs
 obtain⟨p,xs,i,z,rfl,rfl,hq,he,q⟩:=h
 cases rx
 obtain⟨t,rfl⟩:=ry
 obtain⟨its,r,pl,hz⟩:=I.tuple hq
 obtain⟨j,h1,h2,h3,h4,h5⟩:=Zv1 he
 obtain⟨w,ew,rw'⟩:=r.get h2
 have hl:=r.length
 have hn:=Zpu
 have fin:EP X pins σ Q w s:=⟨z,H,I,rw',q⟩
 exact Ucl (x:=w) pl.typeIs slot_tuple_getitem.lookup
  (getItem_tuple (j:=j) (Q:=fun r s'=>r=w/\EP X pins σ Q r s') pl (by omega) (by omega) (by rw[Xo,<- hl]; exact h1) (by simpa using ew) ⟨rfl,fin⟩) hs
theorem Zo5 (lo hi:Option Int) (n:Nat):(Ubi lo hi none n).1=((HT.sIx n 0 lo:Nat):Int)/\(Ubi lo hi none n).2.1=((HT.sIx n n hi:Nat):Int)/\(Ubi lo hi none n).2.2=1:=by
 refine⟨?_,?_,rfl⟩
 ·cases lo with
  | none=>simp[Ubi,HT.sIx]
  | some i =>
   simp only[Ubi,HT.sIx,Wgi,show (1:Int) > 0 by decide,if_true]
   by_cases h:i<0
   ·simp only[h,if_true]<;>omega
   ·simp only[h,if_false]<;>omega
 ·cases hi with
  | none=>simp[Ubi,HT.sIx]
  | some i =>
   simp only[Ubi,HT.sIx,Wgi,show (1:Int) > 0 by decide,if_true]
   by_cases h:i<0
   ·simp only[h,if_true]<;>omega
   ·simp only[h,if_false]<;>omega
theorem Zm5 (its:List Vb) (lo hi:Option Int):slicePick its.toArray lo hi none=((its.drop (HT.sIx its.length 0 lo)).take (HT.sIx its.length its.length hi - HT.sIx its.length 0 lo)).toArray:=by
 obtain⟨h1,h2,h3⟩:=Zo5 lo hi its.toArray.size
 unfold slicePick
 rw[h1,h2,h3]
 simp only[sliceRange_one,pick_run,Xo]<;>rfl
nonrec def rSlL (K:Xb):V->Option Int->Option Int->Hp->VK->Prop:=fun x lo hi H Q=>∃ a xs,x=.ref a/\SqL K H a xs/\∀ p,H p=none->Q (.ref p) (upd H p (.lst (Ybr xs lo hi)))
theorem Ycj:SlR X (rSlL X.K):=by
 intro pins s σ H x v vl vu lo hi sl Q I rx hs pl pu h
 obtain⟨a,xs,rfl,hx,q⟩:=h
 cases rx
 obtain⟨its,r,ht,hz⟩:=I.list hx
 have hlen:=r.length
 refine⟨"list",_,slot_list_getitem.lookup,ht.isList.typeIs,?_⟩
 refine wpAny_getItem_list_slice ht.isList hs pl pu .none (by simp) ?_ (by rw[Xo]<;>omega)
 rw[Zm5,<- hlen]
 refine⟨.ref s.heap.objs.size,_,I.laid (t':=s.toks) (o:=.lst (Ybr xs lo hi)) (fun b ob q=>Xa _ q) (Xe _) ?_,rfl,q _ (I.hok.fresh (Xe _))⟩
 exact⟨Waa (Zfj xs lo hi) hz,_,0,(r.drop (HT.sIx xs.length 0 lo)).take (HT.sIx xs.length xs.length hi - HT.sIx xs.length 0 lo),Xd _ rfl⟩
theorem Zp4:Zj0 X (.builtin "len") (fun xs H Q=>∃ p ys,xs=[.ref p]/\(SqL X.K H p ys\/SqT X.K H p ys)/\Q (.int ys.length) H):=by
 intro pins s σ H xs us Q I r h
 obtain⟨p,ys,rfl,hq,q⟩:=h
 obtain⟨u,rfl,rx⟩:=Zja r
 cases rx
 have hn:=Zpu
 rcases hq with hq | hq
 ·obtain⟨its,r',pl,hz⟩:=I.list hq
  have hlen:=r'.length
  exact Calls.call_len_list pl.isList (by simp only[Xo]<;>omega) ⟨.int ys.length,H,I.tok _,⟨s.toks+1,by rw[Xo,hlen]⟩,q⟩
 ·obtain⟨its,r',pl,hz⟩:=I.tuple hq
  have hlen:=r'.length
  exact len_tuple pl (by simp only[Xo]<;>omega) ⟨.int ys.length,H,I.tok _,⟨s.toks+1,by rw[Xo,hlen]⟩,q⟩
theorem Zn2:Zj0 X (.builtin "len") (fun xs H Q=>∃ z,xs=[.str z]/\z.length<=sizeLine/\Q (.int z.length) H):=by
 intro pins s σ H xs us Q I r h
 obtain⟨z,rfl,hz,q⟩:=h
 obtain⟨u,rfl,t,rfl⟩:=Zja r
 have hn:=Zpu
 exact len_str (by omega) ⟨.int z.length,H,I.tok _,⟨_,rfl⟩,q⟩
theorem Zot:Zj0 X (.type "list") (fun xs H Q=>∃ p ys,xs=[.ref p]/\(SqL X.K H p ys\/SqT X.K H p ys)/\∀ l,H l=none->Q (.ref l) (upd H l (.lst ys))):=by
 intro pins s σ H xs us Q I r h
 obtain⟨p,ys,rfl,hq,q⟩:=h
 obtain⟨u,rfl,rx⟩:=Zja r
 cases rx
 have fin:∀ (its:List Vb),Zb4 ys its->ys.length<=sizeLine->∀ (h':Vy) (c':Nat),(∀ b o',s.heap.get? b=some o'->h'.get? b=some o') ->
   h'.get? s.heap.objs.size=some { cls:=.type "list",dict:=none,data:=.seq its.toArray c',slots := #[] }->EP X pins σ Q (.ref s.heap.objs.size) { s with heap:=h' }:=fun its r' hz h' c' kp e =>
  ⟨.ref s.heap.objs.size,_,I.laid (t':=s.toks) kp (Xe _) (show Zc2 X.prog X.w _ h' _ (.lst ys) from⟨hz,its,c',r',e⟩),rfl,q _ (I.hok.fresh (Xe _))⟩
 rcases hq with hq | hq
 ·obtain⟨its,r',pl,hz⟩:=I.list hq
  have hlen:=r'.length
  obtain⟨o,ho,hc,n,hd⟩:=pl.isList
  exact call_list_seq p (.inl rfl) ho hc hd (fun h' c' kp e=>fin its r' hz h' c' kp e) (by simp only[Xo]<;>omega)
 ·obtain⟨its,r',pl,hz⟩:=I.tuple hq
  have hlen:=r'.length
  obtain⟨o,ho,hc,n,hd⟩:=pl
  exact call_list_seq p (.inr rfl) ho hc hd (fun h' c' kp e=>fin its r' hz h' c' kp e) (by simp only[Xo]<;>omega)
theorem Znf:Zj0 X (.type "tuple") (fun xs H Q=>∃ p ys,xs=[.ref p]/\((SqL X.K H p ys/\∀ l,H l=none->Q (.ref l) (upd H l (.tup ys)))\/(SqT X.K H p ys/\Q (.ref p) H))):=by
 intro pins s σ H xs us Q I r h
 obtain⟨p,ys,rfl,h⟩:=h
 obtain⟨u,rfl,rx⟩:=Zja r
 cases rx
 rcases h with ⟨hq,q⟩ | ⟨hq,q⟩
 ·obtain⟨its,r',pl,hz⟩:=I.list hq
  have hlen:=r'.length
  refine call_tuple_list pl.isList (fun h' kp=>?_) (by simp only[Xo]<;>omega)
  have I1:Inv X pins σ H { s with heap:=h' }:=I.kept (t':=s.toks) kp
  have I2:Inv X pins σ (upd H h'.objs.size (.tup ys)) { s with heap:=h'.push { cls:=.type "tuple",data:=.seq its.toArray } } :=
   I1.laid (t':=s.toks) (fun b o e=>Xa _ e) (Xe _) (show Zc2 X.prog X.w _ _ _ (.tup ys) from⟨hz,its,r',Zme.new _ _⟩)
  exact⟨.ref h'.objs.size,_,I2,rfl,q _ (I1.hok.fresh (Xe _))⟩
 ·obtain⟨its,r',pl,hz⟩:=I.tuple hq
  exact call_tuple_same pl ⟨.ref p,H,I,rfl,q⟩
def tyV (K:Xb) (T:String) (x:V) (H:Hp):Prop:=match x with
 | .str _=>T = "str"
 | .int _=>T = "int"
 | .ref p=>(T = "list" /\ ∃ xs,SqL K H p xs)\/(T = "tuple" /\ ∃ o,K.lookup p=some o/\o.cls=.type "tuple" /\ o.dict=none) \/
   (T = "dict" /\ ((∃ kvs,H p=some (.dK kvs))\/∃ kvs,H p=some (.dT kvs)))\/(T = "set" /\ ∃ S n,H p=some (.set S n))
 | _=>False
theorem Yh8 {pins:List (Ve×Obj)} {σ:St} {H:Hp} {s:Vd} {T:String} {x:V} {v:Vb} (I:Inv X pins σ H s) (r:Zcd x v) (ty:tyV X.K T x H) :
  s.TypeIs v T/\∀ a,v=.ref a->∃ ob,s.heap.get? a=some ob/\ob.dict=none:=by
 cases x with
 | str z =>
  obtain⟨t,rfl⟩:=r
  cases (show T = "str" from ty)
  exact⟨typeIs_str s z t,fun _ e=>nomatch e⟩
 | int i =>
  obtain⟨t,rfl⟩:=r
  cases (show T = "int" from ty)
  exact⟨Uda s i t,fun _ e=>nomatch e⟩
 | ref p =>
  cases r
  rcases ty with ⟨rfl,xs,hq⟩ | ⟨rfl,o,hk,hc,hd⟩ | ⟨rfl,hk⟩ | ⟨rfl,S,n,hk⟩
  ·obtain⟨its,_,pl,_⟩:=I.list hq
   refine⟨pl.isList.typeIs,fun a e=>?_⟩
   cases e
   obtain⟨o,n,e,c,hd,_⟩:=pl
   exact⟨o,e,hd⟩
  ·refine⟨⟨o,I.kIn p o hk,hc⟩,fun a e=>?_⟩
   cases e
   exact⟨o,I.kIn _ o hk,hd⟩
  ·have z:∃ o,s.heap.get? p=some o/\o.ExactDict:=by
    rcases hk with ⟨kvs,hk⟩ | ⟨kvs,hk⟩
    ·obtain⟨_,_,_,_,o,_,_,e,ex,_⟩:=I.hok p _ hk
     exact⟨o,e,ex⟩
    ·obtain⟨_,_,_,_,o,_,_,e,ex,_⟩:=I.hok p _ hk
     exact⟨o,e,ex⟩
   obtain⟨o,e,ex⟩:=z
   refine⟨⟨o,e,ex.1⟩,fun a e2=>?_⟩
   cases e2
   exact⟨o,e,ex.2.1⟩
  ·obtain⟨o,_,_,_,e,ex,_⟩:=I.hok p _ hk
   refine⟨⟨o,e,ex.1⟩,fun a e2=>?_⟩
   cases e2
   exact⟨o,e,ex.2.1⟩
 | _=>exact Ug ty
nonrec def tBM (K:Xb) (T:String) (r:V->List V->Hp->VK->Prop) (to:TE) (t:TA):TE:=fun σ H Q=>to σ H fun x H1=>tyV K T x H1/\t σ H1 fun xs H2=>r x xs H2 Q
variable {o e:Vv} {es:List Vv} {to:TE} {t:TA} {name:Str} {apos cpos:Pos} {T id:String} {r:V->List V->Hp->VK->Prop}
theorem pe_bm (pa:PlainAttrs T) (slot:Slot T name id) (hty:typeOf (.builtin id)=pure (.type "method_descriptor")) (hm:MtR X id r) (ho:PE X o to) (ha:PA X (e::es) t)
  (hbase:Ube o name X.env (eval o X.env)=eval o X.env:=by rfl)
  (hfew:((Uac cpos (Vf (e::es) X.env)).all (fun x => !x.1)&&(Ubk cpos (Uak [] X.env)).all (fun x=>x.1.isSome)
   && decide ((e::es).length+([]:List Ucf).length+(if ([]:List Ucf).isEmpty then 0 else 1)<30))=true:=by rfl)
  (hline:(apos.endLine==cpos.line)=true:=by rfl) (hs:Vf (e::es) X.env=(false,eval e X.env)::Vf es X.env:=by rfl) (hplain:(Uac cpos (Vf es X.env)).any (·.1)=false:=by rfl) :
  PE X (.Call (.Attribute o name apos) (e::es) [] cpos) (tBM X.K T r to t):=by
 intro pins s σ H Q I h
 refine Ucm hbase hfew hline rfl (thn (ho pins s σ H _ I h) fun v s1 zz=>?_)
 obtain⟨x,H1,I1,r1,ty,q1⟩:=zz
 obtain⟨h1,h2⟩:=Yh8 I1 r1 ty
 refine⟨T,id,pa,slot,hty,h1,h2,?_⟩
 have hA:=ha cpos pins s1 σ H1 _ I1 q1
 rw[hs] at hA ⊢
 refine Tbu (by show (false||(Uac cpos (Vf es X.env)).any (·.1))=false; rw[hplain]<;>rfl) (Tcd ?_)
 exact thn hA fun us s2 ⟨vs,H2,I2,r2,q2⟩=>hm pins s2 σ H2 x vs v us Q I2 r1 r2 q2
end
def MtM (X:Cx) (id:String) (r:V->List V->Hp->VK->Prop):Prop :=
 ∀ (pins:List (Ve×Obj)) (s:Vd) (σ:St) (H:Hp) (x:V) (xs:List V) (v:Vb) (us:List Vb) (Q:VK),Inv X pins σ H s->Zcd x v->Zb4 xs us->r x xs H Q ->
  Vg (Vl X.prog X.w) X.A (call (.builtin id) (v::us)) (EP X pins σ Q) X.xe s
theorem Zb4.one:∀ {x:V} {us:List Vb},Zb4 [x] us->∃ u,us=[u]/\Zcd x u:=by
 intro x us h
 cases h with
 | cons r t=>cases t; exact⟨_,rfl,r⟩
theorem Zb4.rep {xs:List V} {us:List Vb} (h:Zb4 xs us):∀ k:Nat,Zb4 (Xl k xs).flatten (Xl k us).flatten
 | 0=>.nil
 | k+1=>by
  rw[Was,Was,Wcb,Wcb]
  exact Zb4.append h (Zb4.rep h k)
theorem Zj4 (its:List Vb):∀ (k:Nat) (acc:List Vb),
  Wem (fun x1 x2=>x1++x2) acc.toArray (Xl k its.toArray)=(acc++(Xl k its).flatten).toArray
 | 0,acc=>by simp
 | k+1,acc=>by
  have e:acc.toArray++its.toArray=(acc++its).toArray:=by simp
  have e2:(acc++its)++(Xl k its).flatten=acc++(Xl (k+1) its).flatten:=by
   rw[Was,Wcb,Wab]
  rw[<- e2,<- Zj4 its k (acc++its),<- e,Was,List.foldl_cons]
section
variable {X:Cx} {pins:List (Ve×Obj)} {σ:St} {H:Hp} {s:Vd} {l b:Ve} {xs ys zs:List V}
theorem Inv.lset {its its':List Vb} {n:Nat} {f:Array Vb->Array Vb} {t':Nat} (I:Inv X pins σ H s) (hH:H l=some (.lst xs))
  (e:s.heap.get? l=some { cls:=.type "list",data:=.seq its.toArray n }) (hf:f its.toArray=its'.toArray) (hv:Zb4 ys its') (hz:ys.length<=sizeLine) :
  Inv X pins σ (upd H l (.lst ys)) { s with heap:=s.heap.update l (Tbc f),toks:=t' }:=by
 have q:=PySem.IsL.update e f
 rw[hf] at q
 refine I.write (x:=l) (e:=l) (by rw[hH]; exact trivial) (.inl rfl) (fun b' u hb hu=>(Heap.get?_update_other s.heap (Tbc f) (Ul hb)).trans hu) ⟨_,q⟩ ?_
 exact⟨hz,its',_,hv,q⟩
theorem Inv.lnew {its:List Vb} {t':Nat} (I:Inv X pins σ H s) (hv:Zb4 ys its) (hz:ys.length<=sizeLine) :
  Inv X pins σ (upd H s.heap.objs.size (.lst ys)) { s with heap:=s.heap.push { cls:=.type "list",data:=.seq its.toArray },toks:=t' } :=
 I.laid (fun _ _ q=>Xa _ q) (Xe _) ⟨hz,its,0,hv,Xd _ rfl⟩
theorem Inv.fresh (I:Inv X pins σ H s):H s.heap.objs.size=none:=I.hok.fresh (Xe _)
theorem Inv.lstM (I:Inv X pins σ H s) (hH:H l=some (.lst xs)):xs.length<=sizeLine/\∃ (its:List Vb) (n:Nat),Zb4 xs its/\xs.length=its.length/\s.heap.get? l=some { cls:=.type "list",data:=.seq its.toArray n }:=by
 obtain⟨z,its,n,r,e⟩:=I.hok l _ hH
 exact⟨z,its,n,r,r.length,e⟩
theorem Zzg {n:Nat} (h:n<=sizeLine):Tap n=false:=by
 unfold Tap
 exact decide_eq_false (by omega)
end
section
variable {X:Cx}
nonrec def Ydt:V->List V->Hp->VK->Prop:=fun x vs H Q=>∃ l xs y,x=.ref l/\vs=[y]/\H l=some (.lst xs)/\xs.length<sizeLine/\Q .non (upd H l (.lst (xs++[y])))
theorem Zj7:MtM X "list.append" Ydt:=by
 intro pins s σ H x vs v us Q I rx rv h
 obtain⟨l,xs,y,rfl,rfl,hH,hz,q⟩:=h
 cases rx
 obtain⟨u,rfl,ru⟩:=rv.one
 obtain⟨z,its,n,r,hl,e⟩:=I.lstM hH
 refine Ubr F.slot_list_append ⟨_,e,rfl⟩ F.entry_list_append (F.args_list_append_2 _ _) (PySem.list_append l its.toArray n u (by rw[Xo]; omega)) ⟨e,?_⟩
 refine⟨.non,_,I.lset (its':=its++[u]) hH e (by simp) (r.append (.cons ru .nil)) ?_,rfl,q⟩
 rw[Xq,Wbm]
 omega
nonrec def rCat:R2:=fun x y H Q=>∃ l b xs zs,x=.ref l/\y=.ref b/\H l=some (.lst xs)/\H b=some (.lst zs)/\xs.length+zs.length<=sizeLine/\∀ p,H p=none->Q (.ref p) (upd H p (.lst (xs++zs)))
theorem Ygt:OpR X (Uab .Add) rCat:=by
 intro pins s σ H x y v u Q I rx ry h
 obtain⟨l,b,xs,zs,rfl,rfl,hH,hB,hz,q⟩:=h
 cases rx
 cases ry
 obtain⟨z,its,n,r,hl,e⟩:=I.lstM hH
 obtain⟨z2,its2,n2,r2,hl2,e2⟩:=I.lstM hB
 refine PySem.P.add_list e e2 ?_ (by rw[Xo,Xo]; omega)
 have ea:its.toArray++its2.toArray=(its++its2).toArray:=by simp
 rw[ea]
 exact⟨.ref _,_,I.lnew (t':=s.toks) (r.append r2) (by rw[Xq]; omega),rfl,q _ I.fresh⟩
nonrec def rRep:R2:=fun x y H Q=>∃ l k xs,x=.ref l/\y=.int k/\H l=some (.lst xs) /\ -(2 ^ 63)<=k/\k<2 ^ 63/\xs.length*k.toNat<=sizeLine /\
 ∀ p,H p=none->Q (.ref p) (upd H p (.lst (Xl k.toNat xs).flatten))
theorem Zqj {α:Type} (xs:List α) (k:Nat):(Xl k xs).flatten.length=k*xs.length:=by
 induction k with
 | zero=>simp
 | succ k ih=>rw[Was,Wcb,Xq,ih,Nat.succ_mul,Nat.add_comm]
theorem Ygx:OpR X (Uab .Mult) rRep:=by
 intro pins s σ H x y v u Q I rx ry h
 obtain⟨l,k,xs,rfl,rfl,hH,h1,h2,hz,q⟩:=h
 cases rx
 obtain⟨t,rfl⟩:=ry
 obtain⟨z,its,n,r,hl,e⟩:=I.lstM hH
 have hlen:its.toArray.size*k.toNat<=sizeLine:=by rw[Xo,<- hl]; exact hz
 have hcap:¬ its.toArray.size*k.toNat > (2 ^ 63 - 1) / 8:=by
  have:(sizeLine:Nat)<=(2 ^ 63 - 1) / 8:=by decide
  omega
 have hfit:¬ (!Builtin.List.listFitsIndex k)=true:=by
  rw[fitsIndex_both h1 h2]
  exact Waz
 have hlong:¬ Tap (its.toArray.size*k.toNat)=true:=by
  rw[Zzg hlen]
  exact Waz
 have hnew:Wem (fun x1 x2=>x1++x2) #[] (Xl (if its.toArray.isEmpty=true then 0 else k.toNat) its.toArray)=(Xl k.toNat its).flatten.toArray:=by
  have f0:∀ m:Nat,Wem (fun x1 x2=>x1++x2) #[] (Xl m its.toArray)=(Xl m its).flatten.toArray:=fun m=>by
   have:=Zj4 its m []
   rw[Wdc] at this
   exact this
  rw[f0]
  cases its with
  | nil=>simp
  | cons a r'=>rw[if_neg (by simp)]
 refine Ucb (T := "list") (U := "int") (by decide) ⟨_,e,rfl⟩ (fun s'=>Uda s' k t) noFill_list_mul F.fills_int_mul Tbd repeat_list F.slot_int_index.lookup
  (Ubr Tbd (Uda s k t) F.entry_int_rmul (Tcj _ _) (int___rmul___int_list k t l its.toArray n)
   ⟨e,rfl,⟨_,e,rfl⟩,Ubr F.slot_list_mul ⟨_,e,rfl⟩ F.entry_list_mul (F.args_list_mul_2 _ _) (AutoListH.list___mul___list_int_3 l its.toArray n k t hfit hcap hlong) ⟨e,?_⟩⟩)
 rw[hnew]
 exact⟨.ref _,_,I.lnew (t':=s.toks) (r.rep k.toNat) (by rw[Zqj,Wgb]; exact hz),rfl,q _ I.fresh⟩
end
section
variable {prog:Vi} {w:Vs} {A:Vr} {E:Vb->Vd->Prop} {s:Vd}
set_option maxRecDepth 100000 in
end
end L2
namespace Att
open PySem PySem.W PySem.Calls PyProof.Rows
theorem Zjp {P:Params} {h:Vy}:∀ (ns:List Int) (vs:List Vb),WellAll P h vs (ns.map WData.int)->Ubg vs ns:=by
 intro ns
 induction ns with
 | nil =>
  intro vs w
  rw[Wdl] at w
  cases w
  exact .nil
 | cons n ns ih =>
  intro vs w
  rw[Xn] at w
  cases w with
  | cons a b =>
   cases a
   exact .cons _ _ (ih _ b)
theorem Zvn {l:OpenLaw} {n:Nat} (hn:l.most=some n) {P:Params} {h:Vy} {args:List WData} {vals:List Vb}
  (hpre:l.row.toRowW.claim.pre args=true) (hwl:WellAll P h vals args) :
  ∃ a vs ns,vals=[Uh a]/\args=[WData.list (ns.map WData.int)]/\h.get? a=some { cls:=.type "list",data:=.seq vs.toArray }/\Ubg vs ns/\ns.length<=n:=by
 have hsh:WShape.hasAll [] args [.list .int]=true:=(pre_splitW hpre).1
 have hc:l.pre.holds [] { args:=args }=true:=(pre_splitW hpre).2
 obtain⟨d,r,rfl,h1,h2⟩:=hasAllW_cons hsh
 obtain rfl:=hasAllW_nil h2
 obtain⟨xs,rfl,h3⟩:=hasW_list h1
 obtain⟨ns,rfl⟩:=items_int h3
 have hlen:ns.length<=n:=by
  unfold OpenLaw.pre at hc
  have h4:(WTm.not (.lt (.lit (.int (n:Int))) (.len (.arg 0)))).holds [] { args:=[.list (ns.map .int)] }=true:=by
   have h4:=(holds_andW hc).1
   rw[hn] at h4
   exact h4
  have h5:=condW_of h4 (w_not (w_lt w_lit (w_len_list (w_arg rfl))))
  rw[Xr] at h5
  refine Nat.le_of_not_lt fun q=>?_
  have q':(n:Int)<((ns.length:Nat):Int):=by omega
  first
   | (rw[decide_eq_true q'] at h5; exact absurd h5 (by decide))
   | (simp at h5; omega)
 cases hwl with
 | cons w1 w2 =>
  cases w2
  cases w1 with
  | list ho hall=>exact⟨_,_,ns,rfl,rfl,ho,Zjp ns _ hall,hlen⟩
theorem Zvs (l:OpenLaw) (args:List WData):l.row.toRowW.claim.post args (.bool true) args=true :=
 postW_of (r:=l.row.toRowW) (X:=(true==true))
  (show WShape.has [] (.bool true) .bool=true by first | rfl | decide | simp[WShape.has,WShape.arms,WShape.armsAll])
  (show (WTm.eq .res (.lit (.bool true))).value [] { args:=args,res:=some (.bool true),after:=args }=some (.bool (true==true)) from w_eq_bool (w_res rfl) w_lit) rfl
theorem attach_call {l:OpenLaw} {n:Nat} {q:Vi} {loose:List Str} {XP:(Str->Option Vb)->Vy->Prop} {YP:Vs->Vy->Prop} {d:DefRec}
  (hn:l.most=some n) (hdf:d.params.defaults=[])
  (call:∀ (w:Vs) (s₀ s₁:Vd) (mg mb:Str->Option Vb) (fa:Ve) (o:Obj) (pm cd doc:Vb) (a:Ve) (vs:List Vb) (ns:List Int),
   Ground q loose [] XP w s₀ mg mb s₁.heap->YP w s₁.heap ->
   s₁.heap.get? fa=some o->o.data=.func (docDef d.name d.params d.body d.scope pm cd doc)->s₁.heap.CodeRec cd d.name->mg d.name=some (.ref fa) ->
   s₁.heap.get? a=some { cls:=.type "list",data:=.seq vs.toArray }->Ubg vs ns->ns.length<=n->s₁.gens = #[] ->
   Uca (Vl l.prog w) Udy (.call (.ref fa) ⟨[.ref a],[]⟩) (fun r s'=>r=.ok (.ret (.bool true))/\OldK s₁.heap s'.heap/\s'.os=s₁.os/\Ucp s'.gens) s₁) :
  WalkO q loose XP YP l.row.toRowW d [] (fun f vs=>Tcw f vs):=by
 intro w s₀ s₁ mg mb G Y fa o pm cd doc dV kV ho hd hcd hD hmg hg args vals as hpre hlay hrd hwl hlo
 obtain rfl:dV=.none:=Dflts.none hD hdf
 obtain rfl:kV=.none:=Dflts.noKw hD
 obtain⟨a,vs,ns,rfl,rfl,hobj,hints,hlen⟩:=Zvn hn hpre hwl
 refine enter_call (Uas (call w s₀ s₁ mg mb fa o pm cd doc a vs ns G Y ho (fd_plain hd) hcd hmg hobj hints hlen hg) fun r s' hq=>?_)
 obtain⟨rfl,h2,h3,h4⟩:=hq
 exact⟨.inl ⟨.bool true,.bool true,[],rfl,fun _=>rfl,.bool true,Zvs l _,fun _=>⟨List.Pairwise.nil,fun _ hm=>(nomatch hm)⟩⟩,h2,h3,h4⟩
end Att
namespace L2
open PySem PySem.Spec PyProof.Rows
theorem vals_ints:∀ {vs:List Vb} {ns:List Int},Ubg vs ns->Zb4 (ns.map V.int) vs
 | _,_,.nil=>.nil
 | _,_,.cons n t h=>.cons ⟨t,rfl⟩ (vals_ints h)
nonrec abbrev KOf {K:Xb} {h:Vy} (_:K.In h):Xb:=K
nonrec def Zb1 (s:Vw):Uej:=match s with
 | .FunctionDef _ a _ _ _ _ _ _ _ _=>a
 | _=>{ posonlyargs:=[],args:=[],vararg:=none,kwonlyargs:=[],kw_defaults:=[],kwarg:=none,defaults:=[] }
nonrec def Za1 (s:Vw):List Vw:=match s with
 | .FunctionDef _ _ b _ _ _ _ _ _ _=>b
 | _=>[]
nonrec def Zad (s:Vw):Ubo:=match s with
 | .FunctionDef _ _ _ _ _ _ sc _ _ _=>sc
 | _=>{ kind:=.function,names:=[],isGenerator:=false,isCoroutine:=false }
nonrec abbrev CX0:CXT:=fun _ _ _ _ _ _=>False
nonrec abbrev E0:XK:=fun _ _ _=>False
theorem Zv7 {X:Cx}:Zkf CX0 X E0:=fun _ _ _ _ _ _ _ h=>h.elim
structure Fun (K:Xb) (x qual:Str) (st:Vw) (f:Ve) (fd:Uat):Prop where
 ex:∃ (oc:Vb) (od:Option Ve) (kV doc pm:Vb) (an:Option Ve) (cdv ct:Vb) (osl:Array (Option Vb)),
  fd=Wba x qual (Zb1 st) (Za1 st) (Zad st) .none kV doc pm an cdv ct/\K.lookup f=some ⟨oc,od,.func fd,osl⟩/\Wcs K cdv qual=true
 kp:Wbt K (.ref f)=true
section
variable {P:Vi} {w:Vs} {K:Xb} {mg:Str->Option Vb} {base:Vy}
theorem Fun.ok {x qual:Str} {st:Vw} {f:Ve} {fd:Uat} {N ps:List Str} {k:Nat} {sp:Sp} (F:Fun K x qual st f fd) (S:FnScope N ps (Zad st)) (len:∀ vs H Q E,sp vs H Q E->vs.length=ps.length)
  (hbody:∀ (cdv:Vb) (A:Vr) (outer:List Env) (s:Vd) (H:Hp) (vs:List V) (Q:VK) (E:XK),Room k (A.deeper (Uaw qual (Zad st) s.heap.objs.size f cdv))->sp vs H Q E ->
   ∃ t,PSs (Zlo CX0 P w K mg base N qual (Zad st) f cdv A outer s H E).nox (Za1 st) t/\t { nx:=fun _ H'=>Q .non H',rt:=Q } (start N vs) H):FnOk P w K mg base CX0 (k+1) f fd ps sp:=by
 obtain⟨oc,od,kV,doc,pm,an,cdv,ct,osl,rfl,lk,hcd⟩:=F.ex
 refine fn_of lk hcd S len fun A outer s H vs Q E hr hsp=>?_
 obtain⟨t,h,q⟩:=hbody cdv A outer s H vs Q E hr hsp
 exact⟨t,h.nox,q⟩
theorem Fun.binds {x qual:Str} {st:Vw} {f:Ve} {fd:Uat} {ps:List Str} (F:Fun K x qual st f fd)
  (h:∀ (kV doc pm:Vb) (an:Option Ve) (cdv ct:Vb) (us:List Vb),us.length=ps.length->Ubq (Wba x qual (Zb1 st) (Za1 st) (Zad st) .none kV doc pm an cdv ct) ⟨us,[]⟩=pure (ps.zip us)):Zip K fd ps []:=by
 obtain⟨oc,od,kV,doc,pm,an,cdv,ct,osl,rfl,lk,hcd⟩:=F.ex
 exact .all (h kV doc pm an cdv ct)
theorem Zr2 {x qual:Str} {st:Vw} {f:Ve} {oc:Vb} {od an:Option Ve} {osl:Array (Option Vb)} {kV doc pm cdv ct:Vb} (l:K.lookup f=some ⟨oc,od,.func (Wba x qual (Zb1 st) (Za1 st) (Zad st) .none kV doc pm an cdv ct),osl⟩)
  (c:Wcs K cdv qual=true) (k:Wbt K (.ref f)=true):Fun K x qual st f (Wba x qual (Zb1 st) (Za1 st) (Zad st) .none kV doc pm an cdv ct):=⟨⟨oc,od,kV,doc,pm,an,cdv,ct,osl,rfl,l,c⟩,k⟩
end
section
variable {X:Cx}
theorem pv (i:Nat) {x:Str} {pos:Pos} (hN:X.N[i]? = some x:=by rfl) (hv:Vis X.env.scope x:=by first | exact Tbe rfl | exact Tay (Tbe rfl) | exact Tay (Tay rfl)) (hd:(x==("__debug__" : Str))=false:=by decide)
  (hcd:(x==("__classdict__" : Str))=false:=by decide):PE X (.Name x pos) (Yfj i):=Yhr hN hv hd hcd
end
end L2
set_option maxHeartbeats 4000000
set_option autoImplicit false
namespace DL
open PySem PySem.Spec PyProof.Rows L2
nonrec def Zx1:Vb->Option Int
 | .int i _=>some i
 | .bool b=>some (if b then 1 else 0)
 | _=>none
nonrec def Zos (k:Int) (v:Vb):Bool:=Zx1 v==some k
theorem Zff {k:Int} {v:Vb} (h:Zos k v=true):(∃ t,v=.int k t)\/∃ b,v=.bool b/\k=(if b then 1 else 0):=by
 have h:Zx1 v=some k:=eq_of_beq h
 cases v with
 | int i t=>exact .inl ⟨t,by cases h; rfl⟩
 | bool b=>exact .inr ⟨b,rfl,(Xx.inj h).symm⟩
 | _=>cases h
section
variable {prog:Vi} {w:Vs} {A:Vr} {E:Vb->Vd->Prop} {s:Vd}
theorem Zqc {b:Bool} {Q:Int->Vd->Prop} (h:Q (Uef (if b then 1 else 0)) { s with toks:=s.toks+1 }):Vg (Vl prog w) A (pyHash (.bool b)) Q E s:=by
 have hr:=rawHash_range (if b then 1 else 0)
 have tb:s.TypeIs (.bool b) "bool" := rfl
 unfold pyHash
 have hv:[Tbp b].any Value.onHeap=false:=rfl
 refine Va ?_
 rw[cRoomFor,if_neg (by rw[hv]; exact Waz)]; refine Vc ?_
 refine Va (wpAny_specialOf tb Taw.lookup ?_)
 show Vg _ _ (if (some (Value.builtin "int.__hash__")==some Uq)=true then _ else _) Q E s
 rw[if_neg (by rw[beq_builtin_none]; exact Waz)]
 refine Va (wpAny_specialOf tb Taw.lookup ?_)
 show Vg _ _ (callSpecialIfBoundUnlessNone? (.bool b) "__hash__" _ >>= _) Q E s
 refine Va (wpAny_callSpecialIfBoundUnlessNone?_slot tb Taw
  (Vp Taw tb entry_int_hash
   (show Vg _ _ (do ret (<- mkInt (rawHash (if b then 1 else 0)))) _ _ s from wpAny_ret_mkInt ?_) (args_int_hash _)))
 show Vg _ _ (if (decide (-(2:Int) ^ 63<=rawHash (if b then 1 else 0))&&decide (rawHash (if b then 1 else 0)<2 ^ 63))=true then _ else _) Q E _
 rw[if_pos (by rw[decide_eq_true hr.1,decide_eq_true hr.2]; rfl)]
 exact Vc h
end
nonrec def Zcy (prog:Vi) (w:Vs):KeyKind prog w Int where
 is:=Zos
 hash:=Uef
 inj:=fun v a b ha hb=>by
  unfold Zos at ha hb
  have:=(eq_of_beq ha).symm.trans (eq_of_beq hb)
  exact Xx.inj this
 byValue:=fun k v h=>by rcases Zff h with ⟨t,rfl⟩ | ⟨b,rfl,_⟩<;>rfl
 pyHash:=fun hv h=>by
  rcases Zff hv with ⟨t,rfl⟩ | ⟨b,rfl,rfl⟩
  ·exact wpAny_pyHash_int h
  ·exact Zqc h
 eqBool:=fun {A E s a b u v Q} hu hv h=>by
  rcases Zff hu with ⟨t,rfl⟩ | ⟨c,rfl,rfl⟩<;>rcases Zff hv with ⟨t',rfl⟩ | ⟨c',rfl,rfl⟩
  ·exact wpAny_eqBool_int h
  ·exact Tct _ _ _ prog w E Q h
  ·exact Tcu _ _ _ prog w E Q h
  ·refine Tcs _ _ prog w E Q ?_
   have e:(c==c')=decide ((if c then (1:Int) else 0)=(if c' then 1 else 0)):=by cases c<;>cases c'<;>rfl
   rw[e]; exact h
 «strs»:=fun k x t v h=>by simp[Zos,Zx1] at h
nonrec def iIsz (k:Int) (v:Vb):Bool:=match v with
 | .int i _=>i==k
 | _=>false
theorem Zl5 {k:Int} {v:Vb} (h:iIsz k v=true):∃ t,v=.int k t:=by
 cases v with
 | int i t=>exact⟨t,by rw[eq_of_beq (show (i==k)=true from h)]⟩
 | _=>cases h
theorem Zka {k:Int} {t:Tok}:iIsz k (.int k t)=true:=beq_self_eq_true k
theorem Zgn {k:Int} {v:Vb} (h:iIsz k v=true):Zos k v=true:=by
 obtain⟨t,rfl⟩:=Zl5 h
 exact beq_self_eq_true (some k)
nonrec def Zyk (prog:Vi) (w:Vs):KeyKind prog w Int where
 is:=iIsz
 hash:=Uef
 inj:=fun v a b ha hb=>(Zcy prog w).inj v a b (Zgn ha) (Zgn hb)
 byValue:=fun k v h=>(Zcy prog w).byValue k v (Zgn h)
 pyHash:=fun hv h=>(Zcy prog w).pyHash (Zgn hv) h
 eqBool:=fun {A E s a b u v Q} hu hv h=>(Zcy prog w).eqBool (a:=a) (b:=b) (Zgn hu) (Zgn hv) h
 «strs»:=fun k x t v h=>by cases h
inductive D where
 | non | bl (b:Bool) | int (i:Int) | str (x:Str) | ty (n:String) | tup (xs:List D) | fl (xs:List D) | ref (n:Nat)
inductive DO where
 | lst (xs:List D) | dic (kvs:List (D×D)) (fz:Bool) | dci (kvs:List (Int×D)) | dcn (kvs:List (D×D)) | obj (cn:Str) (fs:List (Str×D)) | exc (cn:Str) | clo (n:String) (x:Str) (d:D) | tab (n:String) (b:Bool)
nonrec abbrev HD:=List DO
nonrec abbrev SD:=List (Option D)
def FzL (K:Xb) (H:Hp) (a:Ve) (xs:List V):Prop :=
 (∃ o,H a=some (.frz o (.lst xs))) \/
  ∃ (o:Obj) (its:Array Vb) (n:Nat),K.lookup a=some o/\o.cls=.type "list" /\ o.dict=none/\o.data=.seq its n/\its.size<=sizeLine/\Zb4 xs its.toList
theorem FzL.sq {K:Xb} {H:Hp} {a:Ve} {xs:List V} (h:FzL K H a xs):SqL K H a xs:=by
 rcases h with h | h
 ·exact .inl (.inr h)
 ·exact .inr h
nonrec def Yau (n:String):Bool:=n == "bool" || n == "int" || n == "str" || n == "tuple" || n == "list"
mutual
noncomputable def Rep (K:Xb) (H:Hp) (ι:List Ve):D->V->Prop
 | .non,v=>v=.non
 | .bl b,v=>v=.bl b
 | .int i,v=>v=.int i
 | .str x,v=>v=.str x
 | .ty n,v=>(Yau n=true/\v=.ty n)\/(Yau n=false/\∃ a,v=.ref a/\Wcy K Vh (Ua n)=some (some (.ref a)))
 | .tup ds,v=>∃ a vs,v=.ref a/\SqT K H a vs/\Zoa K H ι ds vs
 | .fl ds,v=>∃ a vs,v=.ref a/\FzL K H a vs/\Zoa K H ι ds vs
 | .ref n,v=>∃ a,v=.ref a/\ι[n]? = some a
noncomputable def Zoa (K:Xb) (H:Hp) (ι:List Ve):List D->List V->Prop
 | [],vs=>vs=[]
 | d::ds,vs=>∃ v r,vs=v::r/\Rep K H ι d v/\Zoa K H ι ds r
end
section
variable {α β:Type} {F G:α->β->Prop}
theorem Prd.len:∀ {xs:List α} {us:List β},Vj F xs us->xs.length=us.length
 | _,_,.nil=>rfl
 | _,_,.cons _ t=>by simp[Prd.len t]
theorem Prd.get:∀ {xs:List α} {us:List β} {i:Nat} {x:α},Vj F xs us->xs[i]? = some x->∃ u,us[i]? = some u/\F x u
 | _,_,_,_,.nil,e=>by simp at e
 | _,_,0,_,.cons r _,e=>by simp at e; subst e; exact⟨_,rfl,r⟩
 | _,_,i+1,x,.cons _ t,e=>by
  obtain⟨u,h1,h2⟩:=Prd.get (i:=i) (x:=x) t (by simpa using e)
  exact⟨u,by simpa using h1,h2⟩
theorem Prd.append:∀ {xs ys:List α} {us ws:List β},Vj F xs us->Vj F ys ws->Vj F (xs++ys) (us++ws)
 | _,_,_,_,.nil,s=>s
 | _,_,_,_,.cons r t,s=>.cons r (Prd.append t s)
theorem Prd.take:∀ {xs:List α} {us:List β} (n:Nat),Vj F xs us->Vj F (xs.take n) (us.take n)
 | _,_,0,_=>.nil
 | _,_,_+1,.nil=>.nil
 | _,_,n+1,.cons r t=>.cons r (Prd.take n t)
theorem Prd.drop:∀ {xs:List α} {us:List β} (n:Nat),Vj F xs us->Vj F (xs.drop n) (us.drop n)
 | _,_,0,r=>r
 | _,_,_+1,.nil=>.nil
 | _,_,n+1,.cons _ t=>Prd.drop n t
theorem Prd.rep {xs:List α} {us:List β} (h:Vj F xs us):∀ k:Nat,Vj F (Xl k xs).flatten (Xl k us).flatten
 | 0=>.nil
 | k+1=>by
  rw[Was,Wcb,Was,Wcb]
  exact Prd.append h (Prd.rep h k)
theorem Prd.imp:∀ {xs:List α} {us:List β},Vj F xs us->(∀ a b,a∈xs->F a b->G a b)->Vj G xs us
 | _,_,.nil,_=>.nil
 | _,_,.cons r t,f=>.cons (f _ _ (by simp) r) (Prd.imp t fun a b h=>f a b (by simp[h]))
end
section
variable {K:Xb} {H H':Hp} {ι ι':List Ve}
theorem Zef:∀ {ds:List D} {vs:List V},Zoa K H ι ds vs ↔ Vj (Rep K H ι) ds vs
 | [],vs=>by
  constructor
  ·intro h; rw[Zoa] at h; subst h; exact .nil
  ·intro h; cases h; rw[Zoa]
 | d::ds,vs=>by
  constructor
  ·intro h; rw[Zoa] at h
   obtain⟨v,r,rfl,h1,h2⟩:=h
   exact .cons h1 (Zef.mp h2)
  ·intro h
   cases h with
   | cons h1 h2=>rw[Zoa]; exact⟨_,_,rfl,h1,Zef.mpr h2⟩
@[simp] theorem rep_non {v:V}:Rep K H ι .non v ↔ v=.non:=by rw[Rep]
@[simp] theorem rep_bl {b:Bool} {v:V}:Rep K H ι (.bl b) v ↔ v=.bl b:=by rw[Rep]
@[simp] theorem rep_int {i:Int} {v:V}:Rep K H ι (.int i) v ↔ v=.int i:=by rw[Rep]
@[simp] theorem rep_str {x:Str} {v:V}:Rep K H ι (.str x) v ↔ v=.str x:=by rw[Rep]
theorem Ya8 {n:String} {v:V} (h:Yau n=true):Rep K H ι (.ty n) v ↔ v=.ty n:=by rw[Rep]; simp[h]
theorem Ybf {n:String} {v:V} (h:Yau n=false):Rep K H ι (.ty n) v ↔ ∃ a,v=.ref a/\Wcy K Vh (Ua n)=some (some (.ref a)):=by rw[Rep]; simp[h]
theorem Zbe {ds:List D} {v:V}:Rep K H ι (.tup ds) v ↔ ∃ a vs,v=.ref a/\SqT K H a vs/\Vj (Rep K H ι) ds vs:=by
 rw[Rep]
 constructor
 ·rintro⟨a,vs,h1,h2,h3⟩; exact⟨a,vs,h1,h2,Zef.mp h3⟩
 ·rintro⟨a,vs,h1,h2,h3⟩; exact⟨a,vs,h1,h2,Zef.mpr h3⟩
theorem Zhr {ds:List D} {v:V}:Rep K H ι (.fl ds) v ↔ ∃ a vs,v=.ref a/\FzL K H a vs/\Vj (Rep K H ι) ds vs:=by
 rw[Rep]
 constructor
 ·rintro⟨a,vs,h1,h2,h3⟩; exact⟨a,vs,h1,h2,Zef.mp h3⟩
 ·rintro⟨a,vs,h1,h2,h3⟩; exact⟨a,vs,h1,h2,Zef.mpr h3⟩
theorem Zay {n:Nat} {v:V}:Rep K H ι (.ref n) v ↔ ∃ a,v=.ref a/\ι[n]? = some a:=by rw[Rep]
structure Lw (K:Xb) (H:Hp) (ι:List Ve) (H':Hp) (ι':List Ve):Prop where
 tup:∀ a xs,SqT K H a xs->SqT K H' a xs
 fz:∀ a xs,FzL K H a xs->FzL K H' a xs
 pre:∃ t,ι'=ι++t
 fr:∀ a o u,H a=some (.frz o u)->H' a=some (.frz o u)
structure Le (K:Xb) (H:Hp) (ι:List Ve) (H':Hp) (ι':List Ve):Prop extends Lw K H ι H' ι' where
 frame:∀ a o,H a=some o->a∉ι->H' a=some o/\a∉ι'
theorem Le.refl:Le K H ι H ι:=⟨⟨fun _ _ h=>h,fun _ _ h=>h,⟨[],by simp⟩,fun _ _ _ h=>h⟩,fun _ _ h n=>⟨h,n⟩⟩
theorem Le.trans {H1 H2:Hp} {ι1 ι2:List Ve} (a:Le K H ι H1 ι1) (b:Le K H1 ι1 H2 ι2):Le K H ι H2 ι2:=by
 refine⟨⟨fun x xs h=>b.tup x xs (a.tup x xs h),fun x xs h=>b.fz x xs (a.fz x xs h),?_,fun x o u h=>b.fr x o u (a.fr x o u h)⟩,fun x o h n=>?_⟩
 ·obtain⟨t,e⟩:=a.pre
  obtain⟨u,e'⟩:=b.pre
  exact⟨t++u,by rw[e',e,Wab]⟩
 ·obtain⟨h1,n1⟩:=a.frame x o h n
  exact b.frame x o h1 n1
theorem Lw.get (l:Lw K H ι H' ι') {n:Nat} {a:Ve} (h:ι[n]? = some a):ι'[n]? = some a:=by
 obtain⟨t,e⟩:=l.pre
 rw[e,Xg (by exact(Xc.mp h).1),h]
mutual
theorem Rep.monoW (l:Lw K H ι H' ι'):∀ {d:D} {v:V},Rep K H ι d v->Rep K H' ι' d v
 | .non,v,h=>by rw[Rep] at h ⊢; exact h
 | .bl _,v,h=>by rw[Rep] at h ⊢; exact h
 | .int _,v,h=>by rw[Rep] at h ⊢; exact h
 | .str _,v,h=>by rw[Rep] at h ⊢; exact h
 | .ty _,v,h=>by rw[Rep] at h ⊢; exact h
 | .tup ds,v,h=>by
  rw[Rep] at h ⊢
  obtain⟨a,vs,h1,h2,h3⟩:=h
  exact⟨a,vs,h1,l.tup a vs h2,Zoa.monoW l h3⟩
 | .fl ds,v,h=>by
  rw[Rep] at h ⊢
  obtain⟨a,vs,h1,h2,h3⟩:=h
  exact⟨a,vs,h1,l.fz a vs h2,Zoa.monoW l h3⟩
 | .ref n,v,h=>by
  rw[Rep] at h ⊢
  obtain⟨a,h1,h2⟩:=h
  exact⟨a,h1,l.get h2⟩
theorem Zoa.monoW (l:Lw K H ι H' ι'):∀ {ds:List D} {vs:List V},Zoa K H ι ds vs->Zoa K H' ι' ds vs
 | [],vs,h=>by rw[Zoa] at h ⊢; exact h
 | d::ds,vs,h=>by
  rw[Zoa] at h ⊢
  obtain⟨v,r,h1,h2,h3⟩:=h
  exact⟨v,r,h1,Rep.monoW l h2,Zoa.monoW l h3⟩
end
theorem Rep.mono (l:Le K H ι H' ι') {d:D} {v:V} (h:Rep K H ι d v):Rep K H' ι' d v:=Rep.monoW l.toLw h
theorem Prd.monoW (l:Lw K H ι H' ι') {ds:List D} {vs:List V} (h:Vj (Rep K H ι) ds vs):Vj (Rep K H' ι') ds vs:=Zef.mp (Zoa.monoW l (Zef.mpr h))
theorem Prd.mono (l:Le K H ι H' ι') {ds:List D} {vs:List V} (h:Vj (Rep K H ι) ds vs):Vj (Rep K H' ι') ds vs:=Prd.monoW l.toLw h
nonrec def nkOf:D->Option Int
 | .int i=>some i
 | .bl b=>some (if b then 1 else 0)
 | _=>none
nonrec def Znc:List D->Option (List Int)
 | []=>some []
 | d::r=>(nkOf d).bind fun k=>(Znc r).map fun ks=>k::ks
nonrec def nk:D->Option (List Int)
 | .tup ds=>Znc ds
 | _=>none
nonrec def Yhi (ks:List Int):Int:=reduceHash (Tbo (ks.map Uef))
def Zdc (a:Ve) (xs:List (List Int×Ve×Vb)) (h:Vy):Prop :=
 ∃ o es ep,h.get? a=some o/\o.ExactDict/\o.data=.dict es ep/\es.toList=xs.map (fun x=>(⟨Yhi x.1,.ref x.2.1,x.2.2⟩:Uan))/\(xs.map (·.1)).Nodup
theorem Zdc.keep {a:Ve} {xs:List (List Int×Ve×Vb)} {h1 h2:Vy} (d:Zdc a xs h1) (k:∀ o,h1.get? a=some o->h2.get? a=some o):Zdc a xs h2:=by
 obtain⟨o,es,ep,e,r⟩:=d
 exact⟨o,es,ep,k o e,r⟩
def Zue (K:Xb) (H:Hp) (ι:List Ve) (p:D×D) (x:List Int×Ve×Vb):Prop:=nk p.1=some x.1/\Rep K H ι p.1 (.ref x.2.1)/\∃ v,Zcd v x.2.2/\Rep K H ι p.2 v
def Zfr (a:Ve) (xs:List (Int×Vb)) (h:Vy):Prop:=∀ (p:Vi) (w:Vs),h.DictOf (Zyk p w) a xs
theorem Zfr.keep {a:Ve} {xs:List (Int×Vb)} {h1 h2:Vy} (d:Zfr a xs h1) (k:∀ o,h1.get? a=some o->h2.get? a=some o):Zfr a xs h2:=fun p w=>by
 obtain⟨o,es,ep,e,r⟩:=d p w
 exact⟨o,es,ep,k o e,r⟩
def Zz4 (K:Xb) (H:Hp) (ι:List Ve) (p:Int×D) (x:Int×Vb):Prop:=p.1=x.1/\∃ v,Zcd v x.2/\Rep K H ι p.2 v
nonrec def nk2:D->Option (Int×List Int)
 | .tup [a,b]=>(nkOf a).bind fun i=>(nk b).map fun ks=>(i,ks)
 | _=>none
nonrec def nHash (k:Int×List Int):Int:=reduceHash (Tbo [Uef k.1,Yhi k.2])
def DcnAt (a:Ve) (xs:List ((Int×List Int)×Ve×Vb)) (h:Vy):Prop :=
 ∃ o es ep,h.get? a=some o/\o.ExactDict/\o.data=.dict es ep/\es.toList=xs.map (fun x=>(⟨nHash x.1,.ref x.2.1,x.2.2⟩:Uan))/\(xs.map (·.1)).Nodup
def NRep (K:Xb) (H:Hp) (ι:List Ve) (p:D×D) (x:(Int×List Int)×Ve×Vb):Prop:=nk2 p.1=some x.1/\Rep K H ι p.1 (.ref x.2.1)/\∃ v,Zcd v x.2.2/\Rep K H ι p.2 v
def Yic (K:Xb) (H:Hp) (ι:List Ve) (p:Str×D) (x:Str×V):Prop:=p.1=x.1/\Rep K H ι p.2 x.2
def ExcAt (a C:Ve) (h:Vy):Prop:=∃ o,h.get? a=some o/\o.cls=.ref C
nonrec def fzO (a:Ve) (o:Obj):HO:=.frz o (.ext fun h=>h.get? a=some o)
nonrec def Ygi:Vw->Pos
 | .FunctionDef _ _ _ _ _ _ _ _ _ p=>p
 | _=>default
nonrec def Yfb:Vw->Str
 | .FunctionDef n _ _ _ _ _ _ _ _ _=>n
 | _=>default
def Zkw (K:Xb) (n:String) (st:Vw):Prop:=∃ f0 o0 fd0 rest,Wcy K Vh (Ua n)=some (some (.ref f0))/\K.lookup f0=some o0/\o0.data=.func fd0/\fd0.body=.stmts (st::rest)
def Ztz (H:Hp) (c':Ve) (qual:Str):Prop:=∃ o vs t,H c'=some (fzO c' o)/\o.data=.fields vs/\vs[1]? = some (.str qual t)
def Zt6 (K:Xb) (H:Hp) (n:String) (x:Str) (a:Ve) (w:V):Prop :=
 ∃ st nm qual doc pm ct c c' oc uc u,Zkw K n st/\H a=some (fzO a (PySem.W.fnMade nm qual (Zb1 st) (Za1 st) (Zad st) [(x,c)] doc pm c' ct))/\Ztz H c' qual/\H c=some (.frz oc uc)/\oc.data=.cell (some u)/\Zcd w u
def TabAt (K:Xb) (H:Hp) (n:String) (a:Ve) (b:Bool):Prop :=
 ∃ st c ps,Zkw K n st/\PySem.W.tabIn K (Ua n)=some (c,a)/\H a=some (.tbl ps)/\TriplesOk ps.toList/\(b=false->codeAmong (Ygi st) ps.toList=none) /\
  (b=true->∃ c',codeAmong (Ygi st) ps.toList=some (.ref c')/\Ztz H c' (Ua n ++ ".<locals>." ++ Yfb st))
nonrec def Zt4 (K:Xb) (H:Hp) (ι:List Ve) (a:Ve):DO->Prop
 | .lst ds=>∃ vs,H a=some (.lst vs)/\Vj (Rep K H ι) ds vs
 | .dic kvs fz=>(a==Uag)=false/\kvs.length<=sizeLine/\∃ xs,(if fz=true then ∃ o,H a=some (.frz o (.ext (Zdc a xs))) else H a=some (.ext (Zdc a xs)))/\Vj (Zue K H ι) kvs xs
 | .dci kvs=>(a==Uag)=false/\kvs.length<=sizeLine/\∃ xs,H a=some (.ext (Zfr a xs))/\Vj (Zz4 K H ι) kvs xs
 | .dcn kvs=>(a==Uag)=false/\kvs.length<=sizeLine/\∃ xs,H a=some (.ext (DcnAt a xs))/\Vj (NRep K H ι) kvs xs
 | .obj cn fs=>∃ C dx xs,Wcy K Vh cn=some (some (.ref C))/\H a=some (.ins C dx xs)/\Vj (Yic K H ι) fs xs
 | .exc cn=>∃ C,Wcy K Vh cn=some (some (.ref C))/\H a=some (.ext (ExcAt a C))
 | .clo n x d=>∃ w,Zt6 K H n x a w/\Rep K H ι d w
 | .tab n b=>TabAt K H n a b
structure HRep (K:Xb) (H:Hp) (ι:List Ve) (Hd:HD):Prop where
 len:ι.length=Hd.length
 nd:ι.Nodup
 obj:∀ (n:Nat) (a:Ve) (o:DO),ι[n]? = some a->Hd[n]? = some o->Zt4 K H ι a o
theorem Zt4.there {a:Ve} {o:DO} (h:Zt4 K H ι a o):H a≠none:=by
 cases o with
 | lst ds=>obtain⟨vs,e,_⟩:=h; rw[e]; simp
 | dic kv fz =>
  obtain⟨_,_,xs,e,_⟩:=h
  cases fz with
  | true=>rw[if_pos rfl] at e; obtain⟨ob,e⟩:=e; rw[e]; simp
  | false=>rw[if_neg (by simp)] at e; rw[e]; simp
 | dci kv=>obtain⟨_,_,xs,e,_⟩:=h; rw[e]; simp
 | dcn kv=>obtain⟨_,_,xs,e,_⟩:=h; rw[e]; simp
 | obj cn fs=>obtain⟨C,dx,xs,_,e,_⟩:=h; rw[e]; simp
 | exc cn=>obtain⟨C,_,e⟩:=h; rw[e]; simp
 | clo n x d=>obtain⟨w,⟨_,_,_,_,_,_,_,_,_,_,_,_,e,_⟩,_⟩:=h; rw[e]; simp
 | tab n b=>obtain⟨_,_,_,_,_,e,_⟩:=h; rw[e]; simp
theorem Ztz.step {c':Ve} {qual:Str} (h:Ztz H c' qual) (l:Lw K H ι H' ι'):Ztz H' c' qual:=by
 obtain⟨o,vs,t,e,r⟩:=h
 exact⟨o,vs,t,l.fr _ _ _ e,r⟩
theorem Zt6.step {n:String} {x:Str} {a:Ve} {w:V} (h:Zt6 K H n x a w) (l:Lw K H ι H' ι'):Zt6 K H' n x a w:=by
 obtain⟨st,nm,qual,doc,pm,ct,c,c',oc,uc,u,h1,h2,h3,h4,h5⟩:=h
 exact⟨st,nm,qual,doc,pm,ct,c,c',oc,uc,u,h1,l.fr _ _ _ h2,h3.step l,l.fr _ _ _ h4,h5⟩
theorem Zt4.step {a:Ve} {o:DO} (h:Zt4 K H ι a o) (l:Lw K H ι H' ι') (e:H' a=H a):Zt4 K H' ι' a o:=by
 cases o with
 | lst ds=>obtain⟨vs,q,r⟩:=h; exact⟨vs,by rw[e,q],Prd.monoW l r⟩
 | dic kv fz=>obtain⟨h1,h2,xs,q,r⟩:=h; exact⟨h1,h2,xs,by rw[e]; exact q,Prd.imp r fun p x _ z=>⟨z.1,Rep.monoW l z.2.1,let ⟨v,z1,z2⟩:=z.2.2; ⟨v,z1,Rep.monoW l z2⟩⟩⟩
 | dci kv=>obtain⟨h1,h2,xs,q,r⟩:=h; exact⟨h1,h2,xs,by rw[e]; exact q,Prd.imp r fun p x _ z=>⟨z.1,let ⟨v,z1,z2⟩:=z.2; ⟨v,z1,Rep.monoW l z2⟩⟩⟩
 | dcn kv=>obtain⟨h1,h2,xs,q,r⟩:=h; exact⟨h1,h2,xs,by rw[e]; exact q,Prd.imp r fun p x _ z=>⟨z.1,Rep.monoW l z.2.1,let ⟨v,z1,z2⟩:=z.2.2; ⟨v,z1,Rep.monoW l z2⟩⟩⟩
 | obj cn fs=>obtain⟨C,dx,xs,h1,q,r⟩:=h; exact⟨C,dx,xs,h1,by rw[e]; exact q,Prd.imp r fun p x _ z=>⟨z.1,Rep.monoW l z.2⟩⟩
 | exc cn=>obtain⟨C,h1,q⟩:=h; exact⟨C,h1,by rw[e]; exact q⟩
 | clo n x d=>obtain⟨w,h1,h2⟩:=h; exact⟨w,h1.step l,Rep.monoW l h2⟩
 | tab n b =>
  obtain⟨st,c,ps,h1,h2,h3,h4,h5,h6⟩:=h
  refine⟨st,c,ps,h1,h2,by rw[e]; exact h3,h4,h5,fun hb=>?_⟩
  obtain⟨c',h7,h8⟩:=h6 hb
  exact⟨c',h7,h8.step l⟩
theorem HRep.at {Hd:HD} (h:HRep K H ι Hd) {n:Nat} {o:DO} (e:Hd[n]? = some o):∃ a,ι[n]? = some a/\Zt4 K H ι a o:=by
 have hl:n<ι.length:=by rw[h.len]; exact(Xc.mp e).1
 exact⟨ι[n],by simp[hl],h.obj n _ o (by simp[hl]) e⟩
theorem HRep.has {Hd:HD} (h:HRep K H ι Hd) {a:Ve} (hm:a∈ι):∃ (n:Nat) (o:DO),ι[n]? = some a/\Hd[n]? = some o/\Zt4 K H ι a o:=by
 obtain⟨n,hn⟩:=Wby.mp hm
 have hl:n<Hd.length:=by rw[<- h.len]; exact(Xc.mp hn).1
 exact⟨n,Hd[n],hn,by simp[hl],h.obj n a Hd[n] hn (by simp[hl])⟩
theorem HRep.fresh {Hd:HD} (h:HRep K H ι Hd) {p:Ve} (hp:H p=none):p∉ι:=fun hm=>by
 obtain⟨_,_,_,_,o⟩:=h.has hm
 exact o.there hp
theorem HRep.keep {Hd:HD} (h:HRep K H ι Hd) (l:Lw K H ι H' ι) (e:∀ a∈ι,H' a=H a):HRep K H' ι Hd :=
 ⟨h.len,h.nd,fun n a o h1 h2=>(h.obj n a o h1 h2).step l (e a (Xk h1))⟩
theorem Lw.fresh {p:Ve} (hp:H p=none) (o:HO):Lw K H ι (upd H p o) ι where
 tup:=fun a xs h=>by
  rcases h with (h | ⟨ob,h⟩) | h
  ·exact .inl (.inl (by rw[Zah (Zai h hp)]; exact h))
  ·exact .inl (.inr ⟨ob,by rw[Zah (Zai h hp)]; exact h⟩)
  ·exact .inr h
 fz:=fun a xs h=>by
  rcases h with ⟨ob,h⟩ | h
  ·exact .inl ⟨ob,by rw[Zah (Zai h hp)]; exact h⟩
  ·exact .inr h
 pre:=⟨[],by simp⟩
 fr:=fun a ob u h=>by rw[Zah (Zai h hp)]; exact h
theorem Le.fresh {p:Ve} (hp:H p=none) (o:HO):Le K H ι (upd H p o) ι:=⟨Lw.fresh hp o,fun a ob h n=>⟨by rw[Zah (Zai h hp)]; exact h,n⟩⟩
theorem Le.fresh1 {p:Ve} (hp:H p=none) (o:HO):Le K H ι (upd H p o) (ι++[p]) where
 tup:=(Le.fresh (ι:=ι) hp o).tup
 fz:=(Le.fresh (ι:=ι) hp o).fz
 pre:=⟨[p],rfl⟩
 fr:=(Le.fresh (K:=K) (ι:=ι) hp o).fr
 frame:=fun a ob h n=>⟨by rw[Zah (Zai h hp)]; exact h,by
  have:=Zai h hp
  simp[n,this]⟩
theorem HRep.tup {Hd:HD} (h:HRep K H ι Hd) {p:Ve} (hp:H p=none) (o:HO):HRep K (upd H p o) ι Hd :=
 h.keep (Lw.fresh hp o) fun a ha=>Zah fun z=>by subst z; exact h.fresh hp ha
theorem HRep.new {Hd:HD} (h:HRep K H ι Hd) {p:Ve} (hp:H p=none) {u:HO} {o:DO} (ho:Zt4 K (upd H p u) (ι++[p]) p o):HRep K (upd H p u) (ι++[p]) (Hd++[o]):=by
 have hf:=h.fresh hp
 refine⟨by simp[h.len],by simp only[Wbf,h.nd,true_and]; exact⟨by simp,fun a ha b hb e=>hf (by simp at hb; rw[<- hb,<- e]; exact ha)⟩,fun n a ob h1 h2=>?_⟩
 by_cases hn:n<ι.length
 ·rw[Xg hn] at h1
  rw[Xg (by rw[<- h.len]; exact hn)] at h2
  have ha:a∈ι:=Xk h1
  exact(h.obj n a ob h1 h2).step (Le.fresh1 hp u).toLw (Zah fun z=>by subst z; exact hf ha)
 ·rw[Xs (by omega)] at h1
  rw[Xs (by rw[<- h.len]; omega)] at h2
  rw[<- h.len] at h2
  have:n - ι.length=0:=by
   have:=(Xc.mp h1).1
   simp at this; omega
  rw[this] at h1 h2
  simp at h1 h2
  subst h1; subst h2
  exact ho
nonrec def Yg5:HO->Prop
 | .lst _=>True
 | .ext _=>True
 | .ins _ _ _=>True
 | .tbl _=>True
 | _=>False
theorem Le.upd {a:Ve} (ha:a∈ι) {o:HO} (e:H a=some o) (lo:Yg5 o) (u:HO):Le K H ι (upd H a u) ι where
 tup:=fun b xs h=>by
  rcases h with (h | ⟨ob,h⟩) | h
  ·refine .inl (.inl ?_)
   rw[Zah (Zok h e (by rintro rfl; exact lo))]; exact h
  ·refine .inl (.inr ⟨ob,?_⟩)
   rw[Zah (Zok h e (by rintro rfl; exact lo))]; exact h
  ·exact .inr h
 fz:=fun b xs h=>by
  rcases h with ⟨ob,h⟩ | h
  ·refine .inl ⟨ob,?_⟩
   rw[Zah (Zok h e (by rintro rfl; exact lo))]; exact h
  ·exact .inr h
 pre:=⟨[],by simp⟩
 fr:=fun b ob w h=>by rw[Zah (Zok h e (by rintro rfl; exact lo))]; exact h
 frame:=fun b ob h n=>⟨by rw[Zah (by rintro rfl; exact n ha)]; exact h,n⟩
theorem HRep.upd {Hd:HD} (h:HRep K H ι Hd) {n:Nat} {a:Ve} (hn:ι[n]? = some a) {o u:HO} (e:H a=some o) (lo:Yg5 o) {ob:DO} (ho:Zt4 K (upd H a u) ι a ob):HRep K (upd H a u) ι (Hd.set n ob):=by
 refine⟨by simp[h.len],h.nd,fun m b oc h1 h2=>?_⟩
 by_cases hm:n=m
 ·subst hm
  rw[hn] at h1; cases h1
  rw[Wdj] at h2
  rw[if_pos rfl] at h2
  split at h2
  ·cases h2; exact ho
  ·cases h2
 ·rw[Wal hm] at h2
  have hb:b≠a:=fun z=>by
   subst z
   have l1:=(Xc.mp hn).1
   exact hm ((Wfs l1 h.nd).mp (hn.trans h1.symm))
  exact(h.obj m b oc h1 h2).step (Le.upd (Xk hn) e lo u).toLw (Zah hb)
theorem HRep.add {Hd:HD} (h:HRep K H ι Hd) {p:Ve} (hp:p∉ι) {o:DO} (ho:Zt4 K H (ι++[p]) p o):HRep K H (ι++[p]) (Hd++[o]):=by
 refine⟨by simp[h.len],by simp only[Wbf,h.nd,true_and]; exact⟨by simp,fun a ha b hb e=>hp (by simp at hb; rw[<- hb,<- e]; exact ha)⟩,fun n a ob h1 h2=>?_⟩
 by_cases hn:n<ι.length
 ·rw[Xg hn] at h1
  rw[Xg (by rw[<- h.len]; exact hn)] at h2
  exact(h.obj n a ob h1 h2).step ⟨fun _ _ z=>z,fun _ _ z=>z,⟨[p],rfl⟩,fun _ _ _ z=>z⟩ rfl
 ·rw[Xs (by omega)] at h1
  rw[Xs (by rw[<- h.len]; omega)] at h2
  rw[<- h.len] at h2
  have:n - ι.length=0:=by
   have:=(Xc.mp h1).1
   simp at this; omega
  rw[this] at h1 h2
  simp at h1 h2
  subst h1; subst h2
  exact ho
theorem Lw.side {p:Ve} {ys:List V} (hp:H p=some (.lst ys)) (u:HO):Lw K H ι (L2.upd H p u) ι where
 tup:=fun a xs h=>by
  rcases h with (h | ⟨ob,h⟩) | h
  ·refine .inl (.inl ?_)
   rw[Zah (Zok h hp (by intro z; cases z))]; exact h
  ·refine .inl (.inr ⟨ob,?_⟩)
   rw[Zah (Zok h hp (by intro z; cases z))]; exact h
  ·exact .inr h
 fz:=fun a xs h=>by
  rcases h with ⟨ob,h⟩ | h
  ·refine .inl ⟨ob,?_⟩
   rw[Zah (Zok h hp (by intro z; cases z))]; exact h
  ·exact .inr h
 pre:=⟨[],by simp⟩
 fr:=fun a ob w h=>by rw[Zah (Zok h hp (by intro z; cases z))]; exact h
theorem Lw.trans {H1 H2:Hp} {ι1 ι2:List Ve} (a:Lw K H ι H1 ι1) (b:Lw K H1 ι1 H2 ι2):Lw K H ι H2 ι2:=by
 refine⟨fun x xs h=>b.tup x xs (a.tup x xs h),fun x xs h=>b.fz x xs (a.fz x xs h),?_,fun x o u h=>b.fr x o u (a.fr x o u h)⟩
 obtain⟨t,e⟩:=a.pre
 obtain⟨u,e'⟩:=b.pre
 exact⟨t++u,by rw[e',e,Wab]⟩
theorem Le.side {H1:Hp} {ι1:List Ve} {p:Ve} {ys:List V} (l:Le K H ι H1 ι1) (h0:H p=none) (h1:H1 p=some (.lst ys)) (u:HO):Le K H ι (L2.upd H1 p u) ι1 :=
 ⟨l.toLw.trans (Lw.side h1 u),fun a o h n=>by
  obtain⟨q,m⟩:=l.frame a o h n
  exact⟨by rw[Zah (Zai h h0)]; exact q,m⟩⟩
structure SRep (K:Xb) (H:Hp) (ι:List Ve) (σ:L2.St) (σd:SD):Prop where
 len:σ.length=σd.length
 var:∀ (i:Nat) (d:D),σd[i]? = some (some d)->∃ v,σ[i]? = some (some v)/\Rep K H ι d v
theorem SRep.mono {σ:L2.St} {σd:SD} (s:SRep K H ι σ σd) (l:Le K H ι H' ι'):SRep K H' ι' σ σd :=
 ⟨s.len,fun i d h=>let ⟨v,h1,h2⟩:=s.var i d h; ⟨v,h1,h2.mono l⟩⟩
theorem SRep.set {σ:L2.St} {σd:SD} {d:D} {v:V} (s:SRep K H ι σ σd) (r:Rep K H ι d v) (i:Nat):SRep K H ι (σ.set i (some v)) (σd.set i (some d)):=by
 refine⟨by simp[s.len],fun j e h=>?_⟩
 by_cases hj:i=j
 ·subst hj
  rw[Wdj] at h ⊢
  rw[if_pos rfl] at h ⊢
  split at h
  ·rename_i hl
   rw[if_pos (by rw[s.len]; exact hl)]
   cases h
   exact⟨v,rfl,r⟩
  ·cases h
 ·rw[Wal hj] at h ⊢
  exact s.var j e h
end
nonrec def Zsn:Vv->Bool
 | .Starred _ _=>false
 | _=>true
theorem Zbq {e:Vv} {es:List Vv} {env:Env} (h:Zsn e=true):Vf (e::es) env=(false,eval e env)::Vf es env:=by
 cases e<;>first | rfl | cases h
theorem Zck {pos:Pos} {env:Env}:∀ {es:List Vv},es.all Zsn=true->(Uac pos (Vf es env)).any (·.1)=false
 | [],_=>rfl
 | e::es,h=>by
  rw[Wdd,Wai] at h
  rw[Zbq h.1]
  show (false||(Uac pos (Vf es env)).any (·.1))=false
  rw[Zck h.2]
  rfl
theorem Zru {pos:Pos} {env:Env} {es:List Vv} (h:es.all Zsn=true) (hl:es.length<30):((Uac pos (Vf es env)).all (fun x => !x.1)&&(Ubk pos (Uak [] env)).all (fun x=>x.1.isSome)
   && decide (es.length+([]:List Ucf).length+(if ([]:List Ucf).isEmpty then 0 else 1)<30))=true:=by
 have h1:=Zck (pos:=pos) (env:=env) h
 have h2:(Uac pos (Vf es env)).all (fun x => !x.1)=true:=by
  rw[Xu]
  intro x hx
  rw[Wbu] at h1
  have:=h1 x hx
  simpa using this
 have h3:decide (es.length+([]:List Ucf).length+(if ([]:List Ucf).isEmpty then 0 else 1)<30)=true:=by
  rw[decide_eq_true_eq]
  simpa using hl
 rw[h2,h3]
 rfl
nonrec abbrev EF:=SD->HD->Option (D×HD)
nonrec abbrev TF:=SD->HD->Option (Bool×HD)
nonrec abbrev AF:=SD->HD->Option (List D×HD)
inductive FD where
 | nx | bk | ct | rt (d:D)
nonrec abbrev SF:=SD->HD->Option (FD×SD×HD)
nonrec abbrev GF:=D->SD->HD->Option (SD×HD)
nonrec abbrev FF:=List D->HD->Option (D×HD)
nonrec abbrev F2:=D->D->HD->Option (D×HD)
def QE (K:Xb) (H:Hp) (ι:List Ve) (d:D) (Hd':HD) (Q:VK):Prop:=∀ v H' ι',Le K H ι H' ι'->HRep K H' ι' Hd'->Rep K H' ι' d v->Q v H'
nonrec def rdE (K:Xb) (f:EF):TE:=fun σ H Q=>∃ ι σd Hd d Hd',SRep K H ι σ σd/\HRep K H ι Hd/\f σd Hd=some (d,Hd')/\QE K H ι d Hd' Q
nonrec def rdT (K:Xb) (f:TF):TT:=fun σ H Q=>∃ ι σd Hd b Hd',SRep K H ι σ σd/\HRep K H ι Hd/\f σd Hd=some (b,Hd')/\∀ H' ι',Le K H ι H' ι'->HRep K H' ι' Hd'->Q b H'
nonrec def rdA (K:Xb) (f:AF):TA:=fun σ H Q=>∃ ι σd Hd ds Hd',SRep K H ι σ σd/\HRep K H ι Hd/\f σd Hd=some (ds,Hd')/\∀ vs H' ι',Le K H ι H' ι'->HRep K H' ι' Hd'->Vj (Rep K H' ι') ds vs->Q vs H'
def QS (K:Xb) (H:Hp) (ι:List Ve) (fl:FD) (σd':SD) (Hd':HD) (E:Ends):Prop:=∀ σ' H' ι',Le K H ι H' ι'->HRep K H' ι' Hd'->SRep K H' ι' σ' σd' ->
 match fl with
 | .nx=>E.nx σ' H'
 | .bk=>E.bk σ' H'
 | .ct=>E.ct σ' H'
 | .rt d=>∀ v,Rep K H' ι' d v->E.rt v H'
nonrec def rdS (K:Xb) (f:SF):TS:=fun E σ H=>∃ ι σd Hd fl σd' Hd',SRep K H ι σ σd/\HRep K H ι Hd/\f σd Hd=some (fl,σd',Hd')/\QS K H ι fl σd' Hd' E
nonrec def rdG (K:Xb) (g:GF):TG:=fun v σ H Q=>∃ ι σd Hd d σd' Hd',SRep K H ι σ σd/\HRep K H ι Hd/\Rep K H ι d v/\g d σd Hd=some (σd',Hd') /\
 ∀ σ' H' ι',Le K H ι H' ι'->HRep K H' ι' Hd'->SRep K H' ι' σ' σd'->Q σ' H'
nonrec def rd2 (K:Xb) (g:F2):R2:=fun x y H Q=>∃ ι dx dy Hd d Hd',HRep K H ι Hd/\Rep K H ι dx x/\Rep K H ι dy y/\g dx dy Hd=some (d,Hd')/\QE K H ι d Hd' Q
nonrec def rd1 (K:Xb) (g:D->HD->Option (D×HD)):V->Hp->VK->Prop:=fun x H Q=>∃ ι dx Hd d Hd',HRep K H ι Hd/\Rep K H ι dx x/\g dx Hd=some (d,Hd')/\QE K H ι d Hd' Q
nonrec def rdC (K:Xb) (g:FF):List V->Hp->VK->Prop:=fun vs H Q=>∃ ι ds Hd d Hd',HRep K H ι Hd/\Vj (Rep K H ι) ds vs/\g ds Hd=some (d,Hd')/\QE K H ι d Hd' Q
nonrec def rdM (K:Xb) (g:D->List D->HD->Option (D×HD)):V->List V->Hp->VK->Prop:=fun v vs H Q=>∃ ι x ds Hd d Hd',HRep K H ι Hd/\Rep K H ι x v/\Vj (Rep K H ι) ds vs/\g x ds Hd=some (d,Hd')/\QE K H ι d Hd' Q
def PEf (X:Cx) (e:Vv) (f:EF):Prop:=PE X e (rdE X.K f)
def PTf (X:Cx) (e:Vv) (f:TF):Prop:=PT X e (rdT X.K f)
def PWf (X:Cx) (e:Vv) (f:TF):Prop:=PW X e (rdT X.K f)
def PAf (X:Cx) (es:List Vv) (f:AF):Prop:=PA X es (rdA X.K f)
def PSf (X:Cx) (st:Vw) (f:SF):Prop:=PS X st (rdS X.K f)
def Zpp (X:Cx) (st:List Vw) (f:SF):Prop:=PSs X st (rdS X.K f)
def PGf (X:Cx) (tg:Vv) (g:GF):Prop:=PG X tg (rdG X.K g)
def OpF (X:Cx) (f:Vb->Vb->Sem Vb) (g:F2):Prop:=OpR X f (rd2 X.K g)
def UnF (X:Cx) (f:Vb->Sem Vb) (g:D->HD->Option (D×HD)):Prop:=UnR X f (rd1 X.K g)
def Zir (X:Cx) (f:Vb) (g:FF):Prop:=Zj0 X f (rdC X.K g)
def IxF (X:Cx) (g:F2):Prop:=IxR X (rd2 X.K g)
def MtF (X:Cx) (id:String) (g:D->List D->HD->Option (D×HD)):Prop:=MtR X id (rdM X.K g)
section
variable {X:Cx} {e a b c:Vv} {es:List Vv} {pos:Pos} {st:Vw} {sts:List Vw}
theorem PEi {t t':TE} (h:PE X e t) (i:∀ σ H Q,t' σ H Q->t σ H Q):PE X e t':=fun pins s σ H Q I q=>h pins s σ H Q I (i σ H Q q)
theorem PTi {t t':TT} (h:PT X e t) (i:∀ σ H Q,t' σ H Q->t σ H Q):PT X e t':=fun pins s σ H Q I q=>h pins s σ H Q I (i σ H Q q)
theorem PWi {t t':TT} (h:PW X e t) (i:∀ σ H Q,t' σ H Q->t σ H Q):PW X e t':=fun wh pins s σ H Q I q=>h wh pins s σ H Q I (i σ H Q q)
theorem PAi {t t':TA} (h:PA X es t) (i:∀ σ H Q,t' σ H Q->t σ H Q):PA X es t':=fun ps pins s σ H Q I q=>h ps pins s σ H Q I (i σ H Q q)
theorem PSi {t t':TS} (h:PS X st t) (i:∀ E σ H,t' E σ H->t E σ H):PS X st t':=fun pins s σ H E I q=>h pins s σ H E I (i E σ H q)
theorem PSsi {t t':TS} (h:PSs X sts t) (i:∀ E σ H,t' E σ H->t E σ H):PSs X sts t':=fun pins s σ H E I q=>h pins s σ H E I (i E σ H q)
theorem PGi {t t':TG} (h:PG X e t) (i:∀ v σ H Q,t' v σ H Q->t v σ H Q):PG X e t':=fun pins s σ H v u Q I r q=>h pins s σ H v u Q I r (i v σ H Q q)
theorem OpRi {f:Vb->Vb->Sem Vb} {t t':R2} (h:OpR X f t) (i:∀ x y H Q,t' x y H Q->t x y H Q):OpR X f t':=fun pins s σ H x y v u Q I r1 r2 q=>h pins s σ H x y v u Q I r1 r2 (i x y H Q q)
nonrec def Zac (i:Nat):EF:=fun σ H=>(σ[i]?).join.map fun d=>(d,H)
nonrec def eC (d:D):EF:=fun _ H=>some (d,H)
theorem Zaa {i:Nat} {x:Str} (h:PE X (.Name x pos) (Yfj i)):PEf X (.Name x pos) (Zac i):=by
 refine PEi h fun σ H Q zz=>?_
 obtain⟨ι,σd,Hd,d,Hd',s,hr,e,q⟩:=zz
 unfold Zac at e
 cases hx:σd[i]? with
 | none=>rw[hx] at e; cases e
 | some o =>
  cases o with
  | none=>rw[hx] at e; cases e
  | some d0 =>
   rw[hx] at e
   have e':(d0,Hd)=(d,Hd'):=Xx.inj e
   obtain⟨rfl,rfl⟩:=Way.inj e'
   obtain⟨v,h1,h2⟩:=s.var i d0 hx
   exact⟨v,h1,q v H ι Le.refl hr h2⟩
theorem Zq7 {v:V} {d:D} (h:PE X e (tC v)) (r:∀ H ι,Rep X.K H ι d v):PEf X e (eC d):=by
 refine PEi h fun σ H Q zz=>?_
 obtain⟨ι,σd,Hd,d',Hd',s,hr,e,q⟩:=zz
 cases e
 exact q v H ι Le.refl hr (r H ι)
theorem Zae {i j}:PEf X (.Constant (.int i) j pos) (eC (.int i)):=Zq7 Yb0 fun _ _=>by simp
theorem Zix {b j}:PEf X (.Constant (.bool b) j pos) (eC (.bl b)):=Zq7 pe_bl fun _ _=>by simp
theorem Zie {j}:PEf X (.Constant .none j pos) (eC .non):=Zq7 Ygg fun _ _=>by simp
theorem Zbf {x j}:PEf X (.Constant (.str x) j pos) (eC (.str x)):=Zq7 Yfo fun _ _=>by simp
theorem Zx6 {x:Str} {n:String} (hg:Gl X x) (hm:X.mg x=none) (hv:Vq x=some (.type n)) (hn:x ≠ "__name__" := by decide) (hd:(x==("__debug__" : Str))=false:=by decide) (ht:Yau n=true:=by decide):PEf X (.Name x pos) (eC (.ty n)) :=
 Zq7 (Ycx (v:=.ty n) hg hm hv rfl hn hd) fun _ _=>(Ya8 ht).mpr rfl
nonrec def eOp (g:F2) (fa fb:EF):EF:=fun σ H=>(fa σ H).bind fun p=>(fb σ p.2).bind fun q=>g p.1 q.1 q.2
theorem Zy7 {fa fb:EF} {g:F2} {σ:L2.St} {H:Hp} {Q:VK} {K:Xb} (h:rdE K (eOp g fa fb) σ H Q):tOp (rd2 K g) (rdE K fa) (rdE K fb) σ H Q:=by
 obtain⟨ι,σd,Hd,d,Hd',s,hr,e,q⟩:=h
 obtain⟨⟨x,H1⟩,e1,e⟩:=Zo e
 obtain⟨⟨y,H2⟩,e2,e⟩:=Zo e
 exact⟨ι,σd,Hd,x,H1,s,hr,e1,fun v1 H1' ι1 l1 h1 r1=>⟨ι1,σd,H1,y,H2,s.mono l1,h1,e2,fun v2 H2' ι2 l2 h2 r2 =>
  ⟨ι2,x,y,H2,d,Hd',h2,r1.mono l2,r2,e,fun v H' ι' l h r=>q v H' ι' ((l1.trans l2).trans l) h r⟩⟩⟩
theorem Zav {op:Uee} {g:F2} {fa fb:EF} (ho:OpF X (Uab op) g) (ha:PEf X a fa) (hb:PEf X b fb):PEf X (.BinOp a op b pos) (eOp g fa fb) :=
 PEi (pe_op ho ha hb) fun _ _ _ h=>Zy7 h
theorem Zbt {op:CmpOp} {g:F2} {fa fb:EF} (ho:OpF X (Vt op) g) (ha:PEf X a fa) (hb:PEf X b fb) (hm:Ubd op b=false):PEf X (.Compare a [op] [b] pos) (eOp g fa fb) :=
 PEi (Yco ho ha hb hm) fun _ _ _ h=>Zy7 h
theorem Za3 {g:F2} {fa fb:EF} (ho:IxF X g) (ha:PEf X a fa) (hb:PEf X b fb) (hs:Zu9 b):PEf X (.Subscript a b pos) (eOp g fa fb) :=
 PEi (pe_ix ho ha hb hs) fun _ _ _ h=>Zy7 h
nonrec def eUn (g:D->HD->Option (D×HD)) (fa:EF):EF:=fun σ H=>(fa σ H).bind fun p=>g p.1 p.2
theorem Zen {op:UnaryOp} {g:D->HD->Option (D×HD)} {fa:EF} (ho:UnF X (unaryOp op) g) (ha:PEf X a fa):PEf X (.UnaryOp op a pos) (eUn g fa):=by
 refine PEi (pe_un ho ha) fun σ H Q zz=>?_
 obtain⟨ι,σd,Hd,d,Hd',s,hr,e,q⟩:=zz
 obtain⟨⟨x,H1⟩,e1,e⟩:=Zo e
 exact⟨ι,σd,Hd,x,H1,s,hr,e1,fun v1 H1' ι1 l1 h1 r1=>⟨ι1,x,H1,d,Hd',h1,r1,e,fun v H' ι' l h r=>q v H' ι' (l1.trans l) h r⟩⟩
nonrec def blD:D->Option Bool
 | .bl b=>some b
 | _=>none
nonrec def tOf (f:EF):TF:=fun σ H=>(f σ H).bind fun p=>(blD p.1).map fun b=>(b,p.2)
theorem Zjs {K:Xb} {H:Hp} {ι:List Ve} {d:D} {b:Bool} {v:V} (e:blD d=some b) (r:Rep K H ι d v):v=.bl b:=by
 cases d<;>simp[blD] at e
 subst e
 simpa using r
theorem Zap {op:CmpOp} {g:F2} {fa fb:EF} (ho:OpF X (Vt op) g) (ha:PEf X a fa) (hb:PEf X b fb) (hm:Ubd op b=false):PTf X (.Compare a [op] [b] pos) (tOf (eOp g fa fb)):=by
 refine PTi (Ydm ho ha hb hm) fun σ H Q zz=>?_
 obtain⟨ι,σd,Hd,bb,Hd',s,hr,e,q⟩:=zz
 obtain⟨⟨x,H1⟩,e1,e⟩:=Zo e
 obtain⟨b',eb,e⟩:=Zm e
 cases e
 exact Zy7 ⟨ι,σd,Hd,x,H1,s,hr,e1,fun v H' ι' l h r=>⟨bb,Zjs eb r,q H' ι' l h⟩⟩
nonrec def Zwx:D->HD->Option Bool
 | .non,_=>some false
 | .bl b,_=>some b
 | .int i,_=>some (i != 0)
 | .tup xs,_=>some (!xs.isEmpty)
 | .fl xs,_=>some (!xs.isEmpty)
 | .str x,_=>if x.length<=sizeLine then some ((x.length:Int) != 0) else none
 | .ref n,H=>match H[n]? with
  | some (.lst xs)=>some (!xs.isEmpty)
  | _=>none
 | _,_=>none
theorem Zk2 {α β:Type} {F:α->β->Prop} {xs:List α} {us:List β} (r:Vj F xs us):(!us.isEmpty) = !xs.isEmpty:=by cases r<;>rfl
theorem Yd2 {K:Xb} {H:Hp} {ι:List Ve} {Hd:HD} {d:D} {k:Bool} {v:V} (hr:HRep K H ι Hd) (r:Rep K H ι d v) (e:Zwx d Hd=some k):TruV K v H k:=by
 cases d with
 | non=>simp at r; subst r; simp[Zwx] at e; subst e; exact rfl
 | bl b=>simp at r; subst r; simp[Zwx] at e; subst e; exact rfl
 | int i=>simp at r; subst r; simp[Zwx] at e; subst e; exact rfl
 | ty n=>simp[Zwx] at e
 | str x =>
  simp at r; subst r
  simp only[Zwx] at e
  split at e
  ·rename_i hl
   cases e
   exact⟨hl,rfl⟩
  ·cases e
 | tup xs =>
  obtain⟨ad,vs,rfl,h,p⟩:=Zbe.mp r
  cases (show some (!xs.isEmpty)=some k from e)
  exact .inr (.inl ⟨vs,h,by rw[Zk2 p]⟩)
 | fl xs =>
  obtain⟨ad,vs,rfl,h,p⟩:=Zhr.mp r
  cases (show some (!xs.isEmpty)=some k from e)
  exact .inl ⟨vs,h.sq,by rw[Zk2 p]⟩
 | ref n =>
  obtain⟨ad,rfl,h⟩:=Zay.mp r
  simp only[Zwx] at e
  split at e
  ·rename_i xs ho
   cases e
   obtain⟨vs,h1,p⟩:=hr.obj n ad _ h ho
   exact .inl ⟨vs,SqL.of h1,by rw[Zk2 p]⟩
  ·cases e
nonrec def Zgv (f:EF):TF:=fun σ H=>(f σ H).bind fun p=>(Zwx p.1 p.2).map fun b=>(b,p.2)
theorem Zho {fa:EF} (ha:PEf X a fa) (he:∀ whole,isTrue a X.env whole=(do let v<-whole; Udm a.pos; Ubt [v] (truthy v))):PTf X a (Zgv fa):=by
 refine PTi (Zy3 ha he) fun σ H Q zz=>?_
 obtain⟨ι,σd,Hd,bb,Hd',s,hr,e,q⟩:=zz
 obtain⟨⟨x,H1⟩,e1,e⟩:=Zo e
 obtain⟨b',eb,e⟩:=Zm e
 cases e
 exact⟨ι,σd,Hd,x,H1,s,hr,e1,fun v H' ι' l h r=>⟨bb,Yd2 h r eb,q H' ι' l h⟩⟩
nonrec def tNo (t:TF):TF:=fun σ H=>(t σ H).map fun p=>(!p.1,p.2)
nonrec def tAn (t u:TF):TF:=fun σ H=>(t σ H).bind fun p=>if p.1=true then u σ p.2 else some (false,p.2)
nonrec def Zn0 (t u:TF):TF:=fun σ H=>(t σ H).bind fun p=>if p.1=true then some (true,p.2) else u σ p.2
theorem Ydg {t:TF} (h:PTf X a t):PTf X (.UnaryOp .Not a pos) (tNo t):=by
 refine PTi (Yh7 h) fun σ H Q zz=>?_
 obtain⟨ι,σd,Hd,bb,Hd',s,hr,e,q⟩:=zz
 obtain⟨⟨x,H1⟩,e1,e⟩:=Zm e
 cases e
 exact⟨ι,σd,Hd,x,H1,s,hr,e1,fun H' ι' l h=>q H' ι' l h⟩
theorem Zhx {t:TF} (h:PTf X a t):PWf X (.BoolOp .And [a] pos) t:=Ydc h
theorem Yc4 {t:TF} (h:PTf X a t):PWf X (.BoolOp .Or [a] pos) t:=Yhx h
theorem Zw5 {t u:TF} (h:PTf X a t) (h2:PWf X (.BoolOp .And (b::es) pos) u):PWf X (.BoolOp .And (a::b::es) pos) (tAn t u):=by
 refine PWi (Ygy h h2) fun σ H Q zz=>?_
 obtain⟨ι,σd,Hd,bb,Hd',s,hr,e,q⟩:=zz
 obtain⟨⟨x,H1⟩,e1,e⟩:=Zo e
 refine⟨ι,σd,Hd,x,H1,s,hr,e1,fun H' ι' l h=>?_⟩
 cases x with
 | true =>
  rw[if_pos rfl]
  exact⟨ι',σd,H1,bb,Hd',s.mono l,h,by simpa using e,fun H2 ι2 l2 h2=>q H2 ι2 (l.trans l2) h2⟩
 | false =>
  rw[if_neg (by simp)]
  simp at e
  obtain⟨rfl,rfl⟩:=e
  exact q H' ι' l h
theorem Yfe {t u:TF} (h:PTf X a t) (h2:PWf X (.BoolOp .Or (b::es) pos) u):PWf X (.BoolOp .Or (a::b::es) pos) (Zn0 t u):=by
 refine PWi (pw_or h h2) fun σ H Q zz=>?_
 obtain⟨ι,σd,Hd,bb,Hd',s,hr,e,q⟩:=zz
 obtain⟨⟨x,H1⟩,e1,e⟩:=Zo e
 refine⟨ι,σd,Hd,x,H1,s,hr,e1,fun H' ι' l h=>?_⟩
 cases x with
 | true =>
  rw[if_pos rfl]
  simp at e
  obtain⟨rfl,rfl⟩:=e
  exact q H' ι' l h
 | false =>
  rw[if_neg (by simp)]
  exact⟨ι',σd,H1,bb,Hd',s.mono l,h,by simpa using e,fun H2 ι2 l2 h2=>q H2 ι2 (l.trans l2) h2⟩
theorem PWf.pt {t:TF} (h:PWf X a t):PTf X a t:=h _
nonrec def eNo (f:EF):EF:=fun σ H=>(f σ H).bind fun p=>(blD p.1).map fun b=>(.bl (!b),p.2)
nonrec def eAn (f g:EF):EF:=fun σ H=>(f σ H).bind fun p=>(blD p.1).bind fun b=>if b=true then g σ p.2 else some (.bl false,p.2)
nonrec def eOrr (f g:EF):EF:=fun σ H=>(f σ H).bind fun p=>(blD p.1).bind fun b=>if b=true then some (.bl true,p.2) else g σ p.2
nonrec def eIf (t:TF) (f g:EF):EF:=fun σ H=>(t σ H).bind fun p=>if p.1=true then f σ p.2 else g σ p.2
theorem Zwf {f:EF} (h:PEf X a f):PEf X (.UnaryOp .Not a pos) (eNo f):=by
 refine PEi (Yh1 h) fun σ H Q zz=>?_
 obtain⟨ι,σd,Hd,d,Hd',s,hr,e,q⟩:=zz
 obtain⟨⟨x,H1⟩,e1,e⟩:=Zo e
 obtain⟨b',eb,e⟩:=Zm e
 cases e
 exact⟨ι,σd,Hd,x,H1,s,hr,e1,fun v H' ι' l h r=>⟨b',Zjs eb r,q _ H' ι' l h (by simp)⟩⟩
theorem Yb7 {op} {f:EF} (h:PEf X a f):PEf X (.BoolOp op [a] pos) f:=Yha h
theorem Ydx {f g:EF} (h:PEf X a f) (h2:PEf X (.BoolOp .And (b::es) pos) g):PEf X (.BoolOp .And (a::b::es) pos) (eAn f g):=by
 refine PEi (Yhs h h2) fun σ H Q zz=>?_
 obtain⟨ι,σd,Hd,d,Hd',s,hr,e,q⟩:=zz
 obtain⟨⟨x,H1⟩,e1,e⟩:=Zo e
 obtain⟨b',eb,e⟩:=Zo e
 refine⟨ι,σd,Hd,x,H1,s,hr,e1,fun v H' ι' l h r=>⟨b',Zjs eb r,?_⟩⟩
 cases b' with
 | true =>
  rw[if_pos rfl]
  exact⟨ι',σd,H1,d,Hd',s.mono l,h,by simpa using e,fun v2 H2 ι2 l2 h2 r2=>q v2 H2 ι2 (l.trans l2) h2 r2⟩
 | false =>
  rw[if_neg (by simp)]
  simp at e
  obtain⟨rfl,rfl⟩:=e
  exact q _ H' ι' l h (by simp)
theorem Ygm {f g:EF} (h:PEf X a f) (h2:PEf X (.BoolOp .Or (b::es) pos) g):PEf X (.BoolOp .Or (a::b::es) pos) (eOrr f g):=by
 refine PEi (pe_or h h2) fun σ H Q zz=>?_
 obtain⟨ι,σd,Hd,d,Hd',s,hr,e,q⟩:=zz
 obtain⟨⟨x,H1⟩,e1,e⟩:=Zo e
 obtain⟨b',eb,e⟩:=Zo e
 refine⟨ι,σd,Hd,x,H1,s,hr,e1,fun v H' ι' l h r=>⟨b',Zjs eb r,?_⟩⟩
 cases b' with
 | true =>
  rw[if_pos rfl]
  simp at e
  obtain⟨rfl,rfl⟩:=e
  exact q _ H' ι' l h (by simp)
 | false =>
  rw[if_neg (by simp)]
  exact⟨ι',σd,H1,d,Hd',s.mono l,h,by simpa using e,fun v2 H2 ι2 l2 h2 r2=>q v2 H2 ι2 (l.trans l2) h2 r2⟩
theorem Zpl {t:TF} {f g:EF} (hc:PTf X c t) (ha:PEf X a f) (hb:PEf X b g):PEf X (.IfExp c a b pos) (eIf t f g):=by
 refine PEi (Zz5 hc ha hb) fun σ H Q zz=>?_
 obtain⟨ι,σd,Hd,d,Hd',s,hr,e,q⟩:=zz
 obtain⟨⟨x,H1⟩,e1,e⟩:=Zo e
 refine⟨ι,σd,Hd,x,H1,s,hr,e1,fun H' ι' l h=>?_⟩
 cases x with
 | true =>
  rw[if_pos rfl]
  exact⟨ι',σd,H1,d,Hd',s.mono l,h,by simpa using e,fun v2 H2 ι2 l2 h2 r2=>q v2 H2 ι2 (l.trans l2) h2 r2⟩
 | false =>
  rw[if_neg (by simp)]
  exact⟨ι',σd,H1,d,Hd',s.mono l,h,by simpa using e,fun v2 H2 ι2 l2 h2 r2=>q v2 H2 ι2 (l.trans l2) h2 r2⟩
nonrec def Zaf:AF:=fun _ H=>some ([],H)
nonrec def Zab (f:EF) (g:AF):AF:=fun σ H=>(f σ H).bind fun p=>(g σ p.2).map fun q=>(p.1::q.1,q.2)
theorem Za5:PAf X [] Zaf:=by
 refine PAi Yf6 fun σ H Q zz=>?_
 obtain⟨ι,σd,Hd,d,Hd',s,hr,e,q⟩:=zz
 cases e
 exact q [] H ι Le.refl hr .nil
theorem Zyt {f:EF} {g:AF} (ha:PEf X e f) (hr:PAf X es g) (hs:Vf (e::es) X.env=(false,eval e X.env)::Vf es X.env:=by exact Zbq rfl):PAf X (e::es) (Zab f g):=by
 refine PAi (Yei ha hr hs) fun σ H Q zz=>?_
 obtain⟨ι,σd,Hd,d,Hd',s,hr,e,q⟩:=zz
 obtain⟨⟨x,H1⟩,e1,e⟩:=Zo e
 obtain⟨⟨y,H2⟩,e2,e⟩:=Zm e
 cases e
 exact⟨ι,σd,Hd,x,H1,s,hr,e1,fun v1 H1' ι1 l1 h1 r1=>⟨ι1,σd,H1,y,H2,s.mono l1,h1,e2,fun vs H2' ι2 l2 h2 r2=>q _ H2' ι2 (l1.trans l2) h2 (.cons (r1.mono l2) r2)⟩⟩
nonrec def mkT (xs:List D) (H:HD):Option (D×HD):=if xs.length<=sizeLine then some (.tup xs,H) else none
nonrec def mkL (xs:List D) (H:HD):Option (D×HD):=if xs.length<=sizeLine then some (.ref H.length,H++[.lst xs]) else none
theorem Zje {xs:List D} {H:HD} {r:D×HD} (h:mkT xs H=some r):xs.length<=sizeLine/\r=(.tup xs,H):=by
 unfold mkT at h
 split at h
 ·rename_i hl; cases h; exact⟨hl,rfl⟩
 ·cases h
theorem Znk {xs:List D} {H:HD} {r:D×HD} (h:mkL xs H=some r):xs.length<=sizeLine/\r=(.ref H.length,H++[.lst xs]):=by
 unfold mkL at h
 split at h
 ·rename_i hl; cases h; exact⟨hl,rfl⟩
 ·cases h
theorem Zjx {K:Xb} {H:Hp} {ι:List Ve} {Hd Hd':HD} {xs:List D} {vs:List V} {d:D} {Q:VK} (hr:HRep K H ι Hd) (r:Vj (Rep K H ι) xs vs) (e:mkT xs Hd=some (d,Hd')) (q:QE K H ι d Hd' Q) :
  vs.length<=sizeLine/\∀ p,H p=none->Q (.ref p) (upd H p (.tup vs)):=by
 obtain⟨hl,e⟩:=Zje e
 cases e
 refine⟨by rw[<- Prd.len r]; exact hl,fun p hp=>?_⟩
 exact q _ _ ι (Le.fresh hp _) (hr.tup hp _) (Zbe.mpr ⟨p,vs,rfl,SqT.of Zas,Prd.mono (Le.fresh hp _) r⟩)
theorem Zhi {K:Xb} {H:Hp} {ι:List Ve} {Hd Hd':HD} {xs:List D} {vs:List V} {d:D} {Q:VK} (hr:HRep K H ι Hd) (r:Vj (Rep K H ι) xs vs) (e:mkL xs Hd=some (d,Hd')) (q:QE K H ι d Hd' Q) :
  vs.length<=sizeLine/\∀ p,H p=none->Q (.ref p) (upd H p (.lst vs)):=by
 obtain⟨hl,e⟩:=Znk e
 cases e
 refine⟨by rw[<- Prd.len r]; exact hl,fun p hp=>?_⟩
 refine q _ _ (ι++[p]) (Le.fresh1 hp _) (hr.new hp ⟨vs,Zas,Prd.mono (Le.fresh1 hp _) r⟩) (Zay.mpr ⟨p,rfl,?_⟩)
 rw[<- hr.len]; simp
nonrec def Zd1 (f:AF):EF:=fun σ H=>(f σ H).bind fun p=>mkT p.1 p.2
nonrec def Zgw (f:AF):EF:=fun σ H=>(f σ H).bind fun p=>mkL p.1 p.2
theorem Zc5 {f:AF} {x1} (h:PAf X es f):PEf X (.Tuple es x1 pos) (Zd1 f):=by
 refine PEi (Yhg h) fun σ H Q zz=>?_
 obtain⟨ι,σd,Hd,d,Hd',s,hr,e,q⟩:=zz
 obtain⟨⟨x,H1⟩,e1,e⟩:=Zo e
 exact⟨ι,σd,Hd,x,H1,s,hr,e1,fun vs H' ι' l h r=>Zjx h r e fun v2 H2 ι2 l2 h2 r2=>q v2 H2 ι2 (l.trans l2) h2 r2⟩
theorem Zqn {f:AF} (h:PAf X es f):PEf X (.List es pos) (Zgw f):=by
 refine PEi (Yh3 h) fun σ H Q zz=>?_
 obtain⟨ι,σd,Hd,d,Hd',s,hr,e,q⟩:=zz
 obtain⟨⟨x,H1⟩,e1,e⟩:=Zo e
 exact⟨ι,σd,Hd,x,H1,s,hr,e1,fun vs H' ι' l h r=>Zhi h r e fun v2 H2 ι2 l2 h2 r2=>q v2 H2 ι2 (l.trans l2) h2 r2⟩
nonrec def eCB (g:FF) (f:AF):EF:=fun σ H=>(f σ H).bind fun p=>g p.1 p.2
theorem Yg3 {f:AF} {g:FF} {σ:L2.St} {H:Hp} {Q:VK} {K:Xb} (h:rdE K (eCB g f) σ H Q):tCB (rdC K g) (rdA K f) σ H Q:=by
 obtain⟨ι,σd,Hd,d,Hd',s,hr,e,q⟩:=h
 obtain⟨⟨x,H1⟩,e1,e⟩:=Zo e
 exact⟨ι,σd,Hd,x,H1,s,hr,e1,fun vs H' ι' l h r=>⟨ι',x,H1,d,Hd',h,r,e,fun v2 H2 ι2 l2 h2 r2=>q v2 H2 ι2 (l.trans l2) h2 r2⟩⟩
theorem Zbx {x:Str} {id:String} {g:FF} {f:AF} {p:Pos} (hc:Zir X (.builtin id) g) (hg:Gl X x) (hm:X.mg x=none) (hv:Vq x=some (.builtin id)) (ha:PAf X (e::es) f) (hn:x ≠ "__name__" := by decide) (hdb:(x==("__debug__" : Str))=false:=by decide)
  (he:Vf (e::es) X.env=(false,eval e X.env)::Vf es X.env:=by exact Zbq rfl) (hpl:(Uac pos (Vf es X.env)).any (·.1)=false:=by exact Zck rfl):PEf X (.Call (.Name x p) (e::es) [] pos) (eCB g f) :=
 PEi (Zzz hc hg hm hv ha hn hdb he hpl) fun _ _ _ h=>Yg3 h
theorem Zio {x:Str} {T:String} {g:FF} {f:AF} {p:Pos} (hc:Zir X (.type T) g) (hg:Gl X x) (hm:X.mg x=none) (hv:Vq x=some (.type T)) (ha:PAf X (e::es) f) (hn:x ≠ "__name__" := by decide) (hdb:(x==("__debug__" : Str))=false:=by decide)
  (he:Vf (e::es) X.env=(false,eval e X.env)::Vf es X.env:=by exact Zbq rfl) (hpl:(Uac pos (Vf es X.env)).any (·.1)=false:=by exact Zck rfl):PEf X (.Call (.Name x p) (e::es) [] pos) (eCB g f) :=
 PEi (Zwm hc hg hm hv ha hn hdb he hpl) fun _ _ _ h=>Yg3 h
nonrec def spF (K:Xb) (n:Nat) (F:FF):Sp:=fun vs H Q _=>∃ ι ds Hd d Hd',ds.length=n/\HRep K H ι Hd/\Vj (Rep K H ι) ds vs/\F ds Hd=some (d,Hd')/\QE K H ι d Hd' Q
nonrec def Zak (n:Nat) (F:FF) (f:AF):EF:=fun σ H=>(f σ H).bind fun p=>if p.1.length=n then F p.1 p.2 else none
theorem Yad {k n:Nat} {f:Ve} {fd:Uat} {ps:List Str} {x:Str} {p:Pos} {F:FF} {fa:AF} (G:FnOk X.prog X.w X.K X.mg X.base CX0 k f fd ps (spF X.K n F)) (hr:Room k X.A) (hg:Gl X x) (hm:X.mg x=some (.ref f)) (hk:Wbt X.K (.ref f)=true)
  (hb:Zip X.K fd ps []) (ha:PAf X (e::es) fa) (hdb:(x==("__debug__" : Str))=false:=by decide) (he:Vf (e::es) X.env=(false,eval e X.env)::Vf es X.env:=by exact Zbq rfl) (hpl:(Uac pos (Vf es X.env)).any (·.1)=false:=by exact Zck rfl) :
  PEf X (.Call (.Name x p) (e::es) [] pos) (Zak n F fa):=by
 refine PEi (Ydp (E:=E0) G hr hg hm hk hb .nil Zv7 ha hdb he hpl) fun σ H Q zz=>?_
 obtain⟨ι,σd,Hd,d,Hd',s,hr,e,q⟩:=zz
 obtain⟨⟨x,H1⟩,e1,e⟩:=Zo e
 refine⟨ι,σd,Hd,x,H1,s,hr,e1,fun vs H' ι' l h r=>?_⟩
 dsimp only at e
 split at e
 ·rename_i hl
  exact⟨ι',x,H1,d,Hd',hl,h,by simpa using r,e,fun v2 H2 ι2 l2 h2 r2=>q v2 H2 ι2 (l.trans l2) h2 r2⟩
 ·cases e
nonrec def Zql:D->HD->Bool
 | .ref n,H=>match H[n]? with
  | some (.lst _)=>true
  | _=>false
 | _,_=>false
theorem Zzl {K:Xb} {H:Hp} {ι:List Ve} {Hd:HD} {d:D} {v:V} (hr:HRep K H ι Hd) (r:Rep K H ι d v) (e:Zql d Hd=true):tyV K "list" v H:=by
 cases d with
 | ref n =>
  obtain⟨ad,rfl,h⟩:=Zay.mp r
  simp only[Zql] at e
  split at e
  ·rename_i xs ho
   obtain⟨vs,h1,p⟩:=hr.obj n ad _ h ho
   exact .inl ⟨rfl,vs,SqL.of h1⟩
  ·cases e
 | _=>simp[Zql] at e
nonrec def eLM (g:D->List D->HD->Option (D×HD)) (fo:EF) (f:AF):EF:=fun σ H=>(fo σ H).bind fun o=>if Zql o.1 o.2=true then (f σ o.2).bind fun p=>g o.1 p.1 p.2 else none
theorem Zsi {o:Vv} {name:Str} {apos cpos:Pos} {id:String} {g:D->List D->HD->Option (D×HD)} {fo:EF} {f:AF} (slot:Slot "list" name id) (hty:typeOf (.builtin id)=pure (.type "method_descriptor")) (hm:MtF X id g) (ho:PEf X o fo) (ha:PAf X (e::es) f)
  (hbase:Ube o name X.env (eval o X.env)=eval o X.env:=by rfl)
  (hfew:((Uac cpos (Vf (e::es) X.env)).all (fun x => !x.1)&&(Ubk cpos (Uak [] X.env)).all (fun x=>x.1.isSome)
   && decide ((e::es).length+([]:List Ucf).length+(if ([]:List Ucf).isEmpty then 0 else 1)<30))=true:=by exact Zru rfl (by decide))
  (hline:(apos.endLine==cpos.line)=true:=by rfl) (hs:Vf (e::es) X.env=(false,eval e X.env)::Vf es X.env:=by exact Zbq rfl) (hplain:(Uac cpos (Vf es X.env)).any (·.1)=false:=by exact Zck rfl) :
  PEf X (.Call (.Attribute o name apos) (e::es) [] cpos) (eLM g fo f):=by
 refine PEi (pe_bm PySem.F.plainAttrs_list slot hty hm ho ha hbase hfew hline hs hplain) fun σ H Q zz=>?_
 obtain⟨ι,σd,Hd,d,Hd',s,hr,e,q⟩:=zz
 obtain⟨⟨x,H1⟩,e1,e⟩:=Zo e
 dsimp only at e
 split at e
 ·rename_i hl
  obtain⟨⟨y,H2⟩,e2,e⟩:=Zo e
  exact⟨ι,σd,Hd,x,H1,s,hr,e1,fun v1 H1' ι1 l1 h1 r1=>⟨Zzl h1 r1 hl,ι1,σd,H1,y,H2,s.mono l1,h1,e2,fun vs H2' ι2 l2 h2 r2 =>
   ⟨ι2,x,y,H2,d,Hd',h2,r1.mono l2,r2,e,fun v H' ι' l h r=>q v H' ι' ((l1.trans l2).trans l) h r⟩⟩⟩
 ·cases e
nonrec def Zaj:SF:=fun σ H=>some (.nx,σ,H)
nonrec def Zag (f g:SF):SF:=fun σ H=>(f σ H).bind fun r=>match r.1 with
 | .nx=>g r.2.1 r.2.2
 | _=>some r
theorem Zbb:Zpp X [] Zaj:=by
 refine PSsi Yci fun E σ H zz=>?_
 obtain⟨ι,σd,Hd,fl,σd',Hd',s,hr,e,q⟩:=zz
 cases e
 exact q σ H ι Le.refl hr s
theorem Zao {f g:SF} (h1:PSf X st f) (h2:Zpp X sts g):Zpp X (st::sts) (Zag f g):=by
 refine PSsi (Yar h1 h2) fun E σ H zz=>?_
 obtain⟨ι,σd,Hd,fl,σd',Hd',s,hr,e,q⟩:=zz
 obtain⟨⟨f1,σ1,H1⟩,e1,e⟩:=Zo e
 refine⟨ι,σd,Hd,f1,σ1,H1,s,hr,e1,fun σ' H' ι' l h ss=>?_⟩
 cases f1 with
 | nx=>exact⟨ι',σ1,H1,fl,σd',Hd',ss,h,e,fun σ2 H2 ι2 l2 h2 s2=>q σ2 H2 ι2 (l.trans l2) h2 s2⟩
 | bk=>cases e; exact q σ' H' ι' l h ss
 | ct=>cases e; exact q σ' H' ι' l h ss
 | rt d=>cases e; exact q σ' H' ι' l h ss
nonrec def Zbc (f:EF):SF:=fun σ H=>(f σ H).map fun p=>(.rt p.1,σ,p.2)
theorem Zbu {f:EF} (he:PEf X e f):PSf X (.Return (some e) pos) (Zbc f):=by
 refine PSi (Yhz he) fun E σ H zz=>?_
 obtain⟨ι,σd,Hd,fl,σd',Hd',s,hr,e,q⟩:=zz
 obtain⟨⟨x,H1⟩,e1,e⟩:=Zm e
 cases e
 exact⟨ι,σd,Hd,x,H1,s,hr,e1,fun v H' ι' l h r=>q σ H' ι' l h (s.mono l) v r⟩
nonrec def Yds:SF:=fun σ H=>some (.rt .non,σ,H)
theorem Yan:PSf X (.Return none pos) Yds:=by
 refine PSi Yes fun E σ H zz=>?_
 obtain⟨ι,σd,Hd,fl,σd',Hd',s,hr,e,q⟩:=zz
 cases e
 exact q σ H ι Le.refl hr s .non (by simp)
nonrec def Zc0 (f:EF):SF:=fun σ H=>(f σ H).map fun p=>(.nx,σ,p.2)
theorem Zfi {f:EF} (he:PEf X e f) (hs:Ubs e none pos.line X.env=pure false:=by rfl):PSf X (.Expr e pos) (Zc0 f):=by
 refine PSi (Ydi he hs) fun E σ H zz=>?_
 obtain⟨ι,σd,Hd,fl,σd',Hd',s,hr,e,q⟩:=zz
 obtain⟨⟨x,H1⟩,e1,e⟩:=Zm e
 cases e
 exact⟨ι,σd,Hd,x,H1,s,hr,e1,fun v H' ι' l h r=>q σ H' ι' l h (s.mono l)⟩
nonrec def sIf (t:TF) (f g:SF):SF:=fun σ H=>(t σ H).bind fun p=>if p.1=true then f σ p.2 else g σ p.2
theorem Zg5 {t:TF} {f g:SF} {as bs:List Vw} (hc:PTf X c t) (ha:Zpp X as f) (hb:Zpp X bs g):PSf X (.If c as bs pos) (sIf t f g):=by
 refine PSi (ps_if hc ha hb) fun E σ H zz=>?_
 obtain⟨ι,σd,Hd,fl,σd',Hd',s,hr,e,q⟩:=zz
 obtain⟨⟨x,H1⟩,e1,e⟩:=Zo e
 refine⟨ι,σd,Hd,x,H1,s,hr,e1,fun H' ι' l h=>?_⟩
 cases x with
 | true =>
  rw[if_pos rfl]
  exact⟨ι',σd,H1,fl,σd',Hd',s.mono l,h,by simpa using e,fun σ2 H2 ι2 l2 h2 s2=>q σ2 H2 ι2 (l.trans l2) h2 s2⟩
 | false =>
  rw[if_neg (by simp)]
  exact⟨ι',σd,H1,fl,σd',Hd',s.mono l,h,by simpa using e,fun σ2 H2 ι2 l2 h2 s2=>q σ2 H2 ι2 (l.trans l2) h2 s2⟩
nonrec def Zbm (i:Nat) (f:EF):SF:=fun σ H=>(f σ H).map fun p=>(.nx,σ.set i (some p.1),p.2)
theorem Zbh {i:Nat} {x:Str} {f:EF} {pos':Pos} (hN:X.N.Nodup) (hi:X.N[i]? = some x) (hx:Loc X.env.scope x) (he:PEf X e f) (hs:Ubs e (some (.Name x pos')) pos.line X.env=pure false:=by rfl) (hf:X.fn x=true\/X.env.scope.names.lookup x=some .local:=by first | exact .inl rfl | exact .inr rfl | assumption) :
  PSf X (.Assign [.Name x pos'] e pos) (Zbm i f):=by
 refine PSi (Yhm hN hi hx he hs hf) fun E σ H zz=>?_
 obtain⟨ι,σd,Hd,fl,σd',Hd',s,hr,e,q⟩:=zz
 obtain⟨⟨x,H1⟩,e1,e⟩:=Zm e
 cases e
 exact⟨ι,σd,Hd,x,H1,s,hr,e1,fun v H' ι' l h r=>q _ H' ι' l h ((s.mono l).set r i)⟩
nonrec def gNm (i:Nat):GF:=fun d σ H=>some (σ.set i (some d),H)
theorem Zca {i:Nat} {x:Str} (hN:X.N.Nodup) (hi:X.N[i]? = some x) (hx:Loc X.env.scope x) (hf:X.fn x=true\/X.env.scope.names.lookup x=some .local:=by first | exact .inl rfl | exact .inr rfl | assumption):PGf X (.Name x pos) (gNm i):=by
 refine PGi (Zny hN hi hx hf) fun v σ H Q zz=>?_
 obtain⟨ι,σd,Hd,d,σd',Hd',s,hr,r,e,q⟩:=zz
 cases e
 exact q _ H ι Le.refl hr (s.set r i)
nonrec abbrev Yb5:=D->D->D->HD->Option HD
nonrec def rdSet (K:Xb) (g:Yb5):TSet:=fun o i v H Q=>∃ ι od id vd Hd Hd',HRep K H ι Hd/\Rep K H ι od o/\Rep K H ι id i/\Rep K H ι vd v/\g od id vd Hd=some Hd'/\∀ H' ι',Le K H ι H' ι'->HRep K H' ι' Hd'->Q H'
def Ycq (X:Cx) (g:Yb5):Prop:=PSet X (rdSet X.K g)
nonrec def gSb (fo fi:EF) (g:Yb5):GF:=fun d σ H=>(fo σ H).bind fun o=>(fi σ o.2).bind fun i=>(g o.1 i.1 d i.2).map fun H'=>(σ,H')
theorem Zmy {o i:Vv} {fo fi:EF} {g:Yb5} (ho:PEf X o fo) (hi:PEf X i fi) (hs:Ycq X g)
  (ha:∀ v,Udh (.Subscript o i pos) X.env v=(do
   let ov<-Ubt [v] (eval o X.env)
   let iv<-Ubt [v,ov] (eval i X.env)
   Udm pos
   Ubt [v,ov,iv] (setItem ov iv v)
   release [v,ov,iv] []):=by intro _; rfl):PGf X (.Subscript o i pos) (gSb fo fi g):=by
 refine PGi (Yfl ho hi hs ha) fun v σ H Q zz=>?_
 obtain⟨ι,σd,Hd,d,σd',Hd',s,hr,r,e,q⟩:=zz
 obtain⟨⟨x,H1⟩,e1,e⟩:=Zo e
 obtain⟨⟨y,H2⟩,e2,e⟩:=Zo e
 obtain⟨H3,e3,e⟩:=Zm e
 obtain⟨rfl,rfl⟩:=Way.inj e
 exact⟨ι,σd,Hd,x,H1,s,hr,e1,fun v1 H1' ι1 l1 h1 r1=>⟨ι1,σd,H1,y,H2,s.mono l1,h1,e2,fun v2 H2' ι2 l2 h2 r2 =>
  ⟨ι2,x,y,d,H2,H3,h2,r1.mono l2,r2,r.mono (l1.trans l2),e3,fun H' ι' l h=>q σ H' ι' ((l1.trans l2).trans l) h (s.mono ((l1.trans l2).trans l))⟩⟩⟩
nonrec abbrev GFs:=List D->SD->HD->Option (SD×HD)
nonrec def rdGs (K:Xb) (g:GFs):TGs:=fun vs σ H Q=>∃ ι σd Hd ds σd' Hd',SRep K H ι σ σd/\HRep K H ι Hd/\Vj (Rep K H ι) ds vs/\g ds σd Hd=some (σd',Hd') /\
 ∀ σ' H' ι',Le K H ι H' ι'->HRep K H' ι' Hd'->SRep K H' ι' σ' σd'->Q σ' H'
def PGsf (X:Cx) (ts:List Vv) (g:GFs):Prop:=PGs X ts (rdGs X.K g)
nonrec def gNl:GFs:=fun ds σ H=>match ds with
 | []=>some (σ,H)
 | _=>none
nonrec def gCn (g:GF) (h:GFs):GFs:=fun ds σ H=>match ds with
 | d::r=>(g d σ H).bind fun p=>h r p.1 p.2
 | []=>none
theorem PGsi {ts:List Vv} {t t':TGs} (h:PGs X ts t) (i:∀ v σ H Q,t' v σ H Q->t v σ H Q):PGs X ts t':=fun pins s σ H v u Q I r q=>h pins s σ H v u Q I r (i v σ H Q q)
theorem Zsq:PGsf X [] gNl:=by
 refine PGsi Zut fun vs σ H Q zz=>?_
 obtain⟨ι,σd,Hd,ds,σd',Hd',s,hr,r,e,q⟩:=zz
 cases r with
 | nil=>cases e; exact⟨rfl,q σ H ι Le.refl hr s⟩
 | cons _ _=>cases e
theorem Zh3 {g:GF} {h:GFs} (h1:PGf X e g) (h2:PGsf X es h) (hs:(Uar (e::es) X.env).map (·.2)=Udh e X.env::(Uar es X.env).map (·.2):=by rfl):PGsf X (e::es) (gCn g h):=by
 refine PGsi (Zmm h1 h2 hs) fun vs σ H Q zz=>?_
 obtain⟨ι,σd,Hd,ds,σd',Hd',s,hr,r,e,q⟩:=zz
 cases r with
 | nil=>cases e
 | cons r rr =>
  obtain⟨⟨σ1,H1⟩,e1,e⟩:=Zo e
  exact⟨_,_,rfl,ι,σd,Hd,_,σ1,H1,s,hr,r,e1,fun σ' H' ι' l h ss=>⟨ι',σ1,H1,_,σd',Hd',ss,h,Prd.mono l rr,e,fun σ2 H2 ι2 l2 h2 s2=>q σ2 H2 ι2 (l.trans l2) h2 s2⟩⟩
nonrec def gTp (n:Nat) (g:GFs):GF:=fun d σ H=>match d with
 | .tup ds=>if ds.length=n then g ds σ H else none
 | _=>none
theorem Zxf {k n:Nat} {g:GFs} (hc:X.calm=true) (h:PGsf X es g) (hn:(Uar es X.env).length=n:=by rfl) (hst:(Uar es X.env).findIdx? (·.1)=none:=by rfl):PGf X (.Tuple es k pos) (gTp n g):=by
 refine PGi (Yb2 hc h hn hst) fun v σ H Q zz=>?_
 obtain⟨ι,σd,Hd,d,σd',Hd',s,hr,r,e,q⟩:=zz
 cases d with
 | tup ds =>
  obtain⟨a,vs,rfl,h1,p⟩:=Zbe.mp r
  simp only[gTp] at e
  split at e
  ·rename_i hl
   exact⟨a,vs,rfl,h1,by rw[<- Prd.len p]; exact hl,ι,σd,Hd,ds,σd',Hd',s,hr,p,e,q⟩
  ·cases e
 | _=>simp[gTp] at e
nonrec def Zyp (f:EF) (g:GF):SF:=fun σ H=>(f σ H).bind fun p=>(g p.1 σ p.2).map fun q=>(.nx,q.1,q.2)
theorem Zj8 {tg:Vv} {f:EF} {g:GF} (he:PEf X e f) (hg:PGf X tg g) (hs:swapsWithSole [tg] e pos.line X.env=pure false:=by rfl) (hw:swappedStores [tg] e X.env=pure none:=by rfl)
  (h1:(Uar [tg] X.env).map (·.2)=[Udh tg X.env]:=by rfl):PSf X (.Assign [tg] e pos) (Zyp f g):=by
 refine PSi (Ygh he hg hs hw h1) fun E σ H zz=>?_
 obtain⟨ι,σd,Hd,fl,σd',Hd',s,hr,e,q⟩:=zz
 obtain⟨⟨x,H1⟩,e1,e⟩:=Zo e
 obtain⟨⟨σ2,H2⟩,e2,e⟩:=Zm e
 cases e
 exact⟨ι,σd,Hd,x,H1,s,hr,e1,fun v H' ι' l h r=>⟨ι',σd,H1,x,σ2,H2,s.mono l,h,r,e2,fun σ3 H3 ι3 l3 h3 s3=>q σ3 H3 ι3 (l.trans l3) h3 s3⟩⟩
nonrec abbrev Zh4:=List (Nat×DO)
def Zci (own:Zh4) (H:HD):Prop:=∀ p∈own,H[p.1]? = some p.2
nonrec abbrev ItF:=SD->HD->Option ((List D×Zh4)×HD)
structure ItRep (K:Xb) (J:It) (xs:List D) (own:Zh4) (H0:Hp) (ι0:List Ve):Prop where
 go:∀ i H ι Hd,Le K H0 ι0 H ι->HRep K H ι Hd->Zci own Hd->i<xs.length->J.go i H
 yld:∀ i H ι Hd d x H',Le K H0 ι0 H ι->HRep K H ι Hd->Zci own Hd->xs[i]? = some d->J.yld i H x H'->∃ ι',Le K H ι H' ι'/\HRep K H' ι' Hd/\Rep K H' ι' d x
 stop:∀ i H ι Hd,Le K H0 ι0 H ι->HRep K H ι Hd->Zci own Hd->xs.length<=i->J.stop i H
nonrec def rdI (K:Xb) (f:ItF):TI:=fun σ H R=>∃ ι σd Hd xs own Hd',SRep K H ι σ σd/\HRep K H ι Hd/\f σd Hd=some ((xs,own),Hd')/\∀ J H' ι',Le K H ι H' ι'->HRep K H' ι' Hd'->ItRep K J xs own H' ι'->R J H'
def PIf (X:Cx) (tg iter:Vv) (f:ItF):Prop:=PI X tg iter (rdI X.K f)
theorem PIi {tg iter:Vv} {t t':TI} (h:PI X tg iter t) (i:∀ σ H R,t' σ H R->t σ H R):PI X tg iter t':=fun pins s σ H R I q=>h pins s σ H R I (i σ H R q)
open Classical in
nonrec def Zhk (own:Zh4) (g:GF) (body:SF):List D->SF
 | [],σ,H=>if Zci own H then some (.nx,σ,H) else none
 | x::r,σ,H=>if Zci own H then (g x σ H).bind fun p=>(body p.1 p.2).bind fun q=>match q.1 with
   | .nx=>Zhk own g body r q.2.1 q.2.2
   | .ct=>Zhk own g body r q.2.1 q.2.2
   | .bk=>some (.nx,q.2.1,q.2.2)
   | .rt d=>some (.rt d,q.2.1,q.2.2)
  else none
nonrec def Zfb (it:ItF) (g:GF) (body:SF):SF:=fun σ H=>(it σ H).bind fun p=>Zhk p.1.2 g body p.1.1 σ p.2
theorem Zqv {tg iter:Vv} {body:List Vw} {f:ItF} {g:GF} {b:SF} (hp:Ueh (Vl X.prog X.w) X.A X.env X.xe) (hc:X.calm=true) (hi:PIf X tg iter f) (hg:PGf X tg g) (hb:Zpp X body b)
  (hs:∀ x,Uaa iter X.env x=pure x:=by intro _; rfl):PSf X (.For tg iter body [] pos) (Zfb f g b):=by
 refine PSi (Ygd hp hc hi hg hb hs) fun E σ H zz=>?_
 obtain⟨ι,σd,Hd,fl,σf,Hf,s,hr,e,q⟩:=zz
 obtain⟨⟨⟨xs,own⟩,H1⟩,e1,e⟩:=Zo e
 refine⟨ι,σd,Hd,xs,own,H1,s,hr,e1,fun J H0 ι0 l0 h0 it=>?_⟩
 refine⟨fun i m σ H=>m=xs.length - i/\i<=xs.length/\∃ ι σd Hd,Le X.K H0 ι0 H ι/\SRep X.K H ι σ σd/\HRep X.K H ι Hd/\Zhk own g b (xs.drop i) σd Hd=some (fl,σf,Hf),
  ⟨xs.length,by simp,Wbd _,ι0,σd,H1,Le.refl,s.mono l0,h0,by simpa using e⟩,?_⟩
 rintro i m σ2 H2 ⟨rfl,hi,ι2,σd2,Hd2,l2,s2,h2,e2⟩
 by_cases hlt:i<xs.length
 ·have ed:xs.drop i=xs[i]::xs.drop (i+1):=Waq hlt
  rw[ed,Zhk] at e2
  split at e2
  ·rename_i ok
   obtain⟨⟨σ3,H3⟩,e3,e2⟩:=Zo e2
   obtain⟨⟨f4,σ4,H4⟩,e4,e2⟩:=Zo e2
   refine .inr ⟨it.go i H2 ι2 Hd2 l2 h2 ok hlt,fun σ' H'=>(xs.length - (i+1)=xs.length - (i+1)/\i+1<=xs.length/\∃ ι σd Hd,Le X.K H0 ι0 H' ι/\SRep X.K H' ι σ' σd/\HRep X.K H' ι Hd/\Zhk own g b (xs.drop (i+1)) σd Hd=some (fl,σf,Hf)),
    fun σ' H' p=>⟨_,by omega,p⟩,fun x H' y=>?_⟩
   obtain⟨ι3,l3,h3,r3⟩:=it.yld i H2 ι2 Hd2 xs[i] x H' l2 h2 ok (by simp[hlt]) y
   refine⟨ι3,σd2,Hd2,xs[i],σ3,H3,s2.mono l3,h3,r3,e3,fun σ5 H5 ι5 l5 h5 s5=>?_⟩
   refine⟨ι5,σ3,H3,f4,σ4,H4,s5,h5,e4,fun σ6 H6 ι6 l6 h6 s6=>?_⟩
   have L:Le X.K H0 ι0 H6 ι6:=((l2.trans l3).trans l5).trans l6
   cases f4 with
   | nx=>exact⟨rfl,hlt,ι6,σ4,H4,L,s6,h6,e2⟩
   | ct=>exact⟨rfl,hlt,ι6,σ4,H4,L,s6,h6,e2⟩
   | bk=>cases e2; exact q σ6 H6 ι6 (l0.trans L) h6 s6
   | rt d=>cases e2; exact q σ6 H6 ι6 (l0.trans L) h6 s6
  ·cases e2
 ·have hi':i=xs.length:=by omega
  rw[Wdf (by omega),Zhk] at e2
  split at e2
  ·rename_i ok
   have e3:(FD.nx,σd2,Hd2)=(fl,σf,Hf):=Xx.inj e2
   obtain⟨rfl,e4⟩:=Way.inj e3
   obtain⟨rfl,rfl⟩:=Way.inj e4
   exact .inl ⟨it.stop i H2 ι2 _ l2 h2 ok (by omega),q σ2 H2 ι2 (l0.trans l2) h2 s2⟩
  ·cases e2
end
nonrec def Za4 (n N:Nat) (b:SF):FF:=fun ds H=>if ds.length=n then (b (ds.map some++Xl (N - ds.length) none) H).bind fun r=>match r.1 with
  | .rt d=>some (d,r.2.2)
  | .nx=>some (.non,r.2.2)
  | _=>none
 else none
section
variable {P:Vi} {w:Vs} {K:Xb} {mg:Str->Option Vb} {base:Vy}
theorem fn_f {x qual:Str} {st:Vw} {f:Ve} {fd:Uat} {N ps:List Str} {k:Nat} {b:SF} (F:Fun K x qual st f fd) (S:FnScope N ps (Zad st))
  (hb:∀ (cdv:Vb) (A:Vr) (outer:List Env) (s:Vd) (H:Hp) (E:XK),Room k (A.deeper (Uaw qual (Zad st) s.heap.objs.size f cdv)) ->
   Zpp (Zlo CX0 P w K mg base N qual (Zad st) f cdv A outer s H E).nox (Za1 st) b):FnOk P w K mg base CX0 (k+1) f fd ps (spF K ps.length (Za4 ps.length N.length b)):=by
 refine F.ok S (fun vs H Q E h=>?_) (fun cdv A outer s H vs Q E hr h=>?_)
 ·obtain⟨ι,ds,Hd,d,Hd',hl,_,r,_⟩:=h
  rw[<- Prd.len r]; exact hl
 ·obtain⟨ι,ds,Hd,d,Hd',hl,hh,r,e,q⟩:=h
  refine⟨_,hb cdv A outer s H E hr,?_⟩
  unfold Za4 at e
  rw[if_pos hl] at e
  obtain⟨⟨fl,σ1,H1⟩,e1,e⟩:=Zo e
  refine⟨ι,_,Hd,fl,σ1,H1,?_,hh,e1,fun σ' H' ι' l h ss=>?_⟩
  ·refine⟨by simp[L2.start,Prd.len r],fun i d0 h0=>?_⟩
   unfold L2.start
   by_cases hi:i<ds.length
   ·rw[Xg (by simpa using hi),Xp] at h0
    cases ed:ds[i]? with
    | none=>rw[ed] at h0; cases h0
    | some d1 =>
     rw[ed] at h0
     cases h0
     obtain⟨v,hv,rv⟩:=Prd.get r ed
     refine⟨v,?_,rv⟩
     rw[Xg (by rw[Xr,<- Prd.len r]; exact hi),Xp,hv]
     rfl
   ·rw[Xs (by simpa using hi),Wbp] at h0
    split at h0<;>cases h0
  ·cases fl with
   | rt d1=>cases e; exact fun v rv=>q v H' ι' l h rv
   | nx=>cases e; exact q .non H' ι' l h (by simp)
   | bk=>cases e
   | ct=>cases e
end
nonrec def Zjb (env:Env):List (Str×Ubf)->List (Str×Ve)->List (Str×Ve)
 | [],cs=>cs
 | (n,k)::r,cs=>Zjb env r (if k=.free then (match env.cells.lookup n with | some a=>(n,a)::cs | none=>cs) else cs)
theorem Zih (env:Env) (scope:Ubo) (h:∀ y∈scope.names,y.2=.free->(env.cells.lookup y.1).isSome=true):closureFor scope env=pure (Zjb env scope.names []):=by
 have key:∀ (ns:List (Str×Ubf)) (cs:List (Str×Ve)),(∀ y∈ns,y.2=.free->(env.cells.lookup y.1).isSome=true) ->
   (forIn ns cs fun(x:Str×Ubf) cs=>match x with
    | (name,kind)=>if (kind==.free)=true then (do let a<-cellOf env name; pure (Taj ((name,a)::cs))) else pure (Taj cs):Sem (List (Str×Ve)))=pure (Zjb env ns cs):=by
  intro ns
  induction ns with
  | nil=>intro cs _; rfl
  | cons x r ih =>
   intro cs hh
   obtain⟨n,k⟩:=x
   have hr:=ih
   rw[Wex]
   by_cases hk:k=.free
   ·subst hk
    have q:=hh (n,.free) (by simp) rfl
    cases e:env.cells.lookup n with
    | none=>rw[e] at q; cases q
    | some a =>
     have e2:cellOf env n=pure a:=by unfold cellOf; rw[e]
     simp only[beq_self_eq_true,if_true,e2,pure_bind,Zjb,e]
     exact ih _ fun y hy=>hh y (Wae _ hy)
   ·have hb:(k==Ue)=false:=by simpa using hk
    simp only[hb,Wao,if_false,pure_bind,Zjb,hk]
    exact ih _ fun y hy=>hh y (Wae _ hy)
 have e:closureFor scope env=((forIn scope.names [] fun(x:Str×Ubf) cs=>match x with
    | (name,kind)=>if (kind==.free)=true then (do let a<-cellOf env name; pure (Taj ((name,a)::cs))) else pure (Taj cs):Sem (List (Str×Ve))) >>= pure):=rfl
 rw[e,bind_pure]
 exact key scope.names [] h
theorem Zh9 (env:Env):∀ (ns:List (Str×Ubf)) (cs:List (Str×Ve)),(∀ x c,cs.lookup x=some c->env.cells.lookup x=some c)->∀ x c,(Zjb env ns cs).lookup x=some c->env.cells.lookup x=some c
 | [],cs,h=>h
 | (n,k)::r,cs,h=>by
  unfold Zjb
  refine Zh9 env r _ ?_
  split
  ·cases e:env.cells.lookup n with
   | none=>exact h
   | some a =>
    intro x c q
    dsimp only at q
    rw[Waf] at q
    split at q
    ·rename_i hb
     have hb':x=n:=by simpa using hb
     subst hb'; cases q; exact e
    ·exact h x c q
  ·exact h
theorem Znt (env:Env):∀ (ns:List (Str×Ubf)) (cs:List (Str×Ve)) (x:Str),((cs.lookup x).isSome=true\/((x,Ue)∈ns/\(env.cells.lookup x).isSome=true))->((Zjb env ns cs).lookup x).isSome=true
 | [],cs,x,h=>by
  rcases h with h | ⟨h,_⟩
  ·exact h
  ·simp at h
 | (n,k)::r,cs,x,h=>by
  unfold Zjb
  refine Znt env r _ x ?_
  by_cases hk:k=.free
  ·rw[if_pos hk]
   cases e:env.cells.lookup n with
   | none =>
    rcases h with h | ⟨h,h2⟩
    ·exact .inl h
    ·rcases Xi.mp h with h | h
     ·cases h; rw[e] at h2; cases h2
     ·exact .inr ⟨h,h2⟩
   | some a =>
    dsimp only
    rw[Waf]
    by_cases hx:x=n
    ·subst hx; simp
    ·have:(x==n)=false:=by simpa using hx
     rw[this]
     rcases h with h | ⟨h,h2⟩
     ·exact .inl h
     ·rcases Xi.mp h with h | h
      ·cases h; exact absurd rfl hx
      ·exact .inr ⟨h,h2⟩
  ·rw[if_neg hk]
   rcases h with h | ⟨h,h2⟩
   ·exact .inl h
   ·rcases Xi.mp h with h | h
    ·cases h; exact absurd rfl hk
    ·exact .inr ⟨h,h2⟩
theorem Zhc {env:Env}:∀ {names:List (Str×Ubf)} {x:Str},names.lookup x=some .free ->
  ((names.map fun(n,k)=>if (k==Ue&&env.scope.kind==.function&&env.kindOf n==some .cell) then (n,Tab) else (n,k)).lookup x=some .cell \/
   (names.map fun(n,k)=>if (k==Ue&&env.scope.kind==.function&&env.kindOf n==some .cell) then (n,Tab) else (n,k)).lookup x=some .free)
 | [],_,h=>by simp at h
 | (n,k)::r,x,h=>by
  have ih:=@Zhc env r x
  show Wca x ((if (k==Ue&&env.scope.kind==.function&&env.kindOf n==some .cell)=true then (n,Tab) else (n,k))::_)=_\/Wca x ((if (k==Ue&&env.scope.kind==.function&&env.kindOf n==some .cell)=true then (n,Tab) else (n,k))::_)=_
  cases hx:x==n with
  | true =>
   simp only[Waf,hx] at h
   cases h
   by_cases hc:(Ue==Ue&&env.scope.kind==.function&&env.kindOf n==some .cell)=true
   ·rw[if_pos hc]; simp only[Waf,hx]; simp
   ·rw[if_neg hc]; simp only[Waf,hx]; simp
  | false =>
   simp only[Waf,hx] at h
   by_cases hc:(k==Ue&&env.scope.kind==.function&&env.kindOf n==some .cell)=true
   ·rw[if_pos hc]; simp only[Waf,hx]; exact ih h
   ·rw[if_neg hc]; simp only[Waf,hx]; exact ih h
theorem Zgd {env:Env}:∀ {names:List (Str×Ubf)} {x:Str},(∀ y∈names,y.2≠.cell) ->
  ((names.map fun(n,k)=>if (k==Ue&&env.scope.kind==.function&&env.kindOf n==some .cell) then (n,Tab) else (n,k)).lookup x=some .cell \/
   (names.map fun(n,k)=>if (k==Ue&&env.scope.kind==.function&&env.kindOf n==some .cell) then (n,Tab) else (n,k)).lookup x=some .free)->(x,Ue)∈names
 | [],_,_,h=>by simp at h
 | (n,k)::r,x,hn,h=>by
  have ih:=@Zgd env r x (fun y hy=>hn y (Wae _ hy))
  have h:Wca x ((if (k==Ue&&env.scope.kind==.function&&env.kindOf n==some .cell)=true then (n,Tab) else (n,k))::_)=_\/Wca x ((if (k==Ue&&env.scope.kind==.function&&env.kindOf n==some .cell)=true then (n,Tab) else (n,k))::_)=_:=h
  cases hx:x==n with
  | true =>
   have hx':x=n:=by simpa using hx
   subst hx'
   by_cases hc:(k==Ue&&env.scope.kind==.function&&env.kindOf x==some .cell)=true
   ·have hk:k=.free:=by
     rw[Wai,Wai] at hc
     simpa using hc.1.1
    subst hk; simp
   ·rw[if_neg hc] at h
    simp only[Waf,hx] at h
    rcases h with h | h
    ·cases h; exact absurd rfl (hn (x,.cell) (by simp))
    ·cases h; simp
  | false =>
   refine Wae _ (ih ?_)
   by_cases hc:(k==Ue&&env.scope.kind==.function&&env.kindOf n==some .cell)=true
   ·rw[if_pos hc] at h; simp only[Waf,hx] at h; exact h
   ·rw[if_neg hc] at h; simp only[Waf,hx] at h; exact h
nonrec def blk (X:Cx) (scope:Ubo) (N:List Str) (cl:List (Str×Ve)) (C:Ve) (s:Vd) (H:Hp) (fp:List Ve) (pn:List (Ve×Obj)):Cx where
 prog:=X.prog
 w:=X.w
 K:=X.K
 mg:=X.mg
 base:=X.base
 A:=X.A
 N:=N
 s₀:=s
 H₀:=H
 env:=Uby scope cl C X.env
 outer:=X.stack
 stack:=X.stack
 ex:=fp
 fn:=fun _=>false
 calm:=X.calm
 pn:=pn
 xe:=fun _ _=>False
structure BlkOk (X:Cx) (scope:Ubo) (x:Str) (cn:List Str) (ci:List Nat):Prop where
 kind:scope.kind=.function
 nocell:∀ y∈scope.names,y.2≠.cell
 names:∀ y∈scope.names,y.2=.local->scope.names.lookup y.1=some .local
 tgt:scope.names.lookup x=some .local
 free:∀ y∈scope.names,y.2=.free->(X.env.cells.lookup y.1).isSome=true
 nd:(x::cn).Nodup
 len:ci.length=cn.length
 cap:∀ (j:Nat) (y:Str),cn[j]? = some y->∃ i,ci[j]? = some i/\X.N[i]? = some y/\scope.names.lookup y=some .free/\(X.env.kindOf y=some .cell\/X.env.kindOf y=some .free)
nonrec def Zla (ci:List Nat) (σ:L2.St):L2.St:=ci.map fun i=>(σ[i]?).join
section
variable {X:Cx} {pins:List (Ve×Obj)} {σ:L2.St} {H:Hp} {s:Vd} {scope:Ubo} {x:Str} {cn:List Str} {ci:List Nat} {fp:List Ve}
theorem Yd7 {h₁:Vy} {tk:Nat} {o₁:Obj} (I:Inv X pins σ H s) (B:BlkOk X scope x cn ci) (hf:∀ b∈fp,Znd X pins H b) (hlt:∀ b∈fp,b<s.heap.objs.size)
  (hns:h₁.Ns s.heap.objs.size (fun _=>none)) (hsb:Xw s.heap.objs.size (s.heap.push o₁) h₁) :
  Inv (blk X scope (x::cn) (Zjb X.env scope.names []) s.heap.objs.size s H fp (X.pn++pins)) [] (none::Zla ci σ) H { s with heap:=h₁,toks:=tk }:=by
 have old:∀ b o,s.heap.get? b=some o->h₁.get? b=some o:=fun b o e=>hsb.extBut b o (Xh (Xf e)) (Xa _ e)
 have sub:=Zh9 X.env scope.names [] (by intro x c h; simp at h)
 have has:∀ y,(y,Ue)∈scope.names->∃ c,(Zjb X.env scope.names []).lookup y=some c:=fun y hy =>
  Wak.mp (Znt X.env scope.names [] y (.inr ⟨hy,B.free _ hy rfl⟩))
 refine⟨⟨I.ok.mod,B.kind,I.ok.glob,I.ok.blt,Xe _,fun y z c h1 h2=>I.ok.inj y z c (sub y c h1) (sub z c h2),fun y hy=>has y (Zgd B.nocell hy),fun y c hy=>absurd hy (by show ¬ (false=true); simp),I.ok.hd,I.ok.frames,.inl rfl,
   fun b hb=>⟨Xh (hlt b hb),fun y c e=>(hf b hb).2.2.2.2.1 y c (sub y c e)⟩,I.bs,Waa I.ok.bsz I.sz,fun b o e hb=>?_,fun b hb z=>?_,I.stack,I.stkFree⟩,
  rfl,I.bare,Un.kept old,⟨_,hns,fun i y v h1 h2 h3=>?_⟩,fun y c e=>?_,I.hok.fresh (Xe _),fun y c e=>(I.freeC y c (sub y c e)).imp id fun z=>⟨rfl,z.2⟩,fun p hp=>?_,I.hok.kept old,?_⟩
 ·rcases(hf b hb).2.2.2.1 with z | z
  ·exact I.ok.noex b o e z
  ·exact absurd (Xj (Xf e) (Waa I.ok.bsz z)) (Wav _)
 ·exact(Xi.mp (I.stkSub b z)).elim (hf b hb).2.1 (hf b hb).2.2.1
 ·cases i with
  | zero=>simp at h2
  | succ j =>
   have h1':cn[j]? = some y:=by simpa [blk] using h1
   have h2':(Zla ci σ)[j]? = some (some v):=by simpa using h2
   obtain⟨i,e1,e2,e3,e4⟩:=B.cap j y h1'
   have e5:σ[i]? = some (some v):=by
    unfold Zla at h2'
    rw[Xp,e1] at h2'
    simp at h2'
    cases e:σ[i]? with
    | none=>rw[e] at h2'; cases h2'
    | some o=>rw[e] at h2'; simp at h2'; rw[h2']
   obtain⟨m,hn,hl⟩:=I.loc
   have hv:Vis X.env.scope y:=by
    rcases e4 with e4 | e4
    ·exact .inr (.inl e4)
    ·exact .inr (.inr e4)
   obtain⟨u,r,l⟩:=hl i y v e2 e5 hv
   refine⟨u,r,.inr ⟨Zhc e3,?_⟩⟩
   obtain⟨c,ec⟩:=has y (Uj e3)
   refine⟨c,ec,?_⟩
   rcases l with ⟨l,_⟩ | ⟨_,c',ec',hc⟩
   ·rcases e4 with e4 | e4<;>rw[e4] at l<;>cases l
   ·rw[sub y c ec] at ec'
    cases ec'
    obtain⟨ob,q1,q2⟩:=hc
    exact⟨ob,old _ _ q1,q2⟩
 ·obtain⟨v,ob,q1,q2⟩:=I.cell y c (sub y c e)
  exact⟨v,ob,old _ _ q1,q2⟩
 ·have hp':p∈X.pn++pins:=by simpa [blk] using hp
  obtain⟨q1,q2,q3,q4,q5⟩:=I.pin p hp'
  refine⟨old _ _ q1,q2,Xh (Xf q1),fun z=>?_,q5⟩
  exact(Xi.mp (I.stkSub p.1 z)).elim q3 q4
 ·simp[blk,Zla,B.len]
def PTs (X:Cx) (ifs:List Vv) (t:TT):Prop :=
 ∀ (pins:List (Ve×Obj)) (s:Vd) (σ:L2.St) (H:Hp) (Q:Bool->Hp->Prop),Inv X pins σ H s->t σ H Q ->
  Vg (Vl X.prog X.w) X.A (forIn ifs true fun c r=>if r=true then do let ok<-isTrue c X.env (eval c X.env); pure (Taj ok) else pure (Taj r)) (TP X pins σ Q) X.xe s
theorem Yeb:PTs X [] (fun _ H Q=>Q true H):=fun _ _ _ H _ I h=>wpAny_tests_nil ⟨H,I,h⟩
theorem Yd1 {c:Vv} {t:TT} (h:PT X c t):PTs X [c] t:=fun pins s σ H Q I q=>wpAny_tests_one (h pins s σ H Q I q)
def LcW (J:It) (ci:List Nat) (tt:TT) (te:TE) (σ:L2.St) (Q:VK) (H1:Hp):Prop:=∀ p,H1 p=none->∃ W:Nat->Nat->List V->Hp->Prop,(∃ m,W 0 m [] (upd H1 p (.lst [])))/\∀ i m ys H,W i m ys H ->
 H p=some (.lst ys)/\((J.stop i H/\Q (.ref p) H)\/(J.go i H/\∀ v H',J.yld i H v H'->tt (some v::Zla ci σ) H' fun b H2 =>
  if b=true then te (some v::Zla ci σ) H2 fun y H3=>H3 p=some (.lst ys)/\ys.length<sizeLine/\∃ m',m'<m/\W (i+1) m' (ys++[y]) (upd H3 p (.lst (ys++[y])))
  else ∃ m',m'<m/\W (i+1) m' ys H2))
structure Gone (X:Cx) (pins:List (Ve×Obj)) (H:Hp) (s:Vd) (C:Ve):Prop where
 ns:∃ m,s.heap.Ns C m
 free:H C=none
 nl:C≠X.env.locals
 up:X.s₀.heap.objs.size<=C
 nc:∀ x c,X.env.cells.lookup x=some c->c≠C
 np:∀ p∈X.pn++pins,p.1≠C
theorem Gone.go {σ:L2.St} {h':Vy} {C:Ve} (g:Gone X pins H s C) (I:Inv X pins σ H s) (hs:Xw C s.heap h'):Inv X pins σ H { s with heap:=h' } :=
 I.turned (t':=s.toks) (fun b o hb e=>hs.extBut b o hb e) g.free g.nl (.inr g.up) g.nc g.np
theorem Zry {elt iter:Vv} {px pos:Pos} {ifs:List Vv} {tt:TT} {te:TE} {Q:VK} {E:Vb->Vd->Prop} {RR:Vb->Ve->Result->Vd->Prop} {it:Ve} {tn:Nat->Vy->Prop} {J:It}
  (I:Inv X pins σ H s) (hc:X.calm=true) (B:BlkOk X scope x cn ci) (T:Turn X.prog X.w X.K (.Name x px) J fp it tn) (st:tn 0 s.heap) (hf:∀ b∈fp,Znd X pins H b)
  (ht:∀ cl C s H fp pn,PTs (blk X scope (x::cn) cl C s H fp pn) ifs tt) (he:∀ cl C s H fp pn,PE (blk X scope (x::cn) cl C s H fp pn) elt te)
  (hw:LcW J ci tt te σ Q H) (hRR:∀ p C H' s',Inv X pins σ H' s'->Gone X pins H' s' C->Q (.ref p) H'->RR (.ref p) C (.ok .next) s') :
  Vg (Vl X.prog X.w) X.A (Uer []) (fun acc s₃=>Vg (Vl X.prog X.w) X.A (newFunctionEnv scope X.env.globals (Zjb X.env scope.names []) [] X.env.qual none .none (some X.env)) (fun cenv s₄ =>
   Uca (Vl X.prog X.w) X.A (.compStart (.ListComp elt [⟨.Name x px,iter,ifs,0⟩] scope pos) 0 (.ref it) acc { cenv with scope:=relabel scope X.env }) (RR acc cenv.locals) s₄) E s₃) E s:=by
 have hp0:H s.heap.objs.size=none:=I.hok.fresh (Xe _)
 obtain⟨W,⟨m0,w0⟩,turn⟩:=hw _ hp0
 refine Vu (Udc B.nocell (by intro y hy; simp at hy) (fun h₁ hns₁ hsb₁=>?_) B.kind)
 dsimp only at hns₁ hsb₁ ⊢
 have I3:Inv X pins σ (upd H s.heap.objs.size (.lst [])) { s with heap:=s.heap.push { cls:=.type "list",dict:=none,data:=.seq ([]:List Vb).toArray } } :=
  I.laid (t':=s.toks) (fun b u e=>Xa _ e) (Xe _) ⟨Wbd _,[],0,.nil,Xd _ rfl⟩
 generalize hH3:s.heap.push { cls:=.type "list",dict:=none,data:=.seq ([]:List Vb).toArray }=hp3 at hns₁ hsb₁ I3 ⊢
 have flt:∀ b∈fp,b<s.heap.objs.size:=fun b hb=>by
  obtain⟨o,e,_⟩:=T.obj 0 _ st b hb
  exact Xf e
 have sz3:hp3.objs.size=s.heap.objs.size+1:=by rw[<- hH3,Wam]
 have f3:∀ b∈fp,Znd X pins (upd H s.heap.objs.size (.lst [])) b:=fun b hb=>⟨by rw[Zah (Xh (flt b hb))]; exact(hf b hb).1,(hf b hb).2⟩
 have old3:∀ b o,s.heap.get? b=some o->hp3.get? b=some o:=fun b o e=>by rw[<- hH3]; exact Xa _ e
 have I4:=Yd7 (s:={ s with heap:=hp3 }) (tk:=s.toks+([]:List (Str×Vb)).length) I3 B f3 (fun b hb=>by show b<hp3.objs.size; rw[sz3]; exact Wcc (flt b hb)) (by simpa using hns₁) hsb₁
 have old4:∀ b o,hp3.get? b=some o->h₁.get? b=some o:=fun b o e=>hsb₁.extBut b o (Xh (Xf e)) (Xa _ e)
 generalize hX':blk X scope (x::cn) (Zjb X.env scope.names []) hp3.objs.size { s with heap:=hp3 } (upd H s.heap.objs.size (.lst [])) fp (X.pn++pins)=X' at I4
 have ePr:X'.prog=X.prog:=by rw[<- hX']; rfl
 have eW:X'.w=X.w:=by rw[<- hX']; rfl
 have eK:X'.K=X.K:=by rw[<- hX']; rfl
 have eA:X'.A=X.A:=by rw[<- hX']; rfl
 have eEnv:X'.env=Uby scope (Zjb X.env scope.names []) hp3.objs.size X.env:=by rw[<- hX']; rfl
 have eEx:X'.ex=fp:=by rw[<- hX']; rfl
 have ht':PTs X' ifs tt:=by rw[<- hX']; exact ht _ _ _ _ _ _
 have he':PE X' elt te:=by rw[<- hX']; exact he _ _ _ _ _ _
 have eXe:X'.xe=fun _ _=>False:=by rw[<- hX']; rfl
 have hg':PG X' (.Name x px) (Znw 0):=by
  rw[<- hX']
  exact Zny (X:=blk X scope (x::cn) _ _ _ _ _ _) B.nd rfl (.inl (Uaf B.tgt)) (.inr (Uaf B.tgt))
 -- the iterator's objects, seen from the block
 have stat:∀ {H':Hp},(∀ b∈fp,H' b=none)->∀ b∈fp,Znd X' [] H' b:=fun {H'} hn b hb=>by
  rw[<- hX']
  refine⟨hn b hb,(by show b≠hp3.objs.size; rw[sz3]; exact Xh (Wcc (flt b hb))),fun z=>(Xi.mp (I3.stkSub b z)).elim (hf b hb).2.1 (hf b hb).2.2.1,.inl hb,fun y c e=>?_,fun p hp=>?_⟩
  ·exact(hf b hb).2.2.2.2.1 y c (Zh9 X.env scope.names [] (by intro x c h; simp at h) y c e)
  ·exact(hf b hb).2.2.2.2.2 p (by simpa [blk] using hp)
 have back:∀ {σ':L2.St} {H':Hp} {s':Vd},Inv X' [] σ' H' s'->Inv X pins σ H' s'/\Gone X pins H' s' hp3.objs.size:=fun {σ' H' s'} I5=>by
  have u:Un (frs X.stack) fp (upd H s.heap.objs.size (.lst [])) H' hp3 s'.heap:=by
   have:=I5.base
   rw[<- hX'] at this
   exact this
  have hok:HOk X.prog X.w H' s'.heap:=by have:=I5.hok; rw[ePr,eW] at this; exact this
  have ho:s'.os=s.os:=by have:=I5.os; rw[<- hX'] at this; exact this
  refine⟨I3.call' ho u hok I5.bare fun b hb=>⟨(hf b hb).2.2.2.1,(hf b hb).2.1,(hf b hb).2.2.2.2.1,(hf b hb).2.2.2.2.2⟩,?_,?_,?_,?_,fun y c e z=>?_,fun p hp z=>?_⟩
  ·obtain⟨m,hn,_⟩:=I5.loc
   rw[eEnv] at hn
   exact⟨m,hn⟩
  ·have:=I5.free
   rw[eEnv] at this
   exact this
  ·exact Wbr (I3.lt)
  ·exact I3.sz
  ·obtain⟨v,q⟩:=I3.cell y c e
   exact absurd (Xj q.lt (by rw[z]; exact Xe _)) (Wav _)
  ·have:=Xf (I3.pin p hp).1
   rw[z] at this
   exact Wav _ this
 have loop:Uca (Vl X.prog X.w) X.A (.compLoop (.ListComp elt [⟨.Name x px,iter,ifs,0⟩] scope pos) 0 (.ref it) (.ref s.heap.objs.size) (Uby scope (Zjb X.env scope.names []) hp3.objs.size X.env))
   (RR (.ref s.heap.objs.size) hp3.objs.size) { s with heap:=h₁,toks:=s.toks+([]:List (Str×Vb)).length }:=by
  refine codeAny_loop rfl (fun n s'=>∃ i o ys H',Inv X' [] (o::Zla ci σ) H' s'/\tn i s'.heap/\(∀ b∈fp,H' b=none)/\W i n ys H') (fun n s' hI=>?_) m0
   ⟨0,none,[],_,I4,T.keep _ _ _ st (fun b hb o e=>old4 b o (old3 b o e)),fun b hb=>(f3 b hb).1,w0⟩
  obtain⟨i,o,ys,H',I5,st5,fr5,w5⟩:=hI
  show Vg _ X.A ((compTurn (.ListComp elt [⟨.Name x px,iter,ifs,0⟩] scope pos) 0 (.ref it) (.ref s.heap.objs.size) (Uby scope (Zjb X.env scope.names []) hp3.objs.size X.env)).onRaise (fun x=>do noteFrame x (Uby scope (Zjb X.env scope.names []) hp3.objs.size X.env); theTreesLotGoes x)) _ _ s'
  refine wpAny_noted ?_
  rw[compTurn_list,<- eEnv,<- ePr,<- eW,<- eA]
  refine Uaq (E:=fun _ _=>False) ?_ (fun _ _ q=>q) (fun _ _ z=>z.elim)
  obtain⟨hpl,wt⟩:=turn i n ys H' w5
  refine Va (Ubp (Va ?_))
  rcases wt with ⟨stop,q⟩ | ⟨go,step⟩
  ·have z:=T.done X' ePr eW eK (by rw[<- hX']; exact hc) i [] s' _ H' (fun _ _=>False) I5 (stat fr5) st5 stop
   rw[<- ePr,<- eW] at z
   refine thn z fun r s6 zz=>?_
   obtain⟨hr,I6⟩:=zz
   subst hr
   obtain⟨J1,g1⟩:=back I6
   exact Vc (hRR _ _ H' s6 J1 g1 q)
  ·have z:=T.item X' ePr eW eK (by rw[<- hX']; exact hc) i [] s' _ H' (fun _ _=>False) I5 (stat fr5) st5 go
   rw[<- ePr,<- eW] at z
   refine thn z fun r s6 zz=>?_
   obtain⟨u,hr,h6⟩:=zz
   subst hr
   refine Va (thn h6 fun _ s7 zz=>?_)
   obtain⟨v,H7,I7,r7,y7,st7,fr7⟩:=zz
   have I7':=I7.pinned (stat fr7) (T.obj _ _ st7)
   rw[<- eXe]
   refine Va (thn (hg' _ s7 _ H7 v u _ I7' r7 (show Znw 0 v (o::Zla ci σ) H7 (fun σ8 H8=>σ8=some v::Zla ci σ/\H8=H7) from⟨rfl,rfl⟩)) fun _ s8 zz=>?_)
   obtain⟨σ8,H8,I8,e8,e8'⟩:=zz
   subst e8 e8'
   refine Va (thn (ht' _ s8 _ _ _ I8 (step v _ y7)) fun b s9 zz=>?_)
   obtain⟨H9,I9,q9⟩:=zz
   have tnK:∀ {σ':L2.St} {H':Hp} {s':Vd},Inv X' (([]:List (Ve×Obj))++Zlq fp s7.heap) σ' H' s'->tn (i+1) s'.heap/\∀ b∈fp,H' b=none:=fun {σ' H' s'} I' =>
    ⟨T.keep _ _ _ st7 fun b hb o e=>(I'.pin (b,o) (Xv _ (Xv _ (Zdu hb e)))).1,fun b hb=>by
     obtain⟨ob,e,d⟩:=T.obj _ _ st7 b hb
     exact(I'.pin (b,ob) (Xv _ (Xv _ (Zdu hb e)))).2.1⟩
   cases b with
   | false =>
    obtain⟨m',hm,w9⟩:=q9
    obtain⟨t9,f9⟩:=tnK I9
    exact Vc ⟨rfl,m',hm,i+1,_,ys,H9,I9.unpinned,t9,f9,w9⟩
   | true =>
    refine Va (Va (thn (he' _ s9 _ _ _ I9 q9) fun yv s10 zz=>?_))
    obtain⟨y,H10,I10,r10,hp10,hz10,m',hm,w10⟩:=zz
    refine Va (thn (Zj7 (X:=X') _ s10 _ H10 (.ref s.heap.objs.size) [y] (.ref s.heap.objs.size) [yv] (fun _ H11=>H11=upd H10 s.heap.objs.size (.lst (ys++[y]))) I10 rfl (.cons r10 .nil) ⟨_,ys,y,rfl,rfl,hp10,hz10,rfl⟩) fun _ s11 zz=>?_)
    obtain⟨_,H11,I11,_,e11⟩:=zz
    subst e11
    obtain⟨t11,f11⟩:=tnK I11
    exact Vc (Vc ⟨rfl,m',hm,i+1,_,ys++[y],_,I11.unpinned,t11,f11,w10⟩)
 exact Ucn loop (T.self _ 0 _ _ _ (T.keep _ _ _ st (fun b hb o e=>old4 b o (old3 b o e))) loop)
nonrec def tLC (wi:TI) (ci:List Nat) (tt:TT) (te:TE):TE:=fun σ H Q=>wi σ H fun J H1=>LcW J ci tt te σ Q H1
theorem pe_lc {elt iter:Vv} {px pos:Pos} {ifs:List Vv} {wi:TI} {tt:TT} {te:TE} (hc:X.calm=true) (B:BlkOk X scope x cn ci) (hi:PI X (.Name x px) iter wi)
  (ht:∀ cl C s H fp pn,PTs (blk X scope (x::cn) cl C s H fp pn) ifs tt) (he:∀ cl C s H fp pn,PE (blk X scope (x::cn) cl C s H fp pn) elt te)
  (hs:∀ x,Uaa iter X.env x=pure x:=by rintro _; rfl):PE X (.ListComp elt [⟨.Name x px,iter,ifs,0⟩] scope pos) (tLC wi ci tt te):=by
 intro pins s σ H Q I h
 rw[eval_ListComp]
 refine Ubb (use:=none) rfl hs (Zih X.env scope B.free) B.kind B.names ?_
 refine thn (hi pins s σ H _ I h) fun v s1 h1=>thn h1 fun itv s2 h2=>?_
 obtain⟨it,fp,tn,J,H2,e,I2,T,st2,f2,w2⟩:=h2
 subst e
 refine Zry (RR:=fun acc C=>compPost (Vl X.prog X.w) X.A X.xe none (EP X pins σ Q) acc C) I2 hc B T st2 f2 ht he w2 fun p C H' s' I' g q=>?_
 obtain⟨m,hn⟩:=g.ns
 exact⟨m,hn,fun h' hs'=>⟨.ref p,H',g.go I' hs',rfl,q⟩⟩
theorem Yaj {elt iter:Vv} {px py pos spos:Pos} {ifs:List Vv} {wi:TI} {tt:TT} {te:TE} {i:Nat} {y:Str} (hc:X.calm=true) (B:BlkOk X scope x cn ci) (hi:PI X (.Name x px) iter wi)
  (ht:∀ cl C s H fp pn,PTs (blk X scope (x::cn) cl C s H fp pn) ifs tt) (he:∀ cl C s H fp pn,PE (blk X scope (x::cn) cl C s H fp pn) elt te)
  (hN:X.N.Nodup) (hiN:X.N[i]? = some y) (hy:X.env.scope.names.lookup y=some .local)
  (hsw:Ubs (.ListComp elt [⟨.Name x px,iter,ifs,0⟩] scope pos) (some (.Name y py)) spos.line X.env=pure true:=by rfl)
  (hs:∀ x,Uaa iter X.env x=pure x:=by rintro _; rfl):PS X (.Assign [.Name y py] (.ListComp elt [⟨.Name x px,iter,ifs,0⟩] scope pos) spos) (tAsg (tLC wi ci tt te) (Znw i)):=by
 intro pins s σ H E I h
 rw[exec_Assign_Name_used _ _ _ _ hsw]
 refine Va (Ubp (Va ?_))
 show Vg _ X.A (do let _<-comprehension (.ListComp elt [⟨.Name x px,iter,ifs,0⟩] scope pos) scope X.env _ (Uer []) false (eval iter X.env) (some (Udh (.Name y py) X.env))) _ _ s
 refine Va (Uaq (Ubb (use:=some (Udh (.Name y py) X.env)) (Q:=fun _ s'=>SP X pins E .next s') rfl hs (Zih X.env scope B.free) B.kind B.names ?_) (fun _ s' hq=>Vc (Vc hq)) fun _ _ e=>e)
 refine thn (hi pins s σ H _ I h) fun v s1 h1=>thn h1 fun itv s2 h2=>?_
 obtain⟨it,fp,tn,J,H2,e,I2,T,st2,f2,w2⟩:=h2
 subst e
 refine Zry (RR:=fun acc C=>compPost (Vl X.prog X.w) X.A X.xe (some (Udh (.Name y py) X.env)) (fun _ s'=>SP X pins E .next s') acc C) I2 hc B T st2 f2 ht he w2 fun p C H' s' I' g q=>?_
 show Vg _ X.A (Udh (.Name y py) X.env (.ref p)) _ _ _
 have hk:X.env.kindOf y=some .local:=hy
 refine wpAny_assign_Name (Zk3 I' hN hiN (.inl hy) (v:=.ref p) (u:=.ref p) rfl (fun s'' I'' ch=>?_) (.inr hy))
 obtain⟨m,hn⟩:=g.ns
 obtain⟨a,hsb,ha⟩:=ch
 have haC:C≠a:=by
  rcases ha with ha | ha
  ·rw[ha]; exact g.nl
  ·exact Ul (g.nc y a ha)
 have hn2:s''.heap.Ns C m:=hn.sameBut hsb haC
 exact⟨m,hn2,fun h' hs'=>⟨_,H',Gone.go ⟨⟨m,hn2⟩,g.free,g.nl,g.up,g.nc,g.np⟩ I'' hs',q⟩⟩
end
nonrec def Zyj (ci:List Nat) (σd:SD):SD:=ci.map fun i=>(σd[i]?).join
open Classical in
nonrec def Zfq (own:Zh4) (c0:SD) (tt:TF) (te:EF):List D->HD->Option (List D×HD)
 | [],H=>if Zci own H then some ([],H) else none
 | x::r,H=>if Zci own H then (tt (some x::c0) H).bind fun t=>if t.1=true then (te (some x::c0) t.2).bind fun e=>(Zfq own c0 tt te r e.2).map fun q=>(e.1::q.1,q.2) else Zfq own c0 tt te r t.2 else none
nonrec def eLC (it:ItF) (ci:List Nat) (tt:TF) (te:EF):EF:=fun σ H=>(it σ H).bind fun p=>(Zfq p.1.2 (Zyj ci σ) tt te p.1.1 p.2).bind fun q=>mkL q.1 q.2
nonrec def Zyv:TF:=fun _ H=>some (true,H)
def Yg4 (X:Cx) (ifs:List Vv) (t:TF):Prop:=PTs X ifs (rdT X.K t)
section
variable {X:Cx} {scope:Ubo} {x:Str} {cn:List Str} {ci:List Nat}
theorem Zz3:Yg4 X [] Zyv:=by
 rintro pins s σ H Q I ⟨ι,σd,Hd,b,Hd',sr,hr,e,q⟩
 cases e
 exact Yeb pins s σ H Q I (q H ι Le.refl hr)
theorem Zzh {c:Vv} {t:TF} (h:PTf X c t):Yg4 X [c] t:=Yd1 h
theorem SRep.cap {K:Xb} {H:Hp} {ι:List Ve} {σ:L2.St} {σd:SD} {d:D} {v:V} (s:SRep K H ι σ σd) (r:Rep K H ι d v):SRep K H ι (some v::Zla ci σ) (some d::Zyj ci σd):=by
 refine⟨by simp[Zla,Zyj],fun i e h=>?_⟩
 cases i with
 | zero=>simp at h; subst h; exact⟨v,rfl,r⟩
 | succ j =>
  simp only[Wcf,Zla,Zyj,Xp] at h ⊢
  cases ej:ci[j]? with
  | none=>rw[ej] at h; simp at h
  | some i =>
   rw[ej] at h
   simp only[Wey,Xx.injEq] at h ⊢
   cases es:σd[i]? with
   | none=>rw[es] at h; simp at h
   | some o =>
    rw[es] at h
    simp at h
    subst h
    obtain⟨u,h1,h2⟩:=s.var i e es
    exact⟨u,by rw[h1]; rfl,h2⟩
theorem Yfd {K:Xb} {it:ItF} {tt:TF} {te:EF} {σ:L2.St} {H:Hp} {Q:VK} (h:rdE K (eLC it ci tt te) σ H Q):tLC (rdI K it) ci (rdT K tt) (rdE K te) σ H Q:=by
 obtain⟨ι,σd,Hd,d,Hd',s,hr,e,q⟩:=h
 obtain⟨⟨⟨xs,own⟩,H1⟩,e1,e⟩:=Zo e
 obtain⟨⟨ds,H2⟩,e2,e⟩:=Zo e
 obtain⟨hz,e⟩:=Znk e
 cases e
 dsimp only at e2 hz
 refine⟨ι,σd,Hd,xs,own,H1,s,hr,e1,fun J H0 ι0 l0 h0 itr p hp=>?_⟩
 have s0:=s.mono l0
 refine⟨fun i m ys H=>m=xs.length - i/\i<=xs.length/\H p=some (.lst ys)/\∃ ι Hd done rest,Le K H0 ι0 H ι/\p∉ι/\HRep K H ι Hd/\Vj (Rep K H ι) done ys/\Zfq own (Zyj ci σd) tt te (xs.drop i) Hd=some (rest,H2)/\ds=done++rest,
  ⟨xs.length,by simp,Wbd _,Zas,ι0,H1,[],ds,Le.fresh hp _,h0.fresh hp,h0.tup hp _,.nil,by simpa using e2,by simp⟩,?_⟩
 rintro i m ys H5 ⟨rfl,hi,hpl,ι5,Hd5,done,rest,l5,np5,h5,pd5,e5,eds⟩
 refine⟨hpl,?_⟩
 by_cases hlt:i<xs.length
 ·have ed:xs.drop i=xs[i]::xs.drop (i+1):=Waq hlt
  rw[ed,Zfq] at e5
  split at e5
  ·rename_i ok
   obtain⟨⟨b6,H6⟩,e6,e5⟩:=Zo e5
   refine .inr ⟨itr.go i H5 ι5 Hd5 l5 h5 ok hlt,fun v H' y=>?_⟩
   obtain⟨ι6,l6,h6,r6⟩:=itr.yld i H5 ι5 Hd5 xs[i] v H' l5 h5 ok (by simp[hlt]) y
   obtain⟨hp6,np6⟩:=l6.frame p _ hpl np5
   have s6:=SRep.cap (ci:=ci) (s0.mono (l5.trans l6)) r6
   refine⟨ι6,_,Hd5,b6,H6,s6,h6,e6,fun H7 ι7 l7 h7=>?_⟩
   obtain⟨hp7,np7⟩:=l7.frame p _ hp6 np6
   have L7:=(l5.trans l6).trans l7
   cases b6 with
   | true =>
    rw[if_pos rfl]
    dsimp only at e5
    rw[if_pos rfl] at e5
    obtain⟨⟨d8,H8⟩,e8,e5⟩:=Zo e5
    obtain⟨⟨r9,H9⟩,e9,e5⟩:=Zm e5
    cases e5
    refine⟨ι7,_,H6,d8,H8,s6.mono l7,h7,e8,fun v8 H8' ι8 l8 h8 rr8=>?_⟩
    obtain⟨hp8,np8⟩:=l8.frame p _ hp7 np7
    have ly:ys.length<sizeLine:=by
     rw[<- Prd.len pd5]
     rw[eds] at hz
     simp at hz
     omega
    have w8:Lw K H8' ι8 (upd H8' p (.lst (ys++[v8]))) ι8:=Lw.side hp8 _
    refine⟨hp8,ly,xs.length - (i+1),by omega,rfl,hlt,Zas,ι8,H8,done++[d8],r9,(L7.trans l8).side hp hp8 _,np8,h8.keep w8 (fun a ha=>Zah fun z=>by subst z; exact np8 ha),?_,e9,by rw[eds]; simp⟩
    exact Prd.append (Prd.monoW w8 (Prd.mono ((l6.trans l7).trans l8) pd5)) (.cons (Rep.monoW w8 rr8) .nil)
   | false =>
    rw[if_neg (by simp)]
    dsimp only at e5
    rw[if_neg (by simp)] at e5
    exact⟨xs.length - (i+1),by omega,rfl,hlt,hp7,ι7,H6,done,rest,L7,np7,h7,Prd.mono (l6.trans l7) pd5,e5,eds⟩
  ·cases e5
 ·rw[Wdf (by omega),Zfq] at e5
  split at e5
  ·rename_i ok
   have e6:(([]:List D),Hd5)=(rest,H2):=Xx.inj e5
   obtain⟨rfl,rfl⟩:=Way.inj e6
   refine .inl ⟨itr.stop i H5 ι5 _ l5 h5 ok (by omega),?_⟩
   have w5:Lw K H5 ι5 H5 (ι5++[p]):=⟨fun _ _ z=>z,fun _ _ z=>z,⟨[p],rfl⟩,fun _ _ _ z=>z⟩
   have L:=l0.trans l5
   simp at eds
   subst eds
   refine q _ H5 (ι5++[p]) ⟨L.toLw.trans w5,fun a o ha na=>?_⟩ (h5.add np5 ⟨ys,hpl,Prd.monoW w5 pd5⟩) (Zay.mpr ⟨p,rfl,by rw[<- h5.len]; simp⟩)
   obtain⟨q1,q2⟩:=L.frame a o ha na
   refine⟨q1,?_⟩
   have:a≠p:=fun z=>by
    subst z
    have:=(l0.frame a o ha na).1
    rw[hp] at this; cases this
   simp[q2,this]
  ·cases e5
theorem Zj5 {elt iter:Vv} {px pos:Pos} {ifs:List Vv} {it:ItF} {tt:TF} {te:EF} (hc:X.calm=true) (B:BlkOk X scope x cn ci) (hi:PIf X (.Name x px) iter it)
  (ht:∀ cl C s H fp pn,Yg4 (blk X scope (x::cn) cl C s H fp pn) ifs tt) (he:∀ cl C s H fp pn,PEf (blk X scope (x::cn) cl C s H fp pn) elt te)
  (hs:∀ x,Uaa iter X.env x=pure x:=by rintro _; rfl):PEf X (.ListComp elt [⟨.Name x px,iter,ifs,0⟩] scope pos) (eLC it ci tt te) :=
 PEi (pe_lc (tt:=rdT X.K tt) (te:=rdE X.K te) hc B hi ht he hs) fun _ _ _ h=>Yfd h
theorem Zhp {elt iter:Vv} {px py pos spos:Pos} {ifs:List Vv} {it:ItF} {tt:TF} {te:EF} {i:Nat} {y:Str} (hc:X.calm=true) (B:BlkOk X scope x cn ci) (hi:PIf X (.Name x px) iter it)
  (ht:∀ cl C s H fp pn,Yg4 (blk X scope (x::cn) cl C s H fp pn) ifs tt) (he:∀ cl C s H fp pn,PEf (blk X scope (x::cn) cl C s H fp pn) elt te)
  (hN:X.N.Nodup) (hiN:X.N[i]? = some y) (hy:X.env.scope.names.lookup y=some .local)
  (hsw:Ubs (.ListComp elt [⟨.Name x px,iter,ifs,0⟩] scope pos) (some (.Name y py)) spos.line X.env=pure true:=by rfl)
  (hs:∀ x,Uaa iter X.env x=pure x:=by rintro _; rfl):PSf X (.Assign [.Name y py] (.ListComp elt [⟨.Name x px,iter,ifs,0⟩] scope pos) spos) (Zbm i (eLC it ci tt te)):=by
 refine PSi (Yaj (tt:=rdT X.K tt) (te:=rdE X.K te) hc B hi ht he hN hiN hy hsw hs) fun E σ H zz=>?_
 obtain⟨ι,σd,Hd,fl,σd',Hd',s,hr,e,q⟩:=zz
 obtain⟨⟨x,H1⟩,e1,e⟩:=Zm e
 cases e
 exact Yfd ⟨ι,σd,Hd,x,H1,s,hr,e1,fun v H' ι' l h r=>q _ H' ι' l h ((s.mono l).set r i)⟩
end
theorem Yek:fillsNumberSlot (.type "tuple") "mul" = pure false :=
 PySem.fillsNumberSlot_seq (id := "tuple.__mul__") (r:=some (.builtin "tuple.__rmul__")) Tan.lookup (by decide +kernel) F.slot_tuple_rmul.lookup (by decide +kernel)
theorem repT:seqRepeat? (.type "tuple")=pure (some (.builtin "tuple.__mul__")):=by
 unfold seqRepeat?
 rw[Tcp (T := "tuple") (name := "__mul__") (id := "tuple.__mul__") Tan.lookup (by decide +kernel),Tcp (T := "tuple") (name := "__rmul__") (id := "tuple.__rmul__") F.slot_tuple_rmul.lookup (by decide +kernel)]
 rfl
section
variable {dd:Option Ve} {sl:Array (Option Vb)}
theorem rmulT (a:Int) (t:Tok) (l:Ve) (items:Array Vb) (n:Nat) :
  Uen (Builtin.«int.__rmul__» ⟨[.int a t,.ref l],[]⟩) (fun _ R s=>s.heap.get? l=some { cls:=.type "tuple",dict:=dd,data:=.seq items n,slots:=sl }/\R (.ok (.ret Value.notImplemented)) s) :=
 .of_wp fun prog w A R s h=>by obtain⟨hp,g,d,tk,os⟩:=s; obtain⟨hl,h⟩:=h; wp_walk; exact⟨_,rfl,h⟩
theorem Zw1 (l:Ve) (items:Array Vb) (n:Nat) (x:Int) (u:Tok) (h1:(decide (x < -(2 ^ 63))||decide (x ≥ 2 ^ 63))=false) (h2:(items.isEmpty||x==1)=true) :
  Uen (Builtin.«tuple.__mul__» ⟨[.ref l,.int x u],[]⟩) (fun _ R s=>s.heap.get? l=some { cls:=.type "tuple",dict:=dd,data:=.seq items n,slots:=sl }/\R (.ok (.ret (.ref l))) s) :=
 .of_wp fun prog w A R s h=>by
  obtain⟨hp,g,d,tk,os⟩:=s; obtain⟨hl,h⟩:=h
  have f1:=Tbs
  wp_walk
  simp only[h1,Wao,if_false]
  wp_walk using Vo hl
  simp only[h2,if_true]
  wp_walk using Vo hl
  exact⟨_,rfl,h⟩
theorem Zwg (l:Ve) (items:Array Vb) (n:Nat) (x:Int) (u:Tok) (h1:(decide (x < -(2 ^ 63))||decide (x ≥ 2 ^ 63))=false) (h2:(items.isEmpty||x==1)=false) (h3:(decide (x<=0)||items.isEmpty)=true) :
  Uen (Builtin.«tuple.__mul__» ⟨[.ref l,.int x u],[]⟩) (fun _ R s=>s.heap.get? l=some { cls:=.type "tuple",dict:=dd,data:=.seq items n,slots:=sl }/\R (.ok (.ret (.ref s.heap.objs.size))) { s with heap:=s.heap.push { cls:=Tbb "tuple",data:=Data.seq #[] } }) :=
 .of_wp fun prog w A R s h=>by
  obtain⟨hp,g,d,tk,os⟩:=s; obtain⟨hl,h⟩:=h
  have f1:=Tbs
  wp_walk
  simp only[h1,Wao,if_false]
  wp_walk using Vo hl
  try simp only[h2,h3,Wao,if_false,if_true]
  try (wp_walk using Vo hl)
  exact⟨_,rfl,h⟩
theorem Yaq (l:Ve) (items:Array Vb) (n:Nat) (x:Int) (u:Tok) (h1:(decide (x < -(2 ^ 63))||decide (x ≥ 2 ^ 63))=false) (h2:(items.isEmpty||x==1)=false) (h3:(decide (x<=0)||items.isEmpty)=false) (h4:¬ (items.size*x:Int) > (2 ^ 63 - 1) / 8) (h5:Tbk (items.size*x)=false)
  (hs:(Wem (fun x1 x2=>x1++x2) #[] (Xl x.toNat items)).size<=sizeLine) :
  Uen (Builtin.«tuple.__mul__» ⟨[.ref l,.int x u],[]⟩) (fun _ R s=>s.heap.get? l=some { cls:=.type "tuple",dict:=dd,data:=.seq items n,slots:=sl }/\R (.ok (.ret (.ref s.heap.objs.size))) { s with heap:=s.heap.push { cls:=Tbb "tuple",data:=Data.seq (Wem (fun x1 x2=>x1++x2) #[] (Xl x.toNat items)) } }) :=
 .of_wp fun prog w A R s h=>by
  obtain⟨hp,g,d,tk,os⟩:=s; obtain⟨hl,h⟩:=h
  have f1:=Tbs
  wp_walk
  simp only[h1,Wao,if_false]
  wp_walk using Vo hl
  simp only[h2,h3,h5,Wao,if_false,if_neg h4]
  wp_walk using Vo hl
  exact⟨_,rfl,h⟩
end
theorem Zlr (its:List Vb) (m:Nat):Wem (fun x1 x2=>x1++x2) #[] (Xl m its.toArray)=(Xl m its).flatten.toArray:=by
 have:=Zj4 its m []
 rw[Wdc] at this
 exact this
section
variable {prog:Vi} {w:Vs} {A:Vr} {E:Vb->Vd->Prop} {s:Vd}
theorem Ycd {l:Ve} {its:List Vb} {k:Int} {t:Tok} {Q:Vb->Vd->Prop} (p:Ueq s.heap l its.toArray) (h1 : -(2 ^ 63)<=k) (h2:k<2 ^ 63) (hz:its.length*k.toNat<=sizeLine)
  (qs:(its=[]\/k=1)->Q (.ref l) s) (qn:its≠[]->k≠1->Q (.ref s.heap.objs.size) { s with heap:=s.heap.push { cls:=.type "tuple",data:=.seq (Xl k.toNat its).flatten.toArray } }) :
  Vg (Vl prog w) A (Uab .Mult (.ref l) (.int k t)) Q E s:=by
 obtain⟨o,e,hc,n,hd⟩:=p
 obtain⟨c,dd,da,sl⟩:=o
 have hc':c=.type "tuple" := hc
 have hd':da=.seq its.toArray n:=hd
 subst hc' hd'
 have b1:(decide (k < -(2 ^ 63))||decide (k ≥ 2 ^ 63))=false:=by simp; omega
 refine Ucb (T := "tuple") (U := "int") (by decide) ⟨_,e,rfl⟩ (fun s'=>Uda s' k t) Yek F.fills_int_mul Tbd repT F.slot_int_index.lookup
  (Ubr Tbd (Uda s k t) F.entry_int_rmul (Tcj _ _) (rmulT k t l its.toArray n) ⟨e,rfl,⟨_,e,rfl⟩,?_⟩)
 by_cases hs:its=[]\/k=1
 ·exact Ubr Tan ⟨_,e,rfl⟩ Tbq (Tbm _ _) (Zw1 l its.toArray n k t b1 (by rcases hs with h | h<;>simp[h])) ⟨e,qs hs⟩
 ·have hne:its≠[]:=fun h=>hs (.inl h)
  have hk:k≠1:=fun h=>hs (.inr h)
  have b2:(its.toArray.isEmpty||k==1)=false:=by cases its<;>simp_all
  have new:=qn hne hk
  by_cases h0:k<=0
  ·have z:k.toNat=0:=by omega
   rw[z] at new
   exact Ubr Tan ⟨_,e,rfl⟩ Tbq (Tbm _ _) (Zwg l its.toArray n k t b1 b2 (by simp[h0])) ⟨e,new⟩
  ·have sz:sizeLine=16777216:=Ux
   have hm:(its.toArray.size:Int)*k<=16777216:=by
    have e1:k=(k.toNat:Int):=by omega
    rw[Xo,e1,<- Int.natCast_mul]
    omega
   have b3:(decide (k<=0)||its.toArray.isEmpty)=false:=by cases its<;>simp_all
   refine Ubr Tan ⟨_,e,rfl⟩ Tbq (Tbm _ _) (Yaq l its.toArray n k t b1 b2 b3 (by omega) (by simp only[Tbk,decide_eq_false_iff_not,sz]; omega) ?_) ⟨e,?_⟩
   ·rw[Zlr,Xo,Zqj,Wgb]; exact hz
   ·rw[Zlr]; exact new
end
variable {X:Cx}
nonrec def rRepT (K:Xb):R2:=fun x y H Q=>∃ l k xs,x=.ref l/\y=.int k/\SqT K H l xs /\ -(2 ^ 63)<=k/\k<2 ^ 63/\xs.length*k.toNat<=sizeLine/\((xs=[]\/k=1)->Q (.ref l) H) /\
 (xs≠[]->k≠1->∀ p,H p=none->Q (.ref p) (upd H p (.tup (Xl k.toNat xs).flatten)))
theorem Ydq:OpR X (Uab .Mult) (rRepT X.K):=by
 intro pins s σ H x y v u Q I rx ry h
 obtain⟨l,k,xs,rfl,rfl,ha,h1,h2,hz,q1,q2⟩:=h
 cases rx
 obtain⟨t,rfl⟩:=ry
 obtain⟨its,r1,p1,_⟩:=I.tuple ha
 refine Ycd p1 h1 h2 (by rw[<- r1.length]; exact hz) (fun z=>⟨.ref l,H,I,rfl,q1 (z.imp r1.nil_iff.mp id)⟩) (fun z zk=>?_)
 refine⟨.ref s.heap.objs.size,_,I.laid (t':=s.toks) (o:=.tup (Xl k.toNat xs).flatten) (fun b ob q=>Xa _ q) (Xe _) ?_,rfl,q2 (fun w=>z (r1.nil_iff.mpr w)) zk _ (I.hok.fresh (Xe _))⟩
 exact⟨by rw[Zqj,Wgb]; exact hz,_,r1.rep k.toNat,Zme.new _ _⟩
section
variable {X:Cx}
nonrec def iiD (C:Int->Int->Prop) [∀ i j,Decidable (C i j)] (g:Int->Int->D):F2:=fun x y H=>match x,y with
 | .int i,.int j=>if C i j then some (g i j,H) else none
 | _,_=>none
theorem Zrt {f:Vb->Vb->Sem Vb} {C:Int->Int->Prop} [∀ i j,Decidable (C i j)] {g:Int->Int->Int} (h:OpR X f (rI C fun i j=>.int (g i j))):OpF X f (iiD C fun i j=>.int (g i j)):=by
 refine OpRi h fun x y H Q zz=>?_
 obtain⟨ι,dx,dy,Hd,d,Hd',hr,r1,r2,e,q⟩:=zz
 cases dx<;>cases dy<;>simp only[iiD] at e<;>try cases e
 rename_i i j
 split at e
 ·rename_i hc
  cases e
  simp at r1 r2
  exact⟨i,j,r1,r2,hc,q _ H ι Le.refl hr (by simp)⟩
 ·cases e
def CT (_ _:Int):Prop:=True
instance:∀ i j,Decidable (CT i j):=fun _ _=>instDecidableTrue
theorem Yfw {f:Vb->Vb->Sem Vb} {g:Int->Int->V} (h:OpR X f (rI0 g)):OpR X f (rI CT g):=OpRi h fun x y H Q ⟨i,j,e1,e2,_,q⟩=>⟨i,j,e1,e2,q⟩
theorem Zre {f:Vb->Vb->Sem Vb} {g:Int->Int->Bool} (h:OpR X f (rI0 fun i j=>.bl (g i j))):OpF X f (iiD CT fun i j=>.bl (g i j)):=by
 refine OpRi h fun x y H Q zz=>?_
 obtain⟨ι,dx,dy,Hd,d,Hd',hr,r1,r2,e,q⟩:=zz
 cases dx<;>cases dy<;>simp only[iiD] at e<;>try cases e
 rename_i i j
 simp at r1 r2
 exact⟨i,j,r1,r2,q _ H ι Le.refl hr (by simp)⟩
instance (i j:Int):Decidable (Yfk i j):=by unfold Yfk; exact inferInstance
instance (i j:Int):Decidable (Ya0 i j):=by unfold Ya0; exact inferInstance
instance (i j:Int):Decidable (Yib i j):=by unfold Yib; exact inferInstance
def Yh6 (_ j:Int):Prop:=0<j
instance (i j:Int):Decidable (Yh6 i j):=by unfold Yh6; exact inferInstance
nonrec def Zpw:F2:=iiD CT fun i j=>.int (i - j)
nonrec def Zra:F2:=iiD Yfk fun i j=>.int (i / j)
nonrec def Zhn:F2:=iiD Yh6 fun i j=>.int (i % j)
nonrec def Yez:F2:=iiD Yib fun i j=>.int (i ^ j.toNat)
nonrec def ltD:F2:=iiD CT fun i j=>.bl (decide (i<j))
nonrec def leD:F2:=iiD CT fun i j=>.bl (decide (i<=j))
nonrec def gtD:F2:=iiD CT fun i j=>.bl (decide (j<i))
nonrec def geD:F2:=iiD CT fun i j=>.bl (decide (j<=i))
theorem Zhh:OpF X (Uab .Sub) Zpw:=Zrt (Yfw Ye2)
theorem Zjg:OpF X (Uab .FloorDiv) Zra:=Zrt Ycz
theorem Zeh:OpF X (Uab .Mod) Zhn:=Zrt (C:=Yh6) Yg2
theorem Zqk:OpF X (Uab .Pow) Yez:=Zrt Ye6
theorem Zob:OpF X (Vt .Lt) ltD:=Zre op_lt
theorem Zx7:OpF X (Vt .LtE) leD:=Zre op_le
theorem Zi2:OpF X (Vt .Gt) gtD:=Zre op_gt
theorem Ygw:OpF X (Vt .GtE) geD:=Zre op_ge
nonrec def Zln:D->HD->Option (D×HD):=fun x H=>match x with
 | .int i=>some (.int (-i),H)
 | _=>none
theorem Zc3:UnF X (unaryOp .USub) Zln:=by
 rintro pins s σ H x v Q I rx ⟨ι,dx,Hd,d,Hd',hr,r1,e,q⟩
 cases dx<;>simp only[Zln] at e<;>try cases e
 simp at r1
 exact Ye7 pins s σ H x v Q I rx ⟨_,r1,q _ H ι Le.refl hr (by simp)⟩
theorem Yao {prog:Vi} {w:Vs} {A:Vr} {E:Vb->Vd->Prop} {s:Vd} {t b:Ve} {ws:List Vb} {Q:Vb->Vd->Prop} (ht:Ueq s.heap t #[]) (hb:Ueq s.heap b ws.toArray)
  (h1:Q (.ref b) s):Vg (Vl prog w) A (Uab .Add (.ref t) (.ref b)) Q E s:=by
 obtain⟨⟨cls,dd,data,sl⟩,ho,hc,n,hd⟩:=id ht
 obtain⟨⟨cls2,dd2,data2,sl2⟩,ho2,hc2,n2,hd2⟩:=id hb
 simp only at hc hd hc2 hd2
 subst hc hd hc2 hd2
 exact Ueb ⟨_,ho,rfl⟩ ⟨_,ho2,rfl⟩ Uci Uds Tat Tar (Tao _ _)
   (tuple_addW0 t b #[] ws.toArray n n2 dd dd2 sl sl2 (by simp)) ⟨ho,ho2,h1⟩
nonrec def Zcq:F2:=fun x y H=>match x,y with
 | .int i,.int j=>some (.int (i+j),H)
 | .str a,.str b=>if a.length+b.length<=sizeLine then some (.str (a++b),H) else none
 | .tup a,.tup b=>mkT (a++b) H
 | .ref n,.ref m=>match H[n]?,H[m]? with
  | some (.lst a),some (.lst b)=>mkL (a++b) H
  | _,_=>none
 | _,_=>none
theorem Zbd:OpF X (Uab .Add) Zcq:=by
 rintro pins s σ H x y v u Q I rx ry ⟨ι,dx,dy,Hd,d,Hd',hr,r1,r2,e,q⟩
 cases dx<;>cases dy<;>simp only[Zcq] at e<;>try cases e
 ·simp at r1 r2
  exact Yf7 pins s σ H x y v u Q I rx ry ⟨_,_,r1,r2,q _ H ι Le.refl hr (by simp)⟩
 ·simp at r1 r2
  split at e
  ·rename_i hl
   cases e
   exact Zt8 pins s σ H x y v u Q I rx ry ⟨_,_,r1,r2,hl,q _ H ι Le.refl hr (by simp)⟩
  ·cases e
 ·rename_i as bs
  obtain⟨a,vs,rfl,h1,p1⟩:=Zbe.mp r1
  obtain⟨b,ws,rfl,h2,p2⟩:=Zbe.mp r2
  cases p1 with
  | nil =>
   obtain⟨hl,e⟩:=Zje e
   simp only[Wdc,Way.injEq] at e
   obtain⟨rfl,rfl⟩:=e
   cases rx
   cases ry
   obtain⟨its,q1,t1,_⟩:=I.tuple h1
   obtain⟨its2,q2,t2,_⟩:=I.tuple h2
   cases q1
   exact Yao t1 t2 ⟨.ref b,H,I,rfl,q _ H ι Le.refl hr r2⟩
  | cons p p' =>
   have P:=Prd.append (.cons p p') p2
   obtain⟨hl,e'⟩:=Zje e
   cases p2 with
   | nil =>
    simp only[Wad,Way.injEq] at e'
    obtain⟨rfl,rfl⟩:=e'
    refine Zvg pins s σ H _ _ v u Q I rx ry ⟨a,b,_,_,rfl,rfl,h1,h2,by simp,?_,fun _=>q _ H ι Le.refl hr r1,fun z=>absurd rfl z⟩
    have:=Prd.len P
    simp only[Wad] at this hl
    simp only[Wcm]
    omega
   | cons p3 p4 =>
    obtain⟨k1,k2⟩:=Zjx hr P e q
    refine Zvg pins s σ H _ _ v u Q I rx ry ⟨a,b,_,_,rfl,rfl,h1,h2,by simp,?_,fun z=>absurd z (by simp),fun _=>k2⟩
    rw[<- Xq]; exact k1
 ·rename_i n m
  obtain⟨a,rfl,ha⟩:=Zay.mp r1
  obtain⟨b,rfl,hb⟩:=Zay.mp r2
  split at e
  ·rename_i as bs e1 e2
   obtain⟨vs,h1,p1⟩:=hr.obj n a _ ha e1
   obtain⟨ws,h2,p2⟩:=hr.obj m b _ hb e2
   obtain⟨k1,k2⟩:=Zhi hr (Prd.append p1 p2) e q
   exact Ygt pins s σ H _ _ v u Q I rx ry ⟨a,b,vs,ws,rfl,rfl,h1,h2,by rw[<- Xq]; exact k1,k2⟩
  ·cases e
nonrec def Zth:F2:=fun x y H=>match x,y with
 | .int i,.int j=>if Ya0 i j then some (.int (i*j),H) else none
 | .ref n,.int k=>match H[n]? with
  | some (.lst a)=>if -(2 ^ 63)<=k/\k<2 ^ 63/\a.length*k.toNat<=sizeLine then mkL (Xl k.toNat a).flatten H else none
  | _=>none
 | .tup a,.int k=>if -(2 ^ 63)<=k/\k<2 ^ 63/\a.length*k.toNat<=sizeLine then mkT (Xl k.toNat a).flatten H else none
 | _,_=>none
theorem Zkx:OpF X (Uab .Mult) Zth:=by
 rintro pins s σ H x y v u Q I rx ry ⟨ι,dx,dy,Hd,d,Hd',hr,r1,r2,e,q⟩
 cases dx<;>cases dy<;>simp only[Zth] at e<;>try cases e
 ·simp at r1 r2
  split at e
  ·rename_i hc
   cases e
   exact Yhc pins s σ H x y v u Q I rx ry ⟨_,_,r1,r2,hc,q _ H ι Le.refl hr (by simp)⟩
  ·cases e
 ·rename_i as k
  obtain⟨a,vs,rfl,h1,p1⟩:=Zbe.mp r1
  simp at r2
  split at e
  ·rename_i hc
   have hlen:=Prd.len p1
   obtain⟨k1,k2⟩:=Zjx hr (Prd.rep p1 k.toNat) e q
   refine Ydq pins s σ H _ _ v u Q I rx ry ⟨a,k,vs,rfl,r2,h1,hc.1,hc.2.1,by rw[<- hlen]; exact hc.2.2,fun z=>?_,fun _ _=>k2⟩
   obtain⟨_,e'⟩:=Zje e
   have hf:(Xl k.toNat as).flatten=as:=by
    rcases z with z | z
    ·have:as=[]:=List.eq_nil_of_length_eq_zero (by rw[hlen,z]; rfl)
     subst this
     simp
    ·subst z
     simp
   rw[hf] at e'
   cases e'
   exact q _ H ι Le.refl hr r1
  ·cases e
 ·rename_i n k
  obtain⟨a,rfl,ha⟩:=Zay.mp r1
  simp at r2
  split at e
  ·rename_i as e1
   obtain⟨vs,h1,p1⟩:=hr.obj n a _ ha e1
   split at e
   ·rename_i hc
    obtain⟨k1,k2⟩:=Zhi hr (Prd.rep p1 _) e q
    exact Ygx pins s σ H _ _ v u Q I rx ry ⟨a,k,vs,rfl,r2,h1,hc.1,hc.2.1,by rw[<- Prd.len p1]; exact hc.2.2,k2⟩
   ·cases e
  ·cases e
nonrec def Zp1:D->HD->Option (List D)
 | .tup xs,_=>some xs
 | .fl xs,_=>some xs
 | .ref n,H=>match H[n]? with
  | some (.lst xs)=>some xs
  | _=>none
 | _,_=>none
theorem Zpj {K:Xb} {H:Hp} {ι:List Ve} {Hd:HD} {d:D} {xs:List D} {v:V} (hr:HRep K H ι Hd) (r:Rep K H ι d v) (e:Zp1 d Hd=some xs):∃ p vs,v=.ref p/\(SqL K H p vs\/SqT K H p vs)/\Vj (Rep K H ι) xs vs:=by
 cases d with
 | tup ys=>cases e; obtain⟨a,vs,rfl,h,p⟩:=Zbe.mp r; exact⟨a,vs,rfl,.inr h,p⟩
 | fl ys=>cases e; obtain⟨a,vs,rfl,h,p⟩:=Zhr.mp r; exact⟨a,vs,rfl,.inl h.sq,p⟩
 | ref n =>
  obtain⟨a,rfl,ha⟩:=Zay.mp r
  simp only[Zp1] at e
  split at e
  ·rename_i ys e1
   cases e
   obtain⟨vs,h1,p1⟩:=hr.obj n a _ ha e1
   exact⟨a,vs,rfl,.inl (SqL.of h1),p1⟩
  ·cases e
 | _=>simp[Zp1] at e
theorem Yd0 {α β:Type} {F:α->β->Prop} {xs:List α} {us:List β} {i:Int} {x:α} (r:Vj F xs us) (h:atI xs i=some x):∃ u,atI us i=some u/\F x u:=by
 unfold atI at h ⊢
 rw[<- Prd.len r]
 obtain⟨j,h1,h2⟩:=Zo h
 obtain⟨u,h3,h4⟩:=Prd.get r h2
 exact⟨u,by rw[h1]; exact h3,h4⟩
nonrec def ixD:F2:=fun x y H=>match y with
 | .int i=>(Zp1 x H).bind fun xs=>(atI xs i).map fun d=>(d,H)
 | _=>none
theorem ixf:IxF X ixD:=by
 rintro va sl pins s σ H x y v u Q I rx ry ⟨ι,dx,dy,Hd,d,Hd',hr,r1,r2,e,q⟩ hs
 cases dy<;>simp only[ixD] at e<;>try cases e
 rename_i i
 simp at r2
 obtain⟨xs,e1,e⟩:=Zo e
 obtain⟨d',e2,e⟩:=Zm e
 obtain⟨rfl,rfl⟩:=Way.inj e
 obtain⟨p,vs,rfl,h,P⟩:=Zpj hr r1 e1
 obtain⟨z,hz,rz⟩:=Yd0 P e2
 rcases h with h | h
 ·exact Ydu va sl pins s σ H _ _ v u Q I rx ry ⟨p,vs,i,z,rfl,r2,h,hz,q _ H ι Le.refl hr rz⟩ hs
 ·exact Yhb va sl pins s σ H _ _ v u Q I rx ry ⟨p,vs,i,z,rfl,r2,h,hz,q _ H ι Le.refl hr rz⟩ hs
nonrec def Znz (xs:List D) (lo hi:Option Int):List D:=(xs.drop (HT.sIx xs.length 0 lo)).take (HT.sIx xs.length xs.length hi - HT.sIx xs.length 0 lo)
theorem Zmg {K:Xb} {H:Hp} {ι:List Ve} {xs:List D} {vs:List V} (P:Vj (Rep K H ι) xs vs) (lo hi:Option Int):Vj (Rep K H ι) (Znz xs lo hi) (Ybr vs lo hi):=by
 unfold Znz Ybr
 rw[<- Prd.len P]
 exact Prd.take _ (Prd.drop _ P)
nonrec abbrev OF:=SD->HD->Option (Option Int×HD)
nonrec def rdO (K:Xb) (f:OF):TO:=fun σ H Q=>∃ ι σd Hd o Hd',SRep K H ι σ σd/\HRep K H ι Hd/\f σd Hd=some (o,Hd')/\∀ H' ι',Le K H ι H' ι'->HRep K H' ι' Hd'->Q o H'
def POf (X:Cx) (e:Option Vv) (f:OF):Prop:=PO X e (rdO X.K f)
nonrec def Zjc:OF:=fun _ H=>some (none,H)
nonrec def Zij (f:EF):OF:=fun σ H=>(f σ H).bind fun p=>match p.1 with
 | .int i=>some (some i,p.2)
 | _=>none
theorem Zfd:POf X none Zjc:=by
 rintro pins s σ H Q I ⟨ι,σd,Hd,o,Hd',sr,hr,e,q⟩
 cases e
 exact Ycn pins s σ H Q I (q H ι Le.refl hr)
theorem Ze9 {e:Vv} {f:EF} (h:PEf X e f):POf X (some e) (Zij f):=by
 rintro pins s σ H Q I ⟨ι,σd,Hd,o,Hd',sr,hr,e,q⟩
 obtain⟨⟨d,H1⟩,e1,e⟩:=Zo e
 cases d<;>try cases e
 rename_i i
 exact Ydv h pins s σ H Q I ⟨ι,σd,Hd,_,_,sr,hr,e1,fun v H' ι' l h r=>⟨i,by simpa using r,q H' ι' l h⟩⟩
nonrec def slD (x:D) (lo hi:Option Int) (H:HD):Option (D×HD):=match x with
 | .tup xs=>some (.tup (Znz xs lo hi),H)
 | .fl xs=>some (.ref H.length,H++[.lst (Znz xs lo hi)])
 | .ref n=>match H[n]? with
  | some (.lst xs)=>some (.ref H.length,H++[.lst (Znz xs lo hi)])
  | _=>none
 | _=>none
theorem Zhf {prog:Vi} {w:Vs} {A:Vr} {E:Vb->Vd->Prop} {s:Vd} {t sl:Ve} {items:Array Vb} {vl vu:Vb} {lo hi:Option Int} {Q:Vb->Vd->Prop} (ht:Ueq s.heap t items) (hs:s.heap.IsSliceOf sl vl vu .none) (pl:Udt vl lo) (pu:Udt vu hi)
  (hw:HT.sIx items.size 0 lo=0/\HT.sIx items.size items.size hi=items.size) (h:Q (.ref t) s):Vg (Vl prog w) A (Udo (.ref t) (.ref sl)) Q E s:=by
 obtain⟨os,hos,hcs,hds⟩:=id hs
 have hTs:s.TypeIs (.ref sl) "slice" := ⟨os,hos,hcs⟩
 obtain⟨ot,hot,hct,nt,hdt⟩:=id ht
 unfold Udo
 try with_reducible refine Vx ?_
 first | refine Va (Vc ?_) | skip
 refine Va (wpAny_sequenceKey ht.typeIs (by decide) ?_)
 refine Va (Vk (name:=Ua "__getitem__") ht.typeIs Uf
  (Vp Uf ht.typeIs entry_tuple_getitem ?_ (args_tuple_getitem _ _)))
 show Vg _ _ (Tbj (.ref t) >>= _) _ _ s
 refine Va (tupleItemsOf_ ht ?_)
 refine Va (Ucu hTs ?_)
 rw[if_pos (by decide)]
 refine Va (HT.sliceApplied_gen hs pl pu ?_)
 show Vg _ _ (if (((HT.sIx items.size 0 lo:Nat):Int)==0&&(1:Int)==1&&(HT.sIx items.size items.size hi - HT.sIx items.size 0 lo)==items.size)=true then _ else _) _ _ s
 rw[if_pos (by rw[hw.1,hw.2]; simp)]
 show Vg _ _ (Tbl (Uh t) >>= _) _ _ s
 unfold Tbl
 refine Va (Va (Ucu ht.typeIs (Vc ?_)))
 rw[if_pos (by decide)]
 exact Va (Ubj (Vc ⟨_,rfl,Vc h⟩))
theorem Zty {xs:List D} {lo hi:Option Int} (h:HT.sIx xs.length 0 lo=0/\HT.sIx xs.length xs.length hi=xs.length):Znz xs lo hi=xs:=by
 unfold Znz
 rw[h.1,h.2]; simp
nonrec def rdSl (K:Xb):V->Option Int->Option Int->Hp->VK->Prop:=fun x lo hi H Q=>∃ ι dx Hd d Hd',HRep K H ι Hd/\Rep K H ι dx x/\slD dx lo hi Hd=some (d,Hd')/\QE K H ι d Hd' Q
theorem slf:SlR X (rdSl X.K):=by
 rintro pins s σ H x v vl vu lo hi sl Q I rx hs pl pu ⟨ι,dx,Hd,d,Hd',hr,r,e,q⟩
 have lists:∀ {a:Ve} {xs:List D} {vs:List V},x=.ref a->SqL X.K H a vs->Vj (Rep X.K H ι) xs vs->(D.ref Hd.length,Hd++[DO.lst (Znz xs lo hi)])=(d,Hd') ->
   ∃ T id,typeLookup (.type T) "__getitem__" = pure (some (.builtin id))/\s.TypeIs v T/\Vg (Vl X.prog X.w) X.A (Udo v (.ref sl)) (EP X pins σ Q) X.xe s:=fun {a xs vs} ex h P e=>by
  obtain⟨_,_,_,hz⟩:=I.list h
  have hz2:(Znz xs lo hi).length<=sizeLine:=by
   rw[Prd.len (Zmg P lo hi)]
   exact Waa (Zfj vs lo hi) hz
  obtain⟨k1,k2⟩:=Zhi hr (Zmg P lo hi) (show mkL (Znz xs lo hi) Hd=some (d,Hd') by unfold mkL; rw[if_pos hz2,e]) q
  exact Ycj pins s σ H x v vl vu lo hi sl Q I rx hs pl pu ⟨a,vs,ex,h,k2⟩
 cases dx with
 | tup xs =>
  obtain⟨a,vs,rfl,h,P⟩:=Zbe.mp r
  simp only[slD,Xx.injEq] at e
  obtain⟨its,rv,ht,hz⟩:=I.tuple h
  have hlen:its.toArray.size=vs.length:=by rw[Xo]; exact rv.length.symm
  by_cases hw:HT.sIx vs.length 0 lo=0/\HT.sIx vs.length vs.length hi=vs.length
  ·cases rx
   refine⟨"tuple",_,Uf.lookup,ht.typeIs,Zhf ht hs pl pu (by rw[hlen]; exact hw) ?_⟩
   rw[Zty (by rw[Prd.len P]; exact hw)] at e
   obtain⟨rfl,rfl⟩:=Way.inj e
   exact⟨.ref a,H,I,rfl,q _ H ι Le.refl hr r⟩
  ·have hz2:(Znz xs lo hi).length<=sizeLine:=by
    rw[Prd.len (Zmg P lo hi)]
    exact Waa (Zfj vs lo hi) hz
   obtain⟨k1,k2⟩:=Zjx hr (Zmg P lo hi) (show mkT (Znz xs lo hi) Hd=some (d,Hd') by unfold mkT; rw[if_pos hz2,e]) q
   exact Yid pins s σ H _ v vl vu lo hi sl Q I rx hs pl pu ⟨a,vs,rfl,h,hw,k2⟩
 | fl xs =>
  obtain⟨a,vs,rfl,h,P⟩:=Zhr.mp r
  simp only[slD,Xx.injEq] at e
  exact lists rfl h.sq P e
 | ref n =>
  obtain⟨a,rfl,ha⟩:=Zay.mp r
  simp only[slD] at e
  split at e
  ·rename_i xs e1
   obtain⟨vs,h1,P⟩:=hr.obj n a _ ha e1
   exact lists rfl (SqL.of h1) P (Xx.inj e)
  ·cases e
 | _=>simp[slD] at e
nonrec def eSl (fe:EF) (fl fh:OF):EF:=fun σ H=>(fe σ H).bind fun p=>(fl σ p.2).bind fun l=>(fh σ l.2).bind fun h=>slD p.1 l.1 h.1 h.2
theorem Zd6 {e:Vv} {lo hi:Option Vv} {fe:EF} {fl fh:OF} {pos p2:Pos} (he:PEf X e fe) (hl:POf X lo fl) (hu:POf X hi fh):PEf X (.Subscript e (.Slice lo hi none p2) pos) (eSl fe fl fh):=by
 refine PEi (Zzk slf he hl hu) fun σ H Q zz=>?_
 obtain⟨ι,σd,Hd,d,Hd',s,hr,e,q⟩:=zz
 obtain⟨⟨x,H1⟩,e1,e⟩:=Zo e
 obtain⟨⟨y,H2⟩,e2,e⟩:=Zo e
 obtain⟨⟨z,H3⟩,e3,e⟩:=Zo e
 exact⟨ι,σd,Hd,x,H1,s,hr,e1,fun v1 H1' ι1 l1 h1 r1=>⟨ι1,σd,H1,y,H2,s.mono l1,h1,e2,fun H2' ι2 l2 h2=>⟨ι2,σd,H2,z,H3,s.mono (l1.trans l2),h2,e3,fun H3' ι3 l3 h3 =>
  ⟨ι3,x,H3,d,Hd',h3,r1.mono (l2.trans l3),e,fun v H' ι' l h r=>q v H' ι' (((l1.trans l2).trans l3).trans l) h r⟩⟩⟩⟩
nonrec def Zcz:FF:=fun ds H=>match ds with
 | [.str x]=>if x.length<=sizeLine then some (.int x.length,H) else none
 | [d]=>(Zp1 d H).map fun xs=>(.int xs.length,H)
 | _=>none
theorem Zn1 {K:Xb} {H:Hp} {ι:List Ve} {d:D} {vs:List V} (P:Vj (Rep K H ι) [d] vs):∃ v,vs=[v]/\Rep K H ι d v:=by
 cases P with
 | cons r t=>cases t; exact⟨_,rfl,r⟩
theorem Yex {K:Xb} {H:Hp} {ι:List Ve} {d d':D} {vs:List V} (P:Vj (Rep K H ι) [d,d'] vs):∃ v v',vs=[v,v']/\Rep K H ι d v/\Rep K H ι d' v':=by
 cases P with
 | cons r t=>obtain⟨v,rfl,r'⟩:=Zn1 t; exact⟨_,_,rfl,r,r'⟩
theorem Zk1:Zir X (.builtin "len") Zcz:=by
 rintro pins s σ H xs us Q I rv ⟨ι,ds,Hd,d,Hd',hr,P,e,q⟩
 unfold Zcz at e
 split at e
 ·obtain⟨v,rfl,r⟩:=Zn1 P
  simp at r
  subst r
  split at e
  ·rename_i hl
   cases e
   exact Zn2 pins s σ H _ us Q I rv ⟨_,rfl,hl,q _ H ι Le.refl hr (by simp)⟩
  ·cases e
 ·obtain⟨v,rfl,r⟩:=Zn1 P
  obtain⟨ys,e1,e⟩:=Zm e
  obtain⟨rfl,rfl⟩:=Way.inj e
  obtain⟨p,vs,rfl,h,P2⟩:=Zpj hr r e1
  exact Zp4 pins s σ H _ us Q I rv ⟨p,vs,rfl,h,q _ H ι Le.refl hr (by simp[Prd.len P2])⟩
 ·cases e
nonrec def Zyy:FF:=fun ds H=>match ds with
 | [.int i]=>some (.int (if i<0 then -i else i),H)
 | _=>none
theorem Zwt:Zir X (.builtin "abs") Zyy:=by
 rintro pins s σ H xs us Q I rv ⟨ι,ds,Hd,d,Hd',hr,P,e,q⟩
 unfold Zyy at e
 split at e
 ·obtain⟨v,rfl,r⟩:=Zn1 P
  simp at r
  subst r
  cases e
  exact Yal pins s σ H _ us Q I rv ⟨_,rfl,q _ H ι Le.refl hr (by simp)⟩
 ·cases e
nonrec def maxD:FF:=fun ds H=>match ds with
 | [.int i,.int j]=>some (.int (if j > i then j else i),H)
 | _=>none
nonrec def minD:FF:=fun ds H=>match ds with
 | [.int i,.int j]=>some (.int (if j<i then j else i),H)
 | _=>none
theorem Zyd (hc:X.calm=true):Zir X (.builtin "max") maxD:=by
 rintro pins s σ H xs us Q I rv ⟨ι,ds,Hd,d,Hd',hr,P,e,q⟩
 unfold maxD at e
 split at e
 ·obtain⟨v,v',rfl,r,r'⟩:=Yex P
  simp at r r'
  subst r r'
  cases e
  exact Zuw hc pins s σ H _ us Q I rv ⟨_,_,rfl,q _ H ι Le.refl hr (by simp)⟩
 ·cases e
theorem Zyc (hc:X.calm=true):Zir X (.builtin "min") minD:=by
 rintro pins s σ H xs us Q I rv ⟨ι,ds,Hd,d,Hd',hr,P,e,q⟩
 unfold minD at e
 split at e
 ·obtain⟨v,v',rfl,r,r'⟩:=Yex P
  simp at r r'
  subst r r'
  cases e
  exact Zv3 hc pins s σ H _ us Q I rv ⟨_,_,rfl,q _ H ι Le.refl hr (by simp)⟩
 ·cases e
nonrec def Zyo:FF:=fun ds H=>match ds with
 | [.int i]=>some (.int i,H)
 | [.bl b]=>some (.int (if b then 1 else 0),H)
 | _=>none
theorem Zv4:Zir X (.type "int") Zyo:=by
 rintro pins s σ H xs us Q I rv ⟨ι,ds,Hd,d,Hd',hr,P,e,q⟩
 unfold Zyo at e
 split at e
 ·obtain⟨v,rfl,r⟩:=Zn1 P
  simp at r
  subst r
  cases e
  exact Zo7 pins s σ H _ us Q I rv (.inl ⟨_,rfl,q _ H ι Le.refl hr (by simp)⟩)
 ·obtain⟨v,rfl,r⟩:=Zn1 P
  simp at r
  subst r
  cases e
  exact Zo7 pins s σ H _ us Q I rv (.inr ⟨_,rfl,q _ H ι Le.refl hr (by simp)⟩)
 ·cases e
nonrec def Zz7:FF:=fun ds H=>match ds with
 | [d]=>(Zp1 d H).map fun xs=>(.ref H.length,H++[.lst xs])
 | _=>none
theorem Zss {pins:List (Ve×Obj)} {s:Vd} {σ:L2.St} {H:Hp} {p:Ve} {vs:List V} (I:Inv X pins σ H s) (h:SqL X.K H p vs\/SqT X.K H p vs):vs.length<=sizeLine:=by
 rcases h with h | h
 ·obtain⟨_,_,_,z⟩:=I.list h; exact z
 ·obtain⟨_,_,_,z⟩:=I.tuple h; exact z
theorem Zs9:Zir X (.type "list") Zz7:=by
 rintro pins s σ H xs us Q I rv ⟨ι,ds,Hd,d,Hd',hr,P,e,q⟩
 unfold Zz7 at e
 split at e
 ·obtain⟨v,rfl,r⟩:=Zn1 P
  obtain⟨ys,e1,e⟩:=Zm e
  obtain⟨p,vs,rfl,h,P2⟩:=Zpj hr r e1
  obtain⟨k1,k2⟩:=Zhi hr P2 (show mkL ys Hd=some (d,Hd') by unfold mkL; rw[if_pos (by rw[Prd.len P2]; exact Zss I h),e]) q
  exact Zot pins s σ H _ us Q I rv ⟨p,vs,rfl,h,k2⟩
 ·cases e
nonrec def Ze1:FF:=fun ds H=>match ds with
 | [d]=>(Zp1 d H).map fun xs=>(.tup xs,H)
 | _=>none
theorem Zp8:Zir X (.type "tuple") Ze1:=by
 rintro pins s σ H xs us Q I rv ⟨ι,ds,Hd,d,Hd',hr,P,e,q⟩
 unfold Ze1 at e
 split at e
 ·rename_i d0
  obtain⟨v,rfl,r⟩:=Zn1 P
  obtain⟨ys,e1,e⟩:=Zm e
  obtain⟨p,vs,rfl,h,P2⟩:=Zpj hr r e1
  obtain⟨k1,k2⟩:=Zjx hr P2 (show mkT ys Hd=some (d,Hd') by unfold mkT; rw[if_pos (by rw[Prd.len P2]; exact Zss I h),e]) q
  refine Znf pins s σ H _ us Q I rv ⟨p,vs,rfl,?_⟩
  rcases h with h | h
  ·exact .inl ⟨h,k2⟩
  ·obtain⟨rfl,rfl⟩:=Way.inj e
   exact .inr ⟨h,q _ H ι Le.refl hr (Zbe.mpr ⟨p,vs,rfl,h,P2⟩)⟩
 ·cases e
nonrec def Zcw (x:D) (ds:List D) (H:HD):Option (D×HD):=match x,ds with
 | .ref n,[d]=>match H[n]? with
  | some (.lst xs)=>if xs.length<sizeLine then some (.non,H.set n (.lst (xs++[d]))) else none
  | _=>none
 | _,_=>none
theorem Zgo:MtF X "list.append" Zcw:=by
 rintro pins s σ H x xs v us Q I rx rv ⟨ι,dx,ds,Hd,d,Hd',hr,r1,P,e,q⟩
 unfold Zcw at e
 split at e
 ·rename_i n d1
  obtain⟨a,rfl,ha⟩:=Zay.mp r1
  obtain⟨z,rfl,rz⟩:=Zn1 P
  split at e
  ·rename_i ys e1
   split at e
   ·rename_i hl
    cases e
    obtain⟨vs,h1,P1⟩:=hr.obj n a _ ha e1
    refine Zj7 pins s σ H _ _ v us Q I rx rv ⟨a,vs,z,rfl,rfl,h1,by rw[<- Prd.len P1]; exact hl,?_⟩
    have L:Le X.K H ι (upd H a (.lst (vs++[z]))) ι:=Le.upd (Xk ha) h1 trivial _
    exact q _ _ ι L (hr.upd ha h1 trivial ⟨_,Zas,Prd.append (Prd.mono L P1) (.cons (rz.mono L) .nil)⟩) (by simp)
   ·cases e
  ·cases e
 ·cases e
end
mutual
noncomputable def toP (H:HD):Nat->D->Option Uah
 | _,.non=>some .none
 | _,.bl b=>some (.bool b)
 | _,.int i=>some (.int i)
 | _,.str x=>some (.str x)
 | _,.ty _=>none
 | n,.tup xs=>(Zux H n xs).map .tuple
 | n,.fl xs=>(Zux H n xs).map .list
 | 0,.ref _=>none
 | n+1,.ref k=>match H[k]? with
  | some (.lst xs)=>(Zux H n xs).map .list
  | _=>none
termination_by n d=>(n,sizeOf d)
noncomputable def Zux (H:HD):Nat->List D->Option (List Uah)
 | _,[]=>some []
 | n,d::ds=>(toP H n d).bind fun x=>(Zux H n ds).map fun r=>x::r
termination_by n ds=>(n,sizeOf ds)
end
section
variable {X:Cx} {pins:List (Ve×Obj)} {σ:L2.St} {H:Hp} {s:Vd} {ι:List Ve} {Hd:HD}
mutual
theorem Zdt (I:Inv X pins σ H s) (hr:HRep X.K H ι Hd):∀ (n:Nat) (d:D) {x:Uah} {v:V} {u:Vb},toP Hd n d=some x->Rep X.K H ι d v->Zcd v u->∃ as,Reads s.heap u x as
 | n,.non,x,v,u,e,r,q=>by
  rw[toP] at e; cases e; simp at r; subst r; cases q; exact⟨_,.none⟩
 | n,.bl b,x,v,u,e,r,q=>by
  rw[toP] at e; cases e; simp at r; subst r; cases q; exact⟨_,.bool b⟩
 | n,.int i,x,v,u,e,r,q=>by
  rw[toP] at e; cases e; simp at r; subst r; obtain⟨t,rfl⟩:=q; exact⟨_,.int i t⟩
 | n,.str z,x,v,u,e,r,q=>by
  rw[toP] at e; cases e; simp at r; subst r; obtain⟨t,rfl⟩:=q; exact⟨_,.str z t⟩
 | n,.ty _,x,v,u,e,r,q=>by rw[toP] at e; cases e
 | n,.tup xs,x,v,u,e,r,q=>by
  rw[toP] at e
  obtain⟨ps,e1,rfl⟩:=Zm e
  obtain⟨a,vs,rfl,h,P⟩:=Zbe.mp r
  cases q
  obtain⟨its,rv,⟨o,ho,hc,m,hd⟩,hz⟩:=I.tuple h
  obtain⟨as,ra⟩:=Zfk I hr n xs e1 P rv
  exact⟨_,.tuple ho hc hd (by simpa using ra)⟩
 | n,.fl xs,x,v,u,e,r,q=>by
  rw[toP] at e
  obtain⟨ps,e1,rfl⟩:=Zm e
  obtain⟨a,vs,rfl,h,P⟩:=Zhr.mp r
  cases q
  obtain⟨its,rv,pl,hz⟩:=I.list h.sq
  obtain⟨o,ho,hc,m,hd⟩:=pl.isList
  obtain⟨as,ra⟩:=Zfk I hr n xs e1 P rv
  exact⟨_,.list ho hc hd (by simpa using ra)⟩
 | 0,.ref k,x,v,u,e,r,q=>by rw[toP] at e; cases e
 | n+1,.ref k,x,v,u,e,r,q=>by
  rw[toP] at e
  split at e
  ·rename_i xs eo
   obtain⟨ps,e1,rfl⟩:=Zm e
   obtain⟨a,rfl,ha⟩:=Zay.mp r
   cases q
   obtain⟨vs,h1,P⟩:=hr.obj k a _ ha eo
   obtain⟨its,rv,pl,hz⟩:=I.list (SqL.of h1)
   obtain⟨o,ho,hc,m,hd⟩:=pl.isList
   obtain⟨as,ra⟩:=Zfk I hr n xs e1 P rv
   exact⟨_,.list ho hc hd (by simpa using ra)⟩
  ·cases e
termination_by n d=>(n,sizeOf d)
theorem Zfk (I:Inv X pins σ H s) (hr:HRep X.K H ι Hd):∀ (n:Nat) (ds:List D) {xs:List Uah} {vs:List V} {us:List Vb},Zux Hd n ds=some xs->Vj (Rep X.K H ι) ds vs->Zb4 vs us->∃ as,ReadsAll s.heap us xs as
 | n,[],xs,vs,us,e,P,q=>by
  rw[Zux] at e; cases e; cases P; cases q; exact⟨_,.nil⟩
 | n,d::ds,xs,vs,us,e,P,q=>by
  rw[Zux] at e
  obtain⟨x,e1,e⟩:=Zo e
  obtain⟨r,e2,rfl⟩:=Zm e
  cases P with
  | cons p P =>
   cases q with
   | cons q Q =>
    obtain⟨as,ra⟩:=Zdt I hr n d e1 p q
    obtain⟨bs,rb⟩:=Zfk I hr n ds e2 P Q
    exact⟨_,.cons ra rb⟩
termination_by n ds=>(n,sizeOf ds)
end
nonrec def okP (x:Uah):Bool:=x.canLay0&&decide (x.depth<=30)
nonrec def dat (d:D) (H:HD):Option Uah:=(toP H 30 d).bind fun x=>if okP x=true then some x else none
theorem Zeb {d:D} {x:Uah} (e:dat d Hd=some x):toP Hd 30 d=some x/\x.canLay0=true/\x.depth<=30:=by
 obtain⟨y,e1,e⟩:=Zo e
 split at e
 ·rename_i h
  cases e
  rw[okP,Wai,decide_eq_true_eq] at h
  exact⟨e1,h⟩
 ·cases e
nonrec def Zs8:D->D->Option (Str×Str)
 | .str a,.str b=>some (a,b)
 | _,_=>none
theorem Zn8 {x y:D} {a b:Str} (h:Zs8 x y=some (a,b)):x=.str a/\y=.str b:=by
 unfold Zs8 at h
 split at h
 ·cases h; exact⟨rfl,rfl⟩
 ·cases h
nonrec def eqD:F2:=fun x y H=>match Zs8 x y with
 | some (a,b)=>some (.bl (a==b),H)
 | none=>(dat x H).bind fun p=>(dat y H).map fun q=>(.bl (Ub p q),H)
nonrec def neD:F2:=fun x y H=>match Zs8 x y with
 | some (a,b)=>some (.bl (a != b),H)
 | none=>(dat x H).bind fun p=>(dat y H).map fun q=>(.bl (!Ub p q),H)
theorem Zb3 (hu:X.A.units+64<cLine):OpF X (Vt .Eq) eqD:=by
 rintro pins s σ H x y v u Q I rx ry ⟨ι,dx,dy,Hd,d,Hd',hr,r1,r2,e,q⟩
 unfold eqD at e
 split at e
 ·rename_i a b es
  obtain⟨rfl,rfl⟩:=Zn8 es
  obtain⟨rfl,rfl⟩:=Way.inj (Xx.inj e)
  simp at r1 r2
  subst r1 r2
  obtain⟨t1,rfl⟩:=rx
  obtain⟨t2,rfl⟩:=ry
  exact PyProof.Rows.eq_str ⟨.bl _,H,I,rfl,q _ H ι Le.refl hr (by simp)⟩
 ·obtain⟨p,e1,e⟩:=Zo e
  obtain⟨p2,e2,e⟩:=Zm e
  obtain⟨rfl,rfl⟩:=Way.inj e
  obtain⟨t1,c1,d1⟩:=Zeb e1
  obtain⟨t2,c2,d2⟩:=Zeb e2
  obtain⟨as,ra⟩:=Zdt I hr _ _ t1 r1 rx
  obtain⟨bs,rb⟩:=Zdt I hr _ _ t2 r2 ry
  exact SeqAt.compareEq_reads ra rb c1 c2 (by omega) ⟨.bl _,H,I,rfl,q _ H ι Le.refl hr (by simp)⟩
theorem Zfu (hu:X.A.units+64<cLine):OpF X (Vt .NotEq) neD:=by
 rintro pins s σ H x y v u Q I rx ry ⟨ι,dx,dy,Hd,d,Hd',hr,r1,r2,e,q⟩
 unfold neD at e
 split at e
 ·rename_i a b es
  obtain⟨rfl,rfl⟩:=Zn8 es
  obtain⟨rfl,rfl⟩:=Way.inj (Xx.inj e)
  simp at r1 r2
  subst r1 r2
  obtain⟨t1,rfl⟩:=rx
  obtain⟨t2,rfl⟩:=ry
  exact PyProof.Rows.ne_str ⟨.bl _,H,I,rfl,q _ H ι Le.refl hr (by simp)⟩
 ·obtain⟨p,e1,e⟩:=Zo e
  obtain⟨p2,e2,e⟩:=Zm e
  obtain⟨rfl,rfl⟩:=Way.inj e
  obtain⟨t1,c1,d1⟩:=Zeb e1
  obtain⟨t2,c2,d2⟩:=Zeb e2
  obtain⟨as,ra⟩:=Zdt I hr _ _ t1 r1 rx
  obtain⟨bs,rb⟩:=Zdt I hr _ _ t2 r2 ry
  exact SeqAt.compareNe_reads ra rb c1 c2 (by omega) ⟨.bl _,H,I,rfl,q _ H ι Le.refl hr (by simp)⟩
nonrec def Zog:Uah->Option (List Uah)
 | .list xs=>some xs
 | .tuple xs=>some xs
 | _=>none
nonrec def inD:F2:=fun x y H=>(dat x H).bind fun p=>(dat y H).bind fun q=>(Zog q).map fun xs=>(.bl (xs.any fun z=>Ub z p),H)
nonrec def niD:F2:=fun x y H=>(dat x H).bind fun p=>(dat y H).bind fun q=>(Zog q).map fun xs=>(.bl (!xs.any fun z=>Ub z p),H)
theorem Zsv (hu:X.A.units+64<cLine):OpF X (Vt .In) inD:=by
 rintro pins s σ H x y v u Q I rx ry ⟨ι,dx,dy,Hd,d,Hd',hr,r1,r2,e,q⟩
 obtain⟨p,e1,e⟩:=Zo e
 obtain⟨p2,e2,e⟩:=Zo e
 obtain⟨xs,e3,e⟩:=Zm e
 obtain⟨rfl,rfl⟩:=Way.inj e
 obtain⟨t1,c1,d1⟩:=Zeb e1
 obtain⟨t2,c2,d2⟩:=Zeb e2
 obtain⟨as,ra⟩:=Zdt I hr _ _ t1 r1 rx
 obtain⟨bs,rb⟩:=Zdt I hr _ _ t2 r2 ry
 have fin:EP X pins σ Q (.bool (xs.any fun z=>Ub z p)) s:=⟨.bl _,H,I,rfl,q _ H ι Le.refl hr (by simp)⟩
 cases p2 with
 | list ys =>
  cases e3
  simp only[Tae] at c2
  simp only[Taq] at d2
  exact SeqAt.in_list_reads rb ra c2 c1 (by omega) fin
 | tuple ys =>
  cases e3
  simp only[Tae] at c2
  simp only[Taq] at d2
  exact SeqAt.in_tuple_reads rb ra c2 c1 (by omega) fin
 | _=>simp[Zog] at e3
theorem Zll (hu:X.A.units+64<cLine):OpF X (Vt .NotIn) niD:=by
 rintro pins s σ H x y v u Q I rx ry ⟨ι,dx,dy,Hd,d,Hd',hr,r1,r2,e,q⟩
 obtain⟨p,e1,e⟩:=Zo e
 obtain⟨p2,e2,e⟩:=Zo e
 obtain⟨xs,e3,e⟩:=Zm e
 obtain⟨rfl,rfl⟩:=Way.inj e
 obtain⟨t1,c1,d1⟩:=Zeb e1
 obtain⟨t2,c2,d2⟩:=Zeb e2
 obtain⟨as,ra⟩:=Zdt I hr _ _ t1 r1 rx
 obtain⟨bs,rb⟩:=Zdt I hr _ _ t2 r2 ry
 have fin:EP X pins σ Q (.bool (!xs.any fun z=>Ub z p)) s:=⟨.bl _,H,I,rfl,q _ H ι Le.refl hr (by simp)⟩
 cases p2 with
 | list ys =>
  cases e3
  simp only[Tae] at c2
  simp only[Taq] at d2
  exact SeqAt.notIn_list_reads rb ra c2 c1 (by omega) fin
 | tuple ys =>
  cases e3
  simp only[Tae] at c2
  simp only[Taq] at d2
  exact SeqAt.notIn_tuple_reads rb ra c2 c1 (by omega) fin
 | _=>simp[Zog] at e3
nonrec def isB (x y:D):Option Bool:=match y,x with
 | .non,.non=>some true
 | .non,_=>some false
 | .bl b,.bl c=>some (c==b)
 | .bl _,_=>some false
 | _,_=>none
nonrec def isD:F2:=fun x y H=>(isB x y).map fun b=>(.bl b,H)
nonrec def Ye0:F2:=fun x y H=>(isB x y).map fun b=>(.bl (!b),H)
theorem Zqp {M:Model} {A:Vr} {E:Vb->Vd->Prop} {s:Vd} {Q:Vb->Vd->Prop} {v:Vb} {b:Bool} (hv:∀ i,v≠.builtin i) (h:Q (.bool (v==.bool b)) s):Vg M A (Vt .Is v (.bool b)) Q E s:=by
 cases v<;>first | exact Vc h | exact absurd rfl (hv _)
theorem Zlg {M:Model} {A:Vr} {E:Vb->Vd->Prop} {s:Vd} {Q:Vb->Vd->Prop} {v:Vb} {b:Bool} (hv:∀ i,v≠.builtin i) (h:Q (.bool (!(v==.bool b))) s):Vg M A (Vt .IsNot v (.bool b)) Q E s:=by
 cases v<;>first | exact Vc h | exact absurd rfl (hv _)
theorem Zvk {x:V} {v:Vb} (r:Zcd x v):∀ i,v≠.builtin i:=by
 intro i
 cases x with
 | non=>cases r; intro z; cases z
 | bl _=>cases r; intro z; cases z
 | int _=>obtain⟨t,rfl⟩:=r; intro z; cases z
 | str _=>obtain⟨t,rfl⟩:=r; intro z; cases z
 | byt _=>obtain⟨t,rfl⟩:=r; intro z; cases z
 | flt _=>obtain⟨t,rfl⟩:=r; intro z; cases z
 | ref _=>cases r; intro z; cases z
 | ty _=>cases r; intro z; cases z
theorem Yat {dx dy:D} {x y:V} {v u:Vb} {b:Bool} (r1:Rep X.K H ι dx x) (r2:Rep X.K H ι dy y) (rx:Zcd x v) (ry:Zcd y u) (e:isB dx dy=some b) :
  (u=.none/\b=(v==.none))\/∃ c,u=.bool c/\b=(v==.bool c):=by
 cases dy with
 | non =>
  simp at r2; subst r2; cases ry
  refine .inl ⟨rfl,?_⟩
  cases dx with
  | non=>simp at r1; subst r1; cases rx; cases e; rfl
  | bl _=>simp at r1; subst r1; cases rx; cases e; rfl
  | int _=>simp at r1; subst r1; obtain⟨t,rfl⟩:=rx; cases e; rfl
  | str _=>simp at r1; subst r1; obtain⟨t,rfl⟩:=rx; cases e; rfl
  | ty _=>rw[Rep] at r1; rcases r1 with ⟨_,rfl⟩ | ⟨_,a,rfl,_⟩<;>(cases rx; cases e; rfl)
  | tup _=>obtain⟨a,_,rfl,_⟩:=Zbe.mp r1; cases rx; cases e; rfl
  | fl _=>obtain⟨a,_,rfl,_⟩:=Zhr.mp r1; cases rx; cases e; rfl
  | ref _=>obtain⟨a,rfl,_⟩:=Zay.mp r1; cases rx; cases e; rfl
 | bl c =>
  simp at r2; subst r2; cases ry
  refine .inr ⟨c,rfl,?_⟩
  cases dx with
  | non=>simp at r1; subst r1; cases rx; cases e; rfl
  | bl z=>simp at r1; subst r1; cases rx; cases e; cases z<;>cases c<;>rfl
  | int _=>simp at r1; subst r1; obtain⟨t,rfl⟩:=rx; cases e; rfl
  | str _=>simp at r1; subst r1; obtain⟨t,rfl⟩:=rx; cases e; rfl
  | ty _=>rw[Rep] at r1; rcases r1 with ⟨_,rfl⟩ | ⟨_,a,rfl,_⟩<;>(cases rx; cases e; rfl)
  | tup _=>obtain⟨a,_,rfl,_⟩:=Zbe.mp r1; cases rx; cases e; rfl
  | fl _=>obtain⟨a,_,rfl,_⟩:=Zhr.mp r1; cases rx; cases e; rfl
  | ref _=>obtain⟨a,rfl,_⟩:=Zay.mp r1; cases rx; cases e; rfl
 | _=>simp[isB] at e
theorem Zsu:OpF X (Vt .Is) isD:=by
 rintro pins s σ H x y v u Q I rx ry ⟨ι,dx,dy,Hd,d,Hd',hr,r1,r2,e,q⟩
 obtain⟨b,e1,e⟩:=Zm e
 obtain⟨rfl,rfl⟩:=Way.inj e
 have fin:EP X pins σ Q (.bool b) s:=⟨.bl _,H,I,rfl,q _ H ι Le.refl hr (by simp)⟩
 rcases Yat r1 r2 rx ry e1 with ⟨rfl,rfl⟩ | ⟨c,rfl,rfl⟩
 ·exact is_none_gen fin
 ·exact Zqp (Zvk rx) fin
theorem Zqf:OpF X (Vt .IsNot) Ye0:=by
 rintro pins s σ H x y v u Q I rx ry ⟨ι,dx,dy,Hd,d,Hd',hr,r1,r2,e,q⟩
 obtain⟨b,e1,e⟩:=Zm e
 obtain⟨rfl,rfl⟩:=Way.inj e
 have fin:EP X pins σ Q (.bool (!b)) s:=⟨.bl _,H,I,rfl,q _ H ι Le.refl hr (by simp)⟩
 rcases Yat r1 r2 rx ry e1 with ⟨rfl,rfl⟩ | ⟨c,rfl,rfl⟩
 ·exact isnot_none_gen fin
 ·exact Zlg (Zvk rx) fin
nonrec def tyD:D->HD->Option String
 | .non,_=>some "NoneType"
 | .bl _,_=>some "bool"
 | .int _,_=>some "int"
 | .str _,_=>some "str"
 | .tup _,_=>some "tuple"
 | .fl _,_=>some "list"
 | .ref n,H=>match H[n]? with
  | some (.lst _)=>some "list"
  | _=>none
 | _,_=>none
nonrec def Zwd (c:String):Bool:=c == "bool" || c == "int" || c == "str" || c == "tuple" || c == "list"
nonrec def Ybd:FF:=fun ds H=>match ds with
 | [x,.ty c]=>if Zwd c=true then (tyD x H).map fun t=>(.bl (t==c||(t == "bool" && c == "int")),H) else none
 | _=>none
nonrec def tys:List String:=["NoneType","bool","int","str","tuple","list"]
theorem Yd3 {d:D} {t:String} (e:tyD d Hd=some t):t∈tys:=by
 cases d with
 | ref n =>
  simp only[tyD] at e
  split at e
  ·cases e; decide
  ·cases e
 | ty n=>simp[tyD] at e
 | _=>simp only[tyD] at e; cases e; decide
theorem Yf1 (K:Xb) {t c:String} (ht:t∈tys) (hc:Zwd c=true):PySem.W.kitOne K (.type t) (.type c)=some (t==c||(t == "bool" && c == "int")):=by
 have hc':c = "bool" \/ c = "int" \/ c = "str" \/ c = "tuple" \/ c = "list" := by
  simpa [Zwd,or_assoc] using hc
 simp only[tys,Xi,Wci,or_false] at ht
 rcases ht with rfl | rfl | rfl | rfl | rfl | rfl<;>rcases hc' with rfl | rfl | rfl | rfl | rfl<;>first | rfl | (with_unfolding_all rfl) | kernel_rfl
theorem Zyb:Zir X (.builtin "isinstance") Ybd:=by
 rintro pins s σ H xs us Q I rv ⟨ι,ds,Hd,d,Hd',hr,P,e,q⟩
 unfold Ybd at e
 split at e
 ·rename_i x c
  split at e
  ·rename_i hc
   obtain⟨t,e1,e⟩:=Zm e
   obtain⟨rfl,rfl⟩:=Way.inj e
   obtain⟨v,v',rfl,r,r'⟩:=Yex P
   obtain⟨u,u',rfl,ru,ru'⟩:=Zw3 rv
   have r':=(Ya8 (show Yau c=true from hc)).mp r'
   subst r'
   cases ru'
   have k:=Yf1 X.K (Yd3 e1) hc
   have fin:∀ tk,EP X pins σ Q (.bool (t==c||(t == "bool" && c == "int"))) { s with toks:=tk }:=fun tk=>⟨.bl _,H,I.tok tk,rfl,q _ H ι Le.refl hr (by simp)⟩
   cases x with
   | non=>simp at r; subst r; cases ru; cases e1; exact Wcd PySem.W.kitx_none I.kIn Tad k (fun z=>nomatch z) fin
   | bl y=>simp at r; subst r; cases ru; cases e1; exact Wcd PySem.W.kitx_bool I.kIn Tad k (fun z=>nomatch z) fin
   | int y=>simp at r; subst r; obtain⟨t,rfl⟩:=ru; cases e1; exact Wcd PySem.W.kitx_int I.kIn Tad k (fun z=>nomatch z) fin
   | str y=>simp at r; subst r; obtain⟨t,rfl⟩:=ru; cases e1; exact Wcd PySem.W.kitx_str I.kIn Tad k (fun z=>nomatch z) fin
   | ty _=>simp[tyD] at e1
   | tup ys =>
    obtain⟨a,vs,rfl,h,_⟩:=Zbe.mp r
    cases ru; cases e1
    obtain⟨its,_,⟨o,ho,hcl,_⟩,_⟩:=I.tuple h
    exact Wcd PySem.W.kitx_tuple I.kIn ⟨o,ho,hcl⟩ k (fun z=>nomatch z) fin
   | fl ys =>
    obtain⟨a,vs,rfl,h,_⟩:=Zhr.mp r
    cases ru; cases e1
    obtain⟨its,_,pl,_⟩:=I.list h.sq
    obtain⟨o,ho,hcl,_⟩:=pl.isList
    exact Wcd Wft I.kIn ⟨o,ho,hcl⟩ k (fun z=>nomatch z) fin
   | ref n =>
    obtain⟨a,rfl,ha⟩:=Zay.mp r
    cases ru
    simp only[tyD] at e1
    split at e1
    ·rename_i ys eo
     cases e1
     obtain⟨vs,h1,_⟩:=hr.obj n a _ ha eo
     obtain⟨its,_,pl,_⟩:=I.list (SqL.of h1)
     obtain⟨o,ho,hcl,_⟩:=pl.isList
     exact Wcd Wft I.kIn ⟨o,ho,hcl⟩ k (fun z=>nomatch z) fin
    ·cases e1
  ·cases e
 ·cases e
nonrec def Zit:List D->Option (List Int)
 | []=>some []
 | .int i::r=>(Zit r).map fun s=>i::s
 | _=>none
theorem Zo0:∀ {xs ys:List Int},xs.Perm ys->xs.Pairwise (· <= ·)->ys.Pairwise (· <= ·)->xs=ys
 | [],ys,p,_,_=>by simpa using p.symm
 | x::xs,[],p,_,_=>by simpa using p
 | x::xs,y::ys,p,h1,h2=>by
  rw[Wee] at h1 h2
  have a1:y∈x::xs:=p.symm.subset (by simp)
  have a2:x∈y::ys:=p.subset (by simp)
  have e:x=y:=by
   rcases Xi.mp a1 with z | z
   ·exact z.symm
   ·rcases Xi.mp a2 with w | w
    ·exact w
    ·have:=h1.1 y z
     have:=h2.1 x w
     omega
  subst e
  rw[Zo0 (List.Perm.cons_inv p) h1.2 h2.2]
theorem Zpn {K:Xb}:∀ {xs:List D} {ns:List Int} {vs:List V},Zit xs=some ns->Vj (Rep K H ι) xs vs->vs=ns.map V.int
 | [],ns,vs,e,P=>by cases P; cases e; rfl
 | .int i::r,ns,vs,e,P=>by
  simp only[Zit] at e
  obtain⟨s,e1,rfl⟩:=Zm e
  cases P with
  | cons p P =>
   simp at p
   subst p
   rw[Zpn e1 P]
   rfl
 | .non::_,_,_,e,_=>by simp[Zit] at e
 | .bl _::_,_,_,e,_=>by simp[Zit] at e
 | .str _::_,_,_,e,_=>by simp[Zit] at e
 | .ty _::_,_,_,e,_=>by simp[Zit] at e
 | .tup _::_,_,_,e,_=>by simp[Zit] at e
 | .fl _::_,_,_,e,_=>by simp[Zit] at e
 | .ref _::_,_,_,e,_=>by simp[Zit] at e
theorem Zoo:∀ {ns:List Int} {us:List Vb},Ubg us ns->Zb4 (ns.map V.int) us:=by
 intro ns us h
 induction h with
 | nil=>exact .nil
 | cons n t _ ih=>exact .cons ⟨t,rfl⟩ ih
theorem Zpc {K:Xb} (ns:List Int):Vj (Rep K H ι) (ns.map D.int) (ns.map V.int):=by
 induction ns with
 | nil=>exact .nil
 | cons n r ih=>exact .cons (by simp) ih
end
section
variable {X:Cx} {tg:Vv}
nonrec def Zkc:D->HD->Option (List D×Zh4)
 | .tup xs,_=>some (xs,[])
 | .fl xs,_=>some (xs,[])
 | .ref n,H=>match H[n]? with
  | some (.lst xs)=>some (xs,[(n,.lst xs)])
  | _=>none
 | _,_=>none
def Zr7 (i:Int):Prop := -(2 ^ 62)<=i/\i<2 ^ 62
instance (i:Int):Decidable (Zr7 i):=by unfold Zr7; exact inferInstance
nonrec def Zbj (lo:Int) (n:Nat):List D:=(Wdx n).map fun k:Nat=>.int (lo+(k:Int))
theorem Zt7 {lo:Int} {n i:Nat} {d:D} (h:(Zbj lo n)[i]? = some d):i<n/\d=.int (lo+i):=by
 unfold Zbj at h
 rw[Xp] at h
 obtain⟨k,h1,rfl⟩:=Zm h
 rw[Xc] at h1
 obtain⟨hl,h1⟩:=h1
 simp at h1 hl
 subst h1
 exact⟨hl,rfl⟩
theorem Zwc {K:Xb} {H0:Hp} {ι0:List Ve} (lo:Int) (n:Nat):ItRep K (Itr lo n) (Zbj lo n) [] H0 ι0:=by
 refine⟨fun i H2 ι2 Hd2 l2 h2 _ hi=>(show i<n by simpa [Zbj] using hi),fun i H2 ι2 Hd2 d x H3 l2 h2 _ hd y=>?_,fun i H2 ι2 Hd2 l2 h2 _ hi=>(show n<=i by simpa [Zbj] using hi)⟩
 obtain⟨rfl,rfl⟩:=y
 obtain⟨_,rfl⟩:=Zt7 hd
 exact⟨ι2,Le.refl,h2,by simp⟩
nonrec def iR1 (f:AF):ItF:=fun σ H=>(f σ H).bind fun p=>match p.1 with
 | [.int j]=>if Zr7 j then some ((Zbj 0 j.toNat,[]),p.2) else none
 | _=>none
theorem Ztu {a:Vv} {f:AF} {p pos:Pos} (hg:Gl X "range") (hm:X.mg "range" = none) (ha:PAf X [a] f) (hs:Vf [a] X.env=[(false,eval a X.env)]:=by rfl):PIf X tg (.Call (.Name "range" p) [a] [] pos) (iR1 f):=by
 refine PIi (Zxr hg hm ha hs) fun σ H R zz=>?_
 obtain⟨ι,σd,Hd,xs,own,Hd',s,hr,e,q⟩:=zz
 obtain⟨⟨ds,H1⟩,e1,e⟩:=Zo e
 dsimp only at e
 split at e
 ·rename_i j
  split at e
  ·rename_i hj
   cases e
   refine⟨ι,σd,Hd,_,_,s,hr,e1,fun vs H' ι' l h P=>?_⟩
   obtain⟨v,rfl,r⟩:=Zn1 P
   simp at r
   subst r
   exact⟨j,rfl,hj.1,hj.2,q _ H' ι' l h (Zwc 0 _)⟩
  ·cases e
 ·cases e
end
open Builtin.SmallTypes (nextOf)
section
variable {prog:Vi} {w:Vs} {A:Vr} {E:Vb->Vd->Prop} {s:Vd}
theorem Zrg {j t:Ve} {i:Nat} {its:Array Vb} {x:Vb} {Q:Vb->Vd->Prop} (hj:s.heap.IsTupleIter j t i) (ht:s.heap.IsTuple t its) (hx:its[i]? = some x)
  (hQ:∀ h',h'.IsTupleIter j t (i+1)->Xw j s.heap h'->Q x { s with heap:=h' }):Vg (Vl prog w) A (nextOf (.ref j)) Q E s:=by
 obtain⟨oj,ho,hcj,hdj⟩:=id hj
 obtain⟨ot,hot,_,nt,hdt⟩:=ht
 unfold nextOf
 refine Va (Vk (name:=Ua "__next__") hj.typeIs Ut (Vp Ut hj.typeIs Tbf ?_ (Taz _)))
 show Vg _ _ (Udp (.ref j) 0 >>= _) _ _ s
 refine Va (Vn ho hdj (x:=.ref t) rfl ?_)
 show Vg _ _ (if (Uh t==Uq)=true then _ else _) _ _ s
 rw[if_neg (show ¬ ((Uh t==Uq)=true) by intro z; cases z)]
 show Vg _ _ (Udp (.ref j) 1 >>= _) _ _ s
 refine Va (Vn ho hdj (x:=.int i 0) rfl ?_)
 show Vg _ _ (seqItems? (.ref t) >>= _) _ _ s
 refine Va (Ual hot hdt ?_)
 simp only[Wah,hx]
 refine Va (Ucc ho hdj (by simp) (Vc ⟨x,rfl,Vc (hQ _ ⟨_,Wdm _ ho (Tbx (Tas hdj _)),(Tck ..).trans hcj,?_⟩ (Xw.update ..))⟩))
 rw[Tas hdj]; simp[Uad]
theorem Zwj {j t:Ve} {i:Nat} {its:Array Vb} {Q:Vb->Vd->Prop} (hh:A.handled=none) (hj:s.heap.IsTupleIter j t i) (ht:s.heap.IsTuple t its) (hx:its[i]? = none)
  (hE:∀ h' e,Web j s.heap h'->(∃ o,h'.get? e=some o/\o.cls=.type "StopIteration")->E (.ref e) { s with heap:=h' }):Vg (Vl prog w) A (nextOf (.ref j)) Q E s:=by
 obtain⟨oj,ho,hcj,hdj⟩:=id hj
 obtain⟨ot,hot,_,nt,hdt⟩:=ht
 unfold nextOf
 refine Va (Vk (name:=Ua "__next__") hj.typeIs Ut (Vp Ut hj.typeIs Tbf ?_ (Taz _)))
 show Vg _ _ (Udp (.ref j) 0 >>= _) _ _ s
 refine Va (Vn ho hdj (x:=.ref t) rfl ?_)
 show Vg _ _ (if (Uh t==Uq)=true then _ else _) _ _ s
 rw[if_neg (show ¬ ((Uh t==Uq)=true) by intro z; cases z)]
 show Vg _ _ (Udp (.ref j) 1 >>= _) _ _ s
 refine Va (Vn ho hdj (x:=.int i 0) rfl ?_)
 show Vg _ _ (seqItems? (.ref t) >>= _) _ _ s
 refine Va (Ual hot hdt ?_)
 simp only[Wah,hx]
 refine Va (Ubj (Va (Ucc ho hdj (by simp) ?_)))
 show Vg _ _ (newExc (.type "StopIteration") [] >>= _) _ _ _
 refine Va ?_
 simp only[newExc,newTuple]
 refine Va (Vu ?_ (by size_fits))
 refine Va (m:=Ucd _ _) (Uek (a:=Uq) (by first | rfl | (simp only[Ucd]; rfl)) (Vu ?_ (by size_fits)))
 simp only[raiseNew]
 refine Va (wpAny_handled ?_)
 first | rw[show A.in1.handled=none from hh] | rw[hh]
 exact Va (Vc (wpAny_throw (hE _ _ (((Xw.update ..).extBut.push _).push _) ⟨_,Xd _ rfl,rfl⟩)))
theorem Zvl {e j t:Ve} {i:Nat} {c:Int} {its:Array Vb} {x old:Vb} {Q:Option Vb->Vd->Prop} (he:Uax s.heap e j c old) (hj:s.heap.IsTupleIter j t i) (ht:s.heap.IsTuple t its) (hx:its[i]? = some x) (hne:e≠j)
  (hQ:∀ h' tk,Ucv h' e j (c+1) x s.heap.objs.size->h'.IsTupleIter j t (i+1)->h'.get? s.heap.objs.size=some { cls:=.type "tuple",data:=.seq #[.int c tk,x] }->h'.objs.size=s.heap.objs.size+1 ->
   (∀ b o,b≠e->b≠j->s.heap.get? b=some o->h'.get? b=some o)->Q (some (.ref s.heap.objs.size)) { s with heap:=h',toks:=s.toks+1 }) :
  Vg (Vl prog w) A (Ubl (.ref e)) Q E s:=by
 have hT:s.TypeIs (.ref e) "enumerate" := ⟨_,he,rfl⟩
 unfold Ubl
 refine Va (Uap (Vk (name:=Ua "__next__") hT Uk (Vp Uk hT Tag ?_ (Tac _))))
 obtain⟨hp,g,d,tk,os⟩:=s
 show Vg _ _ (Udp (.ref e) 2 >>= _) _ _ _
 refine Va (Vn he rfl (x:=.ref j) rfl (Va (Zrg hj ht hx fun h1 j1 s1=>?_)))
 replace s1:Xw j hp h1:=s1
 have e1:Uax h1 e j c old:=(s1.2 e hne).trans he
 show Vg _ _ (Udp (.ref e) 3 >>= _) _ _ ⟨h1,g,d,tk,os⟩
 refine Va (Vn e1 rfl (x:=Uad c) rfl ?_)
 show Vg _ _ (Udp (.ref e) 4 >>= _) _ _ ⟨h1,g,d,tk,os⟩
 refine Va (Vn e1 rfl (x:=.none) rfl ?_)
 show Vg _ _ (mkInt c >>= _) _ _ ⟨h1,g,d,tk,os⟩
 refine Va (Uel ?_)
 show Vg _ _ (Udu (.ref e) 3 (Uad (c+1)) >>= _) _ _ ⟨h1,g,d,tk+1,os⟩
 refine Va (Vm e1 (by simp) fun h2 e2 s2=>?_)
 replace s2:Xw e h1 h2:=s2
 replace e2:Uax h2 e j (c+1) old:=e2
 show Vg _ _ (Udu (.ref e) 4 .none >>= _) _ _ ⟨h2,g,d,tk+1,os⟩
 refine Va (Vm e2 (by simp) fun h3 e3 s3=>?_)
 replace s3:Xw e h2 h3:=s3
 replace e3:Uax h3 e j (c+1) old:=e3
 show Vg _ _ (newTuple [.int c tk,x] >>= _) _ _ ⟨h3,g,d,tk+1,os⟩
 refine Va (Udi ?_)
 have e4:Uax (h3.push { cls:=.type "tuple",data:=.seq #[.int c tk,x] }) e j (c+1) old:=Xa _ e3
 generalize q4:h3.push { cls:=.type "tuple",data:=.seq #[.int c tk,x] }=h4 at e4
 have zz:h3.objs.size=hp.objs.size:=by rw[s3.1,s2.1,s1.1]
 have lt:e<hp.objs.size:=Xf he
 have t4:h4.get? hp.objs.size=some { cls:=.type "tuple",data:=.seq #[.int c tk,x] }:=by rw[<- q4,<- zz]; exact Xd _ rfl
 have z4:h4.objs.size=hp.objs.size+1:=by rw[<- q4,Wam,zz]
 have k4:∀ b o,b≠e->b≠j->hp.get? b=some o->h4.get? b=some o:=fun b o n1 n2 q=>by
  rw[<- q4]; exact Xa _ (s3.extBut b o n1 (s2.extBut b o n1 (s1.extBut b o n2 q)))
 have j4:h4.IsTupleIter j t (i+1):=by
  obtain⟨o,ho,r⟩:=id j1
  exact⟨o,by rw[<- q4]; exact Xa _ (s3.extBut j o (Ul hne) (s2.extBut j o (Ul hne) ho)),r⟩
 show Vg _ _ (Uc (.ref e) >>= _) _ _ ⟨h4,g,d,tk+1,os⟩
 rw[zz]
 clear q4 e3 s3 e2 s2 e1 s1 j1 zz h3 h2 h1
 refine Va ?_
 unfold Uc
 refine Va (Vn e4 rfl (x:=.none) rfl (Vc ?_))
 simp only[if_true]
 refine Va (Ubj (Va (Vn e4 rfl (x:=old) rfl (Va (Vm e4 (by simp) fun h5 e5 s5=>?_)))))
 replace s5:Xw e h4 h5:=s5
 replace e5:Uax h5 e j (c+1) x:=e5
 show Vg _ _ (Ud (.ref e) (.ref hp.objs.size) >>= _) _ _ ⟨h5,g,d,tk+1,os⟩
 refine Va ?_
 unfold Ud
 refine Va (Vm e5 (by simp) fun h6 e6 s6=>?_)
 replace s6:Xw e h5 h6:=s6
 replace e6:Ucv h6 e j (c+1) x hp.objs.size:=e6
 refine Vm e6 (by simp) fun h7 e7 s7=>?_
 replace s7:Xw e h6 h7:=s7
 replace e7:Ucv h7 e j (c+1) x hp.objs.size:=e7
 have up:∀ b o,b≠e->h4.get? b=some o->h7.get? b=some o:=fun b o n q=>s7.extBut b o n (s6.extBut b o n (s5.extBut b o n q))
 refine Va (Ubu (Vc ⟨_,rfl,Vc (hQ h7 tk e7 ?_ (up _ _ (Wbr lt) t4) (by rw[s7.1,s6.1,s5.1,z4]) fun b o n1 n2 q=>up b o n1 (k4 b o n1 n2 q))⟩))
 obtain⟨o,ho,r⟩:=id j4
 exact⟨o,up j o (Ul hne) ho,r⟩
theorem Zuz {e j t:Ve} {i:Nat} {c:Int} {its:Array Vb} {old:Vb} {Q:Option Vb->Vd->Prop} (hh:A.handled=none) (he:Uax s.heap e j c old) (hj:s.heap.IsTupleIter j t i) (ht:s.heap.IsTuple t its) (hx:its[i]? = none)
  (hQ:∀ h',Web j s.heap h'->Q none { s with heap:=h' }):Vg (Vl prog w) A (Ubl (.ref e)) Q E s:=by
 have hT:s.TypeIs (.ref e) "enumerate" := ⟨_,he,rfl⟩
 unfold Ubl
 refine Va (Uap (Vk (name:=Ua "__next__") hT Uk (Vp Uk hT Tag ?_ (Tac _))))
 show Vg _ _ (Udp (.ref e) 2 >>= _) _ _ _
 refine Va (Vn he rfl (x:=.ref j) rfl (Va (Zwj hh hj ht hx fun h' z he' zz=>?_)))
 obtain⟨o,ho,hc⟩:=zz
 exact Va (Ubm (T := "StopIteration") (b:=true) ⟨o,ho,hc⟩ Uce (Vc (hQ _ he')))
open AutoSeq1 (wpAny_loadPart') in
theorem Zwy (t:Ve) (its:Array Vb) (n:Nat) (dct:Option Ve) (sl:Array (Option Vb)) :
  Uen (Builtin.«enumerate.__new__» ⟨[.type "enumerate",.ref t],[]⟩) (fun _ R s=>s.heap.get? t=some { cls:=.type "tuple",dict:=dct,data:=.seq its n,slots:=sl } /\
   R (.ok (.ret (.ref (s.heap.push { cls:=.type "tuple_iterator",data:=.fields #[.ref t,.int 0 0] }).objs.size)))
    { s with heap:=(s.heap.push { cls:=.type "tuple_iterator",data:=.fields #[.ref t,.int 0 0] }).push { cls:=.type "enumerate",data:=.fields #[.none,.bool false,.ref s.heap.objs.size,Uad 0,.none,.none] } }) :=
 .of_wp fun prog w A R s h=>by
  obtain⟨hp,g,d,tk,os⟩:=s; obtain⟨hl,h⟩:=h
  have hsub:=Udv
  have hL:Heap.IsTuple (Tbr ⟨hp,g,d,tk,os⟩) t its:=⟨_,hl,rfl,n,rfl⟩
  wp_walk using Vo hl
  refine Ucw fun st=>Vc ?_
  split
  ·rename_i k _ _ _ _ _
   cases (k==Tbb "enumerate")<;>(wp_walk using Vo hl,Uaj hL; exact⟨_,rfl,h⟩)
  ·wp_walk using Vo hl,Uaj hL
   exact⟨_,rfl,h⟩
theorem Ztv {t:Ve} {its:Array Vb} {Q:Vb->Vd->Prop} (hL:s.heap.IsTuple t its)
  (h:∀ h',Uax h' (s.heap.objs.size+1) s.heap.objs.size 0 .none->h'.IsTupleIter s.heap.objs.size t 0->h'.objs.size=s.heap.objs.size+2 ->
   (∀ b o,s.heap.get? b=some o->h'.get? b=some o)->Q (.ref (s.heap.objs.size+1)) { s with heap:=h' }) :
  Vg (Vl prog w) A (call (.type "enumerate") [.ref t]) Q E s:=by
 obtain⟨⟨k,dct,dt,sl⟩,hl,hc,n,hd⟩:=hL
 replace hc:k=.type "tuple" := hc
 replace hd:dt=.seq its n:=hd
 subst hc hd
 refine Uec Tah (by decide) (Tbv _) (Tby _) (fun obj=>Tce obj _) Tau (Zwy t its n dct sl) ⟨hl,?_⟩
 have hz:(s.heap.push { cls:=.type "tuple_iterator",data:=.fields #[.ref t,.int 0 0] }).objs.size=s.heap.objs.size+1:=Wam ..
 show _/\_
 rw[hz]
 have he:Uax ((s.heap.push { cls:=.type "tuple_iterator",data:=.fields #[.ref t,.int 0 0] }).push { cls:=.type "enumerate",data:=.fields #[.none,.bool false,.ref s.heap.objs.size,Uad 0,.none,.none] }) (s.heap.objs.size+1) s.heap.objs.size 0 .none:=by
  have q:=Xd (s.heap.push { cls:=.type "tuple_iterator",data:=.fields #[.ref t,.int 0 0] }) (o:={ cls:=.type "enumerate",data:=.fields #[.none,.bool false,.ref s.heap.objs.size,Uad 0,.none,.none] }) rfl
  rw[hz] at q; exact q
 exact⟨⟨_,he,rfl⟩,h _ he ⟨_,Xa _ (Xd _ rfl),rfl,rfl⟩ (by rw[Wam,hz]) fun b o x=>Xa _ (Xa _ x)⟩
end
nonrec def Ye1 (K:Xb) (c:Int) (a:Ve):It :=
 ⟨fun i H=>∃ xs x,SqT K H a xs/\xs[i]? = some x,fun i H v H'=>∃ p x,H p=none/\v=.ref p/\H'=upd H p (.tup [.int (c+i),x])/\∀ xs,SqT K H a xs->xs[i]? = some x,fun i H=>∃ xs,SqT K H a xs/\xs.length<=i⟩
theorem Zl6 {P:Vi} {w:Vs} {K:Xb} {es:List Vv} {k:Nat} {pos:Pos} (a e j:Ve) (c:Int) (hne:e≠j):Turn P w K (.Tuple es k pos) (Ye1 K c a) [e,j] e (fun i h=>∃ old,Uax h e j (c+i) old/\h.IsTupleIter j a i) where
 mem:=by simp
 obj:=fun i h st b hb=>by
  obtain⟨old,he,o,ho,hc,hd⟩:=st
  rcases Xi.mp hb with rfl | hb
  ·exact⟨_,he,fun v z=>by cases z⟩
  ·have:b=j:=by simpa using hb
   subst this
   exact⟨o,ho,fun v z=>by rw[hd] at z; cases z⟩
 keep:=fun i h h' st kk=>by
  obtain⟨old,he,o,ho,r⟩:=st
  exact⟨old,kk e (by simp) _ he,o,kk j (by simp) o ho,r⟩
 item:=by
  intro X hP hw hK hc i pins s σ H E I hf st hg
  subst hP hw hK
  obtain⟨xs,x,hq,hx⟩:=hg
  obtain⟨old,he,hj⟩:=st
  obtain⟨its,rv,p,hz⟩:=I.tuple hq
  obtain⟨u,hu,ru⟩:=rv.get hx
  have fe:=hf e (by simp)
  have fj:=hf j (by simp)
  refine Zvl he hj (show s.heap.IsTuple a its.toArray from p) (x:=u) (by simpa using hu) hne fun h' tk eo j' t' z' kk=>?_
  refine⟨_,rfl,Ubw (s:={ s with heap:=h',toks:=s.toks+1 }) eo fun h2 e2 s2=>?_⟩
  replace s2:Xw e h' h2:=s2
  have le:e<s.heap.objs.size:=Xf he
  have ne2:s.heap.objs.size≠e:=Wbr le
  -- the iterator's two records have turned, the pair is new
  have t2:h2.get? s.heap.objs.size=some { cls:=.type "tuple",data:=.seq #[.int (c+i) tk,u] }:=s2.extBut _ _ ne2 t'
  have hp0:H s.heap.objs.size=none:=I.hok.fresh (Xe _)
  have up:∀ b o,b∉[e,j]->s.heap.get? b=some o->h2.get? b=some o:=fun b o hb q =>
   s2.extBut b o (fun z=>hb (by simp[z])) (kk b o (fun z=>hb (by simp[z])) (fun z=>hb (by simp[z])) q)
  have I2:Inv X pins σ (upd H s.heap.objs.size (.tup [.int (c+i),x])) { s with heap:=h2,toks:=s.toks+1 }:=by
   refine I.step (g':=s.gens) (d':=s.drawn) (t':=s.toks+1) (ch:=[e,j]) (fun b hb=>?_) (fun b o _ _ hb q n=>up b o hb q) (fun b o _ _ hb q n=>⟨o.slots,up b o hb q⟩) (fun b o _ q n=>?_) (fun b o hb q=>⟨o,up b o hb q⟩) (fun b ys q=>?_) (fun b o y q=>?_) (fun b ps q=>⟨#[],?_⟩) (fun m hm=>?_) (fun b o q=>?_) I.bare
   ·have:=hf b hb; exact⟨this.2.2.2.1,this.2.1,this.2.2.2.2.1,this.2.2.2.2.2⟩
   ·rw[Zah (Xh (Xf q))]; exact n
   ·rw[Zah (Zai q hp0)]; exact q
   ·rw[Zah (Zai q hp0)]; exact q
   ·rw[Zah (Zai q hp0),q]; simp
   ·obtain⟨o,es',ep,ho,r⟩:=hm
    exact⟨o,es',ep,s2.extBut _ o (Ul fe.2.1) (kk _ o (Ul fe.2.1) (Ul fj.2.1) ho),r⟩
   ·by_cases hb:b=s.heap.objs.size
    ·subst hb
     rw[Zas] at q
     cases q
     exact⟨(by show 2<=sizeLine; decide),[.int (c+i) tk,u],.cons ⟨tk,rfl⟩ (.cons ru .nil),_,t2,rfl,⟨_,rfl⟩,rfl⟩
    ·rw[Zah hb] at q
     refine(I.hok b o q).stay (fun d v hd z=>up d v (fun hm=>?_) z) (fun d z=>by rw[Zah (Zai z hp0)]; exact z) fun d ys z=>by rw[Zah (Zai z hp0)]; exact z
     have:H d≠none:=by
      rcases hd with rfl | hd
      ·rw[q]; simp
      ·rw[hd]; simp
     exact this (hf d hm).1
  refine⟨.ref s.heap.objs.size,_,I2,rfl,⟨_,x,hp0,rfl,rfl,fun ys hy=>by rw[I.tuple_inj hy hq]; exact hx⟩,?_,fun b hb=>?_⟩
  ·obtain⟨o,ho,r⟩:=id j'
   have ec:c+((i+1:Nat):Int)=c+(i:Int)+1:=by push_cast; omega
   exact⟨u,by rw[ec]; exact e2,o,s2.extBut j o (Ul hne) ho,r⟩
  ·have hb2:b≠s.heap.objs.size:=by
    rcases Xi.mp hb with rfl | hb
    ·exact Xh le
    ·have:b=j:=by simpa using hb
     subst this
     obtain⟨o,ho,_⟩:=id hj
     exact Xh (Xf ho)
   rw[Zah hb2]; exact(hf b hb).1
 done:=by
  intro X hP hw hK hc i pins s σ H E I hf st hg
  subst hP hw hK
  obtain⟨xs,hq,hx⟩:=hg
  obtain⟨old,he,hj⟩:=st
  obtain⟨its,rv,p,hz⟩:=I.tuple hq
  obtain⟨f0,f1,f2,f3,f4,f5⟩:=hf j (by simp)
  have hl:=rv.length
  exact Zuz (I.ok.hd hc) he hj (show s.heap.IsTuple a its.toArray from p) (by simp; omega) fun h' eb=>⟨rfl,I.turned (t':=s.toks) (fun b o hb q=>eb b o hb q) f0 f1 f3 f4 f5⟩
 self:=fun _ _ _ _ _ st h=>by
  obtain⟨old,he,_⟩:=st
  exact Uau he h
section
variable {X:Cx}
nonrec def Zdy (c:Int):List D->List D
 | []=>[]
 | x::r=>.tup [.int c,x]::Zdy (c+1) r
theorem Zf7:∀ (xs:List D) (c:Int),(Zdy c xs).length=xs.length
 | [],_=>rfl
 | x::r,c=>by simp[Zdy,Zf7 r]
theorem Zkv:∀ {xs:List D} {c:Int} {i:Nat} {d:D},(Zdy c xs)[i]? = some d->∃ x,xs[i]? = some x/\d=.tup [.int (c+i),x]
 | [],c,i,d,h=>by simp[Zdy] at h
 | x::r,c,0,d,h=>by simp[Zdy] at h; exact⟨x,rfl,by rw[<- h]; simp⟩
 | x::r,c,i+1,d,h=>by
  simp only[Zdy,Wcf] at h
  obtain⟨y,h1,h2⟩:=Zkv h
  refine⟨y,by simpa using h1,?_⟩
  rw[h2]
  have:c+1+(i:Int)=c+((i+1:Nat):Int):=by push_cast; omega
  rw[this]
theorem Zrc {K:Xb} {H0:Hp} {ι0:List Ve} {a:Ve} {c:Int} {xs:List D} {vs:List V} (hS:SqT K H0 a vs) (P:Vj (Rep K H0 ι0) xs vs)
  (inj:∀ (i:Nat) (H:Hp) (x:V),(∀ ys,SqT K H a ys->ys[i]? = some x)->SqT K H a vs->vs[i]? = some x):ItRep K (Ye1 K c a) (Zdy c xs) [] H0 ι0:=by
 refine⟨fun i H2 ι2 Hd2 l2 h2 _ hi=>?_,fun i H2 ι2 Hd2 d v H3 l2 h2 _ hd y=>?_,fun i H2 ι2 Hd2 l2 h2 _ hi=>⟨vs,l2.tup a vs hS,by rw[<- Prd.len P,<- Zf7 xs c]; exact hi⟩⟩
 ·exact⟨vs,vs[i]'(by rw[<- Prd.len P,<- Zf7 xs c]; exact hi),l2.tup a vs hS,by simp⟩
 ·obtain⟨p,x,hp,rfl,rfl,y⟩:=y
  obtain⟨x',hx',rfl⟩:=Zkv hd
  obtain⟨u,hu,ru⟩:=Prd.get P hx'
  have:=y vs (l2.tup a vs hS)
  rw[hu] at this
  cases this
  refine⟨ι2,Le.fresh hp _,h2.tup hp _,Zbe.mpr ⟨p,_,rfl,SqT.of Zas,.cons (by simp) (.cons ((ru.mono l2).mono (Le.fresh hp _)) .nil)⟩⟩
nonrec def Zzc (f:AF):ItF:=fun σ H=>(f σ H).bind fun p=>match p.1 with
 | [.tup xs]=>some ((Zdy 0 xs,[]),p.2)
 | _=>none
theorem Zz1 {es:List Vv} {k:Nat} {tp p pos:Pos} {a:Vv} {f:AF} (hg:Gl X "enumerate") (hm:X.mg "enumerate" = none) (ha:PAf X [a] f) (hs:Vf [a] X.env=[(false,eval a X.env)]:=by rfl):PIf X (.Tuple es k tp) (.Call (.Name "enumerate" p) [a] [] pos) (Zzc f):=by
 rintro pins s σ H R I ⟨ι,σd,Hd,xs,own,Hd',sr,hr,e,q⟩
 obtain⟨⟨ds,H1⟩,e1,e⟩:=Zo e
 dsimp only at e
 split at e
 ·rename_i ys
  cases e
  refine Call_ (Zet I hg hm Udj (Ui (thn (ha pos pins s σ H (fun vs H'=>∃ a ws,vs=[.ref a]/\SqT X.K H' a ws/\∀ (J:It) (H2:Hp),H2=H'->J=Ye1 X.K 0 a->R J H2) I ⟨ι,σd,Hd,_,_,sr,hr,e1,fun vs H' ι' l h P=>?_⟩) fun us s1 ⟨vs,H2,I2,r2,q2⟩=>?_) hs rfl))
  ·obtain⟨v,rfl,r⟩:=Zn1 P
   obtain⟨ad,ws,rfl,hS,P2⟩:=Zbe.mp r
   refine⟨ad,ws,rfl,hS,fun J H2 e2 e3=>?_⟩
   subst e2 e3
   exact q _ _ ι' l h (Zrc hS P2 fun i H x y h=>y ws h)
  ·obtain⟨ad,ws,rfl,hS,q2⟩:=q2
   obtain⟨u,rfl,ru⟩:=Zja r2
   cases ru
   obtain⟨its,rv,p,hz⟩:=I2.tuple hS
   refine Ztv (show s1.heap.IsTuple ad its.toArray from p) fun h' he hj z' kk=>?_
   have I3:Inv X pins σ H2 { s1 with heap:=h' }:=I2.kept (t':=s1.toks) kk
   refine Uau (s:={ s1 with heap:=h' }) he ?_
   have ne:s1.heap.objs.size+1≠s1.heap.objs.size:=Wer _
   refine⟨s1.heap.objs.size+1,[s1.heap.objs.size+1,s1.heap.objs.size],_,Ye1 X.K 0 ad,H2,rfl,I3,Zl6 ad _ _ 0 ne,⟨.none,by simpa using he,hj⟩,fun b hb=>?_,q2 _ _ rfl rfl⟩
   have:s1.heap.objs.size<=b:=by
    rcases Xi.mp hb with rfl | hb
    ·exact Wea _
    ·have:b=s1.heap.objs.size:=by simpa using hb
     rw[this]; exact Xe _
   have fp:=I2.fpOk (b:=b) (H':=H2) this (I2.hok.fresh this)
   exact fp
 ·cases e
theorem Zza {pins:List (Ve×Obj)} {σ:L2.St} {H:Hp} {s:Vd} {ch:List Ve} {h2:Vy} {tk:Nat} {vs:List V} {us:List Vb} {n:Nat} (I:Inv X pins σ H s) (hf:∀ b∈ch,Znd X pins H b)
  (up:∀ b o,b∉ch->s.heap.get? b=some o->h2.get? b=some o) (t2:h2.get? s.heap.objs.size=some { cls:=.type "tuple",data:=.seq us.toArray n }) (r:Zb4 vs us) (hz:vs.length<=sizeLine) :
  Inv X pins σ (upd H s.heap.objs.size (.tup vs)) { s with heap:=h2,toks:=tk }:=by
 have hp0:H s.heap.objs.size=none:=I.hok.fresh (Xe _)
 refine I.step (g':=s.gens) (d':=s.drawn) (t':=tk) (ch:=ch) (fun b hb=>?_) (fun b o _ _ hb q n=>up b o hb q) (fun b o _ _ hb q n=>⟨o.slots,up b o hb q⟩) (fun b o _ q n=>?_) (fun b o hb q=>⟨o,up b o hb q⟩) (fun b ys q=>?_) (fun b o y q=>?_) (fun b ps q=>⟨#[],?_⟩) (fun m hm=>?_) (fun b o q=>?_) I.bare
 ·have:=hf b hb; exact⟨this.2.2.2.1,this.2.1,this.2.2.2.2.1,this.2.2.2.2.2⟩
 ·rw[Zah (Xh (Xf q))]; exact n
 ·rw[Zah (Zai q hp0)]; exact q
 ·rw[Zah (Zai q hp0)]; exact q
 ·rw[Zah (Zai q hp0),q]; simp
 ·obtain⟨o,es',ep,ho,r⟩:=hm
  exact⟨o,es',ep,up _ o (fun z=>(hf _ z).2.1 rfl) ho,r⟩
 ·by_cases hb:b=s.heap.objs.size
  ·subst hb
   rw[Zas] at q
   cases q
   exact⟨hz,us,r,_,t2,rfl,⟨_,rfl⟩,rfl⟩
  ·rw[Zah hb] at q
   refine(I.hok b o q).stay (fun d v hd z=>up d v (fun hm=>?_) z) (fun d z=>by rw[Zah (Zai z hp0)]; exact z) fun d ys z=>by rw[Zah (Zai z hp0)]; exact z
   have:H d≠none:=by
    rcases hd with rfl | hd
    ·rw[q]; simp
    ·rw[hd]; simp
   exact this (hf d hm).1
theorem Zys {pins:List (Ve×Obj)} {σ:L2.St} {H:Hp} {s:Vd} {ch:List Ve} {h2:Vy} {tk:Nat} (I:Inv X pins σ H s) (hf:∀ b∈ch,Znd X pins H b)
  (up:∀ b o,b∉ch->s.heap.get? b=some o->h2.get? b=some o):Inv X pins σ H { s with heap:=h2,toks:=tk }:=by
 refine I.step (g':=s.gens) (d':=s.drawn) (t':=tk) (ch:=ch) (fun b hb=>?_) (fun b o _ _ hb q n=>up b o hb q) (fun b o _ _ hb q n=>⟨o.slots,up b o hb q⟩) (fun b o _ q n=>n) (fun b o hb q=>⟨o,up b o hb q⟩) (fun b ys q=>q) (fun b o y q=>q) (fun b ps q=>⟨#[],by rw[q]; simp⟩) (fun m hm=>?_) (fun b o q=>?_) I.bare
 ·have:=hf b hb; exact⟨this.2.2.2.1,this.2.1,this.2.2.2.2.1,this.2.2.2.2.2⟩
 ·obtain⟨o,es',ep,ho,r⟩:=hm
  exact⟨o,es',ep,up _ o (fun z=>(hf _ z).2.1 rfl) ho,r⟩
 ·refine(I.hok b o q).stay (fun d v hd z=>up d v (fun hm=>?_) z) (fun d z=>z) fun d ys z=>z
  have:H d≠none:=by
   rcases hd with rfl | hd
   ·rw[q]; simp
   ·rw[hd]; simp
  exact this (hf d hm).1
end
structure Five (z a b c d:Ve):Prop where
 az:a≠z
 bz:b≠z
 cz:c≠z
 dz:d≠z
 ab:a≠b
 ac:a≠c
 ad:a≠d
 bc:b≠c
 bd:b≠d
 cd:c≠d
section
variable {X:Cx}
nonrec def Zsg:List D->List D->List D
 | x::xs,y::ys=>.tup [x,y]::Zsg xs ys
 | _,_=>[]
theorem Zmp:∀ (xs ys:List D),(Zsg xs ys).length=min xs.length ys.length
 | [],_=>by simp[Zsg]
 | _::_,[]=>by simp[Zsg]
 | x::xs,y::ys=>by simp[Zsg,Zmp xs ys]
theorem Zrr:∀ {xs ys:List D} {i:Nat} {d:D},(Zsg xs ys)[i]? = some d->∃ x y,xs[i]? = some x/\ys[i]? = some y/\d=.tup [x,y]
 | [],_,i,d,h=>by simp[Zsg] at h
 | _::_,[],i,d,h=>by simp[Zsg] at h
 | x::xs,y::ys,0,d,h=>by simp[Zsg] at h; exact⟨x,y,rfl,rfl,h.symm⟩
 | x::xs,y::ys,i+1,d,h=>by
  simp only[Zsg,Wcf] at h
  obtain⟨u,v,h1,h2,h3⟩:=Zrr h
  exact⟨u,v,by simpa using h1,by simpa using h2,h3⟩
nonrec def It3 (lo c:Int) (n:Nat):It:=⟨fun i _=>i<n,fun i H x H'=>H'=H/\x=.int (lo+i*c),fun i _=>n<=i⟩
theorem Zq9 {P:Vi} {w:Vs} {K:Xb} {tg:Vv} (it:Ve) (lo c:Int) (n:Nat):Turn P w K tg (It3 lo c n) [it] it (fun i h=>Udn h it (lo+(i:Nat)*c) ((n:Int) - (i:Nat)) c) where
 mem:=by simp
 obj:=fun i h st b hb=>by
  have e:b=it:=by simpa using hb
  subst e
  exact⟨_,st,fun v z=>by
   have z':Data.fields _=Data.cell v:=z
   cases z'⟩
 keep:=fun i h h' st k=>k it (by simp) _ st
 item:=by
  intro X hP hw hK hc i pins s σ H E I hf st hg
  subst hP hw hK
  obtain⟨f0,f1,f2,f3,f4,f5⟩:=hf it (by simp)
  have W:=Walks.range (prog:=X.prog) (w:=X.w) (I.ok.hd hc) it lo c n
  refine W.item i s _ _ hg st fun v h' tk hv st' kk=>?_
  obtain⟨t,rfl⟩:=hv
  have I1:Inv X pins σ H { s with heap:=h',toks:=tk }:=I.turned (fun b o hb e=>kk b o (by simpa using hb) e) f0 f1 f3 f4 f5
  exact⟨_,rfl,Zx5 (s:={ s with heap:=h',toks:=tk }) (n := "range_iterator") st' rfl rfl (by decide) ⟨.int (lo+i*c),H,I1,⟨t,rfl⟩,⟨rfl,rfl⟩,st',fun b hb=>(hf b hb).1⟩⟩
 done:=by
  intro X hP hw hK hc i pins s σ H E I hf st hg
  subst hP hw hK
  obtain⟨f0,f1,f2,f3,f4,f5⟩:=hf it (by simp)
  exact Ucj (I.ok.hd hc) st (by have:n<=i:=hg; omega) fun h' eb=>⟨rfl,I.turned (t':=s.toks) (fun b o hb e=>eb b o hb e) f0 f1 f3 f4 f5⟩
 self:=fun _ _ _ _ _ st h=>Uck st h
nonrec def Zhd (lo c:Int) (n:Nat):List D:=(Wdx n).map fun k:Nat=>.int (lo+(k:Int)*c)
end
structure Fn (P:Vi) (w:Vs) (K:Xb) (mg:Str->Option Vb) (base:Vy) (k:Nat) (x:Str) (ps:List Str) (F:FF):Prop where
 ex:∃ f fd,FnOk P w K mg base CX0 k f fd ps (spF K ps.length F)/\Zip K fd ps []/\Wbt K (.ref f)=true/\mg x=some (.ref f)/\∃ (oc:Vb) (od:Option Ve) (osl:Array (Option Vb)),K.lookup f=some ⟨oc,od,.func fd,osl⟩
theorem Zal {X:Cx} {k n:Nat} {ps:List Str} {x:Str} {p pos:Pos} {F:FF} {fa:AF} {e:Vv} {es:List Vv} (G:Fn X.prog X.w X.K X.mg X.base k x ps F) (hr:Room k X.A) (hg:Gl X x)
  (ha:PAf X (e::es) fa) (hdb:(x==("__debug__" : Str))=false:=by decide) (he:Vf (e::es) X.env=(false,eval e X.env)::Vf es X.env:=by exact Zbq rfl) (hpl:(Uac pos (Vf es X.env)).any (·.1)=false:=by exact Zck rfl) (hn:ps.length=n:=by rfl) :
  PEf X (.Call (.Name x p) (e::es) [] pos) (Zak n F fa):=by
 subst hn
 obtain⟨f,fd,G1,hb,hk,hm,_⟩:=G.ex
 exact Yad G1 hr hg hm hk hb ha hdb he hpl
def Tf (K:Xb) (mg:Str->Option Vb) (x:Str) (st:Vw):Prop:=∃ f fd,Fun K x x st f fd/\mg x=some (.ref f)
theorem us0 {us:List Vb} (h:us.length=0):us=[]:=Wcg.mp h
theorem us1 {us:List Vb} (h:us.length=1):∃ a,us=[a]:=by
 obtain⟨a,r⟩:=Waj h
 obtain⟨t,rfl⟩:=r
 rw[us0 (us:=t) (by simpa using h)]
 exact⟨a,rfl⟩
theorem us2 {us:List Vb} (h:us.length=2):∃ a b,us=[a,b]:=by
 obtain⟨a,t,rfl⟩:=Waj h
 obtain⟨b,rfl⟩:=us1 (us:=t) (by simpa using h)
 exact⟨a,b,rfl⟩
theorem us3 {us:List Vb} (h:us.length=3):∃ a b c,us=[a,b,c]:=by
 obtain⟨a,t,rfl⟩:=Waj h
 obtain⟨b,c,rfl⟩:=us2 (us:=t) (by simpa using h)
 exact⟨a,b,c,rfl⟩
theorem us4 {us:List Vb} (h:us.length=4):∃ a b c d,us=[a,b,c,d]:=by
 obtain⟨a,t,rfl⟩:=Waj h
 obtain⟨b,c,d,rfl⟩:=us3 (us:=t) (by simpa using h)
 exact⟨a,b,c,d,rfl⟩
theorem us5 {us:List Vb} (h:us.length=5):∃ a b c d e,us=[a,b,c,d,e]:=by
 obtain⟨a,t,rfl⟩:=Waj h
 obtain⟨b,c,d,e,rfl⟩:=us4 (us:=t) (by simpa using h)
 exact⟨a,b,c,d,e,rfl⟩
theorem tf_mk {K:Xb} {h:Vy} {mg:Str->Option Vb} {x:Str} {st:Vw} {f:Ve} {oc:Vb} {od an:Option Ve} {osl:Array (Option Vb)} {kV doc pm cdv ct:Vb} (X:K.In h) (G:h.Ns Vh mg)
  (a:Wcy K Vh x=some (some (.ref f))) (l:K.lookup f=some ⟨oc,od,.func (Wba x x (Zb1 st) (Za1 st) (Zad st) .none kV doc pm an cdv ct),osl⟩)
  (c:Wcs K cdv x=true) (k:Wbt K (.ref f)=true):Tf K mg x st:=⟨f,_,Zr2 l c k,Wfk X G a⟩
theorem Zba {P:Vi} {w:Vs} {K:Xb} {mg:Str->Option Vb} {base:Vy} {x:Str} {st:Vw} {N ps:List Str} {k:Nat} {b:SF} (T:Tf K mg x st) (S:FnScope N ps (Zad st))
  (hbd:∀ (kV doc pm:Vb) (an:Option Ve) (cdv ct:Vb) (us:List Vb),us.length=ps.length->Ubq (Wba x x (Zb1 st) (Za1 st) (Zad st) .none kV doc pm an cdv ct) ⟨us,[]⟩=pure (ps.zip us))
  (hb:∀ (f:Ve) (cdv:Vb) (A:Vr) (outer:List Env) (s:Vd) (H:Hp) (E:XK),Room k (A.deeper (Uaw x (Zad st) s.heap.objs.size f cdv)) ->
   Zpp (Zlo CX0 P w K mg base N x (Zad st) f cdv A outer s H E).nox (Za1 st) b):Fn P w K mg base (k+1) x ps (Za4 ps.length N.length b):=by
 obtain⟨f,fd,F,hm⟩:=T
 refine⟨f,fd,fn_f F S fun cdv A outer s H E hr=>hb f cdv A outer s H E hr,F.binds hbd,F.kp,hm,?_⟩
 obtain⟨oc,od,kV,doc,pm,an,cdv,ct,osl,rfl,lk,hcd⟩:=F.ex
 exact⟨oc,od,osl,lk⟩
nonrec def blkB (sc scope:Ubo) (N:List Str) (x:Str) (cn:List Str) (ci:List Nat):Bool :=
 (scope.kind==.function)&&scope.names.all (fun y=>y.2 != .cell)&&scope.names.all (fun y=>y.2 != .local||scope.names.lookup y.1==some .local)&&(scope.names.lookup x==some .local) &&
 scope.names.all (fun y=>y.2 != .free||sc.names.lookup y.1==some .cell)&&decide (x::cn).Nodup&&(ci.length==cn.length) &&
 (cn.zip ci).all (fun p=>N[p.2]? == some p.1&&scope.names.lookup p.1==some .free&&sc.names.lookup p.1==some .cell)
theorem Zf8 {P:Vi} {w:Vs} {K:Xb} {mg:Str->Option Vb} {base:Vy} {N:List Str} {qual:Str} {sc scope:Ubo} {f:Ve} {cdv:Vb} {A:Vr} {outer:List Env} {s:Vd} {H:Hp} {E:XK} {x:Str} {cn:List Str} {ci:List Nat}
  (h:blkB sc scope N x cn ci=true):BlkOk (Zlo CX0 P w K mg base N qual sc f cdv A outer s H E).nox scope x cn ci:=by
 unfold blkB at h
 simp only[Wai,Xu,Wez,bne_iff_ne,ne_eq,beq_iff_eq,decide_eq_true_eq] at h
 obtain⟨⟨⟨⟨⟨⟨⟨h1,h2⟩,h3⟩,h4⟩,h5⟩,h6⟩,h7⟩,h8⟩:=h
 refine⟨h1,fun y hy=>h2 y hy,fun y hy hl=>(h3 y hy).resolve_left fun z=>z hl,h4,fun y hy hf=>?_,h6,h7,fun j y hj=>?_⟩
 ·have:=(h5 y hy).resolve_left fun z=>z hf
  obtain⟨c,hc⟩:=Zjf (n:=s.heap.objs.size+1) this
  exact Wak.mpr ⟨c,hc⟩
 ·have hl:j<ci.length:=by rw[h7]; exact(Xc.mp hj).1
  have hm:(y,ci[j])∈cn.zip ci:=by
   refine Wby.mpr ⟨j,?_⟩
   rw[Wei]
   exact⟨hj,by simp[hl]⟩
  obtain⟨⟨k1,k2⟩,k3⟩:=h8 _ hm
  exact⟨ci[j],by simp[hl],k1,k2,.inl k3⟩
theorem Zn4:Vq "len" = some (.builtin "len"):=by decide +kernel
theorem Zxc:Vq "abs" = some (.builtin "abs"):=by decide +kernel
theorem Yf3:Vq "min" = some (.builtin "min"):=by decide +kernel
theorem Yfi:Vq "max" = some (.builtin "max"):=by decide +kernel
theorem Zpy:Vq "sorted" = some (.builtin "sorted"):=by decide +kernel
theorem Zm6:Vq "isinstance" = some (.builtin "isinstance"):=by decide +kernel
theorem Ybb:Vq "all" = some (.builtin "all"):=by decide +kernel
theorem Ybp:Vq "int" = some (.type "int"):=by decide +kernel
theorem Zrp:Vq "tuple" = some (.type "tuple"):=by decide +kernel
theorem Yep:Vq "list" = some (.type "list"):=by decide +kernel
theorem Yd8:Vq "bool" = some (.type "bool"):=by decide +kernel
section
variable {X:Cx} {tg:Vv}
theorem Yea {K:Xb} {H0:Hp} {ι0:List Ve} {a:Ve} {xs:List D} {vs:List V} (hS:SqT K H0 a vs) (P:Vj (Rep K H0 ι0) xs vs):ItRep K (Itt K a) xs [] H0 ι0:=by
 refine⟨fun i H2 ι2 Hd2 l2 h2 _ hi=>?_,fun i H2 ι2 Hd2 d x H3 l2 h2 _ hd y=>?_,fun i H2 ι2 Hd2 l2 h2 _ hi=>⟨vs,l2.tup a vs hS,by rw[<- Prd.len P]; exact hi⟩⟩
 ·exact⟨vs,vs[i]'(by rw[<- Prd.len P]; exact hi),l2.tup a vs hS,by simp⟩
 ·obtain⟨rfl,y⟩:=y
  obtain⟨u,hu,ru⟩:=Prd.get P hd
  have:=y vs (l2.tup a vs hS)
  rw[hu] at this
  cases this
  exact⟨ι2,Le.refl,h2,ru.mono l2⟩
theorem Yhw {K:Xb} {H0:Hp} {ι0:List Ve} {a:Ve} {xs:List D} {vs:List V} (hS:FzL K H0 a vs) (P:Vj (Rep K H0 ι0) xs vs):ItRep K (Itl K a) xs [] H0 ι0:=by
 refine⟨fun i H2 ι2 Hd2 l2 h2 _ hi=>?_,fun i H2 ι2 Hd2 d x H3 l2 h2 _ hd y=>?_,fun i H2 ι2 Hd2 l2 h2 _ hi=>⟨vs,(l2.fz a vs hS).sq,by rw[<- Prd.len P]; exact hi⟩⟩
 ·exact⟨vs,vs[i]'(by rw[<- Prd.len P]; exact hi),(l2.fz a vs hS).sq,by simp⟩
 ·obtain⟨rfl,y⟩:=y
  obtain⟨u,hu,ru⟩:=Prd.get P hd
  have:=y vs (l2.fz a vs hS).sq
  rw[hu] at this
  cases this
  exact⟨ι2,Le.refl,h2,ru.mono l2⟩
theorem Ycf {K:Xb} {H0:Hp} {ι0:List Ve} {a:Ve} {n:Nat} {xs:List D} (ha:ι0[n]? = some a):ItRep K (Itl K a) xs [(n,.lst xs)] H0 ι0:=by
 have now:∀ {H2:Hp} {ι2:List Ve} {Hd2:HD},Le K H0 ι0 H2 ι2->HRep K H2 ι2 Hd2->Zci [(n,DO.lst xs)] Hd2->∃ ws,H2 a=some (.lst ws)/\Vj (Rep K H2 ι2) xs ws:=fun {H2 ι2 Hd2} l2 h2 ok =>
  h2.obj n a _ (l2.get ha) (ok (n,.lst xs) (by simp))
 refine⟨fun i H2 ι2 Hd2 l2 h2 ok hi=>?_,fun i H2 ι2 Hd2 d x H3 l2 h2 ok hd y=>?_,fun i H2 ι2 Hd2 l2 h2 ok hi=>?_⟩
 ·obtain⟨ws,h3,P3⟩:=now l2 h2 ok
  exact⟨ws,ws[i]'(by rw[<- Prd.len P3]; exact hi),SqL.of h3,by simp⟩
 ·obtain⟨ws,h3,P3⟩:=now l2 h2 ok
  obtain⟨rfl,y⟩:=y
  obtain⟨u,hu,ru⟩:=Prd.get P3 hd
  have:=y ws (SqL.of h3)
  rw[hu] at this
  cases this
  exact⟨ι2,Le.refl,h2,ru⟩
 ·obtain⟨ws,h3,P3⟩:=now l2 h2 ok
  exact⟨ws,SqL.of h3,by rw[<- Prd.len P3]; exact hi⟩
nonrec def iSq (f:EF):ItF:=fun σ H=>(f σ H).bind fun p=>(Zkc p.1 p.2).map fun r=>(r,p.2)
theorem Zgf {l:Vv} {f:EF} (hl:PEf X l f):PIf X tg l (iSq f):=by
 rintro pins s σ H R I ⟨ι,σd,Hd,xs,own,Hd',sr,hr,e,q⟩
 obtain⟨⟨d,H1⟩,e1,e⟩:=Zo e
 obtain⟨⟨ys,ow⟩,e2,e⟩:=Zm e
 obtain⟨e3,rfl⟩:=Way.inj e
 obtain⟨rfl,rfl⟩:=Way.inj e3
 refine thn (hl pins s σ H (fun v H1=>∃ a,v=.ref a/\(((∃ xs,SqL X.K H1 a xs)/\R (Itl X.K a) H1)\/((∃ xs,SqT X.K H1 a xs)/\R (Itt X.K a) H1))) I ⟨ι,σd,Hd,_,_,sr,hr,e1,fun v H' ι' l h r=>?_⟩) fun v s1 ⟨x,H2,I2,r2,q2⟩=>?_
 ·cases d with
  | tup zs =>
   cases e2
   obtain⟨a,vs,rfl,hS,P⟩:=Zbe.mp r
   exact⟨a,rfl,.inr ⟨⟨vs,hS⟩,q _ H' ι' l h (Yea hS P)⟩⟩
  | fl zs =>
   cases e2
   obtain⟨a,vs,rfl,hS,P⟩:=Zhr.mp r
   exact⟨a,rfl,.inl ⟨⟨vs,hS.sq⟩,q _ H' ι' l h (Yhw hS P)⟩⟩
  | ref n =>
   simp only[Zkc] at e2
   split at e2
   ·rename_i zs eo
    obtain⟨e5,e6⟩:=Way.inj (Xx.inj e2)
    subst e5 e6
    obtain⟨a,rfl,ha⟩:=Zay.mp r
    obtain⟨vs,h1,P⟩:=h.obj n a _ ha eo
    exact⟨a,rfl,.inl ⟨⟨vs,SqL.of h1⟩,q _ H' ι' l h (Ycf ha)⟩⟩
   ·cases e2
  | _=>simp[Zkc] at e2
 ·obtain⟨a,rfl,q2⟩:=q2
  cases r2
  have fp:∀ b∈[s1.heap.objs.size],Znd X pins H2 b:=fun b hb=>by
   have e:b=s1.heap.objs.size:=by simpa using hb
   subst e
   exact I2.fpOk (Xe _) (I2.hok.fresh (Xe _))
  rcases q2 with ⟨⟨xs,hq⟩,q2⟩ | ⟨⟨xs,hq⟩,q2⟩
  ·obtain⟨its,rv,p,hz⟩:=I2.list hq
   exact Uao p.isList ⟨s1.heap.objs.size,[s1.heap.objs.size],_,_,H2,rfl,I2.kept (t':=s1.toks) fun b o e=>Xa _ e,Zu4 a _,⟨_,Xd _ rfl,rfl,rfl⟩,fp,q2⟩
  ·obtain⟨its,rv,p,hz⟩:=I2.tuple hq
   exact Uaj (show s1.heap.IsTuple a its.toArray from p) ⟨s1.heap.objs.size,[s1.heap.objs.size],_,_,H2,rfl,I2.kept (t':=s1.toks) fun b o e=>Xa _ e,Zs3 a _,⟨_,Xd _ rfl,rfl,rfl⟩,fp,q2⟩
end
theorem Za0 {X:Cx} {e:Vv} {es:List Vv} {f:EF} {g:AF} (ha:PEf X e f) (hr:PAf X es g) (hs:Zsn e=true):PAf X (e::es) (Zab f g):=Zyt ha hr (Zbq hs)
nonrec def Yf0 (F:FF) (K:Xb):Sp:=spF K 1 F
variable {X:Cx}
nonrec def Yck:List D->Option (List Bool)
 | []=>some []
 | .bl b::r=>(Yck r).map fun x=>b::x
 | _::_=>none
theorem Zkp {K:Xb} {H:Hp} {ι:List Ve}:∀ {xs:List D} {bs:List Bool} {vs:List V} {us:List Vb},Yck xs=some bs->Vj (Rep K H ι) xs vs->Zb4 vs us->us=bs.map .bool
 | [],bs,vs,us,e,P,q=>by cases e; cases P; cases q; rfl
 | d::r,bs,vs,us,e,P,q=>by
  cases P with
  | cons p P =>
   cases q with
   | cons q Q =>
    cases d<;>simp only[Yck] at e<;>try cases e
    obtain⟨y,e1,rfl⟩:=Zm e
    simp at p
    subst p
    cases q
    rw[Zkp e1 P Q]
    rfl
theorem Zst (bs:List Bool):Yck (bs.map .bl)=some bs:=by
 induction bs with
 | nil=>rfl
 | cons b r ih=>simp[Yck,ih]
nonrec def Yaw:FF:=fun ds H=>match ds with
 | [.ref n]=>match H[n]? with
  | some (.lst xs)=>(Yck xs).map fun bs=>(.bl (bs.all id),H)
  | _=>none
 | _=>none
theorem Zva (bs:List Bool):((Wdx bs.length).all fun i=>(bs[i]?).getD true)=bs.all id:=by
 rw[Wfa,Xu,Xu]
 constructor
 ·intro h x hx
  obtain⟨i,hi,rfl⟩:=Wff hx
  have:=h i (by simpa using hi)
  simpa [hi] using this
 ·intro h i hi
  have hi:i<bs.length:=by simpa using hi
  have:=h _ (Wac hi)
  simpa [hi] using this
theorem Zp2 (hc:X.calm=true):Zir X (.builtin "all") Yaw:=by
 rintro pins s σ H xs us Q I rv ⟨ι,ds,Hd,d,Hd',hr,P,e,q⟩
 unfold Yaw at e
 split at e
 ·rename_i n
  split at e
  ·rename_i ys eo
   obtain⟨bs,e1,e⟩:=Zm e
   obtain⟨rfl,rfl⟩:=Way.inj e
   obtain⟨v,rfl,r⟩:=Zn1 P
   obtain⟨a,rfl,ha⟩:=Zay.mp r
   obtain⟨vs,h1,P2⟩:=hr.obj n a _ ha eo
   cases rv with
   | cons rx rv =>
    cases rv
    cases rx
    obtain⟨its,rv2,p,hz⟩:=I.list (SqL.of h1)
    have eits:=Zkp e1 P2 rv2
    have hlt:a<s.heap.objs.size:=by
     obtain⟨o,ho,_⟩:=p.isList
     exact Xf ho
    refine call_all_walk (Uao p.isList ⟨s.heap.objs.size,[s.heap.objs.size,a],[s.heap.objs.size],its.toArray.size,_,_,fun i=>(bs[i]?).getD true,rfl,
     Walks.list (A:=X.A.in1) (show X.A.in1.handled=none from I.ok.hd hc) s.heap.objs.size a (Xh hlt) its.toArray,⟨⟨_,Xd _ rfl,rfl,rfl⟩,p.isList.at fun o z=>Xa _ z⟩,?_,fun h' tk k=>?_⟩)
    ·intro i v s2 Q2 E2 hv hq
     rw[eits] at hv
     have hv2:(bs.map Tbp)[i]? = some v:=by simpa using hv
     rw[Xp] at hv2
     obtain⟨b,hb,rfl⟩:=Zm hv2
     refine Vz ?_
     simpa [hb] using hq
    ·have hn:its.toArray.size=bs.length:=by rw[eits]; simp
     rw[hn,Zva]
     refine⟨.bl (bs.all id),H,I.kept (t':=tk) fun b o z=>k b o ?_ (Xa _ z),rfl,q _ H ι Le.refl hr (by simp)⟩
     intro hm
     have:b=s.heap.objs.size:=by simpa using hm
     exact absurd (this ▸ Xf z) (Wav _)
  ·cases e
 ·cases e
variable {X:Cx}
section
variable {a b c:Vv} {pos:Pos}
nonrec def eCh (g g':F2) (fa fb fc:EF):EF:=fun σ H=>(fa σ H).bind fun p=>(fb σ p.2).bind fun q=>(g p.1 q.1 q.2).bind fun z=>(blD z.1).bind fun k=>if k=true then (fc σ z.2).bind fun w=>g' q.1 w.1 w.2 else some (.bl false,z.2)
theorem Zy2 {fa fb fc:EF} {g g':F2} {σ:L2.St} {H:Hp} {Q:VK} {K:Xb} (h:rdE K (eCh g g' fa fb fc) σ H Q):Ya7 (rd2 K g) (rd2 K g') (rdE K fa) (rdE K fb) (rdE K fc) σ H Q:=by
 obtain⟨ι,σd,Hd,d,Hd',s,hr,e,q⟩:=h
 obtain⟨⟨x,H1⟩,e1,e⟩:=Zo e
 obtain⟨⟨y,H2⟩,e2,e⟩:=Zo e
 obtain⟨⟨z,H3⟩,e3,e⟩:=Zo e
 obtain⟨k,e4,e⟩:=Zo e
 refine⟨ι,σd,Hd,x,H1,s,hr,e1,fun v1 H1' ι1 l1 h1 r1=>⟨ι1,σd,H1,y,H2,s.mono l1,h1,e2,fun v2 H2' ι2 l2 h2 r2=>⟨ι2,x,y,H2,z,H3,h2,r1.mono l2,r2,e3,fun v3 H3' ι3 l3 h3 r3=>⟨k,Zjs e4 r3,?_⟩⟩⟩⟩
 cases k with
 | true =>
  rw[if_pos rfl] at e ⊢
  obtain⟨⟨u,H4⟩,e5,e⟩:=Zo e
  exact⟨ι3,σd,H3,u,H4,s.mono ((l1.trans l2).trans l3),h3,e5,fun v4 H4' ι4 l4 h4 r4=>⟨ι4,y,u,H4,d,Hd',h4,r2.mono (l3.trans l4),r4,e,fun v H' ι' l h r=>q v H' ι' ((((l1.trans l2).trans l3).trans l4).trans l) h r⟩⟩
 | false =>
  rw[if_neg (by simp)] at e ⊢
  obtain⟨rfl,rfl⟩:=Way.inj (Xx.inj e)
  exact q _ H3' ι3 ((l1.trans l2).trans l3) h3 (by simp)
theorem Zoj {op op':CmpOp} {g g':F2} {fa fb fc:EF} (ho:OpF X (Vt op) g) (ho':OpF X (Vt op') g') (ha:PEf X a fa) (hb:PEf X b fb) (hc:PEf X c fc)
  (hm:lastMarks [op,op'] [b,c]=false):PEf X (.Compare a [op,op'] [b,c] pos) (eCh g g' fa fb fc) :=
 PEi (Yas ho ho' ha hb hc hm) fun _ _ _ h=>Zy2 h
end
def Gc (K:Xb) (mg:Str->Option Vb) (x:Str) (d:D):Prop:=∃ u v,mg x=some u/\Zcd v u/\∀ H ι,Rep K H ι d v
theorem Zpk {x:Str} {d:D} {pos:Pos} (hg:Gl X x) (h:Gc X.K X.mg x d) (hd:(x==("__debug__" : Str))=false:=by decide):PEf X (.Name x pos) (eC d):=by
 obtain⟨u,v,hm,r,rp⟩:=h
 exact Zq7 (Zxe (v:=v) hg hm r hd) rp
variable {X:Cx}
nonrec def Zbi (kvs:List (D×D)) (k:List Int):Option D:=(kvs.find? fun p=>nk p.1==some k).map (·.2)
nonrec def Zp6 (kvs:List (D×D)) (kd:D) (k:List Int) (vd:D):List (D×D) :=
 if (Zbi kvs k).isSome then kvs.map (fun p=>if nk p.1=some k then (p.1,vd) else p) else kvs++[(kd,vd)]
section
variable {K:Xb} {H:Hp} {ι:List Ve}
theorem Zkk {kvs:List (D×D)} {xs:List (List Int×Ve×Vb)} (h:Vj (Zue K H ι) kvs xs) (k:List Int) :
  (Zbi kvs k=none/\atKey xs k=none)\/∃ vd b u v,Zbi kvs k=some vd/\atKey xs k=some (b,u)/\Zcd v u/\Rep K H ι vd v:=by
 unfold Zbi atKey
 induction h with
 | nil=>exact .inl ⟨rfl,rfl⟩
 | @cons p x ps ys r t ih =>
  obtain⟨r1,r2,v,r3,r4⟩:=r
  by_cases hk:x.1=k
  ·have e1:(nk p.1==some k)=true:=by rw[r1,hk]; simp
   refine .inr ⟨p.2,x.2.1,x.2.2,v,?_,?_,r3,r4⟩
   ·rw[Wce]; simp only[e1]; rfl
   ·rw[Wce]; simp only[hk,decide_true]; rfl
  ·have e1:¬ (nk p.1==some k)=true:=by rw[r1]; simpa using hk
   have e1':(nk p.1==some k)=false:=by simpa using e1
   have e2':decide (x.1=k)=false:=decide_eq_false hk
   rw[Wce,Wce]
   simp only[e1',e2']
   exact ih
theorem Zzj {kvs:List (D×D)} {xs:List (List Int×Ve×Vb)} {kd vd:D} {k:List Int} {b:Ve} {u:Vb} {v:V} (h:Vj (Zue K H ι) kvs xs) (h1:nk kd=some k) (h2:Rep K H ι kd (.ref b)) (rv:Zcd v u) (r:Rep K H ι vd v) :
  Vj (Zue K H ι) (Zp6 kvs kd k vd) (Uem xs k b u):=by
 have all:∀ {ls:List (D×D)} {ys:List (List Int×Ve×Vb)},Vj (Zue K H ι) ls ys->Vj (Zue K H ι) (ls.map (fun p=>if nk p.1=some k then (p.1,vd) else p)) (ys.map (putAt k u)):=by
  intro ls ys q
  induction q with
  | nil=>exact .nil
  | @cons p x ps zs r' t ih =>
   refine .cons ?_ ih
   obtain⟨r1,r2,r3⟩:=r'
   unfold putAt
   by_cases hk:x.1=k
   ·have e:nk p.1=some k:=by rw[r1,hk]
    show Zue K H ι (if nk p.1=some k then (p.1,vd) else p) (if x.1=k then (x.1,x.2.1,u) else x)
    rw[if_pos hk,if_pos e]
    exact⟨r1,r2,v,rv,r⟩
   ·have e:¬ nk p.1=some k:=by rw[r1]; simpa using hk
    show Zue K H ι (if nk p.1=some k then (p.1,vd) else p) (if x.1=k then (x.1,x.2.1,u) else x)
    rw[if_neg hk,if_neg e]
    exact⟨r1,r2,r3⟩
 unfold Zp6 Uem
 rcases Zkk h k with ⟨e1,e2⟩ | ⟨_,_,_,_,e1,e2,_⟩
 ·rw[e1,e2]
  exact Prd.append h (.cons ⟨h1,h2,v,rv,r⟩ .nil)
 ·rw[e1,e2]
  exact all h
theorem Yae (kvs:List (D×D)) (kd:D) (k:List Int) (vd:D):(Zp6 kvs kd k vd).length<=kvs.length+1:=by
 unfold Zp6; split<;>simp
end
section
variable {pins:List (Ve×Obj)} {σ:L2.St} {H:Hp} {s:Vd} {ι:List Ve} {Hd:HD}
theorem Ygz {d:D} {v:V} {u:Vb} {k:Int} {K:Xb} (e:nkOf d=some k) (r:Rep K H ι d v) (q:Zcd v u):Zos k u=true:=by
 cases d with
 | bl b=>cases e; simp at r; subst r; cases q; simp[Zos,Zx1]
 | int i=>cases e; simp at r; subst r; obtain⟨t,rfl⟩:=q; simp[Zos,Zx1]
 | _=>cases e
theorem Zon {P:Vi} {w:Vs} {K:Xb}:∀ {ds:List D} {vs:List V} {us:List Vb} {ks:List Int},Znc ds=some ks->Vj (Rep K H ι) ds vs->Zb4 vs us->ItemsAre (Zcy P w) ks us
 | [],vs,us,ks,e,p,q=>by cases e; cases p; cases q; exact .nil
 | d::ds,vs,us,ks,e,p,q=>by
  cases p with
  | cons p1 p2 =>
   cases q with
   | cons q1 q2 =>
    simp only[Znc] at e
    obtain⟨k,e1,e⟩:=Zo e
    obtain⟨r,e2,rfl⟩:=Zm e
    exact .cons (Ygz e1 p1 q1) (Zon e2 p2 q2)
theorem Zo1 (I:Inv X pins σ H s) {d:D} {k:List Int} {b:Ve} (e:nk d=some k) (r:Rep X.K H ι d (.ref b)):(Ubc (Zcy X.prog X.w)).is s.heap k b:=by
 cases d<;>simp only[nk] at e<;>try cases e
 rename_i ds
 obtain⟨a,vs,ea,h,P⟩:=Zbe.mp r
 cases ea
 obtain⟨its,rv,ht,hz⟩:=I.tuple h
 obtain⟨o,h1,h2,n,h3⟩:=ht
 exact⟨o,its.toArray,n,h1,h2,h3,by simpa using Zon e P rv⟩
theorem Zj1 (I:Inv X pins σ H s) {a:Ve} {kvs:List (D×D)} {fz:Bool} (h:Zt4 X.K H ι a (.dic kvs fz)):(a==Uag)=false/\kvs.length<=sizeLine/\∃ xs,(if fz=true then ∃ o,H a=some (.frz o (.ext (Zdc a xs))) else H a=some (.ext (Zdc a xs)))/\Vj (Zue X.K H ι) kvs xs/\s.heap.DictOfH (Ubc (Zcy X.prog X.w)) a xs:=by
 obtain⟨h1,h2,xs,e,p⟩:=h
 have rd:Rd H a (.ext (Zdc a xs)):=by
  cases fz with
  | true=>rw[if_pos rfl] at e; exact .inr e
  | false=>rw[if_neg (by simp)] at e; exact .inl e
 obtain⟨⟨o,es,ep,g1,g2,g3,g4,g5⟩,_⟩:=(show Zc2 X.prog X.w H s.heap a (.ext (Zdc a xs)) from rd.ok I.hok)
 refine⟨h1,h2,xs,e,p,o,es,ep,g1,g2,g3,g4,?_,g5⟩
 have all:∀ {l:List (D×D)} {m:List (List Int×Ve×Vb)},Vj (Zue X.K H ι) l m->∀ x∈m,(Ubc (Zcy X.prog X.w)).is s.heap x.1 x.2.1:=by
  intro l m q
  induction q with
  | nil=>intro x hx; exact nomatch hx
  | @cons p x ps qs hq t ih =>
   intro y hy
   rcases Xi.mp hy with e | hy
   ·subst e
    exact Zo1 I hq.1 hq.2.1
   ·exact ih y hy
 exact all p
end
nonrec def Zyr (x:D) (H:HD):Option (List (D×D)):=match x with
 | .ref n=>match H[n]? with
  | some (.dic kvs _)=>some kvs
  | _=>none
 | _=>none
theorem Zks {x:D} {Hd:HD} {kvs:List (D×D)} (e:Zyr x Hd=some kvs):∃ n fz,x=.ref n/\Hd[n]? = some (.dic kvs fz):=by
 cases x<;>simp only[Zyr] at e<;>try cases e
 rename_i n
 split at e
 ·rename_i fz h; cases e; exact⟨n,fz,rfl,h⟩
 ·cases e
nonrec def Zgy:F2:=fun x y H=>(Zyr x H).bind fun kvs=>(nk y).bind fun k=>(Zbi kvs k).map fun v=>(v,H)
theorem Zso {K:Xb} {H:Hp} {ι:List Ve} {d:D} {k:List Int} {v:V} (e:nk d=some k) (r:Rep K H ι d v):∃ b,v=.ref b:=by
 cases d<;>simp only[nk] at e<;>try cases e
 obtain⟨a,vs,rfl,_⟩:=Zbe.mp r
 exact⟨a,rfl⟩
theorem Zub (hu:X.A.units+64<cLine):IxF X Zgy:=by
 rintro va sl pins s σ H x y v u Q I rx ry ⟨ι,dx,dy,Hd,d,Hd',hr,r1,r2,e,q⟩ hs
 obtain⟨kvs,e1,e⟩:=Zo e
 obtain⟨k,e2,e⟩:=Zo e
 obtain⟨vd,e3,e⟩:=Zm e
 obtain⟨rfl,rfl⟩:=Way.inj e
 obtain⟨n,fz,rfl,hn⟩:=Zks e1
 obtain⟨a,rfl,ha⟩:=Zay.mp r1
 obtain⟨b,rfl⟩:=Zso e2 r2
 cases rx
 cases ry
 obtain⟨h1,h2,xs,h3,P,dd⟩:=Zj1 I (hr.obj n a _ ha hn)
 have key:=Zo1 I e2 r2
 rcases Zkk P k with ⟨z,_⟩ | ⟨vd',b',u',v',z1,z2,z3,z4⟩
 ·rw[z] at e3; cases e3
 ·rw[z1] at e3; cases e3
  have ty:s.TypeIs (.ref a) "dict" := dd.typeIs
  refine tail_any (ops:=[.ref a,.ref b]) ty PySem.F.slot_dict_getitem.lookup (wpAny_getItem_heap (knd:=Ubc (Zcy X.prog X.w)) (Ubz (by omega)) key dd z2 ?_) hs
  exact⟨v',H,I.tok _,z3,q _ H ι Le.refl hr z4⟩
nonrec def dinD:F2:=fun x y H=>(Zyr y H).bind fun kvs=>(nk x).map fun k=>(.bl (Zbi kvs k).isSome,H)
theorem dinf (hu:X.A.units+64<cLine):OpF X (Vt .In) dinD:=by
 rintro pins s σ H x y v u Q I rx ry ⟨ι,dx,dy,Hd,d,Hd',hr,r1,r2,e,q⟩
 obtain⟨kvs,e1,e⟩:=Zo e
 obtain⟨k,e2,e⟩:=Zm e
 obtain⟨rfl,rfl⟩:=Way.inj e
 obtain⟨n,fz,rfl,hn⟩:=Zks e1
 obtain⟨a,rfl,ha⟩:=Zay.mp r2
 obtain⟨b,rfl⟩:=Zso e2 r1
 cases rx
 cases ry
 obtain⟨h1,h2,xs,h3,P,dd⟩:=Zj1 I (hr.obj n a _ ha hn)
 refine wpAny_in_heap (knd:=Ubc (Zcy X.prog X.w)) (Ubz (by omega)) (Zo1 I e2 r1) h1 dd ?_
 have e3:(atKey xs k).isSome=(Zbi kvs k).isSome:=by
  rcases Zkk P k with ⟨z1,z2⟩ | ⟨_,_,_,_,z1,z2,_⟩<;>rw[z1,z2]<;>rfl
 rw[e3]
 exact⟨.bl _,H,I.tok _,rfl,q _ H ι Le.refl hr (by simp)⟩
nonrec def eDN:EF:=fun _ H=>some (.ref H.length,H++[.dic [] false])
theorem Zms {pos:Pos}:PEf X (.Dict [] [] pos) eDN:=by
 rintro pins s σ H Q I ⟨ι,σd,Hd,d,Hd',sr,hr,e,q⟩
 cases e
 have hb:Uag<s.heap.objs.size:=Nat.lt_trans (by decide) (show Vh<s.heap.objs.size from(I.mod.glob.keeps I.bk).lt)
 have hp:=I.hok.fresh (Xe s.heap.objs.size)
 have ok:Zc2 X.prog X.w (upd H s.heap.objs.size (.ext (Zdc s.heap.objs.size []))) (s.heap.push { cls:=.type "dict",data:=.dict #[] }) s.heap.objs.size (.ext (Zdc s.heap.objs.size [])) :=
  ⟨⟨_,#[],0,Xd _ rfl,⟨rfl,rfl,rfl⟩,rfl,rfl,List.nodup_nil⟩,⟨_,Xd _ rfl⟩,fun h1 h2 d k=>Zdc.keep d k⟩
 refine wpAny_Dict_empty ⟨.ref s.heap.objs.size,_,I.laid (a:=s.heap.objs.size) (o:=.ext (Zdc s.heap.objs.size [])) (t':=s.toks) (fun _ _ q=>Xa _ q) (Xe _) ok,rfl,?_⟩
 have hl:ι.length=Hd.length:=hr.len
 refine q _ _ (ι++[s.heap.objs.size]) (Le.fresh1 hp _) (hr.new hp ⟨beq_eq_false_iff_ne.mpr (Ul (Xh hb)),Wbd _,[],by rw[if_neg (by simp)]; exact Zas,.nil⟩) (Zay.mpr ⟨_,rfl,by rw[<- hl]; simp⟩)
nonrec def Zpb:Yb5:=fun o i v H=>match o with
 | .ref n=>match H[n]? with
  | some (.dic kvs false)=>(nk i).bind fun k=>if kvs.length<sizeLine then some (H.set n (.dic (Zp6 kvs i k v) false)) else none
  | _=>none
 | _=>none
theorem Zol {pins:List (Ve×Obj)} {σ:L2.St} {H:Hp} {s:Vd} {a:Ve} {xs xs':List (List Int×Ve×Vb)} {h':Vy} {t':Nat} (I:Inv X pins σ H s) (h3:H a=some (.ext (Zdc a xs))) (dd:h'.DictOfH (Ubc (Zcy X.prog X.w)) a xs') (hs:Xw a s.heap h') :
  Inv X pins σ (upd H a (.ext (Zdc a xs'))) { s with heap:=h',toks:=t' }:=by
 obtain⟨o,es,ep,g1,g2,g3,g4,_,g5⟩:=dd
 have ok:Zc2 X.prog X.w (upd H a (.ext (Zdc a xs'))) h' a (.ext (Zdc a xs')):=⟨⟨o,es,ep,g1,g2,g3,g4,g5⟩,⟨o,g1⟩,fun h1 h2 d k=>Zdc.keep d k⟩
 exact I.write (x:=a) (e:=a) (by rw[h3]; exact Tad) (.inl rfl) (fun b q hb z=>(hs.2 b hb).trans z) ⟨o,g1⟩ ok
theorem Zvi {H:Hp} {ι:List Ve} {Hd:HD} {n:Nat} {a:Ve} {kvs:List (D×D)} {xs:List (List Int×Ve×Vb)} {kd vd:D} {k:List Int} {b:Ve} {u:Vb} {v:V} (hr:HRep X.K H ι Hd) (ha:ι[n]? = some a) (h1:(a==Uag)=false) (hl:kvs.length<sizeLine) (h3:H a=some (.ext (Zdc a xs))) (P:Vj (Zue X.K H ι) kvs xs) (e2:nk kd=some k) (r2:Rep X.K H ι kd (.ref b)) (rv:Zcd v u) (r3:Rep X.K H ι vd v) :
  Le X.K H ι (upd H a (.ext (Zdc a (Uem xs k b u)))) ι/\HRep X.K (upd H a (.ext (Zdc a (Uem xs k b u)))) ι (Hd.set n (.dic (Zp6 kvs kd k vd) false)):=by
 have L:Le X.K H ι (upd H a (.ext (Zdc a (Uem xs k b u)))) ι:=Le.upd (Xk ha) h3 trivial _
 refine⟨L,hr.upd ha h3 trivial ⟨h1,?_,_,by rw[if_neg (by simp)]; exact Zas,?_⟩⟩
 ·have:=Yae kvs kd k vd; omega
 ·refine Zzj (Prd.imp P fun p x _ z=>⟨z.1,z.2.1.mono L,let ⟨v,z1,z2⟩:=z.2.2; ⟨v,z1,z2.mono L⟩⟩) e2 (r2.mono L) rv (r3.mono L)
theorem Yh5 (hu:X.A.units+64<cLine):Ycq X Zpb:=by
 rintro pins s σ H o i v ov iv u Q I ro ri rv ⟨ι,od,id,vd,Hd,Hd',hr,r1,r2,r3,e,q⟩
 cases od<;>simp only[Zpb] at e<;>try cases e
 rename_i n
 split at e
 ·rename_i kvs hn
  obtain⟨k,e2,e⟩:=Zo e
  split at e
  ·rename_i hl
   cases e
   obtain⟨a,rfl,ha⟩:=Zay.mp r1
   obtain⟨b,rfl⟩:=Zso e2 r2
   cases ro
   cases ri
   obtain⟨h1,h2,xs,h3,P,dd⟩:=Zj1 I (hr.obj n a _ ha hn)
   rw[if_neg (by simp)] at h3
   have hz:xs.length<=sizeLine:=by rw[<- Prd.len P]; exact h2
   refine wpAny_setItem_heap (knd:=Ubc (Zcy X.prog X.w)) (hsz:=hz) (Ubz (by omega)) (Zo1 I e2 r2) dd fun h' dd' hs=>?_
   obtain⟨L,hr'⟩:=Zvi hr ha h1 hl h3 P e2 r2 rv r3
   exact⟨_,Zol I h3 dd' hs,q _ ι L hr'⟩
  ·cases e
 ·cases e
section
variable {prog:Vi} {w:Vs} {kd:HeapKind prog w (List Int)} {A:Vr} {E:Vb->Vd->Prop} {s:Vd}
theorem Zqa {d b:Ve} {xs:List (List Int×Ve×Vb)} {k:List Int} {v:Vb} {Q:Vb->Vd->Prop} (rm:kd.room A) (key:kd.is s.heap k b) (dm:s.heap.DictOfH kd d xs) (sz:xs.length<=sizeLine)
  (old:∀ p,atKey xs k=some p->Q p.2 { s with toks:=s.toks+kd.draws k })
  (new:atKey xs k=none->∀ h2,h2.DictOfH kd d (Uem xs k b v)->Xw d s.heap h2->Q v { s with heap:=h2,toks:=s.toks+kd.draws k }) :
  Vg (Vl prog w) A (Udk d (.ref b) v) Q E s:=by
 obtain⟨ob,es,ep,g1,g2,g3,g4,g5,g6⟩:=dm
 unfold Udk
 refine Vx (Va (kd.pyHash rm key (Va (wpAny_dictFind_heap (s:={ s with toks:=s.toks+kd.draws k }) rm key g1 g3 g4 g5 g6 (fun no=>?_) (fun j p hj=>?_)))))
 ·have em:=atKey_none_of_get no
  have sm:∀ f,Xw d s.heap (s.heap.update d f):=fun f=>Xw.update ..
  have len:=size_of_entries g4
  refine Va (Ubj (Va (wpAny_updateDictKeys (s:={ s with toks:=s.toks+kd.draws k }) (hz:=by omega) g1 g3 (Vc (new em _ ?_ (sm _))))))
  refine⟨_,_,ep+1,Wdm _ g1 (Obj.isFreed_of_dict (Tcf g3 _)),g2.mapDictKeys _,Tcf g3 _,?_⟩
  rw[storedH_new em]
  refine⟨by simp[g4,entryOfKey],fun x hx=>?_,?_⟩
  ·have one:kd.is s.heap x.1 x.2.1:=by
    rcases Xy.mp hx with hx | hx
    ·exact g5 x hx
    ·rw[Wbh.mp hx]; exact key
   exact kd.keeps one g1 g3 (sm _)
  ·have nm:=not_mem_keys_of_get no
   rw[Wap,Wbf]
   refine⟨g6,by simp,fun x hx y hy e=>nm ?_⟩
   have yk:y=k:=by simpa using hy
   rw[<- yk,<- e]
   exact hx
 ·have ae:=entry_at g4 j
  rw[hj] at ae
  refine Va (Uav (s:={ s with toks:=s.toks+kd.draws k }) g1 g3 ?_)
  rw[ae]
  exact Va (Ubj (Vc (old p (atKey_of_get g6 hj))))
end
nonrec def Zlc (x:D) (ds:List D) (H:HD):Option (D×HD):=match x,ds with
 | .ref n,[y,v]=>match H[n]? with
  | some (.dic kvs false)=>(nk y).bind fun k=>if kvs.length<sizeLine then match Zbi kvs k with
   | some z=>some (z,H)
   | none=>some (v,H.set n (.dic (Zp6 kvs y k v) false))
   else none
  | _=>none
 | _,_=>none
theorem Ycw (hu:X.A.units+64<cLine):MtF X "dict.setdefault" Zlc:=by
 rintro pins s σ H x xs v us Q I rx rv ⟨ι,dx,ds,Hd,d,Hd',hr,r1,P1,e,q⟩
 unfold Zlc at e
 split at e
 ·rename_i n y vd
  split at e
  ·rename_i kvs hn
   obtain⟨k,e2,e⟩:=Zo e
   split at e
   ·rename_i hl
    obtain⟨a,rfl,ha⟩:=Zay.mp r1
    obtain⟨v1,v2,rfl,ry,rd⟩:=Yex P1
    obtain⟨b,rfl⟩:=Zso e2 ry
    cases rx
    cases rv with
    | cons q1 rv =>
     cases rv with
     | cons q2 rv =>
      cases rv
      cases q1
      rename_i u2
      obtain⟨h1,h2,ys,h3,P,dd⟩:=Zj1 I (hr.obj n a _ ha hn)
      rw[if_neg (by simp)] at h3
      have hz:ys.length<=sizeLine:=by rw[<- Prd.len P]; exact h2
      have ty:s.TypeIs (.ref a) "dict" := dd.typeIs
      have body:Vg (Vl X.prog X.w) X.A.in1 (Builtin.«dict.setdefault» ⟨[.ref a,.ref b,u2],[]⟩) (fun fin s'=>∃ r,fin=.done (.ret r)/\EP X pins σ Q r s') X.xe s:=by
       unfold Builtin.«dict.setdefault» Builtin.Dict.keyAndDefault
       refine Va (Va (Ucx ty (Vc ?_)))
       show Vg _ _ (if (a==Uag)=true then _ else (Udk a (.ref b) u2 >>= _)) _ _ s
       rw[if_neg (by rw[h1]; decide)]
       refine Va (Zqa (kd:=Ubc (Zcy X.prog X.w)) (show (Ubc (Zcy X.prog X.w)).room X.A.in1 from(by show X.A.units+1<cLine; omega)) (Zo1 I e2 ry) dd hz (fun p hp=>?_) (fun hp h2' dd' hs=>?_))
       ·rcases Zkk P k with ⟨_,z⟩ | ⟨vd',b',u',v',z1,z2,z3,z4⟩
        ·rw[z] at hp; cases hp
        ·rw[z2] at hp; cases hp
         rw[z1] at e; cases e
         exact Vc ⟨_,rfl,v',H,I.tok _,z3,q _ H ι Le.refl hr z4⟩
       ·rcases Zkk P k with ⟨z,_⟩ | ⟨vd',b',u',v',z1,z2,z3,z4⟩
        ·rw[z] at e; cases e
         obtain⟨L,hr'⟩:=Zvi hr ha h1 hl h3 P e2 ry q2 rd
         exact Vc ⟨_,rfl,v2,_,Zol I h3 dd' hs,q2,q _ _ ι L hr' (rd.mono L)⟩
        ·rw[z2] at hp; cases hp
      exact Vp Ur ty PySem.F.entry_dict_setdefault body (PySem.F.args_dict_setdefault_3 _ _ _)
   ·cases e
  ·cases e
 ·cases e
nonrec def Zqb:D->HD->Bool
 | .ref n,H=>match H[n]? with
  | some (.dic _ _)=>true
  | _=>false
 | _,_=>false
nonrec def eDM (g:D->List D->HD->Option (D×HD)) (fo:EF) (f:AF):EF:=fun σ H=>(fo σ H).bind fun o=>if Zqb o.1 o.2=true then (f σ o.2).bind fun p=>g o.1 p.1 p.2 else none
theorem Yam {pins:List (Ve×Obj)} {σ:L2.St} {H:Hp} {s:Vd} {ι:List Ve} {Hd:HD} {x:D} {v:V} {u:Vb} (I:Inv X pins σ H s) (hr:HRep X.K H ι Hd) (r:Rep X.K H ι x v) (rv:Zcd v u) (e:Zqb x Hd=true) :
  s.TypeIs u "dict" /\ ∀ b,u=.ref b->∃ ob,s.heap.get? b=some ob/\ob.dict=none:=by
 cases x<;>simp only[Zqb] at e<;>try cases e
 rename_i n
 split at e
 ·rename_i kvs fz hn
  obtain⟨a,rfl,ha⟩:=Zay.mp r
  cases rv
  obtain⟨_,_,xs,_,_,dd⟩:=Zj1 I (hr.obj n a _ ha hn)
  refine⟨dd.typeIs,fun b eb=>?_⟩
  cases eb
  obtain⟨ob,_,_,g1,g2,_⟩:=dd
  exact⟨ob,g1,g2.2.1⟩
 ·cases e
theorem Zw7 {e o:Vv} {es:List Vv} {name:Str} {apos cpos:Pos} {id:String} {g:D->List D->HD->Option (D×HD)} {fo:EF} {f:AF} (slot:Slot "dict" name id) (hty:typeOf (.builtin id)=pure (.type "method_descriptor")) (hm:MtF X id g) (ho:PEf X o fo) (ha:PAf X (e::es) f)
  (hbase:Ube o name X.env (eval o X.env)=eval o X.env:=by rfl)
  (hfew:((Uac cpos (Vf (e::es) X.env)).all (fun x => !x.1)&&(Ubk cpos (Uak [] X.env)).all (fun x=>x.1.isSome)
   && decide ((e::es).length+([]:List Ucf).length+(if ([]:List Ucf).isEmpty then 0 else 1)<30))=true:=by exact Zru rfl (by decide))
  (hline:(apos.endLine==cpos.line)=true:=by rfl) (hs:Vf (e::es) X.env=(false,eval e X.env)::Vf es X.env:=by exact Zbq rfl) (hplain:(Uac cpos (Vf es X.env)).any (·.1)=false:=by exact Zck rfl) :
  PEf X (.Call (.Attribute o name apos) (e::es) [] cpos) (eDM g fo f):=by
 rintro pins s σ H Q I ⟨ι,σd,Hd,d,Hd',sr,hr,e0,q⟩
 obtain⟨⟨x,H1⟩,e1,e0⟩:=Zo e0
 dsimp only at e0
 split at e0
 ·rename_i hl
  obtain⟨⟨y,H2⟩,e2,e0⟩:=Zo e0
  let P1:VK:=fun v1 H1'=>∃ ι1,Le X.K H ι H1' ι1/\HRep X.K H1' ι1 H1/\Rep X.K H1' ι1 x v1
  refine Ucm hbase hfew hline rfl (thn (ho pins s σ H P1 I ⟨ι,σd,Hd,x,H1,sr,hr,e1,fun v1 H1' ι1 l1 h1 r1=>⟨ι1,l1,h1,r1⟩⟩) fun v s1 zz=>?_)
  obtain⟨xv,H1',I1,rx,ι1,l1,h1,r1⟩:=zz
  obtain⟨t1,t2⟩:=Yam I1 h1 r1 rx hl
  refine⟨"dict",id,PySem.F.plainAttrs_dict,slot,hty,t1,t2,?_⟩
  let P2:List V->Hp->Prop:=fun vs H2'=>∃ ι2,Le X.K H ι H2' ι2/\HRep X.K H2' ι2 H2/\Rep X.K H2' ι2 x xv/\Vj (Rep X.K H2' ι2) y vs
  have hA:=ha cpos pins s1 σ H1' P2 I1 ⟨ι1,σd,H1,y,H2,sr.mono l1,h1,e2,fun vs H2' ι2 l2 h2 r2=>⟨ι2,l1.trans l2,h2,r1.mono l2,r2⟩⟩
  rw[hs] at hA ⊢
  refine Tbu (by show (false||(Uac cpos (Vf es X.env)).any (·.1))=false; rw[hplain]<;>rfl) (Tcd ?_)
  exact thn hA fun us s2 ⟨vs,H2',I2,r2,ι2,l2,h2,rx2,rp⟩=>hm pins s2 σ H2' xv vs v us Q I2 rx r2 ⟨ι2,x,y,H2,d,Hd',h2,rx2,rp,e0,fun v H' ι' l h r=>q v H' ι' (l2.trans l) h r⟩
 ·cases e0
nonrec def Zmt:FF:=fun ds H=>match ds with
 | [x]=>(Zyr x H).map fun kvs=>(.int kvs.length,H)
 | _=>none
theorem Zlx:Zir X (.builtin "len") Zmt:=by
 rintro pins s σ H xs us Q I rv ⟨ι,ds,Hd,d,Hd',hr,P,e,q⟩
 unfold Zmt at e
 split at e
 ·rename_i x
  obtain⟨kvs,e1,e⟩:=Zm e
  obtain⟨rfl,rfl⟩:=Way.inj e
  obtain⟨n,fz,rfl,hn⟩:=Zks e1
  obtain⟨v,rfl,r⟩:=Zn1 P
  obtain⟨a,rfl,ha⟩:=Zay.mp r
  cases rv with
  | cons q1 rv =>
   cases rv
   cases q1
   obtain⟨h1,h2,ys,_,PK,dd⟩:=Zj1 I (hr.obj n a _ ha hn)
   have ty:s.TypeIs (.ref a) "dict" := dd.typeIs
   obtain⟨ob,es,ep,g1,g2,g3,g4,_⟩:=dd
   have sz:es.size=kvs.length:=by
    have a1:=size_of_entries g4
    have a2:=Prd.len PK
    omega
   have l63:(kvs.length:Int)<2 ^ 63:=by rw[Ux] at h2; omega
   have ask:∀ A' E',Vg (Vl X.prog X.w) A' (Builtin.«dict.__len__» ⟨[.ref a],[]⟩) (fun fin s'=>∃ r,fin=.done (.ret r)/\r=.int kvs.length s.toks/\s'={ s with toks:=s.toks+1 }) E' s:=by
    intro A' E'
    show Vg _ _ (dictSize a >>= _) _ _ s
    unfold dictSize
    refine Va (Va (Uav g1 g3 (Vc (Va (wpAny_pendingCount_other h1 (wpAny_ret_mkInt ?_))))))
    rw[Wgc,sz]
    exact⟨rfl,rfl⟩
   refine Calls.call_function_entry kind_len plain_len entry_len (args_len1 _) ?_
   unfold Builtin.«len»
   refine Va (m:=oneArg "len" _) (Vc (Va (m:=callSpecial? (.ref a) (Ua "__len__")) (Vk (name:=Ua "__len__") ty Tbz
    (Vp Tbz ty PySem.F.entry_dict_len (thn (ask _ _) fun fin s' ⟨r,f1,f2,f3⟩=>⟨r,f1,?_⟩) (PySem.F.args_dict_len_1 _)))))
   subst f2 f3
   refine Va (Vx (Vc (Va (Ubu ?_))))
   show Vg _ _ (if ((kvs.length:Nat):Int)<0 then _ else if ((kvs.length:Nat):Int) ≥ 2 ^ 63 then _ else _) _ _ _
   rw[if_neg (by omega),if_neg (by omega)]
   exact Va (Uel (Vc ⟨_,rfl,.int kvs.length,H,I.tok _,⟨_,rfl⟩,q _ H ι Le.refl hr (by simp)⟩))
 ·cases e
section
variable {prog:Vi} {w:Vs} {A:Vr} {E:Vb->Vd->Prop} {s:Vd}
theorem Zrv {d:Ve} {ob:Obj} {es:Array Uan} {ep:Nat} {Q:Vb->Vd->Prop} (h0:(d==Uag)=false) (g1:s.heap.get? d=some ob) (g2:ob.ExactDict) (g3:ob.data=.dict es ep)
  (q:Q (.ref s.heap.objs.size) { s with heap:=s.heap.push { cls:=.type "dict_keyiterator",data:=.fields #[.ref d,.int 0 0,.int es.size 0,.int ep 0] } }):Vg (Vl prog w) A (pyIter (.ref d)) Q E s:=by
 have ty:s.TypeIs (.ref d) "dict" := ⟨ob,g1,g2.1⟩
 refine wpAny_pyIter_slot ty F.slot_dict_iter (Vp F.slot_dict_iter ty F.entry_dict_iter ?_ (F.args_dict_iter_1 _))
 unfold Builtin.«dict.__iter__» Builtin.Dict.dictSlotNone
 refine Va (Va (Ucx ty (Vc ?_)))
 show Vg _ _ (Tca d >>= _) _ _ s
 unfold Tca
 rw[if_neg (by rw[h0]; decide)]
 refine Va (Vc (Va (Uav g1 g3 (Va (Ucy g1 g3 (Va (Vu (Vc ?_))))))))
 exact⟨_,rfl,"dict_keyiterator",_,⟨_,Xd _ rfl,rfl⟩,Um.lookup,by simpa [Uad] using q⟩
theorem Zw4 {d it:Ve} {ob:Obj} {es:Array Uan} {i ep:Nat} {Q:Option Vb->Vd->Prop} (hit:s.heap.IsKeyIter it d i es.size ep) (g1:s.heap.get? d=some ob) (g3:ob.data=.dict es ep) (lt:i<es.size)
  (q:∀ h2,h2.IsKeyIter it d (i+1) es.size ep->Xw it s.heap h2->Q (some es[i].key) { s with heap:=h2 }):Vg (Vl prog w) A (Ubl (.ref it)) Q E s:=by
 have ty:=hit.typeIs
 obtain⟨oi,i1,i2,i3⟩:=id hit
 have own:Tba "dict_keyiterator" = false:=by decide
 unfold Ubl
 refine Va (Uap (Vk (name:=Ua "__next__") ty Um (Vp Um ty Tax ?_ (Tav _))))
 refine Va (Vc (Va (Va ?_)))
 refine Va (Uae ty (Vc (Va (wpAny_fieldsOf i1 i3 ?_))))
 simp only[own,Wao,if_false]
 show Vg _ _ (if (Uh d==Uq)=true then _ else _) _ _ s
 have nn:¬ ((Uh d==Uq)=true):=Waz
 rw[if_neg nn]
 refine Va (Vc (Va (Uav g1 g3 ?_)))
 rw[if_neg (by simp)]
 refine Va (Vc (Va (Ucy g1 g3 ?_)))
 rw[if_neg (by simp)]
 refine Vc ?_
 have neg:¬ ((i:Int)<0):=by omega
 simp only[neg,if_false,Wah,Wct lt]
 refine Va (Va (Uae ty (Vc (Va (Ucz ty ?_)))))
 show Vg _ _ (Udu (.ref it) 1 (Uad ((i:Int)+1)) >>= _) _ _ s
 let h2:=s.heap.update it (Obj.mapFields (·.setIfInBounds 1 (Uad ((i:Int)+1))))
 have it2:h2.IsKeyIter it d (i+1) es.size ep :=
  ⟨_,Wdm _ i1 (Tbx (Tas i3 _)),(Tck ..).trans i2,by rw[Tas i3]; simp[Uad]⟩
 refine Va (Ucc i1 i3 (by simp) (Va (Vx (Va (Ucz (s:={ s with heap:=h2 }) it2.typeIs ?_)))))
 show Vg _ _ (pure es[i].key) _ _ _
 exact Vc (Vc ⟨_,rfl,Vc (q h2 it2 (Xw.update ..))⟩)
theorem Zsl {d it:Ve} {ob:Obj} {es:Array Uan} {i ep:Nat} {Q:Option Vb->Vd->Prop} (hh:A.handled=none) (hit:s.heap.IsKeyIter it d i es.size ep) (g1:s.heap.get? d=some ob) (g3:ob.data=.dict es ep) (ge:es.size<=i)
  (q:∀ h2,Web it s.heap h2->Q none { s with heap:=h2 }):Vg (Vl prog w) A (Ubl (.ref it)) Q E s:=by
 have ty:=hit.typeIs
 obtain⟨oi,i1,i2,i3⟩:=id hit
 have own:Tba "dict_keyiterator" = false:=by decide
 unfold Ubl
 refine Va (Uap (Vk (name:=Ua "__next__") ty Um (Vp Um ty Tax ?_ (Tav _))))
 refine Va (Vc (Va (Va ?_)))
 refine Va (Uae ty (Vc (Va (wpAny_fieldsOf i1 i3 ?_))))
 simp only[own,Wao,if_false]
 show Vg _ _ (if (Uh d==Uq)=true then _ else _) _ _ s
 have nn:¬ ((Uh d==Uq)=true):=Waz
 rw[if_neg nn]
 refine Va (Vc (Va (Uav g1 g3 ?_)))
 rw[if_neg (by simp)]
 refine Va (Vc (Va (Ucy g1 g3 ?_)))
 rw[if_neg (by simp)]
 refine Vc ?_
 have neg:¬ ((i:Int)<0):=by omega
 simp only[neg,if_false,Wah,Wdg ge]
 refine Va (Va (Uae ty (Vc ?_)))
 show Vg _ _ (Udu (.ref it) 0 .none >>= _) _ _ s
 refine Va (Ucc i1 i3 (by simp) ?_)
 show Vg _ _ (newExc (.type "StopIteration") [] >>= _) _ _ _
 simp only[newExc,newTuple]
 refine Va (Va (Vu (Va (m:=Ucd _ _) (Uek (a:=Uq) (by first | rfl | (simp only[Ucd]; rfl)) (Vu ?_ (by size_fits)))) (by size_fits)))
 simp only[raiseNew]
 refine Va (wpAny_handled ?_)
 have hh1:A.in1.handled=none:=hh
 rw[hh1]
 refine Va (Vc (wpAny_throw ?_))
 refine Va (Ubm (T := "StopIteration") (b:=true) (by exact⟨_,Xd _ rfl,rfl⟩) Uce ?_)
 exact Vc (q _ (((Xw.update ..).extBut.push _).push _))
end
nonrec def Itd (a:Ve) (ob:Obj) (u:HO) (ks:List Ve):It :=
 ⟨fun i H=>H a=some (.frz ob u)/\i<ks.length,fun i H x H'=>H'=H/\∃ b,ks[i]? = some b/\x=.ref b,fun i H=>H a=some (.frz ob u)/\ks.length<=i⟩
theorem Zz8 {P:Vi} {w:Vs} {K:Xb} {tg:Vv} (a it:Ve) {ob:Obj} {u:HO} {es:Array Uan} {ep:Nat} {ks:List Ve} (g3:ob.data=.dict es ep) (hk:es.toList.map (·.key)=ks.map Uh) :
  Turn P w K tg (Itd a ob u ks) [it] it (fun i h=>h.IsKeyIter it a i es.size ep) where
 mem:=by simp
 obj:=fun i h st b hb=>by
  have e:b=it:=by simpa using hb
  subst e
  obtain⟨o,e,c,d⟩:=st
  exact⟨o,e,fun v z=>by rw[d] at z; cases z⟩
 keep:=fun i h h' st k=>st.at fun o e=>k it (by simp) o e
 item:=by
  intro X hP hw hK hc i pins s σ H E I hf st hg
  subst hP hw hK
  obtain⟨hq,hx⟩:=hg
  obtain⟨g1,_⟩:=(show Zc2 X.prog X.w H s.heap a (.frz ob u) from I.hok a _ hq)
  obtain⟨f0,f1,f2,f3,f4,f5⟩:=hf it (by simp)
  have hl:es.size=ks.length:=by
   have:=congrArg Wbn hk
   simpa using this
  have lt:i<es.size:=by omega
  have key:es[i].key=Uh ks[i]:=by
   have e1:(es.toList.map (·.key))[i]? = some es[i].key:=by simp[lt]
   rw[hk,Xp,Xm hx] at e1
   exact(Xx.inj e1).symm
  refine Zw4 st g1 g3 lt fun h' st' sb=>?_
  have I1:Inv X pins σ H { s with heap:=h' }:=I.turned (t':=s.toks) (fun b o hb e=>(sb.2 b hb).trans e) f0 f1 f3 f4 f5
  obtain⟨o,e,c,d⟩:=id st'
  exact⟨_,rfl,Zx5 (s:={ s with heap:=h' }) e c d (by decide) ⟨.ref ks[i],H,I1,key,⟨rfl,ks[i],Xm hx,rfl⟩,st',fun b hb=>(hf b hb).1⟩⟩
 done:=by
  intro X hP hw hK hc i pins s σ H E I hf st hg
  subst hP hw hK
  obtain⟨hq,hx⟩:=hg
  obtain⟨g1,_⟩:=(show Zc2 X.prog X.w H s.heap a (.frz ob u) from I.hok a _ hq)
  obtain⟨f0,f1,f2,f3,f4,f5⟩:=hf it (by simp)
  have hl:es.size=ks.length:=by
   have:=congrArg Wbn hk
   simpa using this
  exact Zsl (I.ok.hd hc) st g1 g3 (by omega) fun h' eb=>⟨rfl,I.turned (t':=s.toks) (fun b o hb e=>eb b o hb e) f0 f1 f3 f4 f5⟩
 self:=fun _ _ _ _ _ st h=>Udd st h
variable {X:Cx} {tg:Vv}
nonrec def Yec (f:EF):ItF:=fun σ H=>(f σ H).bind fun p=>match p.1 with
 | .ref n=>match p.2[n]? with
  | some (.dic kvs _)=>some ((kvs.map (·.1),[(n,.dic kvs true)]),p.2.set n (.dic kvs true))
  | _=>none
 | _=>none
theorem Zvd {K:Xb} {H:Hp} {ι:List Ve} {kvs:List (D×D)} {xs:List (List Int×Ve×Vb)} (h:Vj (Zue K H ι) kvs xs):Vj (Rep K H ι) (kvs.map (·.1)) (xs.map fun x=>V.ref x.2.1):=by
 induction h with
 | nil=>exact .nil
 | cons r t ih=>exact .cons r.2.1 ih
theorem Zvq {l:Vv} {f:EF} (hl:PEf X l f):PIf X tg l (Yec f):=by
 rintro pins s σ H R I ⟨ι,σd,Hd,xs,own,Hd',sr,hr,e,q⟩
 obtain⟨⟨x,H1⟩,e1,e⟩:=Zo e
 obtain⟨n,rfl⟩:∃ n,x=.ref n:=by cases x<;>first | exact⟨_,rfl⟩ | cases e
 let P1:VK:=fun v1 H1'=>∃ ι1,Le X.K H ι H1' ι1/\HRep X.K H1' ι1 H1/\Rep X.K H1' ι1 (.ref n) v1
 refine thn (hl pins s σ H P1 I ⟨ι,σd,Hd,.ref n,H1,sr,hr,e1,fun v1 H1' ι1 l1 h1 r1=>⟨ι1,l1,h1,r1⟩⟩) fun v s1 zz=>?_
 obtain⟨xv,H1',I1,rx,ι1,l1,h1,r1⟩:=zz
 simp only at e
 split at e
 ·rename_i kvs fz hn
  cases e
  obtain⟨a,rfl,ha⟩:=Zay.mp r1
  cases rx
  obtain⟨z1,z2,ys,z3,PK,dd⟩:=Zj1 I1 (h1.obj n a _ ha hn)
  obtain⟨ob,es,ep,g1,g2,g3,g4,g5,g6⟩:=dd
  refine Zrv z1 g1 g2 g3 ?_
  let u:HO:=.ext (Zdc a ys)
  let H2:Hp:=upd H1' a (.frz ob u)
  have keys:es.toList.map (·.key)=(ys.map fun x=>x.2.1).map Uh:=by rw[g4,Wat,Wat]; rfl
  have da:Zdc a ys s1.heap:=⟨ob,es,ep,g1,g2,g3,g4,g6⟩
  have okN:∀ Hx,Zc2 X.prog X.w Hx s1.heap a (.frz ob u):=fun Hx=>⟨g1,da,⟨ob,g1⟩,fun h1 h2 d k=>Zdc.keep d k⟩
  have froz:Inv X pins σ H2 s1/\Le X.K H1' ι1 H2 ι1:=by
   cases fz with
   | false =>
    rw[if_neg (by simp)] at z3
    exact⟨I1.write (t':=s1.toks) (h':=s1.heap) (x:=a) (e:=a) (by rw[z3]; exact Tad) (.inl rfl) (fun b q hb z=>z) ⟨ob,g1⟩ (okN _),Le.upd (Xk ha) z3 trivial _⟩
   | true =>
    rw[if_pos rfl] at z3
    obtain⟨o2,z3⟩:=z3
    obtain⟨g1',_⟩:=(show Zc2 X.prog X.w H1' s1.heap a (.frz o2 (.ext (Zdc a ys))) from I1.hok a _ z3)
    have eo:o2=ob:=Xx.inj (g1'.symm.trans g1)
    have eH:H2=H1':=by
     funext b
     by_cases hb:b=a
     ·subst hb; show upd H1' b (.frz ob u) b=H1' b; rw[Zas,z3,eo]
     ·exact Zah hb
    rw[eH]
    exact⟨I1,Le.refl⟩
  obtain⟨I2,L2'⟩:=froz
  have hr2:HRep X.K H2 ι1 (H1.set n (.dic kvs true)):=by
   refine⟨by simp[h1.len],h1.nd,fun m b oc m1 m2=>?_⟩
   by_cases hm:n=m
   ·subst hm
    rw[ha] at m1; cases m1
    rw[Wdj] at m2
    rw[if_pos rfl] at m2
    split at m2
    ·cases m2
     exact⟨z1,z2,ys,by rw[if_pos rfl]; exact⟨ob,Zas⟩,Prd.imp PK fun p x _ z=>⟨z.1,z.2.1.mono L2',let ⟨v,w1,w2⟩:=z.2.2; ⟨v,w1,w2.mono L2'⟩⟩⟩
    ·cases m2
   ·rw[Wal hm] at m2
    have hb:b≠a:=fun z=>by
     subst z
     exact hm ((Wfs (Xc.mp ha).1 h1.nd).mp (ha.trans m1.symm))
    exact(h1.obj m b oc m1 m2).step L2'.toLw (Zah hb)
  have I3:Inv X pins σ H2 { s1 with heap:=s1.heap.push { cls:=.type "dict_keyiterator",data:=.fields #[.ref a,.int 0 0,.int es.size 0,.int ep 0] } }:=I2.kept (t':=s1.toks) fun b o e=>Xa _ e
  refine⟨s1.heap.objs.size,[s1.heap.objs.size],_,Itd a ob u (ys.map fun x=>x.2.1),H2,rfl,I3,Zz8 a _ g3 keys,⟨_,Xd _ rfl,rfl,rfl⟩,fun b hb=>?_,?_⟩
  ·have e:b=s1.heap.objs.size:=by simpa using hb
   subst e
   exact I2.fpOk (Xe _) (I2.hok.fresh (Xe _))
  ·have fa:H2 a=some (.frz ob u):=Zas
   have pk:=Zvd PK
   refine q _ H2 ι1 (l1.trans L2') hr2 ⟨fun i H3 ι3 Hd3 l3 h3 _ hi=>⟨l3.fr _ _ _ fa,?_⟩,fun i H3 ι3 Hd3 d x H4 l3 h3 _ hd y=>?_,fun i H3 ι3 Hd3 l3 h3 _ hi=>⟨l3.fr _ _ _ fa,?_⟩⟩
   ·have:=Prd.len PK; simp only[Xr] at hi ⊢; omega
   ·obtain⟨rfl,b,hb,rfl⟩:=y
    obtain⟨v,hv,rv⟩:=Prd.get pk hd
    have ev:v=.ref b:=by
     rw[Xp] at hv hb
     cases hy:ys[i]? with
     | none=>rw[hy] at hv; cases hv
     | some yv=>rw[hy] at hv hb; cases hv; cases hb; rfl
    subst ev
    exact⟨ι3,Le.refl,h3,(rv.mono L2').mono l3⟩
   ·have:=Prd.len PK; simp only[Xr] at hi ⊢; omega
 ·cases e
nonrec def Ycl (n N:Nat) (b:FF->SF):Nat->FF
 | 0=>Za4 n N fun _ _=>none
 | j+1=>Za4 n N (b (Ycl n N b j))
theorem Ybx {P:Vi} {w:Vs} {K:Xb} {mg:Str->Option Vb} {base:Vy} {x:Str} {st:Vw} {N ps:List Str} {k:Nat} {b:FF->SF} (T:Tf K mg x st) (S:FnScope N ps (Zad st))
  (hbd:∀ (kV doc pm:Vb) (an:Option Ve) (cdv ct:Vb) (us:List Vb),us.length=ps.length->Ubq (Wba x x (Zb1 st) (Za1 st) (Zad st) .none kV doc pm an cdv ct) ⟨us,[]⟩=pure (ps.zip us))
  (hb:∀ (F:FF) (j:Nat),Fn P w K mg base (k+1+j) x ps F->∀ (f:Ve) (cdv:Vb) (A:Vr) (outer:List Env) (s:Vd) (H:Hp) (E:XK),Room (k+1+j) (A.deeper (Uaw x (Zad st) s.heap.objs.size f cdv)) ->
   Zpp (Zlo CX0 P w K mg base N x (Zad st) f cdv A outer s H E).nox (Za1 st) (b F)):∀ j,Fn P w K mg base (k+1+j) x ps (Ycl ps.length N.length b j)
 | 0=>Zba (k:=k) T S hbd fun f cdv A outer s H E _=>by
  rintro pins s' σ H' E' I ⟨ι,σd,Hd,fl,σd',Hd',_,_,e,_⟩
  cases e
 | j+1=>Zba (k:=k+1+j) T S hbd fun f cdv A outer s H E hr=>hb _ j (Ybx T S hbd hb j) f cdv A outer s H E hr
theorem Zuf {K:Xb} {h:Vy} {mg:Str->Option Vb} {x:Str} {b1 b2:Bool} {p:Ve} {n:Nat} {osl:Array (Option Vb)} (X:K.In h) (G:h.Ns Vh mg) (a:Wcy K Vh x=some (some (.ref p)))
  (l:K.lookup p=some ⟨.type "tuple",none,.seq #[.bool b1,.bool b2] n,osl⟩):Gc K mg x (.tup [.bl b1,.bl b2]):=by
 refine⟨_,.ref p,Wfk X G a,rfl,fun H ι=>Zbe.mpr ⟨p,[.bl b1,.bl b2],rfl,.inr ⟨_,_,_,l,rfl,rfl,?_,?_,rfl⟩,?_⟩⟩
 ·show 2<=sizeLine
  rw[Ux]; omega
 ·exact .cons rfl (.cons rfl .nil)
 ·exact .cons (by simp) (.cons (by simp) .nil)
section
variable {prog:Vi} {w:Vs} {A:Vr} {E:Vb->Vd->Prop} {s:Vd}
theorem Yc5 {T newId:String} {self a:Vb} {kw:List (Str×Vb)} (hl:typeLookup (.type T) "__init__" = pure (some (.builtin "object.__init__")))
  (hm:Bind.madeBy (.type T)=pure (some newId)) (hne:(some newId != some "object.__new__")=true) :
  Uen (Builtin.«object.__init__» ⟨[self,a],kw⟩) (fun _ R s=>s.TypeIs self T/\R (.ok (.ret .none)) s):=by
 refine Meets.of_wp fun prog w A R s zz=>?_
 obtain⟨hT,hq⟩:=zz
 repeat (any_goals (first | assumption | wp_step))
 exact⟨_,rfl,hq⟩
theorem tc_kw (a v:Vb):checkTypeCall "enumerate" ⟨[a],[("start",v)]⟩=pure ():=by kernel_rfl
theorem nc_kw (a v:Vb):checkBuiltinCall "enumerate.__new__" ⟨[.type "enumerate",a],[("start",v)]⟩=pure ():=by kernel_rfl
open AutoSeq1 (wpAny_loadPart') in
theorem Zxq (t:Ve) (its:Array Vb) (n:Nat) (dct:Option Ve) (sl:Array (Option Vb)) (tk0:Tok) :
  Uen (Builtin.«enumerate.__new__» ⟨[.type "enumerate",.ref t],[("start",.int 1 tk0)]⟩) (fun _ R s=>s.heap.get? t=some { cls:=.type "tuple",dict:=dct,data:=.seq its n,slots:=sl } /\
   R (.ok (.ret (.ref (s.heap.push { cls:=.type "tuple_iterator",data:=.fields #[.ref t,.int 0 0] }).objs.size)))
    { s with heap:=(s.heap.push { cls:=.type "tuple_iterator",data:=.fields #[.ref t,.int 0 0] }).push { cls:=.type "enumerate",data:=.fields #[.none,.bool false,.ref s.heap.objs.size,Uad 1,.none,.none] } }) :=
 .of_wp fun prog w A R s h=>by
  obtain⟨hp,g,d,tk,os⟩:=s; obtain⟨hl,h⟩:=h
  have hsub:=Udv
  have hL:Heap.IsTuple (Tbr ⟨hp,g,d,tk,os⟩) t its:=⟨_,hl,rfl,n,rfl⟩
  wp_walk using Vo hl
  refine Ucw fun st=>Vc ?_
  split
  ·rename_i k _ _ _ _ _
   cases (k==Tbb "enumerate")<;>(wp_walk using Vo hl,Uaj hL; exact⟨_,rfl,h⟩)
  ·wp_walk using Vo hl,Uaj hL
   exact⟨_,rfl,h⟩
end
section
variable {prog:Vi} {w:Vs} {A:Vr} {E:Vb->Vd->Prop} {s:Vd}
theorem Yc7 {args:List Vb} {kw:List (Str×Vb)} {newId:String} {Bn:Builtin} {T:String} {S:Taf} {Q:Vb->Vd->Prop} (ft:TypeCalled T newId "object.__init__") (hne:(some newId != some "object.__new__")=true)
  (hct:checkTypeCall T ⟨args,kw⟩=pure ()) (hcn:checkBuiltinCall newId ⟨.type T::args,kw⟩=pure ()) (entryN:entryFor table newId=some Bn) (g:Uen (Bn ⟨.type T::args,kw⟩) S)
  (hok:∀ obj,argsOk "object.__init__" ⟨obj::args,kw⟩) (gi:∀ obj,Uen (Builtin.«object.__init__» ⟨obj::args,kw⟩) (fun _ R s=>s.TypeIs obj T/\R (.ok (.ret .none)) s))
  (h:S A.in1 (wants (fun obj s₁=>s₁.TypeIs obj T/\Q obj s₁) E) s):Vg (Vl prog w) A (call (.type T) args kw) Q E s:=by
 obtain⟨c,tl,hmro⟩:=ft.mro
 have hmade:=ft.made
 have hsub:=ft.sub
 have n1:=ft.notType
 have n2:=ft.canCreate
 refine Udx (codeAny_of_tree (show Vg _ _ (callAny (.type T) _) _ _ _ from Vc ⟨Tbn _ (by decide +kernel),Ubh F.entry_type_call ?_⟩))
 rw[Around.under_plain (weight_type_call_type T args kw) (units_type_call_type T args kw)]
 repeat (any_goals (first | assumption | wp_step))
 refine Uas (Ude ft.plain entryN (Uek hcn (g prog w A.in1 _ s h))) fun r s₁ hr=>?_
 cases r with
 | error e=>exact hr
 | ok fl =>
  cases fl with
  | ret obj =>
   obtain⟨hT,hq⟩:s₁.TypeIs obj T/\Q obj s₁:=hr
   have hli:=ft.init.lookup
   have hbi:=ft.init.bind obj
   repeat (any_goals (first | assumption | wp_step))
   refine Uas (Ude ft.init.plain F.entry_object_init (ft.init.check _ _ _ _ _ _ _ _ hT (hok obj) (gi obj prog w A.in1 (wants (fun r s₂=>r=.none/\Q obj s₂) E) s₁ ⟨hT,rfl,hq⟩))) fun r₂ s₂ hr₂=>?_
   cases r₂ with
   | error e=>exact hr₂
   | ok fl₂ =>
    cases fl₂ with
    | ret r =>
     obtain⟨rfl,hq2⟩:=hr₂
     repeat (any_goals (first | assumption | wp_step))
    | _=>exact hr₂.elim
  | _=>exact hr.elim
theorem Zli {M:Model} {pos:Pos} {T:String} {args:List (Bool×Sem Vb)} {kws:List (Option Str×Sem Vb)} {Q:Vb->Vd->Prop} (h1:args.any (·.1)=false) (h2:kws.any (·.1.isNone)=false)
  (h:Vg M A (evalArgs (.type T) true args kws) (fun a s₁=>Vg M A (call (.type T) a.pos a.kw) Q E s₁) E s):Vg M A (Ubx pos (.type T) [] args kws) Q E s:=by
 unfold Ubx
 refine Va (Vx (thn h fun a s₁ q=>Va (Ubp ?_)))
 simp only[h1,h2,Bool.or_false]
 exact Va (Vc (Va (thn q fun r s₂ q2=>Va (Vx (wpAny_point (Vc q2))))))
theorem Zwo (a b v:Vb):argsOk "object.__init__" ⟨[a,b],[("start",v)]⟩:=by
 unfold argsOk
 first | decide +kernel | kernel_rfl | (intro _; kernel_rfl)
theorem Ztt {t:Ve} {its:Array Vb} {tk:Tok} {Q:Vb->Vd->Prop} (hL:s.heap.IsTuple t its)
  (h:∀ h',Uax h' (s.heap.objs.size+1) s.heap.objs.size 1 .none->h'.IsTupleIter s.heap.objs.size t 0->h'.objs.size=s.heap.objs.size+2 ->
   (∀ b o,s.heap.get? b=some o->h'.get? b=some o)->Q (.ref (s.heap.objs.size+1)) { s with heap:=h' }) :
  Vg (Vl prog w) A (call (.type "enumerate") [.ref t] [("start",.int 1 tk)]) Q E s:=by
 obtain⟨⟨k,dct,dt,sl⟩,hl,hc,n,hd⟩:=hL
 replace hc:k=.type "tuple" := hc
 replace hd:dt=.seq its n:=hd
 subst hc hd
 refine Yc7 Tah (by decide) (tc_kw _ _) (nc_kw _ _) Tau (Zxq t its n dct sl tk) (fun obj=>Zwo _ _ _) (fun obj=>Yc5 Tah.init.lookup Tah.made (by decide)) ⟨hl,?_⟩
 have hz:(s.heap.push { cls:=.type "tuple_iterator",data:=.fields #[.ref t,.int 0 0] }).objs.size=s.heap.objs.size+1:=Wam ..
 show _/\_
 rw[hz]
 have he:Uax ((s.heap.push { cls:=.type "tuple_iterator",data:=.fields #[.ref t,.int 0 0] }).push { cls:=.type "enumerate",data:=.fields #[.none,.bool false,.ref s.heap.objs.size,Uad 1,.none,.none] }) (s.heap.objs.size+1) s.heap.objs.size 1 .none:=by
  have q:=Xd (s.heap.push { cls:=.type "tuple_iterator",data:=.fields #[.ref t,.int 0 0] }) (o:={ cls:=.type "enumerate",data:=.fields #[.none,.bool false,.ref s.heap.objs.size,Uad 1,.none,.none] }) rfl
  rw[hz] at q; exact q
 exact⟨⟨_,he,rfl⟩,h _ he ⟨_,Xa _ (Xd _ rfl),rfl,rfl⟩ (by rw[Wam,hz]) fun b o x=>Xa _ (Xa _ x)⟩
end
variable {X:Cx}
nonrec def Zsh (f:AF):ItF:=fun σ H=>(f σ H).bind fun p=>match p.1 with
 | [.tup xs]=>some ((Zdy 1 xs,[]),p.2)
 | _=>none
theorem Zw2 {es:List Vv} {k:Nat} {tp p pos kp cp:Pos} {cj:Nat} {a:Vv} {f:AF} (hg:Gl X "enumerate") (hm:X.mg "enumerate" = none) (ha:PAf X [a] f) (hs:Vf [a] X.env=[(false,eval a X.env)]:=by rfl) :
  PIf X (.Tuple es k tp) (.Call (.Name "enumerate" p) [a] [⟨some "start",.Constant (.int 1) cj cp,kp⟩] pos) (Zsh f):=by
 rintro pins s σ H R I ⟨ι,σd,Hd,xs,own,Hd',sr,hr,e,q⟩
 obtain⟨⟨ds,H1⟩,e1,e⟩:=Zo e
 dsimp only at e
 split at e
 ·rename_i ys
  cases e
  show Vg _ _ (do Ubx pos (<- eval (.Name "enumerate" p) X.env) [] (Uac pos (Vf [a] X.env)) (Ubk pos (Uak [⟨some "start",.Constant (.int 1) cj cp,kp⟩] X.env))) _ _ _
  let P1:List V->Hp->Prop:=fun vs H'=>∃ ad ws,vs=[.ref ad]/\SqT X.K H' ad ws/\∀ (J:It) (H2:Hp),H2=H'->J=Ye1 X.K 1 ad->R J H2
  refine Va (Zet I hg hm Udj (Zli (by rw[hs]; rfl) rfl ?_))
  have hA:=ha pos pins s σ H P1 I ⟨ι,σd,Hd,_,_,sr,hr,e1,fun vs H' ι' l h P=>by
   obtain⟨v,rfl,r⟩:=Zn1 P
   obtain⟨ad,ws,rfl,hS,P2⟩:=Zbe.mp r
   refine⟨ad,ws,rfl,hS,fun J H2 e2 e3=>?_⟩
   subst e2 e3
   exact q _ _ ι' l h (Zrc hS P2 fun i H x y h=>y ws h)⟩
  rw[hs] at hA ⊢
  refine Ued rfl (thn hA fun us s1 zz=>?_)
  obtain⟨vs,H2,I2,r2,ad,ws,e2,hS,q2⟩:=zz
  subst e2
  obtain⟨u,rfl,ru⟩:=Zja r2
  cases ru
  refine kws_cons (thn (Yb0 pins s1 σ H2 (fun x H'=>x=.int 1/\H'=H2) I2 ⟨rfl,rfl⟩) fun v s2 ⟨x,H3,I3,rx,ex,eH⟩=>kws_nil ?_)
  subst ex eH
  obtain⟨t,rfl⟩:=rx
  obtain⟨its,rv,p,hz⟩:=I3.tuple hS
  show Vg _ _ (call (.type "enumerate") [.ref ad] [("start",.int 1 t)]) _ _ _
  refine Ztt (show s2.heap.IsTuple ad its.toArray from p) fun h' he hj z' kk=>?_
  have I4:Inv X pins σ H3 { s2 with heap:=h' }:=I3.kept (t':=s2.toks) kk
  refine Uau (s:={ s2 with heap:=h' }) he ?_
  have ne:s2.heap.objs.size+1≠s2.heap.objs.size:=Wer _
  refine⟨s2.heap.objs.size+1,[s2.heap.objs.size+1,s2.heap.objs.size],_,Ye1 X.K 1 ad,H3,rfl,I4,Zl6 ad _ _ 1 ne,⟨.none,by simpa using he,hj⟩,fun b hb=>?_,q2 _ _ rfl rfl⟩
  have:s2.heap.objs.size<=b:=by
   rcases Xi.mp hb with rfl | hb
   ·exact Wea _
   ·have:b=s2.heap.objs.size:=by simpa using hb
    rw[this]; exact Xe _
  exact I3.fpOk (b:=b) (H':=H3) this (I3.hok.fresh this)
 ·cases e
variable {X:Cx} {tg:Vv}
nonrec def Zee (n1 N1 n2 N2:Nat) (a b:FF->FF->SF):Nat->FF×FF
 | 0=>(Za4 n1 N1 fun _ _=>none,Za4 n2 N2 fun _ _=>none)
 | j+1=>(Za4 n1 N1 (a (Zee n1 N1 n2 N2 a b j).1 (Zee n1 N1 n2 N2 a b j).2),Za4 n2 N2 (b (Zee n1 N1 n2 N2 a b j).1 (Zee n1 N1 n2 N2 a b j).2))
theorem Zqt {P:Vi} {w:Vs} {K:Xb} {mg:Str->Option Vb} {base:Vy} {x y:Str} {st su:Vw} {N1 ps N2 qs:List Str} {k:Nat} {a b:FF->FF->SF} (T:Tf K mg x st) (S:FnScope N1 ps (Zad st))
  (hbd:∀ (kV doc pm:Vb) (an:Option Ve) (cdv ct:Vb) (us:List Vb),us.length=ps.length->Ubq (Wba x x (Zb1 st) (Za1 st) (Zad st) .none kV doc pm an cdv ct) ⟨us,[]⟩=pure (ps.zip us))
  (T2:Tf K mg y su) (S2:FnScope N2 qs (Zad su))
  (hbd2:∀ (kV doc pm:Vb) (an:Option Ve) (cdv ct:Vb) (us:List Vb),us.length=qs.length->Ubq (Wba y y (Zb1 su) (Za1 su) (Zad su) .none kV doc pm an cdv ct) ⟨us,[]⟩=pure (qs.zip us))
  (hb:∀ (F1 F2:FF) (j:Nat),Fn P w K mg base (k+1+j) x ps F1->Fn P w K mg base (k+1+j) y qs F2->∀ (f:Ve) (cdv:Vb) (A:Vr) (outer:List Env) (s:Vd) (H:Hp) (E:XK),Room (k+1+j) (A.deeper (Uaw x (Zad st) s.heap.objs.size f cdv)) ->
   Zpp (Zlo CX0 P w K mg base N1 x (Zad st) f cdv A outer s H E).nox (Za1 st) (a F1 F2))
  (hb2:∀ (F1 F2:FF) (j:Nat),Fn P w K mg base (k+1+j) x ps F1->Fn P w K mg base (k+1+j) y qs F2->∀ (f:Ve) (cdv:Vb) (A:Vr) (outer:List Env) (s:Vd) (H:Hp) (E:XK),Room (k+1+j) (A.deeper (Uaw y (Zad su) s.heap.objs.size f cdv)) ->
   Zpp (Zlo CX0 P w K mg base N2 y (Zad su) f cdv A outer s H E).nox (Za1 su) (b F1 F2)) :
  ∀ j,Fn P w K mg base (k+1+j) x ps (Zee ps.length N1.length qs.length N2.length a b j).1/\Fn P w K mg base (k+1+j) y qs (Zee ps.length N1.length qs.length N2.length a b j).2
 | 0=>by
  rw[Zee]
  dsimp only
  refine⟨Zba (k:=k) T S hbd fun f cdv A outer s H E _=>?_,Zba (k:=k) T2 S2 hbd2 fun f cdv A outer s H E _=>?_⟩
  ·rintro pins s' σ H' E' I ⟨ι,σd,Hd,fl,σd',Hd',_,_,e,_⟩
   cases e
  ·rintro pins s' σ H' E' I ⟨ι,σd,Hd,fl,σd',Hd',_,_,e,_⟩
   cases e
 | j+1=>by
  obtain⟨h1,h2⟩:=Zqt T S hbd T2 S2 hbd2 hb hb2 j
  rw[Zee]
  dsimp only
  exact⟨Zba (k:=k+1+j) T S hbd fun f cdv A outer s H E hr=>hb _ _ j h1 h2 f cdv A outer s H E hr,Zba (k:=k+1+j) T2 S2 hbd2 fun f cdv A outer s H E hr=>hb2 _ _ j h1 h2 f cdv A outer s H E hr⟩
nonrec def sWh (t:TF) (b:SF):Nat->SF
 | 0=>fun _ _=>none
 | n+1=>fun σ H=>(t σ H).bind fun p=>if p.1=true then (b σ p.2).bind fun q=>match q.1 with
   | .nx=>sWh t b n q.2.1 q.2.2
   | .ct=>sWh t b n q.2.1 q.2.2
   | .bk=>some (.nx,q.2.1,q.2.2)
   | .rt d=>some (.rt d,q.2.1,q.2.2)
  else some (.nx,σ,p.2)
section
variable {X:Cx} {c:Vv} {pos:Pos}
theorem Zkg {body:List Vw} {t:TF} {b:SF} {n:Nat} (hp:Ueh (Vl X.prog X.w) X.A X.env X.xe) (hc:PTf X c t) (hb:Zpp X body b):PSf X (.While c body [] pos) (sWh t b n):=by
 refine PSi (Zz0 hp hc hb) fun E σ H zz=>?_
 obtain⟨ι,σd,Hd,fl,σf,Hf,s,hr,e,q⟩:=zz
 refine⟨fun m σ' H'=>∃ ι' σd' Hd',Le X.K H ι H' ι'/\SRep X.K H' ι' σ' σd'/\HRep X.K H' ι' Hd'/\sWh t b m σd' Hd'=some (fl,σf,Hf),⟨n,ι,σd,Hd,Le.refl,s,hr,e⟩,?_⟩
 rintro m σ1 H1 ⟨ι1,σd1,Hd1,l1,s1,h1,e1⟩
 cases m with
 | zero=>cases e1
 | succ m =>
  rw[sWh] at e1
  obtain⟨⟨x,H2⟩,e2,e1⟩:=Zo e1
  refine⟨ι1,σd1,Hd1,x,H2,s1,h1,e2,fun H3 ι3 l3 h3=>?_⟩
  cases x with
  | true =>
   rw[if_pos rfl]
   dsimp only at e1
   rw[if_pos rfl] at e1
   obtain⟨⟨f4,σ4,H4⟩,e4,e1⟩:=Zo e1
   refine⟨fun σ' H'=>∃ ι' σd' Hd',Le X.K H ι H' ι'/\SRep X.K H' ι' σ' σd'/\HRep X.K H' ι' Hd'/\sWh t b m σd' Hd'=some (fl,σf,Hf),fun σ' H' p=>⟨m,Wep m,p⟩,?_⟩
   refine⟨ι3,σd1,H2,f4,σ4,H4,s1.mono l3,h3,e4,fun σ6 H6 ι6 l6 h6 s6=>?_⟩
   have L:Le X.K H ι H6 ι6:=(l1.trans l3).trans l6
   cases f4 with
   | nx=>exact⟨ι6,σ4,H4,L,s6,h6,e1⟩
   | ct=>exact⟨ι6,σ4,H4,L,s6,h6,e1⟩
   | bk=>cases e1; exact q σ6 H6 ι6 L h6 s6
   | rt d=>cases e1; exact q σ6 H6 ι6 L h6 s6
  | false =>
   rw[if_neg (by simp)]
   dsimp only at e1
   rw[if_neg (by simp)] at e1
   cases e1
   exact q σ1 H3 ι3 (l1.trans l3) h3 (s1.mono l3)
end
nonrec def Zl8 (h:Vy) (L:Ve):List (Ve×Obj):=(Wdx h.objs.size).filterMap fun a=>if a=L then none else (h.get? a).map fun o=>(a,o)
theorem Zou {h:Vy} {L b:Ve} {o:Obj} (hb:b≠L) (e:h.get? b=some o):(b,o)∈Zl8 h L:=by
 refine Wcz.mpr ⟨b,Wcr.mpr (Xf e),?_⟩
 rw[if_neg hb,e]; rfl
theorem Zew {h:Vy} {L:Ve} {p:Ve×Obj} (hp:p∈Zl8 h L):h.get? p.1=some p.2/\p.1≠L:=by
 obtain⟨a,_,e⟩:=Wcz.mp hp
 split at e
 ·cases e
 ·rename_i ne
  obtain⟨o,e1,rfl⟩:=Zm e
  exact⟨e1,ne⟩
theorem Zin (b:Ve):({}:Vy).get? b=none:=by
 cases e:({}:Vy).get? b with
 | none=>rfl
 | some o=>exact absurd (Xf e) (Wgn _)
nonrec def Zic (i:Int):Int:=if i<0 then -i else i
section
variable {prog:Vi} {w:Vs} {A:Vr} {E:Vb->Vd->Prop} {s:Vd}
theorem Zzn {l L:Ve} {vs:List Vb} {ns:List Int} {m:Str->Option Vb} {Q:Vb->Vd->Prop} (hn:s.heap.Ns L m) (hI:Ubg vs ns) (h64:vs.length<64)
  (hcol:∀ R:List Vb->Vd->Prop,R vs { s with heap:=(s.heap.push (Uay "list" #[] 0)).update s.heap.objs.size (Tbc (· ++ vs.toArray)) }->Vg (Vl prog w) A.in1 (collect (.ref l)) R E s)
  (h:∀ h' tk out c,h'.Ns L m->(∀ b o,b≠L->s.heap.get? b=some o->h'.get? b=some o)->h'.get? (s.heap.objs.size+1)=some (Uay "list" out c)->KskOut false (ns.map Zic) vs out.toList->Q (.ref (s.heap.objs.size+1)) { s with heap:=h',toks:=tk }) :
  Vg (Vl prog w) A (call (.builtin "sorted") [.ref l] [(Ua "key",.builtin "abs")]) Q E s:=by
 have sl:vs.length<=sizeLine:=by rw[Uba]; omega
 have le:ns.length=vs.length:=hI.length.symm
 have lt:=hn.lt
 let h1:Vy:=(s.heap.push (Uay "list" #[] 0)).update s.heap.objs.size (Tbc (· ++ vs.toArray))
 have z1:h1.objs.size=s.heap.objs.size+1:=(Heap.size_update ..).trans (size_push' ..)
 have at2:(h1.push (Uay "list" vs.toArray 0)).get? (s.heap.objs.size+1)=some (Uay "list" vs.toArray 0):=by rw[<- z1]; exact Xd _ rfl
 have kp:∀ b o,s.heap.get? b=some o->(h1.push (Uay "list" vs.toArray 0)).get? b=some o:=fun b o q=>by
  have hb:b<s.heap.objs.size:=Xf q
  refine Xa _ ?_
  show Heap.get? (Heap.update _ _ _) b=some o
  rw[Heap.get?_update_ne _ _ _ _ (Xh hb)]
  exact Xa _ q
 have F0:Fr {} L s.heap m:=⟨hn,fun b o e=>absurd ((Zin b).symm.trans e) (by simp),Wbd _⟩
 have N0:News {} L s.heap (Zl8 s.heap L):=fun p hp=>⟨(Zew hp).1,(Zew hp).2,Zin _⟩
 refine Uco kind_sorted plain_sorted entry_sorted (ksk_s1 _ _) ?_
 unfold Builtin.«sorted»
 refine Va (m:=checkCount "sorted" 1 1 _) (Vc (Va (hcol _ (Va (Ucg ?_ sl)))))
 show Vg _ _ _ _ _ { s with heap:=h1.push (Uay "list" vs.toArray 0) }
 rw[show ((s.heap.push (Uay "list" #[] 0)).update s.heap.objs.size (Tbc (· ++ vs.toArray))).objs.size=s.heap.objs.size+1 from z1]
 refine Va (Vx (Udq slot_list_sort ⟨_,at2,rfl⟩ entry_list_sort ?body (ksk_l1 _ _)))
 case body =>
  show Vg (Vl prog w) A.in1.in1 (Builtin.«list.sort» ⟨[.ref (s.heap.objs.size+1)],[(Ua "key",.builtin "abs")]⟩) _ _ _
  rw[ksk_t4]
  refine ksk_sort (s:={ s with heap:=h1.push (Uay "list" vs.toArray 0) }) (kz:=ns.map Zic) (news:=Zl8 s.heap L) (F0.kept kp) (N0.grown kp) at2 (Wbr (Wcc lt)) (Zin _) (fun p hp=>Xh (Wcc (Xf (Zew hp).1)))
   (by rw[Xr]; exact le) h64 (fun i v k hv hk hh tk own F N=>?_) fun h' tk out c F' N' K'=>⟨_,rfl,?_⟩
  ·obtain⟨n,t,rfl,e⟩:=hI.at i v hv
   rw[Xp,e] at hk
   cases hk
   exact Uea fun u tk'=>Tdb F N fun p hp=>hp
  ·refine Vc ⟨_,rfl,h h' tk out c F'.ns (fun b o hb e=>?_) ?_ K'⟩
   ·exact(N' _ (Wae _ (Zou hb e))).1
   ·exact(N' _ (Wck ..)).1
theorem Zrb {l:Ve} {vs:List Vb} {R:List Vb->Vd->Prop} (ht:Ueq s.heap l vs.toArray) (hz:vs.length<=sizeLine)
  (h:R vs { s with heap:=(s.heap.push (Uay "list" #[] 0)).update s.heap.objs.size (Tbc (· ++ vs.toArray)) }):Vg (Vl prog w) A (collect (.ref l)) R E s:=by
 obtain⟨o,ho,hc,n,hd⟩:=ht
 have ho2:(s.heap.push (Uay "list" #[] 0)).get? l=some o:=Xa _ ho
 have hN:(s.heap.push (Uay "list" #[] 0)).get? s.heap.objs.size=some (Uay "list" #[] 0):=Xd _ rfl
 unfold collect
 refine Va (wpAny_runValue (Ubh Udf (show Vg _ _ (do again (.builtin "list.__iadd__" ⟨[<- Uer [],.ref l],[]⟩)) _ _ s from Va (Ucg (Vc ⟨Tbn _ (by decide +kernel),Ubh entry_list_iadd' ?_⟩)))))
 show Vg _ _ (Us (.ref s.heap.objs.size) (.ref l) (.ref s.heap.objs.size)) _ _ { s with heap:=_ }
 unfold Us
 refine Va (Ucu (T := "tuple") ⟨o,ho2,hc⟩ ?_)
 rw[if_pos (by simp)]
 refine Va (listItems_at ho2 hd (Va (listItems_at (xs := #[]) (n:=0) hN rfl ?_)))
 rw[if_neg (by simp)]
 refine Va (listUpdate_at (xs := #[]) (n:=0) hN rfl (Vc ?_) (Wbd _) (by show ((#[]:Array Vb)++vs.toArray).size<=sizeLine+1; rw[Array.size_append,Xo]; exact Waa (by simp) (Nat.le_succ_of_le hz)))
 refine Va (wpAny_load (get?_update_seq hN _) ?_)
 show Vg _ _ (pure (((#[]:Array Vb)++vs.toArray).toList)) R E _
 rw[Wfl,List.toList_toArray]
 exact Vc h
end
theorem Yb8 {vs:List Vb} {ns:List Int} (h:Ubg vs ns):∀ p∈(ns.map Zic).zip vs,∃ n t,p=(Zic n,.int n t):=by
 induction h with
 | nil=>intro p hp; simp at hp
 | cons n t _ ih =>
  intro p hp
  rw[Xn,Wcl] at hp
  rcases Xi.mp hp with rfl | hp
  ·exact⟨n,t,rfl⟩
  ·exact ih p hp
nonrec def Yev (p:Int×Vb):Int:=match p.2 with
 | .int n _=>n
 | _=>0
theorem Yeh {vs:List Vb} {ns:List Int} (h:Ubg vs ns):((ns.map Zic).zip vs).map Yev=ns:=by
 induction h with
 | nil=>rfl
 | cons n t _ ih=>rw[Xn,Wcl,Xn,ih]; rfl
theorem Zsa:∀ ps:List (Int×Vb),(∀ p∈ps,∃ n t,p=(Zic n,.int n t))->Ubg (ps.map Prod.snd) (ps.map Yev)/\(ps.map Yev).map Zic=ps.map Prod.fst
 | [],_=>⟨.nil,rfl⟩
 | p::ps,h=>by
  obtain⟨n,t,rfl⟩:=h p (by simp)
  obtain⟨a,b⟩:=Zsa ps fun q hq=>h q (by simp[hq])
  exact⟨.cons n t a,by rw[Xn,Xn,Xn,b]; rfl⟩
nonrec def Zd0 (ns:List Int):List Int:=ns.mergeSort fun a b=>decide (Zic a<=Zic b)
theorem Zcp (ns:List Int):(Zd0 ns).Perm ns:=List.mergeSort_perm ..
theorem Zrd (ns:List Int):(Zd0 ns).Pairwise fun a b=>Zic a<=Zic b:=by
 have h:=List.pairwise_mergeSort (le:=fun a b:Int=>decide (Zic a<=Zic b)) (by intro a b c h1 h2; simp at *; omega) (by intro a b; simp; omega) ns
 exact h.imp (by intro a b h; simpa using h)
theorem Yeo {x y:List Int} (h:x.map Zic=y.map Zic) (hi:∀ a∈x,∀ b∈y,Zic a=Zic b->a=b):x=y:=by
 induction x generalizing y with
 | nil=>cases y with
  | nil=>rfl
  | cons _ _=>cases h
 | cons a x ih=>cases y with
  | nil=>cases h
  | cons b y =>
   rw[Xn,Xn] at h
   obtain⟨h1,h2⟩:=Wbo.inj h
   rw[hi a (by simp) b (by simp) h1,ih h2 fun c hc d hd=>hi c (by simp[hc]) d (by simp[hd])]
theorem Zwp {ns:List Int} (h:(ns.map Zic).Nodup):∀ a∈ns,∀ b∈ns,Zic a=Zic b->a=b:=by
 induction ns with
 | nil=>intro a ha; cases ha
 | cons n r ih =>
  rw[Xn,Wbg] at h
  intro a ha b hb e
  rcases Xi.mp ha with h1 | h1<;>rcases Xi.mp hb with h2 | h2
  ·rw[h1,h2]
  ·exact absurd (Xz.mpr ⟨b,h2,by rw[<- e,h1]⟩) h.1
  ·exact absurd (Xz.mpr ⟨a,h1,by rw[e,h2]⟩) h.1
  ·exact ih h.2 a h1 b h2 e
theorem Ya9 {vs out:List Vb} {ns:List Int} (h:Ubg vs ns) (hn:(ns.map Zic).Nodup) (k:KskOut false (ns.map Zic) vs out):Ubg out (Zd0 ns):=by
 obtain⟨ps,hp,rfl,hw⟩:=k
 obtain⟨a,b⟩:=Zsa ps fun p hp'=>Yb8 h p (hp.mem_iff.mp hp')
 have c:(ps.map Yev).Perm ns:=by rw[<- Yeh h]; exact hp.map Yev
 have d:ps.map Yev=Zd0 ns:=by
  refine Yeo (Zo0 ((c.map Zic).trans ((Zcp ns).map Zic).symm) ?_ ?_) fun x hx y hy e=>Zwp hn x (c.mem_iff.mp hx) y ((Zcp ns).mem_iff.mp hy) e
  ·rw[b,Wen]; simpa using hw
  ·rw[Wen]; exact Zrd ns
 rw[<- d]; exact a
theorem Zop {X:Cx} {pins:List (Ve×Obj)} {σ:L2.St} {H:Hp} {s:Vd} {h':Vy} {a:Ve} {o:HO} {t':Nat} (I:Inv X pins σ H s) (k:∀ b u,b≠X.env.locals->s.heap.get? b=some u->h'.get? b=some u)
  (ns:∀ m,s.heap.Ns X.env.locals m->h'.Ns X.env.locals m) (hp:s.heap.objs.size<=a) (new:Zc2 X.prog X.w (upd H a o) h' a o):Inv X pins σ (upd H a o) { s with heap:=h',toks:=t' }:=by
 have hn:=I.hok.fresh hp
 have there:∀ b u,s.heap.get? b=some u->∃ o',h'.get? b=some o':=fun b u e=>by
  by_cases hb:b=X.env.locals
  ·subst hb
   obtain⟨m,hm,_⟩:=I.loc
   obtain⟨o,_,_,ho,_⟩:=ns m hm
   exact⟨o,ho⟩
  ·exact⟨u,k b u hb e⟩
 refine I.step (g':=s.gens) (d':=s.drawn) (ch:=[]) (fun _ z=>nomatch z) (fun b u hb _ _ e _=>k b u hb e) (fun b u hb _ _ e _=>⟨u.slots,k b u hb e⟩) (fun b u _ e n=>?_) (fun b u _ e=>there b u e) (fun b xs q=>?_) (fun b u xs q=>?_) (fun b ps q=>⟨#[],?_⟩) ns (fun b u e=>?_) I.bare
 ·rw[Zah (Xh (Xj (Xf e) hp))]; exact n
 ·rw[Zah (Zai q hn)]; exact q
 ·rw[Zah (Zai q hn)]; exact q
 ·rw[Zah (Zai q hn),q]; simp
 ·by_cases hb:b=a
  ·subst hb; rw[Zas] at e; cases e; exact new
  ·rw[Zah hb] at e
   have nL:∀ c,(c=b\/H c=some (.own b))->c≠X.env.locals:=fun c hc z=>by
    subst z
    have:=I.free
    rcases hc with rfl | hc
    ·rw[this] at e; cases e
    ·rw[this] at hc; cases hc
   exact(I.hok b u e).stay (fun c v hc q=>k c v (nL c hc) q) (fun c q=>by rw[Zah (Zai q hn)]; exact q) fun c xs q=>by rw[Zah (Zai q hn)]; exact q
nonrec def Zo6:FF:=fun ds H=>match ds with
 | [d]=>(Zp1 d H).bind fun xs=>(Zit xs).bind fun ns=>if ns.length<64/\(ns.map Zic).Nodup then some (.ref H.length,H++[.lst ((Zd0 ns).map .int)]) else none
 | _=>none
theorem Zxx {X:Cx} {a:Vv} {f:AF} {p p2 kp pos:Pos} (hg:Gl X "sorted") (hm:X.mg "sorted" = none) (hg2:Gl X "abs") (hm2:X.mg "abs" = none) (ha:PAf X [a] f) (hs:Vf [a] X.env=[(false,eval a X.env)]:=by rfl) :
  PEf X (.Call (.Name "sorted" p) [a] [⟨some "key",.Name "abs" p2,kp⟩] pos) (eCB Zo6 f):=by
 rintro pins s σ H Q I ⟨ι,σd,Hd,d,Hd',sr,hr,e,q⟩
 obtain⟨⟨ds,H1⟩,e1,e⟩:=Zo e
 dsimp only at e
 unfold Zo6 at e
 split at e
 ·rename_i d0
  obtain⟨ys,e2,e⟩:=Zo e
  obtain⟨ns,e3,e⟩:=Zo e
  split at e
  ·rename_i hc
   show Vg _ _ (do Ubx pos (<- eval (.Name "sorted" p) X.env) [] (Uac pos (Vf [a] X.env)) (Ubk pos (Uak [⟨some "key",.Name "abs" p2,kp⟩] X.env))) _ _ _
   refine Va (Zet I hg hm Zpy (Udg (by rw[hs]; rfl) rfl ?_))
   have hA:=ha pos pins s σ H (fun vs H'=>∃ ι',Le X.K H ι H' ι'/\HRep X.K H' ι' H1/\Vj (Rep X.K H' ι') [d0] vs) I ⟨ι,σd,Hd,_,_,sr,hr,e1,fun vs H' ι' l h P=>⟨ι',l,h,P⟩⟩
   rw[hs] at hA ⊢
   refine Ued rfl (thn hA fun us s1 ⟨vs,H2,I2,r2,ι2,l2,h2,P2⟩=>kws_cons (Zet I2 hg2 hm2 Zxc (kws_nil ?_)))
   obtain⟨v,rfl,r⟩:=Zn1 P2
   obtain⟨u,rfl,ru⟩:=Zja r2
   obtain⟨ad,ws,rfl,hq,P3⟩:=Zpj h2 r e2
   cases ru
   have ev:=Zpn e3 P3
   subst ev
   show Vg _ _ (call (.builtin "sorted") [.ref ad] [(Ua "key",.builtin "abs")]) _ _ _
   obtain⟨m,hn,_⟩:=I2.loc
   have Zk9:∃ its:List Vb,Zb4 (ns.map V.int) its/\(∀ R:List Vb->Vd->Prop,R its { s1 with heap:=(s1.heap.push (Uay "list" #[] 0)).update s1.heap.objs.size (Tbc (· ++ its.toArray)) }->Vg (Vl X.prog X.w) X.A.in1 (collect (.ref ad)) R X.xe s1):=by
    rcases hq with hq | hq
    ·obtain⟨its,ri,pl,hz⟩:=I2.list hq
     exact⟨its,ri,fun R hR=>collect_list pl.isList hR (by rw[<- ri.length]; exact hz)⟩
    ·obtain⟨its,ri,pl,hz⟩:=I2.tuple hq
     exact⟨its,ri,fun R hR=>Zrb pl (by rw[<- ri.length]; exact hz) hR⟩
   obtain⟨its,ri,hcol⟩:=Zk9
   have il:its.length=ns.length:=by rw[<- ri.length,Xr]
   refine Zzn hn (Zl7 ri) (by omega) hcol fun h' tk out c hn' kk hat K'=>?_
   have hO:=Ya9 (Zl7 ri) hc.2 K'
   have hl:((Zd0 ns).map V.int).length<=sizeLine:=by
    rw[Xr,(Zcp ns).length_eq]
    have:sizeLine=16777216:=Uba
    omega
   have hp0:H2 (s1.heap.objs.size+1)=none:=I2.hok.fresh (Wea _)
   refine⟨.ref (s1.heap.objs.size+1),_,Zop (o:=.lst ((Zd0 ns).map V.int)) I2 kk (fun m' hm'=>by rw[hm'.eq_nsMap,<- hn.eq_nsMap]; exact hn') (Wea _) ⟨hl,out.toList,c,Zoo hO,by simpa using hat⟩,rfl,?_⟩
   have hz2:((Zd0 ns).map D.int).length<=sizeLine:=by simpa using hl
   exact(Zhi h2 (Zpc (Zd0 ns)) (show mkL ((Zd0 ns).map D.int) H1=some (d,Hd') by unfold mkL; rw[if_pos hz2,e]) (fun v H' ι' l h r=>q v H' ι' (l2.trans l) h r)).2 _ hp0
  ·cases e
 ·cases e
open Builtin.SmallTypes (nextOf)
def SqI (b:Bool) (h:Vy) (i l:Ve) (n:Nat):Prop:=∃ o,h.get? i=some o/\o.cls=.type (if b then "list_iterator" else "tuple_iterator")/\o.data=.fields #[.ref l,.int n 0]
def SqX (b:Bool) (h:Vy) (l:Ve) (xs:Array Vb):Prop:=∃ o,h.get? l=some o/\o.cls=.type (if b then "list" else "tuple")/\∃ n,o.data=.seq xs n
theorem SqI.mv {b:Bool} {h h':Vy} {i l:Ve} {n:Nat} (x:SqI b h i l n) (k:∀ o,h.get? i=some o->h'.get? i=some o):SqI b h' i l n:=let ⟨o,e,r⟩:=x; ⟨o,k o e,r⟩
theorem SqX.mv {b:Bool} {h h':Vy} {l:Ve} {xs:Array Vb} (x:SqX b h l xs) (k:∀ o,h.get? l=some o->h'.get? l=some o):SqX b h' l xs:=let ⟨o,e,r⟩:=x; ⟨o,k o e,r⟩
theorem SqI.lt {b:Bool} {h:Vy} {i l:Ve} {n:Nat} (x:SqI b h i l n):i<h.objs.size:=let ⟨_,e,_⟩:=x; Xf e
section
variable {prog:Vi} {w:Vs} {A:Vr} {E:Vb->Vd->Prop} {s:Vd}
theorem Zni {b:Bool} {i l:Ve} {n:Nat} {xs:Array Vb} {x:Vb} {Q:Vb->Vd->Prop} (hi:SqI b s.heap i l n) (hl:SqX b s.heap l xs) (hx:xs[n]? = some x)
  (hQ:∀ h',SqI b h' i l (n+1)->Xw i s.heap h'->Q x { s with heap:=h' }):Vg (Vl prog w) A (nextOf (.ref i)) Q E s:=by
 cases b
 ·exact Zrg hi hl hx hQ
 ·exact wpAny_nextOf_list_item hi hl hx hQ
theorem Zwl {b:Bool} {i l:Ve} {n:Nat} {xs:Array Vb} {Q:Vb->Vd->Prop} (hh:A.handled=none) (hi:SqI b s.heap i l n) (hl:SqX b s.heap l xs) (hx:xs[n]? = none)
  (hE:∀ h' e,Web i s.heap h'->(∃ o,h'.get? e=some o/\o.cls=.type "StopIteration")->E (.ref e) { s with heap:=h' }):Vg (Vl prog w) A (nextOf (.ref i)) Q E s:=by
 cases b
 ·exact Zwj hh hi hl hx hE
 ·exact wpAny_nextOf_list_end hh hi hl hx hE
variable {z TI TO i1 i2 l1 l2:Ve} {k1 k2:Nat} {xs ys:Array Vb} {b1 b2:Bool}
theorem Ye9 {x y a b:Vb} {Q:Vb->Vd->Prop} (D:Udw z TI TO i1 i2 l1 l2) (hz:Udr s.heap z TI TO .none) (hTI:Uaz s.heap TI (.ref i1) (.ref i2)) (hTO:Uaz s.heap TO a b)
  (h1:SqI b1 s.heap i1 l1 k1) (h2:SqI b2 s.heap i2 l2 k2) (hl1:SqX b1 s.heap l1 xs) (hl2:SqX b2 s.heap l2 ys) (hx:xs[k1]? = some x) (hy:ys[k2]? = some y)
  (hQ:∀ h',Udr h' z TI TO (Uad s.heap.objs.size)->Uaz h' TO x y->SqI b1 h' i1 l1 (k1+1)->SqI b2 h' i2 l2 (k2+1)->Uaz h' s.heap.objs.size x y->h'.objs.size=s.heap.objs.size+1 ->
   (∀ c o,c≠z->c≠TO->c≠i1->c≠i2->s.heap.get? c=some o->h'.get? c=some o)->Q (.ref s.heap.objs.size) { s with heap:=h' }) :
  Vg (Vl prog w) A (Builtin.«zip.__next__» ⟨[.ref z],[]⟩) (fun fin s'=>∃ v,fin=.done (.ret v)/\Q v s') E s:=by
 show Vg _ _ (Udp (.ref z) 2 >>= _) _ _ s
 refine Va (Vn hz rfl (x:=.bool false) rfl (show Vg _ _ (Udp (.ref z) 3 >>= _) _ _ _ from Va (Vn hz rfl (x:=.ref TI) rfl (Va (Ual hTI rfl ?_)))))
 show Vg _ _ (Uc (.ref z) >>= _) _ E s
 unfold Uc
 refine Va (Va (Vn hz rfl (x:=.none) rfl (Vc ?_)))
 simp only[if_true]
 refine Va (Ubj (Va (Vn hz rfl (x:=.ref TO) rfl (Va (Vm hz (by simp) fun g1 (e1:Udr g1 z TI TO .ellipsis) t1=>Va ?_)))))
 simp only[Wgj,Wgo,Wex,Wgr]
 refine Va (Va (Uch (show Vg _ _ (nextOf (.ref i1) >>= _) _ _ _ from Va (Zni (h1.mv fun o e=>t1.extBut _ _ D.i1z e) (hl1.mv fun o e=>t1.extBut _ _ D.l1z e) hx fun g2 n2 t2=>Vc ?_))))
 have p2:Uaz g2 TO a b:=t2.extBut _ _ D.TOi1 (t1.extBut _ _ D.TOz hTO)
 refine Va (Ual p2 rfl (Va (Ubn p2 fun g3 (p3:Uaz g3 TO x b) t3=>Va (Ubu (Vc ?_)))))
 refine Va (Va (Uch (show Vg _ _ (nextOf (.ref i2) >>= _) _ _ _ from Va (Zni (h2.mv fun o e=>t3.extBut _ _ D.TOi2.symm (t2.extBut _ _ D.i12.symm (t1.extBut _ _ D.i2z e))) (hl2.mv fun o e=>t3.extBut _ _ D.l2TO (t2.extBut _ _ D.l2i1 (t1.extBut _ _ D.l2z e))) hy fun g4 n4 t4=>Vc ?_))))
 have p4:Uaz g4 TO x b:=t4.extBut _ _ D.TOi2 p3
 refine Va (Ual p4 rfl (Va (Ubn p4 fun g5 (p5:Uaz g5 TO x y) t5=>Va (Ubu (Vc (Vc ?_))))))
 have sz:g5.objs.size=s.heap.objs.size:=by rw[t5.1,t4.1,t3.1,t2.1,t1.1]
 have e5:Udr g5 z TI TO .ellipsis:=t5.extBut _ _ D.TOz.symm (t4.extBut _ _ D.i2z.symm (t3.extBut _ _ D.TOz.symm (t2.extBut _ _ D.i1z.symm e1)))
 have kp5:∀ c o,c≠z->c≠TO->c≠i1->c≠i2->s.heap.get? c=some o->g5.get? c=some o:=fun c o c1 c2 c3 c4 e=>t5.extBut _ _ c2 (t4.extBut _ _ c4 (t3.extBut _ _ c2 (t2.extBut _ _ c3 (t1.extBut _ _ c1 e))))
 have n15:SqI b1 g5 i1 l1 (k1+1):=n2.mv fun o e=>t5.extBut _ _ D.TOi1.symm (t4.extBut _ _ D.i12 (t3.extBut _ _ D.TOi1.symm e))
 have n25:SqI b2 g5 i2 l2 (k2+1):=n4.mv fun o e=>t5.extBut _ _ D.TOi2.symm e
 have zl:z<g5.objs.size:=Xf e5
 refine Va (Ual p5 rfl (Va (Udi ?_)))
 show Vg _ _ (Ud (.ref z) (.ref g5.objs.size) >>= _) _ _ { s with heap:=_ }
 have e6:Udr (g5.push { cls:=.type "tuple",data:=.seq #[x,y] }) z TI TO .ellipsis:=Xa _ e5
 unfold Ud
 refine Va (Va (Vm e6 (by simp) fun g7 (e7:Udr g7 z TI TO (Uad g5.objs.size)) t7=>Vm e7 (by simp) fun g8 (e8:Udr g8 z TI TO (Uad g5.objs.size)) t8=>?_))
 have up:∀ c o,c≠z->g5.get? c=some o->g8.get? c=some o:=fun c o c1 e=>t8.extBut _ _ c1 (t7.extBut _ _ c1 (Xa _ e))
 have p8:Uaz g8 g5.objs.size x y:=t8.extBut _ _ (Wbr zl) (t7.extBut _ _ (Wbr zl) (Xd _ rfl))
 have s8:g8.objs.size=g5.objs.size+1:=by rw[t8.1,t7.1,Wam]
 rw[sz] at e8 p8 s8
 refine Vc ⟨.ref g5.objs.size,rfl,?_⟩
 rw[sz]
 exact hQ g8 e8 (up _ _ D.TOz p5) (n15.mv fun o e=>up _ o D.i1z e) (n25.mv fun o e=>up _ o D.i2z e) p8 s8 fun c o c1 c2 c3 c4 e=>up c o c1 (kp5 c o c1 c2 c3 c4 e)
theorem Yfx {a b:Vb} {Q:PySem.Fin->Vd->Prop} (hh:A.handled=none) (D:Udw z TI TO i1 i2 l1 l2) (hz:Udr s.heap z TI TO .none) (hTI:Uaz s.heap TI (.ref i1) (.ref i2)) (hTO:Uaz s.heap TO a b)
  (h1:SqI b1 s.heap i1 l1 k1) (h2:SqI b2 s.heap i2 l2 k2) (hl1:SqX b1 s.heap l1 xs) (hl2:SqX b2 s.heap l2 ys) (hend:xs[k1]? = none\/ys[k2]? = none)
  (hE:∀ h' e,(∀ c o,c≠z->c≠TO->c≠i1->c≠i2->s.heap.get? c=some o->h'.get? c=some o)->(∃ o,h'.get? e=some o/\o.cls=.type "StopIteration")->E (.ref e) { s with heap:=h' }) :
  Vg (Vl prog w) A (Builtin.«zip.__next__» ⟨[.ref z],[]⟩) Q E s:=by
 show Vg _ _ (Udp (.ref z) 2 >>= _) _ _ s
 refine Va (Vn hz rfl (x:=.bool false) rfl (show Vg _ _ (Udp (.ref z) 3 >>= _) _ _ _ from Va (Vn hz rfl (x:=.ref TI) rfl (Va (Ual hTI rfl ?_)))))
 show Vg _ _ (Uc (.ref z) >>= _) _ E s
 unfold Uc
 refine Va (Va (Vn hz rfl (x:=.none) rfl (Vc ?_)))
 simp only[if_true]
 refine Va (Ubj (Va (Vn hz rfl (x:=.ref TO) rfl (Va (Vm hz (by simp) fun g1 (e1:Udr g1 z TI TO .ellipsis) t1=>Va ?_)))))
 simp only[Wgj,Wgo,Wex,Wgr]
 refine Va (Va (Uch (show Vg _ _ (nextOf (.ref i1) >>= _) _ _ _ from ?_)))
 have hi1:=h1.mv (h':=g1) fun o e=>t1.extBut _ _ D.i1z e
 have hq1:=hl1.mv (h':=g1) fun o e=>t1.extBut _ _ D.l1z e
 cases hx:xs[k1]? with
 | none =>
  refine Va (Zwl hh hi1 hq1 hx fun g2 e t2 zz=>?_)
  obtain⟨oe,ho,hc⟩:=zz
  have e2:Udr g2 z TI TO .ellipsis:=t2 _ _ D.i1z.symm e1
  have ne:e≠z:=fun q=>by subst q; rw[e2] at ho; cases ho; simp at hc
  exact Vm e2 (by simp) fun g3 _ t3=>hE g3 e (fun c o c1 _ c3 _ q=>t3.extBut _ _ c1 (t2 _ _ c3 (t1.extBut _ _ c1 q))) ⟨oe,t3.extBut _ _ ne ho,hc⟩
 | some x =>
  have hy:ys[k2]? = none:=hend.resolve_left fun q=>by rw[hx] at q; cases q
  refine Va (Zni hi1 hq1 hx fun g2 n2 t2=>Vc ?_)
  have p2:Uaz g2 TO a b:=t2.extBut _ _ D.TOi1 (t1.extBut _ _ D.TOz hTO)
  refine Va (Ual p2 rfl (Va (Ubn p2 fun g3 _ t3=>Va (Ubu (Vc ?_)))))
  refine Va (Va (Uch (show Vg _ _ (nextOf (.ref i2) >>= _) _ _ _ from Va (Zwl hh (h2.mv fun o e=>t3.extBut _ _ D.TOi2.symm (t2.extBut _ _ D.i12.symm (t1.extBut _ _ D.i2z e))) (hl2.mv fun o e=>t3.extBut _ _ D.l2TO (t2.extBut _ _ D.l2i1 (t1.extBut _ _ D.l2z e))) hy fun g4 e t4 zz=>?_))))
  obtain⟨oe,ho,hc⟩:=zz
  have e4:Udr g4 z TI TO .ellipsis:=t4 _ _ D.i2z.symm (t3.extBut _ _ D.TOz.symm (t2.extBut _ _ D.i1z.symm e1))
  have ne:e≠z:=fun q=>by subst q; rw[e4] at ho; cases ho; simp at hc
  exact Vm e4 (by simp) fun g5 _ t5=>hE g5 e (fun c o c1 c2 c3 c4 q=>t5.extBut _ _ c1 (t4 _ _ c4 (t3.extBut _ _ c2 (t2.extBut _ _ c3 (t1.extBut _ _ c1 q))))) ⟨oe,t5.extBut _ _ ne ho,hc⟩
theorem Ygs {x y a b:Vb} {Q:Option Vb->Vd->Prop} (D:Udw z TI TO i1 i2 l1 l2) (hz:Udr s.heap z TI TO .none) (hTI:Uaz s.heap TI (.ref i1) (.ref i2)) (hTO:Uaz s.heap TO a b)
  (h1:SqI b1 s.heap i1 l1 k1) (h2:SqI b2 s.heap i2 l2 k2) (hl1:SqX b1 s.heap l1 xs) (hl2:SqX b2 s.heap l2 ys) (hx:xs[k1]? = some x) (hy:ys[k2]? = some y)
  (hQ:∀ h',Udr h' z TI TO (Uad s.heap.objs.size)->Uaz h' TO x y->SqI b1 h' i1 l1 (k1+1)->SqI b2 h' i2 l2 (k2+1)->Uaz h' s.heap.objs.size x y->h'.objs.size=s.heap.objs.size+1 ->
   (∀ c o,c≠z->c≠TO->c≠i1->c≠i2->s.heap.get? c=some o->h'.get? c=some o)->Q (some (.ref s.heap.objs.size)) { s with heap:=h' }):Vg (Vl prog w) A (Ubl (.ref z)) Q E s:=by
 have ty:s.TypeIs (.ref z) "zip" := ⟨_,hz,rfl⟩
 unfold Ubl
 exact Va (Uap (Vk (name:=Ua "__next__") ty Tbg (Vp Tbg ty F.entry_zip_next (Ye9 D hz hTI hTO h1 h2 hl1 hl2 hx hy fun h' a1 a2 a3 a4 a5 a6 a7=>Vc (hQ h' a1 a2 a3 a4 a5 a6 a7)) (Tcl _))))
theorem Yhd {a b:Vb} {Q:Option Vb->Vd->Prop} (hh:A.handled=none) (D:Udw z TI TO i1 i2 l1 l2) (hz:Udr s.heap z TI TO .none) (hTI:Uaz s.heap TI (.ref i1) (.ref i2)) (hTO:Uaz s.heap TO a b)
  (h1:SqI b1 s.heap i1 l1 k1) (h2:SqI b2 s.heap i2 l2 k2) (hl1:SqX b1 s.heap l1 xs) (hl2:SqX b2 s.heap l2 ys) (hend:xs[k1]? = none\/ys[k2]? = none)
  (hQ:∀ h',(∀ c o,c≠z->c≠TO->c≠i1->c≠i2->s.heap.get? c=some o->h'.get? c=some o)->Q none { s with heap:=h' }):Vg (Vl prog w) A (Ubl (.ref z)) Q E s:=by
 have ty:s.TypeIs (.ref z) "zip" := ⟨_,hz,rfl⟩
 unfold Ubl
 refine Va (Uap (Vk (name:=Ua "__next__") ty Tbg (Vp Tbg ty F.entry_zip_next (Yfx hh D hz hTI hTO h1 h2 hl1 hl2 hend fun h' e hk ⟨o,ho,hc⟩=>?_) (Tcl _))))
 exact Va (Ubm (T := "StopIteration") (b:=true) ⟨o,ho,hc⟩ Uce (Vc (hQ _ hk)))
nonrec def itO (b:Bool) (l:Ve):Obj:={ cls:=.type (if b then "list_iterator" else "tuple_iterator"),data:=.fields #[.ref l,.int 0 0] }
theorem Zya {b:Bool} {l:Ve} {xs:Array Vb} {Q:Vb->Vd->Prop} (hl:SqX b s.heap l xs) (h:Q (.ref s.heap.objs.size) { s with heap:=s.heap.push (itO b l) }):Vg (Vl prog w) A (pyIter (.ref l)) Q E s:=by
 cases b
 ·exact Uaj hl h
 ·exact Uao hl h
nonrec def zh2 (h:Vy) (b1 b2:Bool) (l1 l2:Ve):Vy:=(h.push (itO b1 l1)).push (itO b2 l2)
nonrec def zh4 (h:Vy) (b1 b2:Bool) (l1 l2:Ve):Vy:=((zh2 h b1 b2 l1 l2).push { cls:=.type "tuple",data:=.seq #[.ref h.objs.size,.ref (h.push (itO b1 l1)).objs.size] }).push { cls:=.type "tuple",data:=.seq #[.none,.none] }
nonrec def zh5 (h:Vy) (b1 b2:Bool) (l1 l2:Ve):Vy:=(zh4 h b1 b2 l1 l2).push { cls:=.type "zip",data:=.fields #[.none,.bool false,.bool false,.ref (zh2 h b1 b2 l1 l2).objs.size,.ref ((zh2 h b1 b2 l1 l2).push { cls:=.type "tuple",data:=.seq #[.ref h.objs.size,.ref (h.push (itO b1 l1)).objs.size] }).objs.size] }
theorem Zzd (b1 b2:Bool) (l1 l2:Ve) (xs ys:Array Vb):Uen (Builtin.«zip.__new__» ⟨[.type "zip",.ref l1,.ref l2],[]⟩) (fun _ R s=>SqX b1 s.heap l1 xs/\SqX b2 s.heap l2 ys/\R (.ok (.ret (.ref (zh4 s.heap b1 b2 l1 l2).objs.size))) { s with heap:=zh5 s.heap b1 b2 l1 l2 }) :=
 .of_wp fun prog w A R s h=>by
  obtain⟨hp,g,d,tk,os⟩:=s; obtain⟨m1,m2,h⟩:=h
  have sb:=sub_zip
  have M1:SqX b1 (Tbr ⟨hp,g,d,tk,os⟩) l1 xs:=m1
  have M2:SqX b2 (Tbr ⟨hp.push (itO b1 l1),g,d,tk,os⟩) l2 ys:=m2.mv fun o e=>Xa _ e
  wp_walk using Zya M1,Zya M2
  exact⟨_,rfl,h⟩
theorem Zvc {b1 b2:Bool} {l1 l2:Ve} {xs ys:Array Vb} {Q:Vb->Vd->Prop} (m1:SqX b1 s.heap l1 xs) (m2:SqX b2 s.heap l2 ys)
  (h:∀ h',Udr h' (s.heap.objs.size+4) (s.heap.objs.size+2) (s.heap.objs.size+3) .none->Uaz h' (s.heap.objs.size+2) (.ref s.heap.objs.size) (.ref (s.heap.objs.size+1))->Uaz h' (s.heap.objs.size+3) .none .none ->
   SqI b1 h' s.heap.objs.size l1 0->SqI b2 h' (s.heap.objs.size+1) l2 0->(∀ c o,s.heap.get? c=some o->h'.get? c=some o)->Q (.ref (s.heap.objs.size+4)) { s with heap:=h' }) :
  Vg (Vl prog w) A (call (.type "zip") [.ref l1,.ref l2]) Q E s:=by
 refine Uec F.called_zip (by decide) (F.typeCall_zip_2 _ _) (F.newCall_zip_2 _ _) (fun obj=>F.args_object_init_3 obj _ _) F.entry_zip_new (Zzd b1 b2 l1 l2 xs ys) ⟨m1,m2,?_⟩
 let n:=s.heap.objs.size
 have s1:(s.heap.push (itO b1 l1)).objs.size=n+1:=Wam ..
 have s2:(zh2 s.heap b1 b2 l1 l2).objs.size=n+2:=(Wam ..).trans (by rw[s1])
 have s3:((zh2 s.heap b1 b2 l1 l2).push { cls:=.type "tuple",data:=.seq #[.ref s.heap.objs.size,.ref (s.heap.push (itO b1 l1)).objs.size] }).objs.size=n+3:=(Wam ..).trans (by rw[s2])
 have s4:(zh4 s.heap b1 b2 l1 l2).objs.size=n+4:=(Wam ..).trans (by rw[s3])
 have g5:(zh5 s.heap b1 b2 l1 l2).get? (zh4 s.heap b1 b2 l1 l2).objs.size=some _:=Xd _ rfl
 have g4:(zh5 s.heap b1 b2 l1 l2).get? ((zh2 s.heap b1 b2 l1 l2).push { cls:=.type "tuple",data:=.seq #[.ref s.heap.objs.size,.ref (s.heap.push (itO b1 l1)).objs.size] }).objs.size=some _:=Xa _ (Xd _ rfl)
 have g3:(zh5 s.heap b1 b2 l1 l2).get? (zh2 s.heap b1 b2 l1 l2).objs.size=some _:=Xa _ (Xa _ (Xd _ rfl))
 have g2:(zh5 s.heap b1 b2 l1 l2).get? (s.heap.push (itO b1 l1)).objs.size=some (itO b2 l2):=Xa _ (Xa _ (Xa _ (Xd _ rfl)))
 have g1:(zh5 s.heap b1 b2 l1 l2).get? s.heap.objs.size=some (itO b1 l1):=Xa _ (Xa _ (Xa _ (Xa _ (Xd _ rfl))))
 show _/\_
 rw[s2,s3,s4] at g5
 rw[s1,s2] at g3
 rw[s3] at g4
 rw[s1] at g2
 rw[s4]
 exact⟨⟨_,g5,rfl⟩,h _ g5 g3 g4 ⟨_,g1,rfl,rfl⟩ ⟨_,g2,rfl,rfl⟩ fun c o e=>Xa _ (Xa _ (Xa _ (Xa _ (Xa _ e))))⟩
end
def SqB (K:Xb) (b:Bool) (H:Hp) (l:Ve) (xs:List V):Prop:=if b=true then H l=some (.lst xs) else SqT K H l xs
nonrec def Zym (d:D) (H:HD):Option (List D×Zh4):=match d with
 | .tup xs=>some (xs,[])
 | .ref n=>match H[n]? with
  | some (.lst xs)=>some (xs,[(n,.lst xs)])
  | _=>none
 | _=>none
theorem Zro {d:D} {H:HD} {xs:List D} {own:Zh4} (e:Zym d H=some (xs,own)):Zci own H:=by
 unfold Zym at e
 split at e
 ·cases e; intro p hp; cases hp
 ·split at e
  ·rename_i eo
   cases e
   intro p hp
   simp at hp; subst hp; exact eo
  ·cases e
 ·cases e
theorem Ybq {K:Xb} {H:Hp} {ι:List Ve} {Hd:HD} {d:D} {v:V} {xs:List D} {own:Zh4} (r:Rep K H ι d v) (e:Zym d Hd=some (xs,own)) :
  ∃ b l,v=.ref l/\∀ H2 ι2 Hd2,Le K H ι H2 ι2->HRep K H2 ι2 Hd2->Zci own Hd2->∃ ws,SqB K b H2 l ws/\Vj (Rep K H2 ι2) xs ws:=by
 unfold Zym at e
 split at e
 ·cases e
  obtain⟨a,vs,rfl,h,p⟩:=Zbe.mp r
  refine⟨false,a,rfl,fun H2 ι2 Hd2 l2 h2 _=>?_⟩
  obtain⟨a',ws,ea,h',p'⟩:=Zbe.mp (r.mono l2)
  cases ea
  exact⟨ws,h',p'⟩
 ·rename_i n
  split at e
  ·rename_i ys eo
   cases e
   obtain⟨a,rfl,ha⟩:=Zay.mp r
   refine⟨true,a,rfl,fun H2 ι2 Hd2 l2 h2 ok=>?_⟩
   obtain⟨ws,g,p⟩:=h2.obj n a _ (l2.get ha) (ok (n,.lst xs) (by simp))
   exact⟨ws,g,p⟩
  ·cases e
 ·cases e
section
variable {X:Cx} {pins:List (Ve×Obj)} {σ:L2.St} {H:Hp} {s:Vd} {b:Bool} {l:Ve} {xs ys:List V}
theorem Zis (I:Inv X pins σ H s) (h:SqB X.K b H l xs):∃ its:List Vb,Zb4 xs its/\SqX b s.heap l its.toArray:=by
 cases b with
 | true =>
  obtain⟨its,r,p,_⟩:=I.list (SqL.of (K:=X.K) (show H l=some (.lst xs) from h))
  exact⟨its,r,p.isList⟩
 | false =>
  obtain⟨its,r,p,_⟩:=I.tuple (show SqT X.K H l xs from h)
  exact⟨its,r,p⟩
theorem Zwu (I:Inv X pins σ H s) (h:SqB X.K b H l xs) (h':SqB X.K b H l ys):xs=ys:=by
 cases b with
 | true =>
  have e1:H l=some (.lst xs):=h
  have e2:H l=some (.lst ys):=h'
  rw[e1] at e2; cases e2; rfl
 | false=>exact I.tuple_inj (show SqT X.K H l xs from h) h'
theorem Zsm (I:Inv X pins σ H s) (h:SqB X.K b H l xs) {q:Ve} (f:Znd X pins H q):l≠q:=fun e=>by
 subst e
 have n0:=f.1
 cases b with
 | true =>
  have e1:H l=some (.lst xs):=h
  rw[n0] at e1; cases e1
 | false =>
  rcases(show SqT X.K H l xs from h) with h | ⟨o,its,n,hk,_⟩
  ·rcases h with h | ⟨o,h⟩<;>rw[n0] at h<;>cases h
  ·have e1:=I.ok.mod.kin l o hk
   rcases f.2.2.2.1 with z | z
   ·exact I.ok.noex l o e1 z
   ·exact absurd (Xj (Xf (I.ok.bs l o e1).1) z) (Wav _)
end
nonrec def ItzS (K:Xb) (b1 b2:Bool) (l m:Ve):It :=
 ⟨fun i H=>∃ xs ys x y,SqB K b1 H l xs/\SqB K b2 H m ys/\xs[i]? = some x/\ys[i]? = some y,
  fun i H v H'=>∃ p x y,H p=none/\v=.ref p/\H'=upd H p (.tup [x,y])/\(∀ xs,SqB K b1 H l xs->xs[i]? = some x)/\∀ ys,SqB K b2 H m ys->ys[i]? = some y,
  fun i H=>∃ xs ys,SqB K b1 H l xs/\SqB K b2 H m ys/\(xs.length<=i\/ys.length<=i)⟩
theorem Zws {P:Vi} {w:Vs} {K:Xb} {es:List Vv} {k:Nat} {pos:Pos} (b1 b2:Bool) (l m z a b c d:Ve) (F5:Five z a b c d) :
  Turn P w K (.Tuple es k pos) (ItzS K b1 b2 l m) [z,a,b,c,d] z (fun i h=>Udr h z a b .none/\Uaz h a (.ref c) (.ref d)/\(∃ u v,Uaz h b u v)/\SqI b1 h c l i/\SqI b2 h d m i) where
 mem:=by simp
 obj:=fun i h st y hy=>by
  obtain⟨h1,h2,⟨u,v,h3⟩,⟨o4,h4,_,d4⟩,o5,h5,_,d5⟩:=st
  simp only[Xi,Wci,or_false] at hy
  rcases hy with rfl | rfl | rfl | rfl | rfl
  ·exact⟨_,h1,fun v z=>by cases z⟩
  ·exact⟨_,h2,fun v z=>by cases z⟩
  ·exact⟨_,h3,fun v z=>by cases z⟩
  ·exact⟨o4,h4,fun v z=>by rw[d4] at z; cases z⟩
  ·exact⟨o5,h5,fun v z=>by rw[d5] at z; cases z⟩
 keep:=fun i h h' st kk=>by
  obtain⟨h1,h2,⟨u,v,h3⟩,⟨o4,h4,r4⟩,o5,h5,r5⟩:=st
  exact⟨kk z (by simp) _ h1,kk a (by simp) _ h2,⟨u,v,kk b (by simp) _ h3⟩,⟨o4,kk c (by simp) _ h4,r4⟩,o5,kk d (by simp) _ h5,r5⟩
 item:=by
  intro X hP hw hK hc i pins s σ H E I hf st hg
  subst hP hw hK
  obtain⟨xs,ys,x,y,hl,hm,hx,hy⟩:=hg
  obtain⟨h1,h2,⟨u,v,h3⟩,h4,h5⟩:=st
  obtain⟨its,rv,p1⟩:=Zis I hl
  obtain⟨jts,rw',p2⟩:=Zis I hm
  obtain⟨ux,hux,rux⟩:=rv.get hx
  obtain⟨uy,huy,ruy⟩:=rw'.get hy
  have nl:∀ q∈[z,a,b,c,d],l≠q:=fun q hq=>Zsm I hl (hf q hq)
  have nm:∀ q∈[z,a,b,c,d],m≠q:=fun q hq=>Zsm I hm (hf q hq)
  have Ap:Udw z a b c d l m:=⟨F5.az,F5.bz,F5.cz,F5.dz,F5.ab,F5.ac,F5.ad,F5.bc,F5.bd,F5.cd,nl z (by simp),nl b (by simp),nl c (by simp),nl d (by simp),nm z (by simp),nm b (by simp),nm c (by simp),nm d (by simp)⟩
  refine Ygs Ap h1 h2 h3 h4 h5 p1 p2 (x:=ux) (y:=uy) (by simpa using hux) (by simpa using huy) fun h' g1 g3 g4 g5 g6 g7 kk=>?_
  refine⟨_,rfl,wpAny_letOwnedTupleGo_zip (s:={ s with heap:=h' }) g1 fun h2' g1' s2=>?_⟩
  replace s2:Xw z h' h2':=s2
  have up:∀ q o,q∉[z,b,c,d]->s.heap.get? q=some o->h2'.get? q=some o:=fun q o hq e =>
   s2.extBut q o (fun e=>hq (by simp[e])) (kk q o (fun e=>hq (by simp[e])) (fun e=>hq (by simp[e])) (fun e=>hq (by simp[e])) (fun e=>hq (by simp[e])) e)
  have nz:s.heap.objs.size≠z:=Wbr (Xf h1)
  have hf':∀ q∈[z,b,c,d],Znd X pins H q:=fun q hq=>hf q (by simp at hq ⊢; rcases hq with rfl | rfl | rfl | rfl<;>simp)
  have t2:h2'.get? s.heap.objs.size=some { cls:=.type "tuple",data:=.seq [ux,uy].toArray 0 }:=s2.extBut _ _ nz g6
  have I2:=Zza (tk:=s.toks) (vs:=[x,y]) I hf' up t2 (.cons rux (.cons ruy .nil)) (by show 2<=sizeLine; decide)
  have hp0:H s.heap.objs.size=none:=I.hok.fresh (Xe _)
  refine⟨.ref s.heap.objs.size,_,I2,rfl,⟨_,x,y,hp0,rfl,rfl,fun zs hz=>?_,fun zs hz=>?_⟩,⟨g1',?_,⟨ux,uy,?_⟩,?_,?_⟩,fun q hq=>?_⟩
  ·rw[<- Zwu I hl hz]; exact hx
  ·rw[<- Zwu I hm hz]; exact hy
  ·exact up a _ (by simp[F5.az,F5.ab,F5.ac,F5.ad]) h2
  ·exact s2.extBut _ _ F5.bz g3
  ·exact g4.mv fun o e=>s2.extBut _ _ F5.cz e
  ·exact g5.mv fun o e=>s2.extBut _ _ F5.dz e
  ·have hb2:q≠s.heap.objs.size:=by
    have lt:∀ {q o},s.heap.get? q=some o->q≠s.heap.objs.size:=fun e=>Xh (Xf e)
    simp only[Xi,Wci,or_false] at hq
    rcases hq with rfl | rfl | rfl | rfl | rfl
    ·exact lt h1
    ·exact lt h2
    ·exact lt h3
    ·exact Xh h4.lt
    ·exact Xh h5.lt
   rw[Zah hb2]; exact(hf q hq).1
 done:=by
  intro X hP hw hK hc i pins s σ H E I hf st hg
  subst hP hw hK
  obtain⟨xs,ys,hl,hm,hx⟩:=hg
  obtain⟨h1,h2,⟨u,v,h3⟩,h4,h5⟩:=st
  obtain⟨its,rv,p1⟩:=Zis I hl
  obtain⟨jts,rw',p2⟩:=Zis I hm
  have nl:∀ q∈[z,a,b,c,d],l≠q:=fun q hq=>Zsm I hl (hf q hq)
  have nm:∀ q∈[z,a,b,c,d],m≠q:=fun q hq=>Zsm I hm (hf q hq)
  have Ap:Udw z a b c d l m:=⟨F5.az,F5.bz,F5.cz,F5.dz,F5.ab,F5.ac,F5.ad,F5.bc,F5.bd,F5.cd,nl z (by simp),nl b (by simp),nl c (by simp),nl d (by simp),nm z (by simp),nm b (by simp),nm c (by simp),nm d (by simp)⟩
  have e1:=rv.length
  have e2:=rw'.length
  refine Yhd (I.ok.hd hc) Ap h1 h2 h3 h4 h5 p1 p2 (by simp; omega) fun h' kk=>⟨rfl,Zys (tk:=s.toks) (ch:=[z,b,c,d]) I (fun q hq=>hf q (by simp at hq ⊢; rcases hq with rfl | rfl | rfl | rfl<;>simp)) fun q o hq e=>?_⟩
  exact kk q o (fun e=>hq (by simp[e])) (fun e=>hq (by simp[e])) (fun e=>hq (by simp[e])) (fun e=>hq (by simp[e])) e
 self:=fun _ _ _ _ _ st h=>wpAny_pyIter_zip st.1 h
nonrec def Zw0 (f:AF):ItF:=fun σ H=>(f σ H).bind fun p=>match p.1 with
 | [d1,d2]=>(Zym d1 p.2).bind fun a=>(Zym d2 p.2).map fun b=>((Zsg a.1 b.1,a.2++b.2),p.2)
 | _=>none
theorem Zr0 {X:Cx} {es:List Vv} {k:Nat} {tp p pos:Pos} {a b:Vv} {f:AF} (hg:Gl X "zip") (hm:X.mg "zip" = none) (ha:PAf X [a,b] f) (hs:Vf [a,b] X.env=[(false,eval a X.env),(false,eval b X.env)]:=by rfl) (hs2:Vf [b] X.env=[(false,eval b X.env)]:=by rfl) :
  PIf X (.Tuple es k tp) (.Call (.Name "zip" p) [a,b] [] pos) (Zw0 f):=by
 rintro pins s σ H R I ⟨ι,σd,Hd,xs,own,Hd',sr,hr,e,q⟩
 obtain⟨⟨ds,H1⟩,e1,e⟩:=Zo e
 dsimp only at e
 split at e
 ·rename_i d1 d2
  obtain⟨⟨us,ow1⟩,en,e⟩:=Zo e
  obtain⟨⟨vs,ow2⟩,em,e⟩:=Zm e
  cases e
  refine Call_ (Zet I hg hm boot_zip (Ui (thn (ha pos pins s σ H (fun vs H'=>∃ b1 b2 l m xs ys,vs=[.ref l,.ref m]/\SqB X.K b1 H' l xs/\SqB X.K b2 H' m ys/\R (ItzS X.K b1 b2 l m) H') I ⟨ι,σd,Hd,_,_,sr,hr,e1,fun ws H' ι' l h P=>?_⟩) fun us s1 ⟨vs,H2,I2,r2,q2⟩=>?_) (by rw[hs,hs2]) (by rw[hs2]; rfl)))
  ·obtain⟨v,v',rfl,r,r'⟩:=Yex P
   obtain⟨c1,l1,rfl,at1⟩:=Ybq r en
   obtain⟨c2,l2,rfl,at2⟩:=Ybq r' em
   obtain⟨xs1,o1,P1⟩:=at1 H' ι' Hd' Le.refl h (Zro en)
   obtain⟨xs2,o2,P2⟩:=at2 H' ι' Hd' Le.refl h (Zro em)
   have ok1:∀ {Hd2:HD},Zci (ow1++ow2) Hd2->Zci ow1 Hd2:=fun ok p hp=>ok p (by simp[hp])
   have ok2:∀ {Hd2:HD},Zci (ow1++ow2) Hd2->Zci ow2 Hd2:=fun ok p hp=>ok p (by simp[hp])
   refine⟨c1,c2,l1,l2,xs1,xs2,rfl,o1,o2,q _ H' ι' l h ⟨fun i H2 ι2 Hd2 l2' h2 ok hi=>?_,fun i H2 ι2 Hd2 d x H3 l2' h2 ok hd y=>?_,fun i H2 ι2 Hd2 l2' h2 ok hi=>?_⟩⟩
   ·obtain⟨ws1,g1,Q1⟩:=at1 H2 ι2 Hd2 l2' h2 (ok1 ok)
    obtain⟨ws2,g2,Q2⟩:=at2 H2 ι2 Hd2 l2' h2 (ok2 ok)
    rw[Zmp] at hi
    dsimp only at hi
    have z1:=Prd.len Q1
    have z2:=Prd.len Q2
    exact⟨ws1,ws2,ws1[i]'(by omega),ws2[i]'(by omega),g1,g2,by simp,by simp⟩
   ·obtain⟨ws1,g1,Q1⟩:=at1 H2 ι2 Hd2 l2' h2 (ok1 ok)
    obtain⟨ws2,g2,Q2⟩:=at2 H2 ι2 Hd2 l2' h2 (ok2 ok)
    obtain⟨p,u1,u2,hp,rfl,rfl,y1,y2⟩:=y
    obtain⟨d1,d2,w1,w2,rfl⟩:=Zrr hd
    obtain⟨c1,k1,t1⟩:=Prd.get Q1 w1
    obtain⟨c2,k2,t2⟩:=Prd.get Q2 w2
    have x1:=y1 _ g1
    have x2:=y2 _ g2
    rw[k1] at x1
    rw[k2] at x2
    cases x1
    cases x2
    exact⟨ι2,Le.fresh hp _,h2.tup hp _,Zbe.mpr ⟨p,_,rfl,SqT.of Zas,.cons (t1.mono (Le.fresh hp _)) (.cons (t2.mono (Le.fresh hp _)) .nil)⟩⟩
   ·obtain⟨ws1,g1,Q1⟩:=at1 H2 ι2 Hd2 l2' h2 (ok1 ok)
    obtain⟨ws2,g2,Q2⟩:=at2 H2 ι2 Hd2 l2' h2 (ok2 ok)
    rw[Zmp] at hi
    dsimp only at hi
    have z1:=Prd.len Q1
    have z2:=Prd.len Q2
    exact⟨ws1,ws2,g1,g2,by omega⟩
  ·obtain⟨c1,c2,l,m,xs,ys,rfl,o1,o2,q2⟩:=q2
   obtain⟨u1,u2,rfl,ru1,ru2⟩:=Zw3 r2
   cases ru1
   cases ru2
   obtain⟨its,_,p1⟩:=Zis I2 o1
   obtain⟨jts,_,p2⟩:=Zis I2 o2
   refine Zvc p1 p2 fun h' hz ha hb hc hd kk=>?_
   have I3:Inv X pins σ H2 { s1 with heap:=h' }:=I2.kept (t':=s1.toks) kk
   refine wpAny_pyIter_zip (s:={ s1 with heap:=h' }) hz ?_
   have ne:∀ {i j:Nat},i≠j->(s1.heap.objs.size+i:Nat)≠s1.heap.objs.size+j:=fun h z=>h (Nat.add_left_cancel z)
   have F5:Five (s1.heap.objs.size+4) (s1.heap.objs.size+2) (s1.heap.objs.size+3) s1.heap.objs.size (s1.heap.objs.size+1) :=
    ⟨ne (by decide),ne (by decide),ne (i:=0) (by decide),ne (by decide),ne (by decide),ne (j:=0) (by decide),ne (by decide),ne (j:=0) (by decide),ne (by decide),ne (i:=0) (by decide)⟩
   refine⟨s1.heap.objs.size+4,[s1.heap.objs.size+4,s1.heap.objs.size+2,s1.heap.objs.size+3,s1.heap.objs.size,s1.heap.objs.size+1],_,ItzS X.K c1 c2 l m,H2,rfl,I3,Zws c1 c2 l m _ _ _ _ _ F5,⟨hz,ha,⟨_,_,hb⟩,hc,hd⟩,fun b hb=>?_,q2⟩
   have:s1.heap.objs.size<=b:=by
    simp only[Xi,Wci,or_false] at hb
    rcases hb with rfl | rfl | rfl | rfl | rfl<;>first | exact Nat.le_add_right _ _ | exact Xe _
   exact I2.fpOk (b:=b) (H':=H2) this (I2.hok.fresh this)
 ·cases e
section
variable {X:Cx} {e:Vv} {pos:Pos}
nonrec def Yd5:SF:=fun _ _=>none
theorem Yc2 {st:Vw}:PSf X st Yd5:=by
 rintro pins s σ H E I ⟨ι,σd,Hd,fl,σd',Hd',_,_,e,_⟩
 cases e
nonrec def Yap:D->Option Int
 | .int i=>some i
 | _=>none
nonrec def sAug (g:Int->Int->Int) (i:Nat) (f:EF):SF:=fun σ H=>((σ[i]?).join.bind Yap).bind fun a=>(f σ H).bind fun p=>(Yap p.1).map fun b=>(.nx,σ.set i (some (.int (g a b))),p.2)
theorem Zl3 {d:D} {i:Int} (h:Yap d=some i):d=.int i:=by
 cases d<;>simp[Yap] at h
 rw[h]
theorem Yb9 {i:Nat} {x:Str} {f:EF} {op:Uee} {g:Int->Int->Int} {pos':Pos} (ho:PIp X op (ipI g)) (hN:X.N.Nodup) (hi:X.N[i]? = some x) (hx:Loc X.env.scope x) (he:PEf X e f)
  (hf:X.fn x=true\/X.env.scope.names.lookup x=some .local:=by first | exact .inl rfl | exact .inr rfl | assumption):PSf X (.AugAssign (.Name x pos') op e pos) (sAug g i f):=by
 refine PSi (Ygo hN hi hx he ho hf) fun E σ H zz=>?_
 obtain⟨ι,σd,Hd,fl,σd',Hd',s,hr,e,q⟩:=zz
 obtain⟨a,e0,e⟩:=Zo e
 obtain⟨d,e1,e2⟩:=Zo e0
 have:=Zl3 e2
 subst this
 obtain⟨⟨y,H1⟩,e3,e⟩:=Zo e
 obtain⟨b,e4,e⟩:=Zm e
 have:=Zl3 e4
 dsimp only at this e
 subst this
 cases e
 have hv:σd[i]? = some (some (.int a)):=by
  cases hx:σd[i]? with
  | none=>rw[hx] at e1; cases e1
  | some o=>rw[hx] at e1; exact congrArg some e1
 obtain⟨v,h1,h2⟩:=s.var i _ hv
 simp at h2
 subst h2
 refine⟨_,h1,ι,σd,Hd,_,_,s,hr,e3,fun v H' ι' l h r=>?_⟩
 simp at r
 subst r
 refine⟨a,b,rfl,rfl,q _ H' ι' l h ((s.mono l).set (by simp) i)⟩
end
structure BlkOk2 (X:Cx) (scope:Ubo) (x y:Str) (cn:List Str) (ci:List Nat):Prop where
 kind:scope.kind=.function
 nocell:∀ y∈scope.names,y.2≠.cell
 names:∀ y∈scope.names,y.2=.local->scope.names.lookup y.1=some .local
 tgt:scope.names.lookup x=some .local
 tgt2:scope.names.lookup y=some .local
 free:∀ y∈scope.names,y.2=.free->(X.env.cells.lookup y.1).isSome=true
 nd:(x::y::cn).Nodup
 len:ci.length=cn.length
 cap:∀ (j:Nat) (y:Str),cn[j]? = some y->∃ i,ci[j]? = some i/\X.N[i]? = some y/\scope.names.lookup y=some .free/\(X.env.kindOf y=some .cell\/X.env.kindOf y=some .free)
section
variable {X:Cx} {pins:List (Ve×Obj)} {σ:L2.St} {H:Hp} {s:Vd} {scope:Ubo} {x y0:Str} {cn:List Str} {ci:List Nat} {fp:List Ve}
theorem Zzt {h₁:Vy} {tk:Nat} {o₁:Obj} (I:Inv X pins σ H s) (B:BlkOk2 X scope x y0 cn ci) (hf:∀ b∈fp,Znd X pins H b) (hlt:∀ b∈fp,b<s.heap.objs.size)
  (hns:h₁.Ns s.heap.objs.size (fun _=>none)) (hsb:Xw s.heap.objs.size (s.heap.push o₁) h₁) :
  Inv (blk X scope (x::y0::cn) (Zjb X.env scope.names []) s.heap.objs.size s H fp (X.pn++pins)) [] (none::none::Zla ci σ) H { s with heap:=h₁,toks:=tk }:=by
 have old:∀ b o,s.heap.get? b=some o->h₁.get? b=some o:=fun b o e=>hsb.extBut b o (Xh (Xf e)) (Xa _ e)
 have sub:=Zh9 X.env scope.names [] (by intro x c h; simp at h)
 have has:∀ y,(y,Ue)∈scope.names->∃ c,(Zjb X.env scope.names []).lookup y=some c:=fun y hy =>
  Wak.mp (Znt X.env scope.names [] y (.inr ⟨hy,B.free _ hy rfl⟩))
 refine⟨⟨I.ok.mod,B.kind,I.ok.glob,I.ok.blt,Xe _,fun y z c h1 h2=>I.ok.inj y z c (sub y c h1) (sub z c h2),fun y hy=>has y (Zgd B.nocell hy),fun y c hy=>absurd hy (by show ¬ (false=true); simp),I.ok.hd,I.ok.frames,.inl rfl,
   fun b hb=>⟨Xh (hlt b hb),fun y c e=>(hf b hb).2.2.2.2.1 y c (sub y c e)⟩,I.bs,Waa I.ok.bsz I.sz,fun b o e hb=>?_,fun b hb z=>?_,I.stack,I.stkFree⟩,
  rfl,I.bare,Un.kept old,⟨_,hns,fun i y v h1 h2 h3=>?_⟩,fun y c e=>?_,I.hok.fresh (Xe _),fun y c e=>(I.freeC y c (sub y c e)).imp id fun z=>⟨rfl,z.2⟩,fun p hp=>?_,I.hok.kept old,?_⟩
 ·rcases(hf b hb).2.2.2.1 with z | z
  ·exact I.ok.noex b o e z
  ·exact absurd (Xj (Xf e) (Waa I.ok.bsz z)) (Wav _)
 ·exact(Xi.mp (I.stkSub b z)).elim (hf b hb).2.1 (hf b hb).2.2.1
 ·match i,h1,h2 with
  | 0,h1,h2=>simp at h2
  | 1,h1,h2=>simp at h2
  | j+2,h1,h2 =>
   have h1':cn[j]? = some y:=by simpa [blk] using h1
   have h2':(Zla ci σ)[j]? = some (some v):=by simpa using h2
   obtain⟨i,e1,e2,e3,e4⟩:=B.cap j y h1'
   have e5:σ[i]? = some (some v):=by
    unfold Zla at h2'
    rw[Xp,e1] at h2'
    simp at h2'
    cases e:σ[i]? with
    | none=>rw[e] at h2'; cases h2'
    | some o=>rw[e] at h2'; simp at h2'; rw[h2']
   obtain⟨m,hn,hl⟩:=I.loc
   have hv:Vis X.env.scope y:=by
    rcases e4 with e4 | e4
    ·exact .inr (.inl e4)
    ·exact .inr (.inr e4)
   obtain⟨u,r,l⟩:=hl i y v e2 e5 hv
   refine⟨u,r,.inr ⟨Zhc e3,?_⟩⟩
   obtain⟨c,ec⟩:=has y (Uj e3)
   refine⟨c,ec,?_⟩
   rcases l with ⟨l,_⟩ | ⟨_,c',ec',hc⟩
   ·rcases e4 with e4 | e4<;>rw[e4] at l<;>cases l
   ·rw[sub y c ec] at ec'
    cases ec'
    obtain⟨ob,q1,q2⟩:=hc
    exact⟨ob,old _ _ q1,q2⟩
 ·obtain⟨v,ob,q1,q2⟩:=I.cell y c (sub y c e)
  exact⟨v,ob,old _ _ q1,q2⟩
 ·have hp':p∈X.pn++pins:=by simpa [blk] using hp
  obtain⟨q1,q2,q3,q4,q5⟩:=I.pin p hp'
  refine⟨old _ _ q1,q2,Xh (Xf q1),fun z=>?_,q5⟩
  exact(Xi.mp (I.stkSub p.1 z)).elim q3 q4
 ·simp[blk,Zla,B.len]
def LcW2 (K:Xb) (J:It) (ci:List Nat) (tt:TT) (te:TE) (σ:L2.St) (Q:VK) (H1:Hp):Prop:=∀ p,H1 p=none->∃ W:Nat->Nat->List V->Hp->Prop,(∃ m,W 0 m [] (upd H1 p (.lst [])))/\∀ i m ys H,W i m ys H ->
 H p=some (.lst ys)/\((J.stop i H/\Q (.ref p) H)\/(J.go i H/\∀ v H',J.yld i H v H'->∃ a v1 v2,v=.ref a/\SqT K H' a [v1,v2]/\tt (some v1::some v2::Zla ci σ) H' fun b H2 =>
  if b=true then te (some v1::some v2::Zla ci σ) H2 fun y H3=>H3 p=some (.lst ys)/\ys.length<sizeLine/\∃ m',m'<m/\W (i+1) m' (ys++[y]) (upd H3 p (.lst (ys++[y])))
  else ∃ m',m'<m/\W (i+1) m' ys H2))
theorem Zup {elt iter:Vv} {px py pt pos:Pos} {kt:Nat} {ifs:List Vv} {tt:TT} {te:TE} {Q:VK} {E:Vb->Vd->Prop} {RR:Vb->Ve->Result->Vd->Prop} {it:Ve} {tn:Nat->Vy->Prop} {J:It}
  (I:Inv X pins σ H s) (hc:X.calm=true) (B:BlkOk2 X scope x y0 cn ci) (T:Turn X.prog X.w X.K (.Tuple [.Name x px,.Name y0 py] kt pt) J fp it tn) (st:tn 0 s.heap) (hf:∀ b∈fp,Znd X pins H b)
  (ht:∀ cl C s H fp pn,PTs (blk X scope (x::y0::cn) cl C s H fp pn) ifs tt) (he:∀ cl C s H fp pn,PE (blk X scope (x::y0::cn) cl C s H fp pn) elt te)
  (hw:LcW2 X.K J ci tt te σ Q H) (hRR:∀ p C H' s',Inv X pins σ H' s'->Gone X pins H' s' C->Q (.ref p) H'->RR (.ref p) C (.ok .next) s') :
  Vg (Vl X.prog X.w) X.A (Uer []) (fun acc s₃=>Vg (Vl X.prog X.w) X.A (newFunctionEnv scope X.env.globals (Zjb X.env scope.names []) [] X.env.qual none .none (some X.env)) (fun cenv s₄ =>
   Uca (Vl X.prog X.w) X.A (.compStart (.ListComp elt [⟨.Tuple [.Name x px,.Name y0 py] kt pt,iter,ifs,0⟩] scope pos) 0 (.ref it) acc { cenv with scope:=relabel scope X.env }) (RR acc cenv.locals) s₄) E s₃) E s:=by
 have hp0:H s.heap.objs.size=none:=I.hok.fresh (Xe _)
 obtain⟨W,⟨m0,w0⟩,turn⟩:=hw _ hp0
 refine Vu (Udc B.nocell (by intro y hy; simp at hy) (fun h₁ hns₁ hsb₁=>?_) B.kind)
 dsimp only at hns₁ hsb₁ ⊢
 have I3:Inv X pins σ (upd H s.heap.objs.size (.lst [])) { s with heap:=s.heap.push { cls:=.type "list",dict:=none,data:=.seq ([]:List Vb).toArray } } :=
  I.laid (t':=s.toks) (fun b u e=>Xa _ e) (Xe _) ⟨Wbd _,[],0,.nil,Xd _ rfl⟩
 generalize hH3:s.heap.push { cls:=.type "list",dict:=none,data:=.seq ([]:List Vb).toArray }=hp3 at hns₁ hsb₁ I3 ⊢
 have flt:∀ b∈fp,b<s.heap.objs.size:=fun b hb=>by
  obtain⟨o,e,_⟩:=T.obj 0 _ st b hb
  exact Xf e
 have sz3:hp3.objs.size=s.heap.objs.size+1:=by rw[<- hH3,Wam]
 have f3:∀ b∈fp,Znd X pins (upd H s.heap.objs.size (.lst [])) b:=fun b hb=>⟨by rw[Zah (Xh (flt b hb))]; exact(hf b hb).1,(hf b hb).2⟩
 have old3:∀ b o,s.heap.get? b=some o->hp3.get? b=some o:=fun b o e=>by rw[<- hH3]; exact Xa _ e
 have I4:=Zzt (s:={ s with heap:=hp3 }) (tk:=s.toks+([]:List (Str×Vb)).length) I3 B f3 (fun b hb=>by show b<hp3.objs.size; rw[sz3]; exact Wcc (flt b hb)) (by simpa using hns₁) hsb₁
 have old4:∀ b o,hp3.get? b=some o->h₁.get? b=some o:=fun b o e=>hsb₁.extBut b o (Xh (Xf e)) (Xa _ e)
 generalize hX':blk X scope (x::y0::cn) (Zjb X.env scope.names []) hp3.objs.size { s with heap:=hp3 } (upd H s.heap.objs.size (.lst [])) fp (X.pn++pins)=X' at I4
 have ePr:X'.prog=X.prog:=by rw[<- hX']; rfl
 have eW:X'.w=X.w:=by rw[<- hX']; rfl
 have eK:X'.K=X.K:=by rw[<- hX']; rfl
 have eA:X'.A=X.A:=by rw[<- hX']; rfl
 have eEnv:X'.env=Uby scope (Zjb X.env scope.names []) hp3.objs.size X.env:=by rw[<- hX']; rfl
 have eEx:X'.ex=fp:=by rw[<- hX']; rfl
 have ht':PTs X' ifs tt:=by rw[<- hX']; exact ht _ _ _ _ _ _
 have he':PE X' elt te:=by rw[<- hX']; exact he _ _ _ _ _ _
 have eXe:X'.xe=fun _ _=>False:=by rw[<- hX']; rfl
 have hg':PG X' (.Tuple [.Name x px,.Name y0 py] kt pt) (gTup X.K 2 (Zxj (Znw 0) (Zxj (Znw 1) gNil))):=by
  rw[<- hX']
  exact Yb2 (X:=blk X scope (x::y0::cn) _ _ _ _ _ _) hc (Zmm (Zny (X:=blk X scope (x::y0::cn) _ _ _ _ _ _) B.nd rfl (.inl (Uaf B.tgt)) (.inr (Uaf B.tgt))) (Zmm (Zny (X:=blk X scope (x::y0::cn) _ _ _ _ _ _) B.nd rfl (.inl (Uaf B.tgt2)) (.inr (Uaf B.tgt2))) Zut))
 -- the iterator's objects, seen from the block
 have stat:∀ {H':Hp},(∀ b∈fp,H' b=none)->∀ b∈fp,Znd X' [] H' b:=fun {H'} hn b hb=>by
  rw[<- hX']
  refine⟨hn b hb,(by show b≠hp3.objs.size; rw[sz3]; exact Xh (Wcc (flt b hb))),fun z=>(Xi.mp (I3.stkSub b z)).elim (hf b hb).2.1 (hf b hb).2.2.1,.inl hb,fun y c e=>?_,fun p hp=>?_⟩
  ·exact(hf b hb).2.2.2.2.1 y c (Zh9 X.env scope.names [] (by intro x c h; simp at h) y c e)
  ·exact(hf b hb).2.2.2.2.2 p (by simpa [blk] using hp)
 have back:∀ {σ':L2.St} {H':Hp} {s':Vd},Inv X' [] σ' H' s'->Inv X pins σ H' s'/\Gone X pins H' s' hp3.objs.size:=fun {σ' H' s'} I5=>by
  have u:Un (frs X.stack) fp (upd H s.heap.objs.size (.lst [])) H' hp3 s'.heap:=by
   have:=I5.base
   rw[<- hX'] at this
   exact this
  have hok:HOk X.prog X.w H' s'.heap:=by have:=I5.hok; rw[ePr,eW] at this; exact this
  have ho:s'.os=s.os:=by have:=I5.os; rw[<- hX'] at this; exact this
  refine⟨I3.call' ho u hok I5.bare fun b hb=>⟨(hf b hb).2.2.2.1,(hf b hb).2.1,(hf b hb).2.2.2.2.1,(hf b hb).2.2.2.2.2⟩,?_,?_,?_,?_,fun y c e z=>?_,fun p hp z=>?_⟩
  ·obtain⟨m,hn,_⟩:=I5.loc
   rw[eEnv] at hn
   exact⟨m,hn⟩
  ·have:=I5.free
   rw[eEnv] at this
   exact this
  ·exact Wbr (I3.lt)
  ·exact I3.sz
  ·obtain⟨v,q⟩:=I3.cell y c e
   exact absurd (Xj q.lt (by rw[z]; exact Xe _)) (Wav _)
  ·have:=Xf (I3.pin p hp).1
   rw[z] at this
   exact Wav _ this
 have loop:Uca (Vl X.prog X.w) X.A (.compLoop (.ListComp elt [⟨.Tuple [.Name x px,.Name y0 py] kt pt,iter,ifs,0⟩] scope pos) 0 (.ref it) (.ref s.heap.objs.size) (Uby scope (Zjb X.env scope.names []) hp3.objs.size X.env))
   (RR (.ref s.heap.objs.size) hp3.objs.size) { s with heap:=h₁,toks:=s.toks+([]:List (Str×Vb)).length }:=by
  refine codeAny_loop rfl (fun n s'=>∃ i o o2 ys H',Inv X' [] (o::o2::Zla ci σ) H' s'/\tn i s'.heap/\(∀ b∈fp,H' b=none)/\W i n ys H') (fun n s' hI=>?_) m0
   ⟨0,none,none,[],_,I4,T.keep _ _ _ st (fun b hb o e=>old4 b o (old3 b o e)),fun b hb=>(f3 b hb).1,w0⟩
  obtain⟨i,o,o2,ys,H',I5,st5,fr5,w5⟩:=hI
  show Vg _ X.A ((compTurn (.ListComp elt [⟨.Tuple [.Name x px,.Name y0 py] kt pt,iter,ifs,0⟩] scope pos) 0 (.ref it) (.ref s.heap.objs.size) (Uby scope (Zjb X.env scope.names []) hp3.objs.size X.env)).onRaise (fun x=>do noteFrame x (Uby scope (Zjb X.env scope.names []) hp3.objs.size X.env); theTreesLotGoes x)) _ _ s'
  refine wpAny_noted ?_
  rw[compTurn_list,<- eEnv,<- ePr,<- eW,<- eA]
  refine Uaq (E:=fun _ _=>False) ?_ (fun _ _ q=>q) (fun _ _ z=>z.elim)
  obtain⟨hpl,wt⟩:=turn i n ys H' w5
  refine Va (Ubp (Va ?_))
  rcases wt with ⟨stop,q⟩ | ⟨go,step⟩
  ·have z:=T.done X' ePr eW eK (by rw[<- hX']; exact hc) i [] s' _ H' (fun _ _=>False) I5 (stat fr5) st5 stop
   rw[<- ePr,<- eW] at z
   refine thn z fun r s6 zz=>?_
   obtain⟨hr,I6⟩:=zz
   subst hr
   obtain⟨J1,g1⟩:=back I6
   exact Vc (hRR _ _ H' s6 J1 g1 q)
  ·have z:=T.item X' ePr eW eK (by rw[<- hX']; exact hc) i [] s' _ H' (fun _ _=>False) I5 (stat fr5) st5 go
   rw[<- ePr,<- eW] at z
   refine thn z fun r s6 zz=>?_
   obtain⟨u,hr,h6⟩:=zz
   subst hr
   refine Va (thn h6 fun _ s7 zz=>?_)
   obtain⟨v,H7,I7,r7,y7,st7,fr7⟩:=zz
   have I7':=I7.pinned (stat fr7) (T.obj _ _ st7)
   rw[<- eXe]
   obtain⟨a7,v1,v2,ev,sq,step7⟩:=step v _ y7
   refine Va (thn (hg' _ s7 _ H7 v u _ I7' r7 (show gTup X.K 2 (Zxj (Znw 0) (Zxj (Znw 1) gNil)) v (o::o2::Zla ci σ) H7 (fun σ8 H8=>σ8=some v1::some v2::Zla ci σ/\H8=H7) from⟨a7,[v1,v2],ev,sq,rfl,⟨v1,[v2],rfl,v2,[],rfl,rfl,rfl,rfl⟩⟩)) fun _ s8 zz=>?_)
   obtain⟨σ8,H8,I8,e8,e8'⟩:=zz
   subst e8 e8'
   refine Va (thn (ht' _ s8 _ _ _ I8 step7) fun b s9 zz=>?_)
   obtain⟨H9,I9,q9⟩:=zz
   have tnK:∀ {σ':L2.St} {H':Hp} {s':Vd},Inv X' (([]:List (Ve×Obj))++Zlq fp s7.heap) σ' H' s'->tn (i+1) s'.heap/\∀ b∈fp,H' b=none:=fun {σ' H' s'} I' =>
    ⟨T.keep _ _ _ st7 fun b hb o e=>(I'.pin (b,o) (Xv _ (Xv _ (Zdu hb e)))).1,fun b hb=>by
     obtain⟨ob,e,d⟩:=T.obj _ _ st7 b hb
     exact(I'.pin (b,ob) (Xv _ (Xv _ (Zdu hb e)))).2.1⟩
   cases b with
   | false =>
    obtain⟨m',hm,w9⟩:=q9
    obtain⟨t9,f9⟩:=tnK I9
    exact Vc ⟨rfl,m',hm,i+1,_,_,ys,H9,I9.unpinned,t9,f9,w9⟩
   | true =>
    refine Va (Va (thn (he' _ s9 _ _ _ I9 q9) fun yv s10 zz=>?_))
    obtain⟨y,H10,I10,r10,hp10,hz10,m',hm,w10⟩:=zz
    refine Va (thn (Zj7 (X:=X') _ s10 _ H10 (.ref s.heap.objs.size) [y] (.ref s.heap.objs.size) [yv] (fun _ H11=>H11=upd H10 s.heap.objs.size (.lst (ys++[y]))) I10 rfl (.cons r10 .nil) ⟨_,ys,y,rfl,rfl,hp10,hz10,rfl⟩) fun _ s11 zz=>?_)
    obtain⟨_,H11,I11,_,e11⟩:=zz
    subst e11
    obtain⟨t11,f11⟩:=tnK I11
    exact Vc (Vc ⟨rfl,m',hm,i+1,_,_,ys++[y],_,I11.unpinned,t11,f11,w10⟩)
 exact Ucn loop (T.self _ 0 _ _ _ (T.keep _ _ _ st (fun b hb o e=>old4 b o (old3 b o e))) loop)
nonrec def tLC2 (K:Xb) (wi:TI) (ci:List Nat) (tt:TT) (te:TE):TE:=fun σ H Q=>wi σ H fun J H1=>LcW2 K J ci tt te σ Q H1
theorem Yhh {elt iter:Vv} {px py pt pos:Pos} {kt:Nat} {ifs:List Vv} {wi:TI} {tt:TT} {te:TE} (hc:X.calm=true) (B:BlkOk2 X scope x y0 cn ci) (hi:PI X (.Tuple [.Name x px,.Name y0 py] kt pt) iter wi)
  (ht:∀ cl C s H fp pn,PTs (blk X scope (x::y0::cn) cl C s H fp pn) ifs tt) (he:∀ cl C s H fp pn,PE (blk X scope (x::y0::cn) cl C s H fp pn) elt te)
  (hs:∀ x,Uaa iter X.env x=pure x:=by rintro _; rfl):PE X (.ListComp elt [⟨.Tuple [.Name x px,.Name y0 py] kt pt,iter,ifs,0⟩] scope pos) (tLC2 X.K wi ci tt te):=by
 intro pins s σ H Q I h
 rw[eval_ListComp]
 refine Ubb (use:=none) rfl hs (Zih X.env scope B.free) B.kind B.names ?_
 refine thn (hi pins s σ H _ I h) fun v s1 h1=>thn h1 fun itv s2 h2=>?_
 obtain⟨it,fp,tn,J,H2,e,I2,T,st2,f2,w2⟩:=h2
 subst e
 refine Zup (RR:=fun acc C=>compPost (Vl X.prog X.w) X.A X.xe none (EP X pins σ Q) acc C) I2 hc B T st2 f2 ht he w2 fun p C H' s' I' g q=>?_
 obtain⟨m,hn⟩:=g.ns
 exact⟨m,hn,fun h' hs'=>⟨.ref p,H',g.go I' hs',rfl,q⟩⟩
end
nonrec def Yfn (sc scope:Ubo) (N:List Str) (x y:Str) (cn:List Str) (ci:List Nat):Bool :=
 (scope.kind==.function)&&scope.names.all (fun y=>y.2 != .cell)&&scope.names.all (fun y=>y.2 != .local||scope.names.lookup y.1==some .local)&&(scope.names.lookup x==some .local)&&(scope.names.lookup y==some .local) &&
 scope.names.all (fun y=>y.2 != .free||sc.names.lookup y.1==some .cell)&&decide (x::y::cn).Nodup&&(ci.length==cn.length) &&
 (cn.zip ci).all (fun p=>N[p.2]? == some p.1&&scope.names.lookup p.1==some .free&&sc.names.lookup p.1==some .cell)
theorem Yc8 {P:Vi} {w:Vs} {K:Xb} {mg:Str->Option Vb} {base:Vy} {N:List Str} {qual:Str} {sc scope:Ubo} {f:Ve} {cdv:Vb} {A:Vr} {outer:List Env} {s:Vd} {H:Hp} {E:XK} {x y0:Str} {cn:List Str} {ci:List Nat}
  (h:Yfn sc scope N x y0 cn ci=true):BlkOk2 (Zlo CX0 P w K mg base N qual sc f cdv A outer s H E).nox scope x y0 cn ci:=by
 unfold Yfn at h
 simp only[Wai,Xu,Wez,bne_iff_ne,ne_eq,beq_iff_eq,decide_eq_true_eq] at h
 obtain⟨⟨⟨⟨⟨⟨⟨⟨h1,h2⟩,h3⟩,h4⟩,h4b⟩,h5⟩,h6⟩,h7⟩,h8⟩:=h
 refine⟨h1,fun y hy=>h2 y hy,fun y hy hl=>(h3 y hy).resolve_left fun z=>z hl,h4,h4b,fun y hy hf=>?_,h6,h7,fun j y hj=>?_⟩
 ·have:=(h5 y hy).resolve_left fun z=>z hf
  obtain⟨c,hc⟩:=Zjf (n:=s.heap.objs.size+1) this
  exact Wak.mpr ⟨c,hc⟩
 ·have hl:j<ci.length:=by rw[h7]; exact(Xc.mp hj).1
  have hm:(y,ci[j])∈cn.zip ci:=by
   refine Wby.mpr ⟨j,?_⟩
   rw[Wei]
   exact⟨hj,by simp[hl]⟩
  obtain⟨⟨k1,k2⟩,k3⟩:=h8 _ hm
  exact⟨ci[j],by simp[hl],k1,k2,.inl k3⟩
open Builtin.SmallTypes (nextOf)
section
variable {prog:Vi} {w:Vs} {A:Vr} {E:Vb->Vd->Prop} {s:Vd}
theorem Zum {j t:Ve} {i:Nat} {its:Array Vb} {x:Vb} {Q:Vb->Vd->Prop} (hj:s.heap.IsListIter j t i) (ht:s.heap.IsList t its) (hx:its[i]? = some x)
  (hQ:∀ h',h'.IsListIter j t (i+1)->Xw j s.heap h'->Q x { s with heap:=h' }):Vg (Vl prog w) A (nextOf (.ref j)) Q E s :=
 Zni (b:=true) hj ht hx hQ
theorem Yab {j t:Ve} {i:Nat} {its:Array Vb} {Q:Vb->Vd->Prop} (hh:A.handled=none) (hj:s.heap.IsListIter j t i) (ht:s.heap.IsList t its) (hx:its[i]? = none)
  (hE:∀ h' e,Web j s.heap h'->(∃ o,h'.get? e=some o/\o.cls=.type "StopIteration")->E (.ref e) { s with heap:=h' }):Vg (Vl prog w) A (nextOf (.ref j)) Q E s :=
 Zwl (b:=true) hh hj ht hx hE
theorem Ztl {e j t:Ve} {i:Nat} {c:Int} {its:Array Vb} {x old:Vb} {Q:Option Vb->Vd->Prop} (he:Uax s.heap e j c old) (hj:s.heap.IsListIter j t i) (ht:s.heap.IsList t its) (hx:its[i]? = some x) (hne:e≠j)
  (hQ:∀ h' tk,Ucv h' e j (c+1) x s.heap.objs.size->h'.IsListIter j t (i+1)->h'.get? s.heap.objs.size=some { cls:=.type "tuple",data:=.seq #[.int c tk,x] }->h'.objs.size=s.heap.objs.size+1 ->
   (∀ b o,b≠e->b≠j->s.heap.get? b=some o->h'.get? b=some o)->Q (some (.ref s.heap.objs.size)) { s with heap:=h',toks:=s.toks+1 }) :
  Vg (Vl prog w) A (Ubl (.ref e)) Q E s:=by
 have hT:s.TypeIs (.ref e) "enumerate" := ⟨_,he,rfl⟩
 unfold Ubl
 refine Va (Uap (Vk (name:=Ua "__next__") hT Uk (Vp Uk hT Tag ?_ (Tac _))))
 obtain⟨hp,g,d,tk,os⟩:=s
 show Vg _ _ (Udp (.ref e) 2 >>= _) _ _ _
 refine Va (Vn he rfl (x:=.ref j) rfl (Va (Zum hj ht hx fun h1 j1 s1=>?_)))
 replace s1:Xw j hp h1:=s1
 have e1:Uax h1 e j c old:=(s1.2 e hne).trans he
 show Vg _ _ (Udp (.ref e) 3 >>= _) _ _ ⟨h1,g,d,tk,os⟩
 refine Va (Vn e1 rfl (x:=Uad c) rfl ?_)
 show Vg _ _ (Udp (.ref e) 4 >>= _) _ _ ⟨h1,g,d,tk,os⟩
 refine Va (Vn e1 rfl (x:=.none) rfl ?_)
 show Vg _ _ (mkInt c >>= _) _ _ ⟨h1,g,d,tk,os⟩
 refine Va (Uel ?_)
 show Vg _ _ (Udu (.ref e) 3 (Uad (c+1)) >>= _) _ _ ⟨h1,g,d,tk+1,os⟩
 refine Va (Vm e1 (by simp) fun h2 e2 s2=>?_)
 replace s2:Xw e h1 h2:=s2
 replace e2:Uax h2 e j (c+1) old:=e2
 show Vg _ _ (Udu (.ref e) 4 .none >>= _) _ _ ⟨h2,g,d,tk+1,os⟩
 refine Va (Vm e2 (by simp) fun h3 e3 s3=>?_)
 replace s3:Xw e h2 h3:=s3
 replace e3:Uax h3 e j (c+1) old:=e3
 show Vg _ _ (newTuple [.int c tk,x] >>= _) _ _ ⟨h3,g,d,tk+1,os⟩
 refine Va (Udi ?_)
 have e4:Uax (h3.push { cls:=.type "tuple",data:=.seq #[.int c tk,x] }) e j (c+1) old:=Xa _ e3
 generalize q4:h3.push { cls:=.type "tuple",data:=.seq #[.int c tk,x] }=h4 at e4
 have zz:h3.objs.size=hp.objs.size:=by rw[s3.1,s2.1,s1.1]
 have lt:e<hp.objs.size:=Xf he
 have t4:h4.get? hp.objs.size=some { cls:=.type "tuple",data:=.seq #[.int c tk,x] }:=by rw[<- q4,<- zz]; exact Xd _ rfl
 have z4:h4.objs.size=hp.objs.size+1:=by rw[<- q4,Wam,zz]
 have k4:∀ b o,b≠e->b≠j->hp.get? b=some o->h4.get? b=some o:=fun b o n1 n2 q=>by
  rw[<- q4]; exact Xa _ (s3.extBut b o n1 (s2.extBut b o n1 (s1.extBut b o n2 q)))
 have j4:h4.IsListIter j t (i+1):=by
  obtain⟨o,ho,r⟩:=id j1
  exact⟨o,by rw[<- q4]; exact Xa _ (s3.extBut j o (Ul hne) (s2.extBut j o (Ul hne) ho)),r⟩
 show Vg _ _ (Uc (.ref e) >>= _) _ _ ⟨h4,g,d,tk+1,os⟩
 rw[zz]
 clear q4 e3 s3 e2 s2 e1 s1 j1 zz h3 h2 h1
 refine Va ?_
 unfold Uc
 refine Va (Vn e4 rfl (x:=.none) rfl (Vc ?_))
 simp only[if_true]
 refine Va (Ubj (Va (Vn e4 rfl (x:=old) rfl (Va (Vm e4 (by simp) fun h5 e5 s5=>?_)))))
 replace s5:Xw e h4 h5:=s5
 replace e5:Uax h5 e j (c+1) x:=e5
 show Vg _ _ (Ud (.ref e) (.ref hp.objs.size) >>= _) _ _ ⟨h5,g,d,tk+1,os⟩
 refine Va ?_
 unfold Ud
 refine Va (Vm e5 (by simp) fun h6 e6 s6=>?_)
 replace s6:Xw e h5 h6:=s6
 replace e6:Ucv h6 e j (c+1) x hp.objs.size:=e6
 refine Vm e6 (by simp) fun h7 e7 s7=>?_
 replace s7:Xw e h6 h7:=s7
 replace e7:Ucv h7 e j (c+1) x hp.objs.size:=e7
 have up:∀ b o,b≠e->h4.get? b=some o->h7.get? b=some o:=fun b o n q=>s7.extBut b o n (s6.extBut b o n (s5.extBut b o n q))
 refine Va (Ubu (Vc ⟨_,rfl,Vc (hQ h7 tk e7 ?_ (up _ _ (Wbr lt) t4) (by rw[s7.1,s6.1,s5.1,z4]) fun b o n1 n2 q=>up b o n1 (k4 b o n1 n2 q))⟩))
 obtain⟨o,ho,r⟩:=id j4
 exact⟨o,up j o (Ul hne) ho,r⟩
theorem Zs0 {e j t:Ve} {i:Nat} {c:Int} {its:Array Vb} {old:Vb} {Q:Option Vb->Vd->Prop} (hh:A.handled=none) (he:Uax s.heap e j c old) (hj:s.heap.IsListIter j t i) (ht:s.heap.IsList t its) (hx:its[i]? = none)
  (hQ:∀ h',Web j s.heap h'->Q none { s with heap:=h' }):Vg (Vl prog w) A (Ubl (.ref e)) Q E s:=by
 have hT:s.TypeIs (.ref e) "enumerate" := ⟨_,he,rfl⟩
 unfold Ubl
 refine Va (Uap (Vk (name:=Ua "__next__") hT Uk (Vp Uk hT Tag ?_ (Tac _))))
 show Vg _ _ (Udp (.ref e) 2 >>= _) _ _ _
 refine Va (Vn he rfl (x:=.ref j) rfl (Va (Yab hh hj ht hx fun h' z he' zz=>?_)))
 obtain⟨o,ho,hc⟩:=zz
 exact Va (Ubm (T := "StopIteration") (b:=true) ⟨o,ho,hc⟩ Uce (Vc (hQ _ he')))
open AutoSeq1 (wpAny_loadPart') in
theorem Zxv (t:Ve) (its:Array Vb) (n:Nat) (dct:Option Ve) (sl:Array (Option Vb)) :
  Uen (Builtin.«enumerate.__new__» ⟨[.type "enumerate",.ref t],[]⟩) (fun _ R s=>s.heap.get? t=some { cls:=.type "list",dict:=dct,data:=.seq its n,slots:=sl } /\
   R (.ok (.ret (.ref (s.heap.push { cls:=.type "list_iterator",data:=.fields #[.ref t,.int 0 0] }).objs.size)))
    { s with heap:=(s.heap.push { cls:=.type "list_iterator",data:=.fields #[.ref t,.int 0 0] }).push { cls:=.type "enumerate",data:=.fields #[.none,.bool false,.ref s.heap.objs.size,Uad 0,.none,.none] } }) :=
 .of_wp fun prog w A R s h=>by
  obtain⟨hp,g,d,tk,os⟩:=s; obtain⟨hl,h⟩:=h
  have hsub:=Udv
  have hL:Heap.IsList (Tbr ⟨hp,g,d,tk,os⟩) t its:=⟨_,hl,rfl,n,rfl⟩
  wp_walk using Vo hl
  refine Ucw fun st=>Vc ?_
  split
  ·rename_i k _ _ _ _ _
   cases (k==Tbb "enumerate")<;>(wp_walk using Vo hl,Uao hL; exact⟨_,rfl,h⟩)
  ·wp_walk using Vo hl,Uao hL
   exact⟨_,rfl,h⟩
theorem Zt5 {t:Ve} {its:Array Vb} {Q:Vb->Vd->Prop} (hL:s.heap.IsList t its)
  (h:∀ h',Uax h' (s.heap.objs.size+1) s.heap.objs.size 0 .none->h'.IsListIter s.heap.objs.size t 0->h'.objs.size=s.heap.objs.size+2 ->
   (∀ b o,s.heap.get? b=some o->h'.get? b=some o)->Q (.ref (s.heap.objs.size+1)) { s with heap:=h' }) :
  Vg (Vl prog w) A (call (.type "enumerate") [.ref t]) Q E s:=by
 obtain⟨⟨k,dct,dt,sl⟩,hl,hc,n,hd⟩:=hL
 replace hc:k=.type "list" := hc
 replace hd:dt=.seq its n:=hd
 subst hc hd
 refine Uec Tah (by decide) (Tbv _) (Tby _) (fun obj=>Tce obj _) Tau (Zxv t its n dct sl) ⟨hl,?_⟩
 have hz:(s.heap.push { cls:=.type "list_iterator",data:=.fields #[.ref t,.int 0 0] }).objs.size=s.heap.objs.size+1:=Wam ..
 show _/\_
 rw[hz]
 have he:Uax ((s.heap.push { cls:=.type "list_iterator",data:=.fields #[.ref t,.int 0 0] }).push { cls:=.type "enumerate",data:=.fields #[.none,.bool false,.ref s.heap.objs.size,Uad 0,.none,.none] }) (s.heap.objs.size+1) s.heap.objs.size 0 .none:=by
  have q:=Xd (s.heap.push { cls:=.type "list_iterator",data:=.fields #[.ref t,.int 0 0] }) (o:={ cls:=.type "enumerate",data:=.fields #[.none,.bool false,.ref s.heap.objs.size,Uad 0,.none,.none] }) rfl
  rw[hz] at q; exact q
 exact⟨⟨_,he,rfl⟩,h _ he ⟨_,Xa _ (Xd _ rfl),rfl,rfl⟩ (by rw[Wam,hz]) fun b o x=>Xa _ (Xa _ x)⟩
end
nonrec def IteL (c:Int) (a:Ve):It :=
 ⟨fun i H=>∃ xs x,H a=some (.lst xs)/\xs[i]? = some x,fun i H v H'=>∃ p x,H p=none/\v=.ref p/\H'=upd H p (.tup [.int (c+i),x])/\∀ xs,H a=some (.lst xs)->xs[i]? = some x,fun i H=>∃ xs,H a=some (.lst xs)/\xs.length<=i⟩
theorem Ztx {P:Vi} {w:Vs} {K:Xb} {es:List Vv} {k:Nat} {pos:Pos} (a e j:Ve) (c:Int) (hne:e≠j):Turn P w K (.Tuple es k pos) (IteL c a) [e,j] e (fun i h=>∃ old,Uax h e j (c+i) old/\h.IsListIter j a i) where
 mem:=by simp
 obj:=fun i h st b hb=>by
  obtain⟨old,he,o,ho,hc,hd⟩:=st
  rcases Xi.mp hb with rfl | hb
  ·exact⟨_,he,fun v z=>by cases z⟩
  ·have:b=j:=by simpa using hb
   subst this
   exact⟨o,ho,fun v z=>by rw[hd] at z; cases z⟩
 keep:=fun i h h' st kk=>by
  obtain⟨old,he,o,ho,r⟩:=st
  exact⟨old,kk e (by simp) _ he,o,kk j (by simp) o ho,r⟩
 item:=by
  intro X hP hw hK hc i pins s σ H E I hf st hg
  subst hP hw hK
  obtain⟨xs,x,hq,hx⟩:=hg
  obtain⟨old,he,hj⟩:=st
  obtain⟨its,rv,p,hz⟩:=I.list (SqL.of hq)
  obtain⟨u,hu,ru⟩:=rv.get hx
  have fe:=hf e (by simp)
  have fj:=hf j (by simp)
  refine Ztl he hj p.isList (x:=u) (by simpa using hu) hne fun h' tk eo j' t' z' kk=>?_
  refine⟨_,rfl,Ubw (s:={ s with heap:=h',toks:=s.toks+1 }) eo fun h2 e2 s2=>?_⟩
  replace s2:Xw e h' h2:=s2
  have le:e<s.heap.objs.size:=Xf he
  have ne2:s.heap.objs.size≠e:=Wbr le
  -- the iterator's two records have turned, the pair is new
  have t2:h2.get? s.heap.objs.size=some { cls:=.type "tuple",data:=.seq #[.int (c+i) tk,u] }:=s2.extBut _ _ ne2 t'
  have hp0:H s.heap.objs.size=none:=I.hok.fresh (Xe _)
  have up:∀ b o,b∉[e,j]->s.heap.get? b=some o->h2.get? b=some o:=fun b o hb q =>
   s2.extBut b o (fun z=>hb (by simp[z])) (kk b o (fun z=>hb (by simp[z])) (fun z=>hb (by simp[z])) q)
  have I2:Inv X pins σ (upd H s.heap.objs.size (.tup [.int (c+i),x])) { s with heap:=h2,toks:=s.toks+1 }:=by
   refine I.step (g':=s.gens) (d':=s.drawn) (t':=s.toks+1) (ch:=[e,j]) (fun b hb=>?_) (fun b o _ _ hb q n=>up b o hb q) (fun b o _ _ hb q n=>⟨o.slots,up b o hb q⟩) (fun b o _ q n=>?_) (fun b o hb q=>⟨o,up b o hb q⟩) (fun b ys q=>?_) (fun b o y q=>?_) (fun b ps q=>⟨#[],?_⟩) (fun m hm=>?_) (fun b o q=>?_) I.bare
   ·have:=hf b hb; exact⟨this.2.2.2.1,this.2.1,this.2.2.2.2.1,this.2.2.2.2.2⟩
   ·rw[Zah (Xh (Xf q))]; exact n
   ·rw[Zah (Zai q hp0)]; exact q
   ·rw[Zah (Zai q hp0)]; exact q
   ·rw[Zah (Zai q hp0),q]; simp
   ·obtain⟨o,es',ep,ho,r⟩:=hm
    exact⟨o,es',ep,s2.extBut _ o (Ul fe.2.1) (kk _ o (Ul fe.2.1) (Ul fj.2.1) ho),r⟩
   ·by_cases hb:b=s.heap.objs.size
    ·subst hb
     rw[Zas] at q
     cases q
     exact⟨(by show 2<=sizeLine; decide),[.int (c+i) tk,u],.cons ⟨tk,rfl⟩ (.cons ru .nil),_,t2,rfl,⟨_,rfl⟩,rfl⟩
    ·rw[Zah hb] at q
     refine(I.hok b o q).stay (fun d v hd z=>up d v (fun hm=>?_) z) (fun d z=>by rw[Zah (Zai z hp0)]; exact z) fun d ys z=>by rw[Zah (Zai z hp0)]; exact z
     have:H d≠none:=by
      rcases hd with rfl | hd
      ·rw[q]; simp
      ·rw[hd]; simp
     exact this (hf d hm).1
  refine⟨.ref s.heap.objs.size,_,I2,rfl,⟨_,x,hp0,rfl,rfl,fun ys hy=>by rw[hq] at hy; cases hy; exact hx⟩,?_,fun b hb=>?_⟩
  ·obtain⟨o,ho,r⟩:=id j'
   have ec:c+((i+1:Nat):Int)=c+(i:Int)+1:=by push_cast; omega
   exact⟨u,by rw[ec]; exact e2,o,s2.extBut j o (Ul hne) ho,r⟩
  ·have hb2:b≠s.heap.objs.size:=by
    rcases Xi.mp hb with rfl | hb
    ·exact Xh le
    ·have:b=j:=by simpa using hb
     subst this
     obtain⟨o,ho,_⟩:=id hj
     exact Xh (Xf ho)
   rw[Zah hb2]; exact(hf b hb).1
 done:=by
  intro X hP hw hK hc i pins s σ H E I hf st hg
  subst hP hw hK
  obtain⟨xs,hq,hx⟩:=hg
  obtain⟨old,he,hj⟩:=st
  obtain⟨its,rv,p,hz⟩:=I.list (SqL.of hq)
  obtain⟨f0,f1,f2,f3,f4,f5⟩:=hf j (by simp)
  have hl:=rv.length
  exact Zs0 (I.ok.hd hc) he hj p.isList (by simp; omega) fun h' eb=>⟨rfl,I.turned (t':=s.toks) (fun b o hb q=>eb b o hb q) f0 f1 f3 f4 f5⟩
 self:=fun _ _ _ _ _ st h=>by
  obtain⟨old,he,_⟩:=st
  exact Uau he h
nonrec def two2:D->Option (D×D)
 | .tup [a,b]=>some (a,b)
 | _=>none
theorem Zxt {x a b:D} (h:two2 x=some (a,b)):x=.tup [a,b]:=by
 unfold two2 at h
 split at h
 ·cases h; rfl
 ·cases h
open Classical in
nonrec def Zev (own:Zh4) (c0:SD) (tt:TF) (te:EF):List D->HD->Option (List D×HD)
 | [],H=>if Zci own H then some ([],H) else none
 | x::r,H=>(two2 x).bind fun ab=>if Zci own H then (tt (some ab.1::some ab.2::c0) H).bind fun t=>if t.1=true then (te (some ab.1::some ab.2::c0) t.2).bind fun e=>(Zev own c0 tt te r e.2).map fun q=>(e.1::q.1,q.2) else Zev own c0 tt te r t.2 else none
nonrec def Yf8 (it:ItF) (ci:List Nat) (tt:TF) (te:EF):EF:=fun σ H=>(it σ H).bind fun p=>(Zev p.1.2 (Zyj ci σ) tt te p.1.1 p.2).bind fun q=>mkL q.1 q.2
theorem Ztj {own:Zh4} {c0:SD} {tt:TF} {te:EF} {x:D} {r:List D} {H:HD} {z:List D×HD} (h:Zev own c0 tt te (x::r) H=some z):∃ a b,x=.tup [a,b]/\Zci own H/\((tt (some a::some b::c0) H).bind fun t=>if t.1=true then (te (some a::some b::c0) t.2).bind fun e=>(Zev own c0 tt te r e.2).map fun q=>(e.1::q.1,q.2) else Zev own c0 tt te r t.2)=some z:=by
 rw[Zev] at h
 obtain⟨⟨a,b⟩,e,h⟩:=Zo h
 split at h
 ·rename_i ok
  exact⟨a,b,Zxt e,ok,h⟩
 ·cases h
section
variable {X:Cx} {scope:Ubo} {x y0:Str} {cn:List Str} {ci:List Nat}
theorem Yhy {α β:Type} {F:α->β->Prop} {a b:α} {us:List β} (h:Vj F [a,b] us):∃ u v,us=[u,v]/\F a u/\F b v:=by
 cases h with
 | cons p P=>cases P with
  | cons q P=>cases P; exact⟨_,_,rfl,p,q⟩
theorem SRep.cap2 {K:Xb} {H:Hp} {ι:List Ve} {σ:L2.St} {σd:SD} {d e:D} {v u:V} (s:SRep K H ι σ σd) (r:Rep K H ι d v) (r2:Rep K H ι e u):SRep K H ι (some v::some u::Zla ci σ) (some d::some e::Zyj ci σd):=by
 have c:=SRep.cap (ci:=ci) s r2
 refine⟨by simpa using c.len,fun i z h=>?_⟩
 cases i with
 | zero=>simp at h; subst h; exact⟨v,rfl,r⟩
 | succ j =>
  rw[Wcf] at h ⊢
  exact c.var j z h
theorem Yft {K:Xb} {it:ItF} {tt:TF} {te:EF} {σ:L2.St} {H:Hp} {Q:VK} (h:rdE K (Yf8 it ci tt te) σ H Q):tLC2 K (rdI K it) ci (rdT K tt) (rdE K te) σ H Q:=by
 obtain⟨ι,σd,Hd,d,Hd',s,hr,e,q⟩:=h
 obtain⟨⟨⟨xs,own⟩,H1⟩,e1,e⟩:=Zo e
 obtain⟨⟨ds,H2⟩,e2,e⟩:=Zo e
 obtain⟨hz,e⟩:=Znk e
 cases e
 dsimp only at e2 hz
 refine⟨ι,σd,Hd,xs,own,H1,s,hr,e1,fun J H0 ι0 l0 h0 itr p hp=>?_⟩
 have s0:=s.mono l0
 refine⟨fun i m ys H=>m=xs.length - i/\i<=xs.length/\H p=some (.lst ys)/\∃ ι Hd done rest,Le K H0 ι0 H ι/\p∉ι/\HRep K H ι Hd/\Vj (Rep K H ι) done ys/\Zev own (Zyj ci σd) tt te (xs.drop i) Hd=some (rest,H2)/\ds=done++rest,
  ⟨xs.length,by simp,Wbd _,Zas,ι0,H1,[],ds,Le.fresh hp _,h0.fresh hp,h0.tup hp _,.nil,by simpa using e2,by simp⟩,?_⟩
 rintro i m ys H5 ⟨rfl,hi,hpl,ι5,Hd5,done,rest,l5,np5,h5,pd5,e5,eds⟩
 refine⟨hpl,?_⟩
 by_cases hlt:i<xs.length
 ·have ed:xs.drop i=xs[i]::xs.drop (i+1):=Waq hlt
  rw[ed] at e5
  obtain⟨a1,a2,ex,ok,e5⟩:=Ztj e5
  obtain⟨⟨b6,H6⟩,e6,e5⟩:=Zo e5
  refine .inr ⟨itr.go i H5 ι5 Hd5 l5 h5 ok hlt,fun v H' y=>?_⟩
  obtain⟨ι6,l6,h6,r6⟩:=itr.yld i H5 ι5 Hd5 xs[i] v H' l5 h5 ok (by simp[hlt]) y
  obtain⟨hp6,np6⟩:=l6.frame p _ hpl np5
  rw[ex] at r6
  obtain⟨a6,ws6,ev6,sq6,P6⟩:=Zbe.mp r6
  obtain⟨u1,u2,rfl,p1,p2⟩:=Yhy P6
  have s6:=SRep.cap2 (ci:=ci) (s0.mono (l5.trans l6)) p1 p2
  refine⟨a6,u1,u2,ev6,sq6,ι6,_,Hd5,b6,H6,s6,h6,e6,fun H7 ι7 l7 h7=>?_⟩
  obtain⟨hp7,np7⟩:=l7.frame p _ hp6 np6
  have L7:=(l5.trans l6).trans l7
  cases b6 with
  | true =>
   rw[if_pos rfl]
   dsimp only at e5
   rw[if_pos rfl] at e5
   obtain⟨⟨d8,H8⟩,e8,e5⟩:=Zo e5
   obtain⟨⟨r9,H9⟩,e9,e5⟩:=Zm e5
   cases e5
   refine⟨ι7,_,H6,d8,H8,s6.mono l7,h7,e8,fun v8 H8' ι8 l8 h8 rr8=>?_⟩
   obtain⟨hp8,np8⟩:=l8.frame p _ hp7 np7
   have ly:ys.length<sizeLine:=by
    rw[<- Prd.len pd5]
    rw[eds] at hz
    simp at hz
    omega
   have w8:Lw K H8' ι8 (upd H8' p (.lst (ys++[v8]))) ι8:=Lw.side hp8 _
   refine⟨hp8,ly,xs.length - (i+1),by omega,rfl,hlt,Zas,ι8,H8,done++[d8],r9,(L7.trans l8).side hp hp8 _,np8,h8.keep w8 (fun a ha=>Zah fun z=>by subst z; exact np8 ha),?_,e9,by rw[eds]; simp⟩
   exact Prd.append (Prd.monoW w8 (Prd.mono ((l6.trans l7).trans l8) pd5)) (.cons (Rep.monoW w8 rr8) .nil)
  | false =>
   rw[if_neg (by simp)]
   dsimp only at e5
   rw[if_neg (by simp)] at e5
   exact⟨xs.length - (i+1),by omega,rfl,hlt,hp7,ι7,H6,done,rest,L7,np7,h7,Prd.mono (l6.trans l7) pd5,e5,eds⟩
 ·rw[Wdf (by omega),Zev] at e5
  split at e5
  ·rename_i ok
   have e6:(([]:List D),Hd5)=(rest,H2):=Xx.inj e5
   obtain⟨rfl,rfl⟩:=Way.inj e6
   refine .inl ⟨itr.stop i H5 ι5 _ l5 h5 ok (by omega),?_⟩
   have w5:Lw K H5 ι5 H5 (ι5++[p]):=⟨fun _ _ z=>z,fun _ _ z=>z,⟨[p],rfl⟩,fun _ _ _ z=>z⟩
   have L:=l0.trans l5
   simp at eds
   subst eds
   refine q _ H5 (ι5++[p]) ⟨L.toLw.trans w5,fun a o ha na=>?_⟩ (h5.add np5 ⟨ys,hpl,Prd.monoW w5 pd5⟩) (Zay.mpr ⟨p,rfl,by rw[<- h5.len]; simp⟩)
   obtain⟨q1,q2⟩:=L.frame a o ha na
   refine⟨q1,?_⟩
   have:a≠p:=fun z=>by
    subst z
    have:=(l0.frame a o ha na).1
    rw[hp] at this; cases this
   simp[q2,this]
  ·cases e5
theorem Yee {elt iter:Vv} {px py pt pos:Pos} {kt:Nat} {ifs:List Vv} {it:ItF} {tt:TF} {te:EF} (hc:X.calm=true) (B:BlkOk2 X scope x y0 cn ci) (hi:PIf X (.Tuple [.Name x px,.Name y0 py] kt pt) iter it)
  (ht:∀ cl C s H fp pn,Yg4 (blk X scope (x::y0::cn) cl C s H fp pn) ifs tt) (he:∀ cl C s H fp pn,PEf (blk X scope (x::y0::cn) cl C s H fp pn) elt te)
  (hs:∀ x,Uaa iter X.env x=pure x:=by rintro _; rfl):PEf X (.ListComp elt [⟨.Tuple [.Name x px,.Name y0 py] kt pt,iter,ifs,0⟩] scope pos) (Yf8 it ci tt te) :=
 PEi (Yhh (tt:=rdT X.K tt) (te:=rdE X.K te) hc B hi ht he hs) fun _ _ _ h=>Yft h
nonrec def Zrk (f:AF):ItF:=fun σ H=>(f σ H).bind fun p=>match p.1 with
 | [.ref n]=>match p.2[n]? with
  | some (.lst xs)=>some ((Zdy 0 xs,[(n,.lst xs)]),p.2)
  | _=>none
 | _=>none
theorem Zxy {K:Xb} {H0:Hp} {ι0:List Ve} {a:Ve} {n:Nat} {c:Int} {xs:List D} (ha:ι0[n]? = some a):ItRep K (IteL c a) (Zdy c xs) [(n,.lst xs)] H0 ι0:=by
 have now:∀ {H2:Hp} {ι2:List Ve} {Hd2:HD},Le K H0 ι0 H2 ι2->HRep K H2 ι2 Hd2->Zci [(n,DO.lst xs)] Hd2->∃ ws,H2 a=some (.lst ws)/\Vj (Rep K H2 ι2) xs ws:=fun {H2 ι2 Hd2} l2 h2 ok =>
  h2.obj n a _ (l2.get ha) (ok (n,.lst xs) (by simp))
 refine⟨fun i H2 ι2 Hd2 l2 h2 ok hi=>?_,fun i H2 ι2 Hd2 d v H3 l2 h2 ok hd y=>?_,fun i H2 ι2 Hd2 l2 h2 ok hi=>?_⟩
 ·obtain⟨ws,h3,P3⟩:=now l2 h2 ok
  exact⟨ws,ws[i]'(by rw[<- Prd.len P3,<- Zf7 xs c]; exact hi),h3,by simp⟩
 ·obtain⟨ws,h3,P3⟩:=now l2 h2 ok
  obtain⟨p,x,hp,rfl,rfl,y⟩:=y
  obtain⟨x',hx',rfl⟩:=Zkv hd
  obtain⟨u,hu,ru⟩:=Prd.get P3 hx'
  have:=y ws h3
  rw[hu] at this
  cases this
  exact⟨ι2,Le.fresh hp _,h2.tup hp _,Zbe.mpr ⟨p,_,rfl,SqT.of Zas,.cons (by simp) (.cons (ru.mono (Le.fresh hp _)) .nil)⟩⟩
 ·obtain⟨ws,h3,P3⟩:=now l2 h2 ok
  exact⟨ws,h3,by rw[<- Prd.len P3,<- Zf7 xs c]; exact hi⟩
theorem Zu0 {es:List Vv} {k:Nat} {tp p pos:Pos} {a:Vv} {f:AF} (hg:Gl X "enumerate") (hm:X.mg "enumerate" = none) (ha:PAf X [a] f) (hs:Vf [a] X.env=[(false,eval a X.env)]:=by rfl):PIf X (.Tuple es k tp) (.Call (.Name "enumerate" p) [a] [] pos) (Zrk f):=by
 rintro pins s σ H R I ⟨ι,σd,Hd,xs,own,Hd',sr,hr,e,q⟩
 obtain⟨⟨ds,H1⟩,e1,e⟩:=Zo e
 dsimp only at e
 split at e
 ·rename_i n
  split at e
  ·rename_i ys eo
   cases e
   refine Call_ (Zet I hg hm Udj (Ui (thn (ha pos pins s σ H (fun vs H'=>∃ a ws,vs=[.ref a]/\H' a=some (.lst ws)/\∀ (J:It) (H2:Hp),H2=H'->J=IteL 0 a->R J H2) I ⟨ι,σd,Hd,_,_,sr,hr,e1,fun vs H' ι' l h P=>?_⟩) fun us s1 ⟨vs,H2,I2,r2,q2⟩=>?_) hs rfl))
   ·obtain⟨v,rfl,r⟩:=Zn1 P
    obtain⟨ad,rfl,had⟩:=Zay.mp r
    obtain⟨ws,hS,P2⟩:=h.obj n ad _ had eo
    refine⟨ad,ws,rfl,hS,fun J H2 e2 e3=>?_⟩
    subst e2 e3
    exact q _ _ ι' l h (Zxy had)
   ·obtain⟨ad,ws,rfl,hS,q2⟩:=q2
    obtain⟨u,rfl,ru⟩:=Zja r2
    cases ru
    obtain⟨its,rv,p,hz⟩:=I2.list (SqL.of hS)
    refine Zt5 p.isList fun h' he hj z' kk=>?_
    have I3:Inv X pins σ H2 { s1 with heap:=h' }:=I2.kept (t':=s1.toks) kk
    refine Uau (s:={ s1 with heap:=h' }) he ?_
    have ne:s1.heap.objs.size+1≠s1.heap.objs.size:=Wer _
    refine⟨s1.heap.objs.size+1,[s1.heap.objs.size+1,s1.heap.objs.size],_,IteL 0 ad,H2,rfl,I3,Ztx ad _ _ 0 ne,⟨.none,by simpa using he,hj⟩,fun b hb=>?_,q2 _ _ rfl rfl⟩
    have:s1.heap.objs.size<=b:=by
     rcases Xi.mp hb with rfl | hb
     ·exact Wea _
     ·have:b=s1.heap.objs.size:=by simpa using hb
      rw[this]; exact Xe _
    exact I2.fpOk (b:=b) (H':=H2) this (I2.hok.fresh this)
  ·cases e
 ·cases e
end
nonrec def Znu (kvs:List (Int×D)) (k:Int) (v:D):List (Int×D):=if kvs.any (fun p=>p.1=k)=true then kvs.map (fun p=>if p.1=k then (p.1,v) else p) else kvs++[(k,v)]
nonrec def Zgx (kvs:List (Int×D)) (k:Int):Option D:=(kvs.find? fun p=>p.1=k).map (·.2)
nonrec def Yey (x:D) (H:HD):Option (List (Int×D)):=match x with
 | .ref n=>match H[n]? with
  | some (.dci kvs)=>some kvs
  | _=>none
 | _=>none
nonrec def Zvb:F2:=fun x y H=>(Yey x H).bind fun kvs=>match y with
 | .int k=>(Zgx kvs k).map fun v=>(v,H)
 | _=>none
nonrec def iinD:F2:=fun x y H=>(Yey y H).bind fun kvs=>match x with
 | .int k=>some (.bl (Zgx kvs k).isSome,H)
 | _=>none
theorem Zpd {x:D} {Hd:HD} {kvs:List (Int×D)} (e:Yey x Hd=some kvs):∃ n,x=.ref n/\Hd[n]? = some (.dci kvs):=by
 cases x<;>simp only[Yey] at e<;>try cases e
 rename_i n
 split at e
 ·rename_i h; cases e; exact⟨n,rfl,h⟩
 ·cases e
section
variable {K:Xb} {H:Hp} {ι:List Ve}
theorem Zy5 {kvs:List (Int×D)} {xs:List (Int×Vb)} (h:Vj (Zz4 K H ι) kvs xs) (k:Int):kvs.any (fun p=>p.1=k)=xs.any (fun p=>p.1=k):=by
 induction h with
 | nil=>rfl
 | cons a b ih=>rw[Wcq,Wcq,ih,a.1]
theorem Zy6 {kvs:List (Int×D)} {xs:List (Int×Vb)} {k:Int} {d:D} {v:V} {u:Vb} (h:Vj (Zz4 K H ι) kvs xs) (r:Zcd v u) (q:Rep K H ι d v):Vj (Zz4 K H ι) (kvs.map (fun p=>if p.1=k then (p.1,d) else p)) (xs.map (fun p=>if p.1=k then (p.1,u) else p)):=by
 induction h with
 | nil=>exact .nil
 | cons a b ih =>
  refine .cons ?_ ih
  dsimp only
  rw[a.1]
  split
  ·exact⟨rfl,v,r,q⟩
  ·exact a
theorem Zzp {kvs:List (Int×D)} {xs:List (Int×Vb)} {k:Int} {d:D} {v:V} {u:Vb} (h:Vj (Zz4 K H ι) kvs xs) (r:Zcd v u) (q:Rep K H ι d v):Vj (Zz4 K H ι) (Znu kvs k d) (Uep xs k u):=by
 unfold Znu Uep
 rw[Zy5 h k]
 split
 ·exact Zy6 h r q
 ·exact Prd.append h (.cons ⟨rfl,v,r,q⟩ .nil)
theorem Zn9 {kvs:List (Int×D)} {xs:List (Int×Vb)} (h:Vj (Zz4 K H ι) kvs xs) (k:Int):(Zgx kvs k=none/\valueAt xs k=none)\/∃ d v u,Zgx kvs k=some d/\valueAt xs k=some u/\Zcd v u/\Rep K H ι d v:=by
 unfold Zgx valueAt
 induction h with
 | nil=>exact .inl ⟨rfl,rfl⟩
 | cons a b ih =>
  rename_i p x ps xs'
  by_cases e:p.1=k
  ·have e2:x.1=k:=by rw[<- a.1]; exact e
   obtain⟨_,v,r,q⟩:=a
   exact .inr ⟨p.2,v,x.2,by rw[Wdh (by simpa using e)]; rfl,by rw[Wdh (by simpa using e2)]; rfl,r,q⟩
  ·have e2:¬ x.1=k:=by rw[<- a.1]; exact e
   rw[Wbx (by simpa using e),Wbx (by simpa using e2)]
   exact ih
end
theorem Zzf {p p2:Vi} {w w2:Vs} {es:List Uan} {xs:List (Int×Vb)} (e:Pairs (Zyk p w) es xs):Pairs (Zyk p2 w2) es xs:=by
 induction e with
 | nil=>exact .nil
 | cons a b c ih=>exact .cons a b ih
theorem Zt0 {h:Vy} {a:Ve} {xs:List (Int×Vb)} {p:Vi} {w:Vs} (d:h.DictOf (Zyk p w) a xs):Zfr a xs h:=fun p2 w2=>by
 obtain⟨o,es,ep,e1,e2,e3,e4,e5,e6⟩:=d
 refine⟨o,es,ep,e1,e2,e3,e4,?_,e6⟩
 exact Zzf e5
section
variable {X:Cx}
theorem Zu2 {pins:List (Ve×Obj)} {σ:L2.St} {H:Hp} {s:Vd} {ι:List Ve} (I:Inv X pins σ H s) {a:Ve} {kvs:List (Int×D)} (h:Zt4 X.K H ι a (.dci kvs)):(a==Uag)=false/\∃ xs,Vj (Zz4 X.K H ι) kvs xs/\s.heap.DictOf (Zyk X.prog X.w) a xs:=by
 obtain⟨h1,h2,xs,h3,P⟩:=h
 exact⟨h1,xs,P,(I.hok a _ h3).1 X.prog X.w⟩
theorem Ygl:IxF X Zvb:=by
 rintro va sl pins s σ H x y v u Q I rx ry ⟨ι,dx,dy,Hd,d,Hd',hr,r1,r2,e,q⟩ hs
 obtain⟨kvs,e1,e⟩:=Zo e
 split at e
 ·rename_i k _
  obtain⟨vd,e3,e⟩:=Zm e
  obtain⟨rfl,rfl⟩:=Way.inj e
  obtain⟨n,rfl,hn⟩:=Zpd e1
  obtain⟨a,rfl,ha⟩:=Zay.mp r1
  simp at r2
  subst r2
  obtain⟨tok,rfl⟩:=ry
  cases rx
  obtain⟨h1,xs,P,dd⟩:=Zu2 I (hr.obj n a _ ha hn)
  rcases Zn9 P _ with ⟨z,_⟩ | ⟨d',v',u',z1,z2,z3,z4⟩
  ·rw[z] at e3; cases e3
  ·rw[z1] at e3; cases e3
   refine tail_any (ops:=[.ref a,.int k tok]) dd.typeIs PySem.F.slot_dict_getitem.lookup (wpAny_getItem_of (knd:=Zyk X.prog X.w) (k:=k) (Zka (k:=k) (t:=tok)) dd.mapOf z2 ?_) hs
   exact⟨v',H,I.tok _,z3,q _ H ι Le.refl hr z4⟩
 ·cases e
end
section
variable {X:Cx}
theorem iinf:OpF X (Vt .In) iinD:=by
 rintro pins s σ H x y v u Q I rx ry ⟨ι,dx,dy,Hd,d,Hd',hr,r1,r2,e,q⟩
 obtain⟨kvs,e1,e⟩:=Zo e
 split at e
 ·rename_i k _
  obtain⟨rfl,rfl⟩:=Way.inj (Xx.inj e)
  obtain⟨n,rfl,hn⟩:=Zpd e1
  obtain⟨a,rfl,ha⟩:=Zay.mp r2
  simp at r1
  subst r1
  obtain⟨tok,rfl⟩:=rx
  cases ry
  obtain⟨h1,xs,P,dd⟩:=Zu2 I (hr.obj n a _ ha hn)
  refine wpAny_in_of (knd:=Zyk X.prog X.w) (k:=k) (Zka (k:=k) (t:=tok)) h1 dd.mapOf ?_
  have e3:(valueAt xs k).isSome=(Zgx kvs k).isSome:=by
   rcases Zn9 P k with ⟨z1,z2⟩ | ⟨_,_,_,z1,z2,_⟩<;>rw[z1,z2]<;>rfl
  rw[e3]
  exact⟨.bl _,H,I.tok _,rfl,q _ H ι Le.refl hr (by simp)⟩
 ·cases e
end
section
variable {X:Cx}
nonrec def Zid (i j:Int):Nat:=(i - j).toNat
def Zlp (i j c:Int):Prop := -(2 ^ 60)<=i/\i<2 ^ 60 /\ -(2 ^ 60)<=j/\j<2 ^ 60/\c = -1
instance (i j c:Int):Decidable (Zlp i j c):=by unfold Zlp; exact inferInstance
nonrec def iRB (f:AF):ItF:=fun σ H=>(f σ H).bind fun p=>match p.1 with
 | [.int i,.int j,.int c]=>if Zlp i j c then some ((Zhd i c (Zid i j),[]),p.2) else none
 | _=>none
theorem Zrs {i j c:Int} (h:Zlp i j c):Taa i j c=(Zid i j:Nat):=by
 obtain⟨_,_,_,_,rfl⟩:=h
 unfold Taa Zid
 rw[if_neg (by decide)]
 split
 ·rw[show -(-1:Int)=1 from rfl,Int.ediv_one]; omega
 ·omega
theorem Zvo {i j c:Int} (h:Zlp i j c):Tcg i j c=true:=by
 have e:=Zrs h
 obtain⟨h1,h2,h3,h4,rfl⟩:=h
 have hb:(Zid i j:Int)<=2 ^ 61:=by unfold Zid; omega
 unfold Tcg
 rw[e]
 have hp:¬ ((-1:Int) > 0):=by decide
 simp only[Builtin.Range.rangeFitsLong,Wai,Wez,decide_eq_true_eq,beq_iff_eq,hp,if_false]
 unfold Zid
 omega
theorem Ztw {tg:Vv} {a b c:Vv} {f:AF} {p pos:Pos} (hg:Gl X "range") (hm:X.mg "range" = none) (ha:PAf X [a,b,c] f) (hs:Vf [a,b,c] X.env=(false,eval a X.env)::Vf [b,c] X.env:=by rfl) (hpl:(Uac pos (Vf [b,c] X.env)).any (·.1)=false:=by rfl) :
  PIf X tg (.Call (.Name "range" p) [a,b,c] [] pos) (iRB f):=by
 rintro pins s σ H R I ⟨ι,σd,Hd,xs,own,Hd',sr,hr,e,q⟩
 obtain⟨⟨ds,H1⟩,e1,e⟩:=Zo e
 dsimp only at e
 split at e
 ·rename_i i j k
  split at e
  ·rename_i hk
   cases e
   refine Call_ (Zet I hg hm boot_range (Ui (thn (ha pos pins s σ H (fun vs H'=>vs=[.int i,.int j,.int k]/\R (It3 i k (Zid i j)) H') I ⟨ι,σd,Hd,_,_,sr,hr,e1,fun ws H' ι' l h P=>?_⟩) fun us s1 ⟨vs,H2,I2,r2,q2⟩=>?_) hs hpl))
   ·cases P with
    | cons r1 P =>
     obtain⟨v,v',rfl,r,r'⟩:=Yex P
     simp at r1 r r'
     subst r1 r r'
     refine⟨rfl,q _ H' ι' l h ⟨fun i H2 ι2 Hd2 l2 h2 _ hi=>(show i<_ by simpa [Zhd] using hi),fun i' H2 ι2 Hd2 d x H3 l2 h2 _ hd y=>?_,fun i H2 ι2 Hd2 l2 h2 _ hi=>(show _<=i by simpa [Zhd] using hi)⟩⟩
     obtain⟨rfl,rfl⟩:=y
     unfold Zhd at hd
     rw[Xp] at hd
     obtain⟨k',h1',rfl⟩:=Zm hd
     rw[Xc] at h1'
     obtain⟨hl',h1'⟩:=h1'
     simp at h1'
     subst h1'
     exact⟨ι2,Le.refl,h2,by simp⟩
   ·obtain⟨rfl,q2⟩:=q2
    cases r2 with
    | cons r1 r2 =>
     obtain⟨u1,u2,rfl,ru1,ru2⟩:=Zw3 r2
     obtain⟨t1,rfl⟩:=r1
     obtain⟨t2,rfl⟩:=ru1
     obtain⟨t3,rfl⟩:=ru2
     have hc:=hk
     obtain⟨b1,b2,b3,b4,b5⟩:=hk
     refine call_range_3 (by omega) ?_ (.inl (Tbt (by omega)))
     refine wpAny_pyIter_range (Tdc ..) (Zvo hc) ?_
     have I1:Inv X pins σ H2 { s1 with heap:=s1.heap.push { cls:=.type "range",data:=.fields #[.int i t1,.int j t2,.int k t3] } }:=I2.kept (t':=s1.toks) fun b o e=>Xa _ e
     refine⟨_,[_],_,It3 i k (Zid i j),H2,rfl,I1.kept (t':=s1.toks) fun b o e=>Xa _ e,Zq9 _ i k _,?_,fun b hb=>?_,q2⟩
     ·have z1:i+((0:Nat):Int)*k=i:=by simp
      have z2:((Zid i j:Nat):Int) - ((0:Nat):Int)=Taa i j k:=by rw[Zrs hc]; simp
      show Udn _ _ (i+((0:Nat):Int)*k) (((Zid i j:Nat):Int) - ((0:Nat):Int)) k
      rw[z1,z2]
      exact Xd _ rfl
     ·have e:b=(s1.heap.push { cls:=.type "range",data:=.fields #[.int i t1,.int j t2,.int k t3] }).objs.size:=by simpa using hb
      subst e
      exact I1.fpOk (Xe _) (I1.hok.fresh (Xe _))
  ·cases e
 ·cases e
end
theorem Zy4 (kvs:List (Int×D)) (k:Int) (v:D):(Znu kvs k v).length<=kvs.length+1:=by unfold Znu; split<;>simp
nonrec def Zts:Yb5:=fun o i v H=>match o,i with
 | .ref n,.int k=>match H[n]? with
  | some (.dci kvs)=>if kvs.length<sizeLine then some (H.set n (.dci (Znu kvs k v))) else none
  | _=>none
 | _,_=>none
section
variable {X:Cx}
theorem Yhl:Ycq X Zts:=by
 rintro pins s σ H o i v ov iv u Q I ro ri rv ⟨ι,od,id,vd,Hd,Hd',hr,r1,r2,r3,e,q⟩
 have hx:∃ n k kvs,od=.ref n/\id=.int k/\Hd[n]? = some (.dci kvs)/\kvs.length<sizeLine/\Hd'=Hd.set n (.dci (Znu kvs k vd)):=by
  unfold Zts at e
  split at e
  ·rename_i n k
   split at e
   ·rename_i kvs hn
    split at e
    ·rename_i hl; cases e; exact⟨n,k,kvs,rfl,rfl,hn,hl,rfl⟩
    ·cases e
   ·cases e
  ·cases e
 obtain⟨n,k,kvs,rfl,rfl,hn,hl,rfl⟩:=hx
 obtain⟨a,rfl,ha⟩:=Zay.mp r1
 have r2:i=.int k:=by simpa using r2
 subst r2
 cases ro
 obtain⟨tk,rfl⟩:=ri
 obtain⟨h1,h2,xs,h3,P⟩:=hr.obj n a _ ha hn
 have dd:Zfr a xs s.heap:=((show Zc2 X.prog X.w H s.heap a (.ext (Zfr a xs)) from I.hok a _ h3)).1
 have hz:xs.length<=sizeLine:=by rw[<- Prd.len P]; exact h2
 refine wpAny_setItem_pairs (knd:=Zyk X.prog X.w) (k:=k) (hsz:=hz) (Zka (k:=k) (t:=tk)) (dd X.prog X.w) fun h' dd' hs=>?_
 have L:Le X.K H ι (upd H a (.ext (Zfr a (Uep xs k u)))) ι:=Le.upd (Xk ha) h3 trivial _
 have dA:Zfr a (Uep xs k u) h':=Zt0 dd'
 obtain⟨ob,es,ep,g1,_⟩:=id dd'
 have ok:Zc2 X.prog X.w (upd H a (.ext (Zfr a (Uep xs k u)))) h' a (.ext (Zfr a (Uep xs k u))):=⟨dA,⟨ob,g1⟩,fun h1 h2 d k=>Zfr.keep d k⟩
 have hr':HRep X.K (upd H a (.ext (Zfr a (Uep xs k u)))) ι (Hd.set n (.dci (Znu kvs k vd))):=by
  refine hr.upd ha h3 trivial ⟨h1,?_,_,Zas,?_⟩
  ·have:=Zy4 kvs k vd; omega
  ·exact Zzp (Prd.imp P fun p x _ z=>⟨z.1,let ⟨v,z1,z2⟩:=z.2; ⟨v,z1,z2.mono L⟩⟩) rv (r3.mono L)
 exact⟨_,I.write (x:=a) (e:=a) (by rw[h3]; exact Tad) (.inl rfl) (fun b q hb z=>(hs.2 b hb).trans z) ⟨ob,g1⟩ ok,q _ ι L hr'⟩
nonrec def eDI:EF:=fun _ H=>some (.ref H.length,H++[.dci []])
theorem Zph {pos:Pos}:PEf X (.Dict [] [] pos) eDI:=by
 rintro pins s σ H Q I ⟨ι,σd,Hd,d,Hd',sr,hr,e,q⟩
 cases e
 have hb:Uag<s.heap.objs.size:=Nat.lt_trans (by decide) (show Vh<s.heap.objs.size from(I.mod.glob.keeps I.bk).lt)
 have hp:=I.hok.fresh (Xe s.heap.objs.size)
 have dn:Zfr s.heap.objs.size [] (s.heap.push { cls:=.type "dict",data:=.dict #[] }):=fun p w=>Heap.DictOf.new (knd:=Zyk p w) s.heap
 have ok:Zc2 X.prog X.w (upd H s.heap.objs.size (.ext (Zfr s.heap.objs.size []))) (s.heap.push { cls:=.type "dict",data:=.dict #[] }) s.heap.objs.size (.ext (Zfr s.heap.objs.size [])):=⟨dn,⟨_,Xd _ rfl⟩,fun h1 h2 d k=>Zfr.keep d k⟩
 refine wpAny_Dict_empty ⟨.ref s.heap.objs.size,_,I.laid (a:=s.heap.objs.size) (o:=.ext (Zfr s.heap.objs.size [])) (t':=s.toks) (fun _ _ q=>Xa _ q) (Xe _) ok,rfl,?_⟩
 have hl:ι.length=Hd.length:=hr.len
 exact q _ _ (ι++[s.heap.objs.size]) (Le.fresh1 hp _) (hr.new hp ⟨beq_eq_false_iff_ne.mpr (Ul (Xh hb)),Wbd _,[],Zas,.nil⟩) (Zay.mpr ⟨_,rfl,by rw[<- hl]; simp⟩)
end
open PySem.W (KasT kas_rev kas_asc kas_desc kas_tail3 kas_descPart kas_count kas_place kas_bin kas_sort)
section
variable {n:Nat}
variable (h0:0<n)
include h0
end
open PySem.W (KdlSrc)
def Ydk (d:Ve) (es:Array Uan) (ep:Nat) (h:Vy):Prop:=(d==Uag)=false/\∃ o,h.get? d=some o/\o.ExactDict/\o.data=.dict es ep
theorem Ydk.mv {d:Ve} {es:Array Uan} {ep:Nat} {h h':Vy} (x:Ydk d es ep h) (k:∀ o,h.get? d=some o->h'.get? d=some o):Ydk d es ep h':=let ⟨a,o,e,r⟩:=x; ⟨a,o,k o e,r⟩
section
variable {prog:Vi} {w:Vs} {A:Vr} {E:Vb->Vd->Prop} {s:Vd}
theorem Zz9 (hh:A.handled=none) (I d:Ve) (ne:d≠I) (es:Array Uan) (ep:Nat) :
  Walks prog w A I [I,d] [I] es.size (fun i v=>∃ e,es[i]? = some e/\v=e.key) (fun i h=>h.IsKeyIter I d i es.size ep/\Ydk d es ep h) where
 sub:=fun b hb=>by simp at hb; simp[hb]
 frame:=fun _ _ _ st hk=>⟨st.1.at fun o e=>hk I (by simp) o e,st.2.mv fun o e=>hk d (by simp) o e⟩
 item:=fun i s _ _ hi st hQ=>by
  obtain⟨_,ob,g1,g2,g3⟩:=st.2
  refine Zw4 st.1 g1 g3 hi fun h' hit' hs'=>?_
  exact hQ _ h' s.toks ⟨es[i],by simp[hi],rfl⟩ ⟨hit',st.2.mv fun o e=>hs'.extBut d o ne e⟩ fun b o hb e=>hs'.extBut b o (fun h=>hb (by simp[h])) e
 done:=fun s Q E st hQ=>by
  obtain⟨_,ob,g1,g2,g3⟩:=st.2
  exact Zsl hh st.1 g1 g3 (Xe _) fun h' he'=>hQ h' s.toks fun b o hb e=>he' b o (fun h=>hb (by simp[h])) e
 self:=fun _ _ _ _ st r=>Udd st.1 r
theorem Yf9 {d:Ve} {es:Array Uan} {ep:Nat}:KdlSrc prog w "dict" d d es.size (fun i v=>∃ e,es[i]? = some e/\v=e.key) (Ydk d es ep) where
 type:=fun _ ⟨_,o,e,x,_⟩=>⟨o,e,x.1⟩
 there:=fun _ ⟨_,o,e,_⟩=>⟨Xf e,Xf e⟩
 keep:=fun _ _ x k=>x.mv fun o e=>k d (.inl rfl) o e
 notList:=by decide
 notTuple:=by decide
 hint:=fun _ _ _ _ ⟨_,o,e,x,_⟩ r=>PySem.W.kdl_hint_dict ⟨o,e,x.1⟩ r
 iter:=fun _ s hh x=>by
  obtain⟨h0,ob,g1,g2,g3⟩:=id x
  exact⟨_,_,(fun _ _ hq=>Zrv h0 g1 g2 g3 hq),Zz9 hh _ d (Xh (Xf g1)) es ep,⟨⟨_,Xd _ rfl,rfl,rfl⟩,x.mv fun o e=>Xa _ e⟩⟩
theorem Zq8 {d:Ve} {es:Array Uan} {ep:Nat} {R:List Vb->Vd->Prop} (hh:A.handled=none) (x:Ydk d es ep s.heap) (hz:es.size<=sizeLine)
  (h:∀ h' tk,(∀ b o,s.heap.get? b=some o->h'.get? b=some o)->s.heap.objs.size<=h'.objs.size->R (es.toList.map (·.key)) { s with heap:=h',toks:=tk }):Vg (Vl prog w) A (collect (.ref d)) R E s:=by
 have hN:(s.heap.push (Uay "list" #[] 0)).get? s.heap.objs.size=some (Uay "list" #[] 0):=Xd _ rfl
 have dl:d<s.heap.objs.size:=let ⟨_,_,e,_⟩:=x; Xf e
 unfold collect
 refine Va (wpAny_runValue (Ubh Udf (show Vg _ _ (do again (.builtin "list.__iadd__" ⟨[<- Uer [],.ref d],[]⟩)) _ _ s from Va (Ucg (Vc ⟨Tbn _ (by decide +kernel),Ubh entry_list_iadd' ?_⟩)))))
 show Vg _ _ (Us (.ref s.heap.objs.size) (.ref d) (.ref s.heap.objs.size)) _ _ { s with heap:=s.heap.push (Uay "list" #[] 0) }
 rw[Around.under_plainId (show plainId "list.__iadd__" = true by decide +kernel)]
 have E1:Vg (Vl prog w) A.in1 (Us (.ref s.heap.objs.size) (.ref d) (.ref s.heap.objs.size)) _ _ { s with heap:=s.heap.push (Uay "list" #[] 0) }:=PySem.W.kdl_extend (s:={ s with heap:=s.heap.push (Uay "list" #[] 0) }) (R:=fun r s'=>r=.ok (.ret (.ref s.heap.objs.size))/\Vg (Vl prog w) A (load s.heap.objs.size) (fun o s2=>∃ xs ep,o.data=.seq xs ep/\R xs.toList s2) E s') (Yf9 (ep:=ep)) hh (x.mv fun o e=>Xa _ e) s.heap.objs.size (Ul (Xh dl)) (Ul (Xh dl)) (.ref s.heap.objs.size) 0 hN (fun h' tk acc c k1 k2 hi=>by
  have ea:acc.toList=es.toList.map (·.key):=by
   apply Wfu
   intro i
   rw[Xp,Wfb,Wfb]
   by_cases hl:i<es.size
   ·have la:i<acc.size:=by rw[hi.1]; exact hl
    obtain⟨e,e1,e2⟩:=hi.2 i acc[i] (Wct la)
    rw[Wct la,e1,e2]
    rfl
   ·rw[Wdg (by rw[hi.1]; omega),Wdg (by omega)]
    rfl
  refine⟨rfl,wpAny_load k2 ⟨acc,c,rfl,?_⟩⟩
  rw[ea]
  exact h h' tk (fun b o e=>k1 b o (Xh (Xf e)) (Xa _ e)) (Wed (Xf k2))) hz
 have fin:∀ s',Vg (Vl prog w) A (load s.heap.objs.size) (fun o s2=>∃ xs ep,o.data=.seq xs ep/\R xs.toList s2) E s'->Vg (Vl prog w) A (do match (<- load s.heap.objs.size).data with | .seq xs _=>pure xs.toList | _=>unsupported "internal:collect") R E s':=fun s' z=>by
  refine Va (Uaq z (fun o s2 ⟨xs,ep,e1,e2⟩=>?_) fun _ _ x=>x)
  rw[e1]
  exact Vc e2
 refine Uaq E1 (fun f s' z=>?_) (fun e s' z=>?_)
 ·cases f with
  | done f =>
   obtain⟨z1,z2⟩:=z
   cases z1
   exact fin s' z2
  | again c =>
   refine⟨z.1,Uas z.2 fun r s2 z=>?_⟩
   obtain⟨rfl,z2⟩:=z
   exact fin s2 z2
 ·cases z.1
end
end DL
namespace DL
open PySem PySem.Spec PyProof.Rows L2 PySem.W
nonrec def Zgg (s:Vw):List Vw:=match s with
 | .ClassDef _ _ _ body _ _ _ _ _ _ _=>body
 | _=>[]
nonrec def Ycg (f:Str) (v:D):List (Str×D)->List (Str×D)
 | []=>[(f,v)]
 | (g,x)::r=>if g=f then (g,v)::r else (g,x)::Ycg f v r
section
variable {K:Frag} {H:Hp} {ι:List Ve}
theorem Zwz {f:Str} {d:D} {v:V} (r:Rep K H ι d v):∀ {fs:List (Str×D)} {xs:List (Str×V)},Vj (Yic K H ι) fs xs->Vj (Yic K H ι) (Ycg f d fs) (Zle f v xs)
 | _,_,.nil=>.cons ⟨rfl,r⟩ .nil
 | _,_,.cons (a:=(g,x)) (b:=(g',y)) ⟨h1,h2⟩ t=>by
  have h1:g=g':=h1
  subst h1
  unfold Ycg Zle
  by_cases e:g=f
  ·rw[if_pos e,if_pos e]; exact .cons ⟨rfl,r⟩ t
  ·rw[if_neg e,if_neg e]; exact .cons ⟨rfl,h2⟩ (Zwz r t)
theorem Znb {f:Str}:∀ {fs:List (Str×D)} {xs:List (Str×V)},Vj (Yic K H ι) fs xs->(fs.lookup f=none->xs.lookup f=none)/\∀ d,fs.lookup f=some d->∃ v,xs.lookup f=some v/\Rep K H ι d v
 | _,_,.nil=>⟨fun _=>rfl,fun d e=>(by cases e)⟩
 | _,_,.cons (a:=(g,x)) (b:=(g',y)) ⟨h1,h2⟩ t=>by
  have h1:g=g':=h1
  subst h1
  rw[Waf,Waf]
  cases f==g with
  | true=>exact⟨fun e=>(by cases e),fun d e=>(by cases e; exact⟨y,rfl,h2⟩)⟩
  | false=>exact Znb t
end
structure Kl (K:Frag) (cn:Str) (fl:List Str):Prop where
 ex:∃ C,Ueo K Vh cn=some (some (.ref C))/\Cls K C/\∀ f∈fl,Zi5 K C f
nonrec def Zmj (cn:Str) (fo:EF) (f:Str):EF:=fun σ H=>(fo σ H).bind fun o=>match o.1 with
 | .ref n=>match o.2[n]? with
  | some (.obj c fs)=>if c=cn then (fs.lookup f).map fun d=>(d,o.2) else none
  | _=>none
 | _=>none
nonrec def Zqo (cn:Str) (fo fv:EF) (f:Str):SF:=fun σ H=>(fv σ H).bind fun y=>(fo σ y.2).bind fun o=>match o.1 with
 | .ref n=>match o.2[n]? with
  | some (.obj c fs)=>if c=cn/\fs.length<1000 then some (.nx,σ,o.2.set n (.obj c (Ycg f y.1 fs))) else none
  | _=>none
 | _=>none
section
variable {X:Cx} {o e value:Vv} {es:List Vv} {cn f:Str} {fl:List Str} {fo fv:EF} {pos pos':Pos}
theorem Kl.at {K:Frag} (T:Kl K cn fl) {C:Ve} (h:Ueo K Vh cn=some (some (.ref C))):Cls K C/\∀ f∈fl,Zi5 K C f:=by
 obtain⟨C',h1,h2,h3⟩:=T.ex
 rw[h] at h1
 cases h1
 exact⟨h2,h3⟩
theorem Yem (T:Kl X.K cn fl) (hf:f∈fl) (ho:PEf X o fo) (hb:Ube o f X.env (eval o X.env)=eval o X.env:=by rfl):PEf X (.Attribute o f pos) (Zmj cn fo f):=by
 refine PEi (Yfq ho hb) fun σ H Q zz=>?_
 obtain⟨ι,σd,Hd,d,Hd',s,hr,e,q⟩:=zz
 obtain⟨⟨x,H1⟩,e1,e0⟩:=Zo e
 clear e
 have e:=e0
 clear e0
 refine⟨ι,σd,Hd,x,H1,s,hr,e1,fun v H' ι' l h r=>?_⟩
 dsimp only at e
 split at e
 ·rename_i n
  split at e
  ·rename_i c fs en
   split at e
   ·rename_i hc
    subst hc
    obtain⟨d',el,e⟩:=Zm e
    cases e
    obtain⟨a,rfl,ha⟩:=Zay.mp r
    obtain⟨a',ha',C,dx,xs,hns,hH,hp⟩:=h.at en
    rw[ha] at ha'
    cases ha'
    obtain⟨v',l',r'⟩:=(Znb hp).2 _ el
    exact⟨a,C,dx,xs,v',rfl,hH,(T.at hns).1,(T.at hns).2 f hf,l',q v' H' ι' l h r'⟩
   ·cases e
  ·cases e
 ·cases e
theorem Zuk (T:Kl X.K cn fl) (hf:f∈fl) (ho:PEf X o fo) (hv:PEf X value fv) (hs:Ubs value (some (.Attribute o f pos')) pos.line X.env=pure false:=by rfl):PSf X (.Assign [.Attribute o f pos'] value pos) (Zqo cn fo fv f):=by
 refine PSi (Ye5 ho hv hs) fun E σ H zz=>?_
 obtain⟨ι,σd,Hd,fl',σd',Hd',s,hr,e,q⟩:=zz
 obtain⟨⟨y,H1⟩,e1,e0⟩:=Zo e
 clear e
 obtain⟨⟨x,H2⟩,e2,e⟩:=Zo e0
 clear e0
 refine⟨ι,σd,Hd,y,H1,s,hr,e1,fun vy H' ι' l h ry=>⟨ι',σd,H1,x,H2,s.mono l,h,e2,fun vx H'' ι'' l2 h2 rx=>?_⟩⟩
 dsimp only at e
 split at e
 ·rename_i n
  split at e
  ·rename_i c fs en
   split at e
   ·rename_i hc
    obtain⟨rfl,hlen⟩:=hc
    cases e
    obtain⟨a,rfl,ha⟩:=Zay.mp rx
    obtain⟨a',ha',C,dx,xs,hns,hH,hp⟩:=h2.at en
    rw[ha] at ha'
    cases ha'
    have ll:Le X.K H'' ι'' (upd H'' a (.ins C dx (Zle f vy xs))) ι'':=Le.upd (Xk ha) hH Tad _
    have hp2:Vj (Yic X.K (upd H'' a (.ins C dx (Zle f vy xs))) ι'') (Ycg f y fs) (Zle f vy xs):=Prd.imp (Zwz (ry.mono l2) hp) fun p x _ z=>⟨z.1,z.2.mono ll⟩
    exact⟨a,C,dx,xs,rfl,hH,(T.at hns).1,(T.at hns).2 f hf,by rw[<- Prd.len hp]; exact hlen,q _ _ ι'' ((l.trans l2).trans ll) (h2.upd ha hH Tad ⟨C,dx,_,hns,Zas,hp2⟩) (s.mono ((l.trans l2).trans ll))⟩
   ·cases e
  ·cases e
 ·cases e
end
structure FnM (P:Vi) (w:Vs) (K:Frag) (mg:Str->Option Vb) (base:Vy) (k:Nat) (cn m:Str) (ps:List Str) (F:FF):Prop where
 ex:∃ C f fd,Ueo K Vh cn=some (some (.ref C))/\Cls K C/\Meth K C m f/\FnOk P w K mg base CX0 k f fd ps (spF K ps.length F)/\Zip K fd ps []
structure FnI (P:Vi) (w:Vs) (K:Frag) (mg:Str->Option Vb) (base:Vy) (k:Nat) (cn:Str) (ps:List Str) (F:FF):Prop where
 ex:∃ C f fd,mg cn=some (.ref C)/\Ueo K Vh cn=some (some (.ref C))/\Mk K C f/\FnOk P w K mg base CX0 k f fd ps (spF K ps.length F)/\Zip K fd ps []
nonrec def Zcr (cn m:Str) (n:Nat) (F:FF) (fo:EF) (fa:AF):EF:=fun σ H=>(fo σ H).bind fun o=>match o.1 with
 | .ref k=>match o.2[k]? with
  | some (.obj c fs)=>if c=cn/\fs.lookup m=none then (fa σ o.2).bind fun p=>if p.1.length+1=n then F (.ref k::p.1) p.2 else none else none
  | _=>none
 | _=>none
nonrec def eMk (cn:Str) (n:Nat) (F:FF) (fa:AF):EF:=fun σ H=>(fa σ H).bind fun p=>if p.1.length+1=n then (F (.ref p.2.length::p.1) (p.2++[.obj cn []])).bind fun r=>match r.1 with
 | .non=>some (.ref p.2.length,r.2)
 | _=>none
 else none
section
variable {X:Cx} {o e:Vv} {es:List Vv} {cn m x:Str} {k n:Nat} {ps:List Str} {F:FF} {fo:EF} {fa:AF} {pos apos p:Pos}
theorem Zx3 {C f:Ve} {σ:L2.St} {H:Hp} {Q:VK} (hns:Ueo X.K Vh cn=some (some (.ref C))) (z:rdE X.K (Zcr cn m ps.length F fo fa) σ H Q):Yc3 C m (spF X.K ps.length F) [] E0 (rdE X.K fo) (rdA X.K fa) σ H Q:=by
 obtain⟨ι,σd,Hd,d,Hd',s,hr,e,q⟩:=z
 obtain⟨⟨x,H1⟩,e1,e0⟩:=Zo e
 clear e
 have e:=e0
 clear e0
 refine⟨ι,σd,Hd,x,H1,s,hr,e1,fun v H' ι' l h r=>?_⟩
 dsimp only at e
 split at e
 ·rename_i n
  split at e
  ·rename_i c fs en
   split at e
   ·rename_i hc
    obtain⟨rfl,hlk⟩:=hc
    obtain⟨⟨ds,H2⟩,e2,e0⟩:=Zo e
    clear e
    have e:=e0
    clear e0
    dsimp only at e
    split at e
    ·rename_i hl
     obtain⟨a,rfl,ha⟩:=Zay.mp r
     obtain⟨a',ha',C',dx,xs,hns',hH,hp⟩:=h.at en
     rw[ha] at ha'
     cases ha'
     rw[hns] at hns'
     cases hns'
     refine⟨a,dx,xs,rfl,hH,(Znb hp).1 hlk,ι',σd,H1,ds,H2,s.mono l,h,e2,fun vs H'' ι'' l2 h2 P=>?_⟩
     exact⟨ι'',.ref n::ds,H2,d,Hd',hl,h2,.cons (r.mono l2) (by rw[Wad]; exact P),e,fun v2 H3 ι3 l3 h3 r3=>q v2 H3 ι3 ((l.trans l2).trans l3) h3 r3⟩
    ·cases e
   ·cases e
  ·cases e
 ·cases e
theorem Zzy {pl:Sem Bool} (G:FnM X.prog X.w X.K X.mg X.base k cn m ps F) (hr:Room k X.A) (ho:PEf X o fo) (ha:PAf X (e::es) fa)
  (hst:Vf (e::es) X.env=(false,eval e X.env)::Vf es X.env:=by exact Zbq rfl) (hpl:(Uac pos (Vf es X.env)).any (·.1)=false:=by exact Zck rfl)
  (ht:eval (.Call (.Attribute o m apos) (e::es) [] pos) X.env=(do
   let ov<-eval o X.env
   Udm apos.atName
   let (f,first)<-Ubt [ov] (Ucs ov m pl)
   Ubx pos f first (Uac pos (Vf (e::es) X.env)) (Ubk pos (Uak [] X.env))):=by rfl) (hn:ps.length=n:=by rfl):PEf X (.Call (.Attribute o m apos) (e::es) [] pos) (Zcr cn m n F fo fa):=by
 subst hn
 obtain⟨C,f,fd,hns,hC,hM,hF,hb⟩:=G.ex
 exact PEi (Ycs (pl:=pl) (E:=E0) ho hC hM hF hr hb .nil Zv7 ha hst hpl ht) fun σ H Q z=>Zx3 (f:=f) hns z
theorem Zb6 {pl:Sem Bool} (G:FnM X.prog X.w X.K X.mg X.base k cn m ps F) (hr:Room k X.A) (ho:PEf X o fo)
  (ht:eval (.Call (.Attribute o m apos) [] [] pos) X.env=(do
   let ov<-eval o X.env
   Udm apos.atName
   let (f,first)<-Ubt [ov] (Ucs ov m pl)
   Ubx pos f first (Uac pos (Vf [] X.env)) (Ubk pos (Uak [] X.env))):=by rfl) (hn:ps.length=n:=by rfl):PEf X (.Call (.Attribute o m apos) [] [] pos) (Zcr cn m n F fo Zaf):=by
 subst hn
 obtain⟨C,f,fd,hns,hC,hM,hF,hb⟩:=G.ex
 refine PEi (Yaa (pl:=pl) (E:=E0) ho hC hM hF hr hb .nil Zv7 ht) fun σ H Q z=>?_
 obtain⟨ι,σd,Hd,d,Hd',s,hr,e,q⟩:=Zx3 (f:=f) hns z
 refine⟨ι,σd,Hd,d,Hd',s,hr,e,fun v H' ι' l h r=>?_⟩
 obtain⟨a,dx,fs,h1,h2,h3,ι2,σd2,Hd2,ds,Hd3,s2,hr2,e2,q2⟩:=q v H' ι' l h r
 cases e2
 exact⟨a,dx,fs,h1,h2,h3,q2 [] H' ι2 Le.refl hr2 .nil⟩
theorem Ydb {C:Ve} {σ:L2.St} {H:Hp} {Q:VK} (hns:Ueo X.K Vh cn=some (some (.ref C))) (z:rdE X.K (eMk cn ps.length F fa) σ H Q):Ye4 C (spF X.K ps.length F) [] E0 (rdA X.K fa) σ H Q:=by
 obtain⟨ι,σd,Hd,d,Hd',s,hr,e,q⟩:=z
 obtain⟨⟨ds,H1⟩,e1,e0⟩:=Zo e
 clear e
 have e:=e0
 clear e0
 refine⟨ι,σd,Hd,ds,H1,s,hr,e1,fun vs H' ι' l h P x dx z1 z2 z3=>?_⟩
 dsimp only at e
 split at e
 ·rename_i hl
  obtain⟨⟨r,H2⟩,e2,e0⟩:=Zo e
  clear e
  have e:=e0
  clear e0
  dsimp only at e
  split at e
  ·cases e
   have zx:upd H' dx (.own x) x=none:=by rw[Zah (Ul z3)]; exact z1
   have L:Le X.K H' ι' (upd (upd H' dx (.own x)) x (.ins C dx [])) (ι'++[x]):=(Le.fresh z2 _).trans (Le.fresh1 zx _)
   have hh:HRep X.K (upd (upd H' dx (.own x)) x (.ins C dx [])) (ι'++[x]) (H1++[.obj cn []]):=(h.tup z2 _).new zx ⟨C,dx,[],hns,Zas,.nil⟩
   have rx:Rep X.K (upd (upd H' dx (.own x)) x (.ins C dx [])) (ι'++[x]) (.ref H1.length) (.ref x):=Zay.mpr ⟨x,rfl,by rw[<- h.len]; simp⟩
   refine⟨ι'++[x],.ref H1.length::ds,H1++[.obj cn []],.non,_,hl,hh,.cons rx (by rw[Wad]; exact Prd.imp P fun p x _ z=>z.mono L),e2,fun v H3 ι3 l3 h3 r3=>⟨by simpa using r3,q _ H3 ι3 ((l.trans L).trans l3) h3 (rx.mono l3)⟩⟩
  ·cases e
 ·cases e
theorem Yac (G:FnI X.prog X.w X.K X.mg X.base k cn ps F) (hr:Room (k+1) X.A) (hg:Gl X cn) (ha:PAf X (e::es) fa) (hdb:(cn==("__debug__" : Str))=false:=by decide) (he:Vf (e::es) X.env=(false,eval e X.env)::Vf es X.env:=by exact Zbq rfl) (hpl:(Uac pos (Vf es X.env)).any (·.1)=false:=by exact Zck rfl) (hn:ps.length=n:=by rfl) :
  PEf X (.Call (.Name cn p) (e::es) [] pos) (eMk cn n F fa):=by
 subst hn
 obtain⟨C,f,fd,hm,hns,hM,hF,hb⟩:=G.ex
 exact PEi (Yc1 (E:=E0) hM hF hr hg hm hb .nil Zv7 ha hdb he hpl) fun σ H Q z=>Ydb hns z
end
structure Tm (K:Frag) (cn m qual:Str) (st:Vw):Prop where
 ex:∃ C f fd,Ueo K Vh cn=some (some (.ref C))/\Cls K C/\Meth K C m f/\Fun K m qual st f fd
structure Ti (K:Frag) (mg:Str->Option Vb) (cn qual:Str) (st:Vw):Prop where
 ex:∃ C f fd,mg cn=some (.ref C)/\Ueo K Vh cn=some (some (.ref C))/\Mk K C f/\Fun K "__init__" qual st f fd
section
variable {K:Frag} {hp:Vy} {mg:Str->Option Vb} {cn m qual:Str} {st:Vw} {C f:Ve} {oc:Vb} {od an:Option Ve} {osl:Array (Option Vb)} {kV doc pm cdv ct:Vb}
theorem tm_mk (a:Ueo K Vh cn=some (some (.ref C))) (b:plainGet K C Tda=true) (c:hasDictIn K C=true) (d:plainOver K C=true) (e:findIn K (.ref C) "__setattr__" = some (some (.builtin "object.__setattr__"))) (g:findIn K (.ref C) m=some (some (.ref f))) (h:isFn K (.ref f)=true) (i:keepIn K (.ref f)=true)
  (j:K.lookup f=some ⟨oc,od,.func (fnOf m qual (Zb1 st) (Za1 st) (Zad st) .none kV doc pm an cdv ct),osl⟩) (l:codeIn K cdv qual=true):Tm K cn m qual st :=
 ⟨C,f,_,a,⟨b,c,d,e⟩,⟨g,h,i⟩,Zr2 j l i⟩
theorem ti_mk (X:K.In hp) (G:hp.Ns Vh mg) (a:Ueo K Vh cn=some (some (.ref C))) (b:makesIn K C=true) (c:findIn K (.ref C) "__init__" = some (some (.ref f))) (d:isFn K (.ref f)=true) (e:keepIn K (.ref C)=true) (i:keepIn K (.ref f)=true)
  (j:K.lookup f=some ⟨oc,od,.func (fnOf "__init__" qual (Zb1 st) (Za1 st) (Zad st) .none kV doc pm an cdv ct),osl⟩) (l:codeIn K cdv qual=true):Ti K mg cn qual st :=
 ⟨C,f,_,mg_of X G a,a,⟨b,c,d,e⟩,Zr2 j l i⟩
theorem kl_mk (a:Ueo K Vh cn=some (some (.ref C))) (b:plainGet K C Tda=true) (c:hasDictIn K C=true) (d:plainOver K C=true) (e:findIn K (.ref C) "__setattr__" = some (some (.builtin "object.__setattr__"))):Kl K cn [] :=
 ⟨C,a,⟨b,c,d,e⟩,nofun⟩
theorem Yb1 {fl:List Str} {x:Str} (T:Kl K cn fl) (a:Ueo K Vh cn=some (some (.ref C))) (g:findIn K (.ref C) x=some none):Kl K cn (x::fl):=by
 obtain⟨h1,h2⟩:=T.at a
 refine⟨C,a,h1,fun y hy=>?_⟩
 rcases Xi.mp hy with rfl | hy
 ·exact g
 ·exact h2 y hy
end
section
variable {P:Vi} {w:Vs} {K:Frag} {mg:Str->Option Vb} {base:Vy} {cn m qual:Str} {st:Vw} {N ps:List Str} {k:Nat} {b:SF}
theorem Zp7 (T:Tm K cn m qual st) (S:FnScope N ps (Zad st))
  (hbd:∀ (kV doc pm:Vb) (an:Option Ve) (cdv ct:Vb) (us:List Vb),us.length=ps.length->Ubq (fnOf m qual (Zb1 st) (Za1 st) (Zad st) .none kV doc pm an cdv ct) ⟨us,[]⟩=pure (ps.zip us))
  (hb:∀ (f:Ve) (cdv:Vb) (A:Vr) (outer:List Env) (s:Vd) (H:Hp) (E:XK),Room k (A.deeper (Uaw qual (Zad st) s.heap.objs.size f cdv)) ->
   Zpp (Zlo CX0 P w K mg base N qual (Zad st) f cdv A outer s H E).nox (Za1 st) b):FnM P w K mg base (k+1) cn m ps (Za4 ps.length N.length b):=by
 obtain⟨C,f,fd,h1,h2,h3,F⟩:=T.ex
 exact⟨C,f,fd,h1,h2,h3,fn_f F S fun cdv A outer s H E hr=>hb f cdv A outer s H E hr,F.binds hbd⟩
theorem fi_mk (T:Ti K mg cn qual st) (S:FnScope N ps (Zad st))
  (hbd:∀ (kV doc pm:Vb) (an:Option Ve) (cdv ct:Vb) (us:List Vb),us.length=ps.length->Ubq (fnOf "__init__" qual (Zb1 st) (Za1 st) (Zad st) .none kV doc pm an cdv ct) ⟨us,[]⟩=pure (ps.zip us))
  (hb:∀ (f:Ve) (cdv:Vb) (A:Vr) (outer:List Env) (s:Vd) (H:Hp) (E:XK),Room k (A.deeper (Uaw qual (Zad st) s.heap.objs.size f cdv)) ->
   Zpp (Zlo CX0 P w K mg base N qual (Zad st) f cdv A outer s H E).nox (Za1 st) b):FnI P w K mg base (k+1) cn ps (Za4 ps.length N.length b):=by
 obtain⟨C,f,fd,h0,h1,h3,F⟩:=T.ex
 exact⟨C,f,fd,h0,h1,h3,fn_f F S fun cdv A outer s H E hr=>hb f cdv A outer s H E hr,F.binds hbd⟩
end
theorem Yak {P:Vi} {w:Vs} {K:Frag} {mg:Str->Option Vb} {base:Vy} {k:Nat} {x y:Str} {ps:List Str} {F:FF} (G:Fn P w K mg base k x ps F) (h:mg y=mg x):Fn P w K mg base k y ps F:=by
 obtain⟨f,fd,h1,h2,h3,h4,h5⟩:=G.ex
 exact⟨f,fd,h1,h2,h3,by rw[h]; exact h4,h5⟩
theorem al_mk {K:Frag} {hp:Vy} {mg:Str->Option Vb} {x y:Str} {v:Vb} (X:K.In hp) (G:hp.Ns Vh mg) (a:Ueo K Vh y=some (some v)) (b:Ueo K Vh x=some (some v)):mg y=mg x:=by
 rw[mg_of X G a,mg_of X G b]
def Fv (K:Frag) (mg:Str->Option Vb) (x:String):Prop:=∃ f,mg (Ua x)=some (.ref f)/\Ueo K Vh (Ua x)=some (some (.ref f))
theorem Yfr {K:Frag} {hp:Vy} {mg:Str->Option Vb} {x:String} {f:Ve} (X:K.In hp) (G:hp.Ns Vh mg) (a:Ueo K Vh (Ua x)=some (some (.ref f))):Fv K mg x:=⟨f,mg_of X G a,a⟩
nonrec def Zlu (i n:Nat) (x:String) (F:FF) (f:AF):EF:=fun σ H=>match σ[i]? with
 | some (some (.ty y))=>if y=x then Zak n F f σ H else none
 | _=>none
section
variable {X:Cx} {k n i:Nat} {ps:List Str} {x:String} {v:Str} {p pos:Pos} {F:FF} {fa:AF} {e:Vv} {es:List Vv}
theorem Ya3 (h:Fv X.K X.mg x) (ht:Yau x=false:=by decide) (hg:Gl X (Ua x):=by rfl) (hd:(Ua x==("__debug__" : Str))=false:=by decide):PEf X (.Name (Ua x) pos) (eC (.ty x)):=by
 obtain⟨f,h1,h2⟩:=h
 exact Zq7 (Zxe (v:=.ref f) hg h1 rfl hd) fun _ _=>(Ybf ht).mpr ⟨f,rfl,h2⟩
theorem Zoc (G:Fn X.prog X.w X.K X.mg X.base k (Ua x) ps F) (hf:Fv X.K X.mg x) (hr:Room k X.A) (hv:PE X (.Name v p) (Yfj i)) (ha:PAf X (e::es) fa) (ht:Yau x=false:=by decide)
  (he:Vf (e::es) X.env=(false,eval e X.env)::Vf es X.env:=by exact Zbq rfl) (hpl:(Uac pos (Vf es X.env)).any (·.1)=false:=by exact Zck rfl) (hn:ps.length=n:=by rfl) :
  PEf X (.Call (.Name v p) (e::es) [] pos) (Zlu i n x F fa):=by
 subst hn
 intro pins s σ H Q I z
 obtain⟨ι,σd,Hd,d,Hd',ss,hr0,eq,q⟩:=z
 unfold Zlu at eq
 split at eq
 ·rename_i y hy
  split at eq
  ·rename_i ey
   subst ey
   obtain⟨v0,h1,r⟩:=ss.var i _ hy
   obtain⟨a,rfl,hns⟩:=(Ybf ht).mp r
   obtain⟨f',hm',hns'⟩:=hf
   rw[hns] at hns'
   cases hns'
   obtain⟨f,fd,G1,hb,hk,hm,_⟩:=G.ex
   rw[hm'] at hm
   cases hm
   refine Uai (thn (hv pins s σ H (fun v' H'=>v'=.ref a/\H'=H) I ⟨_,h1,rfl,rfl⟩) fun u s1 z=>?_)
   obtain⟨v',H',I1,rv,rfl,rfl⟩:=z
   have rv:u=.ref a:=rv
   subst rv
   have t:Yhk (spF X.K ps.length F) [] E0 (rdA X.K fa) σ H' Q:=by
    obtain⟨⟨x,H1⟩,e1,e⟩:=Zo eq
    refine⟨ι,σd,Hd,x,H1,ss,hr0,e1,fun vs H' ι' l h r=>?_⟩
    dsimp only at e
    split at e
    ·rename_i hl
     exact⟨ι',x,H1,d,Hd',hl,h,by simpa using r,e,fun v2 H2 ι2 l2 h2 r2=>q v2 H2 ι2 (l.trans l2) h2 r2⟩
    ·cases e
   refine Wda (h₀:=X.base) I1.ok.mod.kin hk (thn (ha pos pins s1 σ H' _ I1 t) fun us s2 ⟨vs,H1,I2,r,q⟩=>⟨I2.kIn,?_⟩) he hpl
   exact Zsk G1 hr hb .nil Zv7 I2 r q
  ·cases eq
 ·cases eq
end
end DL
namespace DL
open PySem PySem.Spec PyProof.Rows L2
section
variable {prog:Vi} {w:Vs} {A:Vr} {E:Vb->Vd->Prop} {s:Vd}
theorem Zuu {d L:Ve} {m:Str->Option Vb} {es:Array Uan} {ep:Nat} {ns:List Int} {Q:Vb->Vd->Prop} (hn:s.heap.Ns L m) (hh:A.handled=none) (x:Ydk d es ep s.heap) (hI:Ubg (es.toList.map (·.key)) ns) (h64:es.size<64)
  (h:∀ h' tk D out c,h'.Ns L m->(∀ b o,b≠L->s.heap.get? b=some o->h'.get? b=some o)->s.heap.objs.size<=D->h'.get? D=some (Uay "list" out c)->KskOut false (ns.map Zic) (es.toList.map (·.key)) out.toList->Q (.ref D) { s with heap:=h',toks:=tk }) :
  Vg (Vl prog w) A (call (.builtin "sorted") [.ref d] [(Ua "key",.builtin "abs")]) Q E s:=by
 have sz:sizeLine=16777216:=Uba
 have lt:=hn.lt
 refine Uco kind_sorted plain_sorted entry_sorted (ksk_s1 _ _) ?_
 unfold Builtin.«sorted»
 refine Va (m:=checkCount "sorted" 1 1 _) (Vc (Va (Zq8 (show A.in1.handled=none from hh) x (by omega) fun h1 tk k1 le=>Va (Ucg ?_ (by simp; omega)))))
 generalize ev:es.toList.map (·.key)=vs at *
 have lv:vs.length=es.size:=by rw[<- ev]; simp
 let h2:Vy:=h1.push (Uay "list" vs.toArray 0)
 have at2:h2.get? h1.objs.size=some (Uay "list" vs.toArray 0):=Xd _ rfl
 have kp:∀ b o,s.heap.get? b=some o->h2.get? b=some o:=fun b o e=>Xa _ (k1 b o e)
 have ltD:∀ b o,s.heap.get? b=some o->b≠h1.objs.size:=fun b o e=>Xh (Xj (Xf e) le)
 have LD:h1.objs.size≠L:=Ul (Xh (Xj lt le))
 have F0:Fr {} L s.heap m:=⟨hn,fun b o e=>absurd ((Zin b).symm.trans e) (by simp),Wbd _⟩
 have N0:News {} L s.heap (Zl8 s.heap L):=fun p hp=>⟨(Zew hp).1,(Zew hp).2,Zin _⟩
 have ln:ns.length=vs.length:=hI.length.symm
 show Vg _ _ _ _ _ { s with heap:=h2,toks:=tk }
 refine Va (Vx (Udq (s:={ s with heap:=h2,toks:=tk }) slot_list_sort ⟨_,at2,rfl⟩ entry_list_sort ?body (ksk_l1 _ _)))
 case body =>
  show Vg (Vl prog w) A.in1.in1 (Builtin.«list.sort» ⟨[.ref h1.objs.size],[(Ua "key",.builtin "abs")]⟩) _ _ _
  rw[ksk_t4]
  refine ksk_sort (s:={ s with heap:=h2,toks:=tk }) (kz:=ns.map Zic) (news:=Zl8 s.heap L) (F0.kept kp) (N0.grown kp) at2 LD (Zin _) (fun p hp=>ltD _ _ (Zew hp).1)
   (by rw[Xr]; exact ln) (by omega) (fun i v k hv hk hh tk own F N=>?_) fun h' tk out c F' N' K'=>⟨_,rfl,?_⟩
  ·obtain⟨n,t,rfl,e⟩:=hI.at i v hv
   rw[Xp,e] at hk
   cases hk
   exact Uea fun u tk'=>Tdb F N fun p hp=>hp
  ·refine Vc ⟨_,rfl,h h' tk _ out c F'.ns (fun b o hb e=>?_) le ?_ K'⟩
   ·exact(N' _ (Wae _ (Zou hb e))).1
   ·exact(N' _ (Wck ..)).1
end
nonrec def Zkj:FF:=fun ds H=>match ds with
 | [.ref n]=>match H[n]? with
  | some (.dci kvs)=>if kvs.length<64/\((kvs.map (·.1)).map Zic).Nodup then some (.ref H.length,H++[.lst ((Zd0 (kvs.map (·.1))).map .int)]) else none
  | _=>none
 | _=>none
theorem Ztp {p:Vi} {w:Vs} {es:List Uan} {xs:List (Int×Vb)} (e:Pairs (Zyk p w) es xs):Ubg (es.map (·.key)) (xs.map (·.1)):=by
 induction e with
 | nil=>exact .nil
 | cons a b c ih =>
  obtain⟨t,q⟩:=Zl5 a
  rw[Xn,Xn,q]
  exact .cons _ t ih
theorem Zuo {K:Xb} {H:Hp} {ι:List Ve} {kvs:List (Int×D)} {xs:List (Int×Vb)} (P:Vj (Zz4 K H ι) kvs xs):kvs.map (·.1)=xs.map (·.1):=by
 induction P with
 | nil=>rfl
 | cons a b ih=>rw[Xn,Xn,a.1,ih]
theorem Zs7 {X:Cx} {a:Vv} {f:AF} {p p2 kp pos:Pos} (hcm:X.calm=true) (hg:Gl X "sorted") (hm:X.mg "sorted" = none) (hg2:Gl X "abs") (hm2:X.mg "abs" = none) (ha:PAf X [a] f) (hs:Vf [a] X.env=[(false,eval a X.env)]:=by rfl) :
  PEf X (.Call (.Name "sorted" p) [a] [⟨some "key",.Name "abs" p2,kp⟩] pos) (eCB Zkj f):=by
 rintro pins s σ H Q I ⟨ι,σd,Hd,d,Hd',sr,hr,e,q⟩
 obtain⟨⟨ds,H1⟩,e1,e⟩:=Zo e
 dsimp only at e
 unfold Zkj at e
 split at e
 ·rename_i n
  split at e
  ·rename_i kvs eo
   split at e
   ·rename_i hc
    show Vg _ _ (do Ubx pos (<- eval (.Name "sorted" p) X.env) [] (Uac pos (Vf [a] X.env)) (Ubk pos (Uak [⟨some "key",.Name "abs" p2,kp⟩] X.env))) _ _ _
    refine Va (Zet I hg hm Zpy (Udg (by rw[hs]; rfl) rfl ?_))
    have hA:=ha pos pins s σ H (fun vs H'=>∃ ι',Le X.K H ι H' ι'/\HRep X.K H' ι' H1/\Vj (Rep X.K H' ι') [.ref n] vs) I ⟨ι,σd,Hd,_,_,sr,hr,e1,fun vs H' ι' l h P=>⟨ι',l,h,P⟩⟩
    rw[hs] at hA ⊢
    refine Ued rfl (thn hA fun us s1 ⟨vs,H2,I2,r2,ι2,l2,h2,P2⟩=>kws_cons (Zet I2 hg2 hm2 Zxc (kws_nil ?_)))
    obtain⟨v,rfl,r⟩:=Zn1 P2
    obtain⟨u,rfl,ru⟩:=Zja r2
    obtain⟨ad,rfl,had⟩:=Zay.mp r
    cases ru
    obtain⟨h3,xs,PK,dd⟩:=Zu2 I2 (h2.obj n ad _ had eo)
    obtain⟨o,es,ep,g1,g2,g3,g4,g5,g6⟩:=dd
    show Vg _ _ (call (.builtin "sorted") [.ref ad] [(Ua "key",.builtin "abs")]) _ _ _
    obtain⟨m,hn,_⟩:=I2.loc
    have hI:=Ztp g5
    rw[<- Zuo PK] at hI
    have les:es.size=kvs.length:=by
     have:=hI.length
     simpa using this
    refine Zuu hn (I2.ok.hd hcm) ⟨h3,o,g1,g2,g3⟩ hI (by omega) fun h' tk Da out c hn' kk hD hat K'=>?_
    have hO:=Ya9 hI hc.2 K'
    have hl:((Zd0 (kvs.map (·.1))).map V.int).length<=sizeLine:=by
     rw[Xr,(Zcp (kvs.map (·.1))).length_eq,Xr]
     have:sizeLine=16777216:=Uba
     omega
    refine⟨.ref Da,_,Zop (o:=.lst ((Zd0 (kvs.map (·.1))).map V.int)) I2 kk (fun m' hm'=>by rw[hm'.eq_nsMap,<- hn.eq_nsMap]; exact hn') hD ⟨hl,out.toList,c,Zoo hO,by simpa using hat⟩,rfl,?_⟩
    have hz2:((Zd0 (kvs.map (·.1))).map D.int).length<=sizeLine:=by simpa using hl
    exact(Zhi h2 (Zpc (Zd0 (kvs.map (·.1)))) (show mkL ((Zd0 (kvs.map (·.1))).map D.int) H1=some (d,Hd') by unfold mkL; rw[if_pos hz2,e]) (fun v H' ι' l h r=>q v H' ι' (l2.trans l) h r)).2 _ (I2.hok.fresh hD)
   ·cases e
  ·cases e
 ·cases e
section
variable {X:Cx}
theorem Ygk:Vq "any" = some (.builtin "any"):=by decide +kernel
nonrec def Ye8:FF:=fun ds H=>match ds with
 | [.ref n]=>match H[n]? with
  | some (.lst xs)=>(Yck xs).map fun bs=>(.bl (bs.any id),H)
  | _=>none
 | _=>none
theorem Zyi (bs:List Bool):((Wdx bs.length).any fun i=>(bs[i]?).getD false)=bs.any id:=by
 rw[Wfa,Wau,Wau]
 constructor
 ·rintro⟨i,hi,h⟩
  have hi:i<bs.length:=by simpa using hi
  exact⟨bs[i],Wac hi,by simpa [hi] using h⟩
 ·rintro⟨x,hx,h⟩
  obtain⟨i,hi,rfl⟩:=Wff hx
  exact⟨i,by simpa using hi,by simpa [hi] using h⟩
theorem Zv0 (hc:X.calm=true):Zir X (.builtin "any") Ye8:=by
 rintro pins s σ H xs us Q I rv ⟨ι,ds,Hd,d,Hd',hr,P,e,q⟩
 unfold Ye8 at e
 split at e
 ·rename_i n
  split at e
  ·rename_i ys eo
   obtain⟨bs,e1,e⟩:=Zm e
   obtain⟨rfl,rfl⟩:=Way.inj e
   obtain⟨v,rfl,r⟩:=Zn1 P
   obtain⟨a,rfl,ha⟩:=Zay.mp r
   obtain⟨vs,h1,P2⟩:=hr.obj n a _ ha eo
   cases rv with
   | cons rx rv =>
    cases rv
    cases rx
    obtain⟨its,rv2,p,hz⟩:=I.list (SqL.of h1)
    have eits:=Zkp e1 P2 rv2
    have hlt:a<s.heap.objs.size:=by
     obtain⟨o,ho,_⟩:=p.isList
     exact Xf ho
    refine call_any_walk (Uao p.isList ⟨s.heap.objs.size,[s.heap.objs.size,a],[s.heap.objs.size],its.toArray.size,_,_,fun i=>(bs[i]?).getD false,rfl,
     Walks.list (A:=X.A.in1) (show X.A.in1.handled=none from I.ok.hd hc) s.heap.objs.size a (Xh hlt) its.toArray,⟨⟨_,Xd _ rfl,rfl,rfl⟩,p.isList.at fun o z=>Xa _ z⟩,?_,fun h' tk k=>?_⟩)
    ·intro i v s2 Q2 E2 hv hq
     rw[eits] at hv
     have hv2:(bs.map Tbp)[i]? = some v:=by simpa using hv
     rw[Xp] at hv2
     obtain⟨b,hb,rfl⟩:=Zm hv2
     refine Vz ?_
     simpa [hb] using hq
    ·have hn:its.toArray.size=bs.length:=by rw[eits]; simp
     rw[hn,Zyi]
     refine⟨.bl (bs.any id),H,I.kept (t':=tk) fun b o z=>k b o ?_ (Xa _ z),rfl,q _ H ι Le.refl hr (by simp)⟩
     intro hm
     have:b=s.heap.objs.size:=by simpa using hm
     exact absurd (this ▸ Xf z) (Wav _)
  ·cases e
 ·cases e
end
end DL
namespace DL
open PySem PySem.Spec PyProof.Rows L2 PySem.W
nonrec def Yba (f g:EF):EF:=fun σ H=>match f σ H with
 | some r=>some r
 | none=>g σ H
theorem Zuh {X:Cx} {e:Vv} {f g:EF} (h1:PEf X e f) (h2:PEf X e g):PEf X e (Yba f g):=by
 intro pins s σ H Q I z
 obtain⟨ι,σd,Hd,d,Hd',ss,hr0,eq,q⟩:=z
 unfold Yba at eq
 split at eq
 ·rename_i r hr
  cases eq
  exact h1 pins s σ H Q I ⟨ι,σd,Hd,d,Hd',ss,hr0,hr,q⟩
 ·exact h2 pins s σ H Q I ⟨ι,σd,Hd,d,Hd',ss,hr0,eq,q⟩
nonrec def cxCl (P:Vi) (w:Vs) (K:Xb) (mg:Str->Option Vb) (base:Vy) (N:List Str) (qual:Str) (scope:Ubo) (f:Ve) (cd:Vb) (cl:List (Str×Ve)) (A:Vr) (outer:List Env) (s:Vd) (H:Hp):Cx where
 prog:=P
 w:=w
 K:=K
 mg:=mg
 base:=base
 A:=A.deeper (envX qual scope s.heap.objs.size f cd cl)
 N:=N
 s₀:=s
 H₀:=H
 env:=envX qual scope s.heap.objs.size f cd cl
 outer:=outer
 stack:=envX qual scope s.heap.objs.size f cd cl::outer
 ex:=[]
 calm:=true
 fn:=fun _=>false
 pn:=[]
 xe:=fun _ _=>False
structure ClScope (N ps:List Str) (x:Str) (sc:Ubo):Prop where
 kind:sc.kind=.function
 co:sc.isCoroutine=false
 gen:sc.isGenerator=false
 nd:N.Nodup
 pre:N.take (ps.length+1)=ps++[x]
 par:∀ p∈ps,sc.names.lookup p=some .local
 nocell:∀ y∈sc.names,y.2≠.cell
 fx:sc.names.lookup x=some .free
 fo:∀ y∈sc.names,y.2=.free->y.1=x
nonrec def Zi3 (N:List Str) (vs:List V) (w:V):L2.St:=(vs++[w]).map some++Xl (N.length - (vs.length+1)) none
theorem Zsc {y:Str}:∀ {ps:List Str} {us:List Vb},y∉ps->(ps.zip us).reverse.lookup y=none
 | [],_,_=>rfl
 | _::_,[],_=>rfl
 | p::ps,u::us,h=>by
  rw[Wcl,Weo,Wef,Zsc (fun z=>h (by simp[z])),Waf]
  have:(y==p)=false:=by rw[beq_eq_false_iff_ne]; exact fun z=>h (by simp[z])
  rw[this]
  rfl
theorem Zrh {y:Str} {u:Vb}:∀ {ps:List Str} {us:List Vb} {i:Nat},ps.Nodup->ps[i]? = some y->us[i]? = some u->(ps.zip us).reverse.lookup y=some u
 | [],_,_,_,h,_=>by simp at h
 | _::_,[],_,_,_,h=>by simp at h
 | p::ps,v::us,0,nd,h1,h2=>by
  simp at h1 h2
  subst h1 h2
  rw[Wcl,Weo,Wef,Zsc (Wbg.mp nd).1,Waf]
  simp
 | p::ps,v::us,i+1,nd,h1,h2=>by
  rw[Wcl,Weo,Wef,Zrh (Wbg.mp nd).2 (by simpa using h1) (by simpa using h2)]
  rfl
section
variable {P:Vi} {w:Vs} {K:Xb} {mg:Str->Option Vb} {base:Vy} {N ps:List Str} {x qual:Str} {scope:Ubo} {f c:Ve} {cd:Vb} {A:Vr} {outer:List Env} {s:Vd} {H:Hp} {us:List Vb} {vs:List V} {wv:V} {oc:Obj} {u:Vb}
theorem Zsx {h₁:Vy} {tk:Nat} (S:ClScope N ps x scope) (hd:A.handled=none) (e0:Env0 P w K mg base A outer s H) (hl:vs.length=ps.length) (r:Zb4 vs us) {uc:HO} (hc:H c=some (.frz oc uc)) (hcd:oc.data=.cell (some u)) (rw':Zcd wv u)
  (hns:h₁.Ns s.heap.objs.size (fun y=>(ps.zip us).reverse.lookup y)) (hk:∀ b o,s.heap.get? b=some o->h₁.get? b=some o) :
  Inv (cxCl P w K mg base N qual scope f cd [(x,c)] A outer s H) [] (Zi3 N vs wv) H { s with heap:=h₁,toks:=tk }:=by
 have hN:ps.length+1<=N.length:=by have:=congrArg Wbn S.pre; rw[Wbj,Xq] at this; simp at this; omega
 have hcl:∀ y z,([(x,c)]:List (Str×Ve)).lookup y=some z->y=x/\z=c:=fun y z h=>by
  rw[Waf] at h
  cases hb:y==x with
  | true=>rw[hb] at h; cases h; exact⟨eq_of_beq hb,rfl⟩
  | false=>rw[hb] at h; simp at h
 have hlx:([(x,c)]:List (Str×Ve)).lookup x=some c:=by rw[Waf]; simp
 have gc:s.heap.get? c=some oc:=(e0.hok c _ hc).1
 have noA:∀ b:Ve,b∉(cxCl P w K mg base N qual scope f cd [(x,c)] A outer s H).ex:=fun b z=>absurd (show b∈([]:List Ve) from z) (by simp)
 refine⟨⟨e0.mod,S.kind,rfl,rfl,Xe _,fun y z d h1 h2=>?_,fun y hy=>?_,fun y d h=>absurd h (by show ¬ (false=true); simp),fun _=>hd,Tcc e0.frames,.inr ⟨rfl,rfl⟩,fun b z=>absurd z (noA b),e0.bs,e0.bsz,fun b _ _=>noA b,fun b z=>absurd z (noA b),e0.funs,e0.frf⟩,
  rfl,e0.bare,Un.kept hk,⟨_,hns,fun i y v h1 h2 h3=>?_⟩,fun y d h=>?_,e0.hok.fresh (Xe _),fun y d h=>?_,fun p hp=>absurd (show p∈([]:List (Ve×Obj)) from hp) (by simp),e0.hok.kept hk,?_⟩
 ·rw[(hcl _ _ h1).1,(hcl _ _ h2).1]
 ·have hy:scope.names.lookup y=some .cell\/scope.names.lookup y=some .free:=hy
  rcases hy with hy | hy
  ·exact absurd rfl (S.nocell _ (Uj hy))
  ·have:=S.fo _ (Uj hy) rfl
   have this:y=x:=this
   subst this
   exact⟨c,hlx⟩
 ·have hi:i<vs.length+1:=by
   unfold Zi3 at h2
   by_cases hi:i<vs.length+1
   ·exact hi
   ·rw[Xs (by simpa using hi)] at h2
    rw[Wbp] at h2
    split at h2<;>cases h2
  have h2':(vs++[wv])[i]? = some v:=by
   unfold Zi3 at h2
   rw[Xg (by simpa using hi),Xp] at h2
   cases e:(vs++[wv])[i]? with
   | none=>rw[e] at h2; cases h2
   | some a=>rw[e] at h2; cases h2; rfl
  have h1':(ps++[x])[i]? = some y:=by
   rw[<- S.pre,Wcx (by omega)]; exact h1
  by_cases hv:i<vs.length
  ·rw[Xg hv] at h2'
   rw[Xg (by omega)] at h1'
   obtain⟨u',hu,rv⟩:=r.get h2'
   refine⟨u',rv,.inl ⟨S.par y (Xk h1'),?_⟩⟩
   have ndP:ps.Nodup:=by
    have:(ps++[x]).Nodup:=by rw[<- S.pre]; exact S.nd.sublist (Wfr _ _)
    exact(Wbf.mp this).1
   exact Zrh ndP h1' hu
  ·have e:i=vs.length:=by omega
   subst e
   rw[Xs (by omega)] at h2'
   rw[Xs (by omega)] at h1'
   simp at h2'
   subst h2'
   rw[hl] at h1'
   simp at h1'
   subst h1'
   exact⟨u,rw',.inr ⟨.inr S.fx,c,hlx,oc,hk _ _ gc,hcd⟩⟩
 ·obtain⟨_,rfl⟩:=hcl _ _ h
  exact⟨_,oc,hk _ _ gc,hcd⟩
 ·obtain⟨_,rfl⟩:=hcl _ _ h
  exact .inr ⟨rfl,oc,_,hc⟩
 ·unfold Zi3
  show _=N.length
  simp only[Xq,Xr,Wew,Wbm]
  omega
def Yeu (P:Vi) (w:Vs) (K:Xb) (mg:Str->Option Vb) (base:Vy) (k:Nat) (n:String) (x:Str) (m:Nat) (F:D->FF):Prop :=
 ∀ (A:Vr) (outer:List Env) (s:Vd) (H:Hp) (us:List Vb) (vs:List V) (Q:VK) (a:Ve) (wv:V),Room k A->Env0 P w K mg base A outer s H->Zt6 K H n x a wv->Zb4 vs us ->
  (∃ ι d ds Hd d' Hd',ds.length=m/\HRep K H ι Hd/\Rep K H ι d wv/\Vj (Rep K H ι) ds vs/\F d ds Hd=some (d',Hd')/\QE K H ι d' Hd' Q) ->
  Uca (Vl P w) A (.call (.ref a) ⟨us,[]⟩) (CR CX0 outer P w H s Q E0) s
nonrec def Ybl (n N:Nat) (b:SF) (d:D):FF:=fun ds H=>if ds.length=n then (b ((ds++[d]).map some++Xl (N - (n+1)) none) H).bind fun r=>match r.1 with
  | .rt d=>some (d,r.2.2)
  | .nx=>some (.non,r.2.2)
  | _=>none
 else none
theorem Yfv {k:Nat} {n:String} {st:Vw} {b:SF} (hst:∀ st',Zkw K n st'->st'=st) (S:ClScope N ps x (Zad st))
  (hbd:∀ (nm qual:Str) (doc pm ct:Vb) (c c':Ve) (us:List Vb),us.length=ps.length->Ubq (fnX nm qual (Zb1 st) (Za1 st) (Zad st) [(x,c)] .none .none doc pm none (.ref c') ct) ⟨us,[]⟩=pure (ps.zip us))
  (hb:∀ (qual:Str) (f:Ve) (cdv:Vb) (c:Ve) (A:Vr) (outer:List Env) (s:Vd) (H:Hp),Room k (A.deeper (envX qual (Zad st) s.heap.objs.size f cdv [(x,c)]))->Zpp (cxCl P w K mg base N qual (Zad st) f cdv [(x,c)] A outer s H) (Za1 st) b) :
  Yeu P w K mg base (k+1) n x ps.length (Ybl ps.length N.length b):=by
 rintro A outer s H us vs Q a wv hr e0 hca r ⟨ι,d,ds,Hd,d',Hd',hl,hh,rd,rp,e,q⟩
 obtain⟨st',nm,qual,doc,pm,ct,c,c',oc,uc,u,h1,h2,⟨o3,vs3,t3,h3,h3d,h3v⟩,h4,h5,h6⟩:=hca
 obtain rfl:=hst st' h1
 have lv:vs.length=ps.length:=by rw[<- Prd.len rp]; exact hl
 have lu:us.length=ps.length:=by rw[<- r.length]; exact lv
 have lim:s.heap.NoLimit:=e0.mod.nolimit.keeps fun b o e=>(e0.bs b o e).1
 have g2:s.heap.get? a=some (fnMade nm qual (Zb1 st') (Za1 st') (Zad st') [(x,c)] doc pm c' ct):=(e0.hok a _ h2).1
 have g3:s.heap.get? c'=some o3:=(e0.hok c' _ h3).1
 refine codeAny_call_def (binds:=ps.zip us) hr.depth g2 rfl lim ⟨c',o3,vs3,t3,rfl,g3,h3d,h3v⟩ rfl (.of_eq (hbd nm qual doc pm ct c c' us lu)) S.nocell (fun y hy=>S.par _ (Wdb hy).1) (fun h₀ hns hk=>?_) S.co S.gen S.kind
 have I:=Zsx (qual:=qual) (f:=a) (cd:=.ref c') (tk:=s.toks+(ps.zip us).length) S hr.hd e0 lv r h4 h5 h6 hns hk
 unfold Ybl at e
 rw[if_pos hl] at e
 obtain⟨⟨fl,σ1,H1⟩,e1,e⟩:=Zo e
 have hN:ps.length+1<=N.length:=by have:=congrArg Wbn S.pre; rw[Wbj,Xq] at this; simp at this; omega
 have rp':Vj (Rep K H ι) (ds++[d]) (vs++[wv]):=Prd.append rp (.cons rd .nil)
 have ss:SRep K H ι (Zi3 N vs wv) ((ds++[d]).map some++Xl (N.length - (ps.length+1)) none):=by
  refine⟨by simp[Zi3,lv,hl],fun i d0 h0=>?_⟩
  unfold Zi3
  by_cases hi:i<(ds++[d]).length
  ·rw[Xg (by simpa using hi),Xp] at h0
   cases ed:(ds++[d])[i]? with
   | none=>rw[ed] at h0; cases h0
   | some d1 =>
    rw[ed] at h0
    cases h0
    obtain⟨v,hv,rv⟩:=Prd.get rp' ed
    refine⟨v,?_,rv⟩
    rw[Xg (by rw[Xr,<- Prd.len rp']; exact hi),Xp,hv]
    rfl
  ·rw[Xs (by simpa using hi),Wbp] at h0
   split at h0<;>cases h0
 have body:=hb qual a (.ref c') c A outer s H (hr.deeper _) [] _ (Zi3 N vs wv) H { nx:=fun _ H'=>Q .non H',rt:=Q } I ⟨ι,_,Hd,fl,σ1,H1,ss,hh,e1,fun σ' H' ι' l h s'=>by
  cases fl with
  | rt d1=>cases e; exact fun v rv=>q v H' ι' l h rv
  | nx=>cases e; exact q .non H' ι' l h (by simp)
  | bk=>cases e
  | ct=>cases e⟩
 refine Uaq body (fun fl s' hs=>?_) fun e s' hs=>hs.elim
 have fin:∀ {σ':L2.St} {H':Hp} {v:V} {u:Vb},Inv (cxCl P w K mg base N qual (Zad st') a (.ref c') [(x,c)] A outer s H) [] σ' H' s'->Zcd v u->Q v H'->CE outer P w H s Q u s' :=
  fun {σ' H' v u} J rv q=>⟨v,H',J.os,J.bare,J.base,J.hok,rv,q⟩
 cases fl with
 | ret u =>
  obtain⟨v,σ',H',J,rv,q⟩:=hs
  exact fin J rv q
 | next =>
  obtain⟨σ',H',J,q⟩:=hs
  exact fin (v:=V.non) (u:=Uq) J rfl q
 | brk =>
  obtain⟨_,_,_,q⟩:=hs
  exact Ug q
 | cont =>
  obtain⟨_,_,_,q⟩:=hs
  exact Ug q
end
nonrec def Zjr (i m:Nat) (n:String) (x:Str) (F:D->FF) (f:AF):EF:=fun σ H=>match σ[i]? with
 | some (some (.ref j))=>match H[j]? with
  | some (.clo n' x' d)=>if n'=n/\x'=x then (f σ H).bind fun p=>if p.1.length=m then F d p.1 p.2 else none else none
  | _=>none
 | _=>none
section
variable {X:Cx} {k m i:Nat} {n:String} {x v:Str} {p pos:Pos} {F:D->FF} {fa:AF} {e:Vv} {es:List Vv}
theorem Zpm (G:Yeu X.prog X.w X.K X.mg X.base k n x m F) (hr:Room k X.A) (hv:PE X (.Name v p) (Yfj i)) (ha:PAf X.nox (e::es) fa)
  (he:Vf (e::es) X.env=(false,eval e X.env)::Vf es X.env:=by exact Zbq rfl) (hpl:(Uac pos (Vf es X.env)).any (·.1)=false:=by exact Zck rfl) :
  PEf X (.Call (.Name v p) (e::es) [] pos) (Zjr i m n x F fa):=by
 intro pins s σ H Q I z
 obtain⟨ι,σd,Hd,d,Hd',ss,hr0,eq,q⟩:=z
 unfold Zjr at eq
 split at eq
 ·rename_i j hj
  split at eq
  ·rename_i n' x' dd hc
   split at eq
   ·rename_i hn
    obtain⟨rfl,rfl⟩:=hn
    obtain⟨⟨ds,H1⟩,e1,eq⟩:=Zo eq
    dsimp only at eq
    split at eq
    ·rename_i hm
     obtain⟨v0,h1,r⟩:=ss.var i _ hj
     obtain⟨a,rfl,ia⟩:=Zay.mp r
     obtain⟨wv,ca,rd⟩:=hr0.obj j a _ ia hc
     have fnAt:∀ {H':Hp} {s':Vd},Zt6 X.K H' n' x' a wv->HOk X.prog X.w H' s'.heap->FnAt a s'.heap:=fun {H' s'} ca hok=>by
      obtain⟨st',nm,qual,doc,pm,ct,c,c',oc,uc,u,_,h2,_⟩:=ca
      exact⟨_,_,_,_,(hok a _ h2).1⟩
     refine Uai (thn (hv pins s σ H (fun v' H'=>v'=.ref a/\H'=H) I ⟨_,h1,rfl,rfl⟩) fun u s1 z=>?_)
     obtain⟨v',H',I1,rv,rfl,rfl⟩:=z
     have rv:u=.ref a:=rv
     subst rv
     refine callWith_F (fnAt ca I1.hok) (Uaq (ha pos pins s1 σ H' (fun vs H2=>∃ ι',Le X.K H' ι H2 ι'/\HRep X.K H2 ι' H1/\Vj (Rep X.K H2 ι') ds vs) (I1.wish _) ⟨ι,σd,Hd,ds,H1,ss,hr0,e1,fun vs H2 ι' l h P=>⟨ι',l,h,P⟩⟩) (fun us s2 z=>?_) fun _ _ z=>z.elim) he hpl
     obtain⟨vs,H2,I2,r2,ι2,l2,h2,P2⟩:=z
     have I2:Inv X pins σ H2 s2:=I2.unwish
     have ca2:=ca.step l2.toLw
     refine⟨fnAt ca2 I2.hok,Udx (Uas (G X.A X.stack s2 H2 us vs Q a wv hr I2.env0 ca2 r2 ⟨ι2,dd,ds,H1,d,Hd',hm,h2,rd.mono l2,P2,eq,fun v3 H3 ι3 l3 h3 r3=>q v3 H3 ι3 (l2.trans l3) h3 r3⟩) fun r s' hq=>?_)⟩
     cases r with
     | error e=>exact Ug hq
     | ok fl =>
      cases fl with
      | ret u=>exact I2.after hq
      | next=>exact Ug hq
      | brk=>exact Ug hq
      | cont=>exact Ug hq
    ·cases eq
   ·cases eq
  ·cases eq
 ·cases eq
end
end DL
namespace L2
open PySem PySem.Spec PyProof.Rows
nonrec abbrev Cx.nofn (X:Cx):Cx:={ X with fn:=fun _=>false }
theorem Cx.Ok.nofn {X:Cx} (ok:X.Ok):X.nofn.Ok :=
 ⟨ok.mod,ok.kind,ok.glob,ok.blt,ok.above,ok.inj,ok.has,fun _ _ h=>absurd h (by simp),ok.hd,ok.frames,ok.stk,ok.exf,ok.bs,ok.bsz,ok.noex,ok.exfs,ok.funs,ok.frf⟩
section
variable {X:Cx} {pins:List (Ve×Obj)} {σ:St} {H:Hp} {s:Vd}
theorem Inv.nofn (I:Inv X pins σ H s):Inv X.nofn pins σ H s:=⟨I.ok.nofn,I.os,I.bare,I.base,I.loc,I.cell,I.free,fun x c e=>(I.freeC x c e).imp id fun z=>⟨rfl,z.2⟩,I.pin,I.hok,I.len⟩
theorem Inv.freeze {x:Str} {cx:Ve} (I:Inv X pins σ H s) (hfn:∀ y,X.fn y=false) (hc:X.env.cells.lookup x=some cx) (hnew:X.s₀.heap.objs.size<=cx) :
  ∃ H1 oc uc,Inv X pins σ H1 s/\H1 cx=some (.frz oc uc)/\s.heap.get? cx=some oc/\(H1=H\/(H cx=none/\H1=upd H cx (DL.fzO cx oc))):=by
 rcases I.freeC x cx hc with h0 | ⟨_,o,u,h0⟩
 ·obtain⟨v,o,ho,hd⟩:=I.cell x cx hc
  refine⟨_,o,_,?_,Zas,ho,.inr ⟨h0,rfl⟩⟩
  have stay:∀ b u,H b=some u->b≠cx:=fun b u e=>Zai e h0
  refine⟨I.ok,I.os,I.bare,⟨I.base.keep,I.base.slot,fun b ob e n hx=>?_,I.base.there,fun b xs e=>?_,fun b ob xs e=>?_,fun b ps e=>?_⟩,I.loc,I.cell,?_,fun y c e=>?_,fun p hp=>?_,fun b ob e=>?_,I.len⟩
  ·rw[Zah (Xh (Xj (Xf e) hnew))]; exact I.base.free b ob e n hx
  ·rw[Zah (stay _ _ (I.base.tups b xs e))]; exact I.base.tups b xs e
  ·rw[Zah (stay _ _ (I.base.frzs b ob xs e))]; exact I.base.frzs b ob xs e
  ·obtain⟨m,e1⟩:=I.base.tbls b ps e
   exact⟨m,by rw[Zah (stay _ _ e1)]; exact e1⟩
  ·rw[Zah (Ul (I.cne x cx hc))]; exact I.free
  ·by_cases hcc:c=cx
   ·subst hcc; exact .inr ⟨hfn y,_,_,Zas⟩
   ·rw[Zah hcc]; exact I.freeC y c e
  ·obtain⟨h1,h2,h3,h4,h5⟩:=I.pin p hp
   refine⟨h1,?_,h3,h4,h5⟩
   rw[Zah (fun z=>?_)]
   ·exact h2
   ·rw[z,ho] at h1; cases h1; exact h5 _ hd
  ·by_cases hb:b=cx
   ·subst hb; rw[Zas] at e; cases e; exact⟨ho,ho,⟨o,ho⟩,fun h1 h2 a k=>k _ a⟩
   ·rw[Zah hb] at e
    exact(I.hok b ob e).stay (fun c v _ q=>q) (fun c q=>by rw[Zah (stay _ _ q)]; exact q) (fun c xs q=>by rw[Zah (stay _ _ q)]; exact q)
 ·exact⟨H,o,u,I,h0,(I.hok cx _ h0).1,.inl rfl⟩
end
theorem Yhq {P:Vi} {w:Vs} {K:Xb} {mg:Str->Option Vb} {base:Vy} {k:Nat} {f:Ve} {name qual:Str} {params:Uej} {body:List Vw} {scope:Ubo} {dV kV doc pm cdv ct oc:Vb} {an od:Option Ve}
  {osl:Array (Option Vb)} {N ps:List Str} {sp:Sp} (lk:K.lookup f=some ⟨oc,od,.func (Wba name qual params body scope dV kV doc pm an cdv ct),osl⟩) (hcd:Wcs K cdv qual=true) (S:FnScope N ps scope)
  (len:∀ vs H Q E,sp vs H Q E->vs.length=ps.length)
  (hbody:∀ (A:Vr) (outer:List Env) (s:Vd) (H:Hp) (vs:List V) (Q:VK) (E:XK),Room k (A.deeper (Uaw qual scope s.heap.objs.size f cdv))->(∀ y z,(Uaw qual scope s.heap.objs.size f cdv).cells.lookup y=some z->s.heap.objs.size<=z)->sp vs H Q E ->
   ∃ t,PSs (Zlo CX0 P w K mg base N qual scope f cdv A outer s H E).nox.nofn body t/\t { nx:=fun _ H'=>Q .non H',rt:=Q } (start N vs) H) :
  FnOk P w K mg base CX0 (k+1) f (Wba name qual params body scope dV kV doc pm an cdv ct) ps sp:=by
 refine⟨len,fun A outer s H args us vs Q E hr e0 hb r hsp=>?_⟩
 have hl:=len _ _ _ _ hsp
 have KX:K.In s.heap:=e0.mod.kin.keeps fun b o e=>(e0.bs b o e).1
 have lim:s.heap.NoLimit:=e0.mod.nolimit.keeps fun b o e=>(e0.bs b o e).1
 have hkind:∀ y∈ps.zip us,scope.names.lookup y.1=some .local\/(scope.names.lookup y.1=some .cell/\((Uei (s.heap.objs.size+1) scope.names []).lookup y.1).isSome=true):=fun⟨n,v⟩ hy=>by
  rcases S.par n (Wdb hy).1 with q | q
  ·exact .inl q
  ·exact .inr ⟨q,Wde _ _ _ (.inl q)⟩
 refine Uct hr.depth (KX _ _ lk) rfl S.co S.gen rfl (Wfj KX hcd) (hb _ _ _ _ ?_)
 refine Ubv S.kind hkind fun env he s1 x=>?_
 subst he
 refine⟨lim.keeps x.toInCall.keep,codeAny_func ?_⟩
 have I:Inv (Zlo CX0 P w K mg base N qual scope f cdv A outer s H E) [] (start N vs) H s1:=Zof S hr.hd e0 hl r x
 obtain⟨t,ht,hq⟩:=hbody A outer s H vs Q E (hr.deeper _) (fun y z e=>I.ok.cab y z rfl e) hsp
 refine Uaq (ht [] s1 (start N vs) H _ (I.wish _).nofn hq) (fun fl s' hs=>?_) fun e s' hs=>hs.elim
 have fin:∀ {σ':St} {H':Hp} {v:V} {u:Vb},Inv (Zlo CX0 P w K mg base N qual scope f cdv A outer s H E).nox.nofn [] σ' H' s'->Zcd v u->Q v H'->CE outer P w H s Q u s' :=
  fun {σ' H' v u} J rv q=>⟨v,H',J.os,J.bare,J.base,J.hok,rv,q⟩
 cases fl with
 | ret u =>
  obtain⟨v,σ',H',J,rv,q⟩:=hs
  exact fin J rv q
 | next =>
  obtain⟨σ',H',J,q⟩:=hs
  exact fin (v:=V.non) (u:=Uq) J rfl q
 | brk =>
  obtain⟨_,_,_,q⟩:=hs
  exact Ug q
 | cont =>
  obtain⟨_,_,_,q⟩:=hs
  exact Ug q
end L2
namespace DL
open PySem PySem.Spec PyProof.Rows L2 PySem.W
theorem Ztk {K:Xb} {n:Str} {f c P:Ve} {oc:Vb} {od:Option Ve} {fd:Uat} {sl:Array (Option Vb)} (h:Udz K n=some (c,P)) (hn:Ueo K Vh n=some (some (.ref f))) (hl:K.lookup f=some ⟨oc,od,.func fd,sl⟩):fd.code=.ref c:=by
 unfold Udz at h
 rw[hn] at h
 simp only[hl] at h
 split at h
 ·rename_i c2 hc
  split at h
  ·split at h
   ·cases h; exact hc
   ·cases h
  ·cases h
 ·cases h
section
variable {P:Vi} {w:Vs} {K:Xb} {mg:Str->Option Vb} {base:Vy}
theorem fn_fN {x qual n:Str} {st:Vw} {f c T:Ve} {fd:Uat} {N ps:List Str} {k:Nat} {b:SF} (F:Fun K x qual st f fd) (S:FnScope N ps (Zad st)) (hn:Ueo K Vh n=some (some (.ref f))) (ht:Udz K n=some (c,T))
  (hb:∀ (A:Vr) (outer:List Env) (s:Vd) (H:Hp) (E:XK),Room k (A.deeper (Uaw qual (Zad st) s.heap.objs.size f (.ref c)))->(∀ y z,(Uaw qual (Zad st) s.heap.objs.size f (.ref c)).cells.lookup y=some z->s.heap.objs.size<=z) ->
   Zpp (Zlo CX0 P w K mg base N qual (Zad st) f (.ref c) A outer s H E).nox.nofn (Za1 st) b):FnOk P w K mg base CX0 (k+1) f fd ps (spF K ps.length (Za4 ps.length N.length b)):=by
 obtain⟨oc,od,kV,doc,pm,an,cdv,ct,osl,rfl,lk,hcd⟩:=F.ex
 obtain rfl:cdv=.ref c:=Ztk ht hn lk
 refine Yhq lk hcd S (fun vs H Q E h=>?_) (fun A outer s H vs Q E hr hnew h=>?_)
 ·obtain⟨ι,ds,Hd,d,Hd',hl,_,r,_⟩:=h
  rw[<- Prd.len r]; exact hl
 ·obtain⟨ι,ds,Hd,d,Hd',hl,hh,r,e,q⟩:=h
  refine⟨_,hb A outer s H E hr hnew,?_⟩
  unfold Za4 at e
  rw[if_pos hl] at e
  obtain⟨⟨fl,σ1,H1⟩,e1,e⟩:=Zo e
  refine⟨ι,_,Hd,fl,σ1,H1,?_,hh,e1,fun σ' H' ι' l h ss=>?_⟩
  ·refine⟨by simp[L2.start,Prd.len r],fun i d0 h0=>?_⟩
   unfold L2.start
   by_cases hi:i<ds.length
   ·rw[Xg (by simpa using hi),Xp] at h0
    cases ed:ds[i]? with
    | none=>rw[ed] at h0; cases h0
    | some d1 =>
     rw[ed] at h0
     cases h0
     obtain⟨v,hv,rv⟩:=Prd.get r ed
     refine⟨v,?_,rv⟩
     rw[Xg (by rw[Xr,<- Prd.len r]; exact hi),Xp,hv]
     rfl
   ·rw[Xs (by simpa using hi),Wbp] at h0
    split at h0<;>cases h0
  ·cases fl with
   | rt d1=>cases e; exact fun v rv=>q v H' ι' l h rv
   | nx=>cases e; exact q .non H' ι' l h (by simp)
   | bk=>cases e
   | ct=>cases e
end
nonrec def Yew (t i j:Nat) (n:String) (x:Str):SF:=fun σ H=>match σ[j]? with
 | some (some d)=>match H[t]? with
  | some (.tab n' _)=>if n'=n then some (.nx,σ.set i (some (.ref H.length)),H.set t (.tab n true)++[.clo n x d]) else none
  | _=>none
 | _=>none
section
variable {X:Cx}
theorem Zxs {n:String} {x name:Str} {params:Uej} {body:List Vw} {scope:Ubo} {pos:Pos} {i j t:Nat} {c P cx:Ve}
  (hst:∀ st',Zkw X.K n st'->st'=.FunctionDef name params body [] none [] scope none name pos)
  (hfn:∀ y,X.fn y=false) (hN:X.N.Nodup) (hj:X.N[j]? = some x) (hxc:X.env.scope.names.lookup x=some .cell) (hi:X.N[i]? = some name) (hl:X.env.scope.names.lookup name=some .local)
  (hcode:X.env.code=.ref c) (ht:Udz X.K (Ua n)=some (c,P)) (C:CodeHd X.base c P) (B:X.base.BuiltinsAt X.mg P) (hq:qualnameIn X.env name name=Ua n ++ ".<locals>." ++ name)
  (hcx:X.env.cells.lookup x=some cx) (hcl:closureFor scope X.env=pure [(x,cx)]) (hnew:X.s₀.heap.objs.size<=cx) (hd0:params.defaults=[]) (hk0:params.kw_defaults=[]) (ha:annTrees params none X.env=[]) :
  PSf X (.FunctionDef name params body [] none [] scope none name pos) (Yew t i j n x):=by
 rintro pins s σ H D I ⟨ι,σd,Hd,fl,σd',Hd',ss,hh,e,q⟩
 unfold Yew at e
 split at e
 ·rename_i d hd
  split at e
  ·rename_i n' b hb
   split at e
   ·rename_i hn'
    subst hn'
    have e':=Xx.inj e
    obtain⟨rfl,e2⟩:=Way.inj e'
    obtain⟨rfl,rfl⟩:=Way.inj e2
    obtain⟨H1,oc,uc,I1,e1,g1,hH⟩:=I.freeze hfn hcx hnew
    have hh1:HRep X.K H1 ι Hd/\Le X.K H ι H1 ι:=by
     rcases hH with rfl | ⟨z,rfl⟩
     ·exact⟨hh,Le.refl⟩
     ·exact⟨hh.tup z _,Le.fresh z _⟩
    obtain⟨hh1,l1⟩:=hh1
    obtain⟨v,hv,rv⟩:=ss.var j d hd
    have rv1:Rep X.K H1 ι d v:=rv.mono l1
    obtain⟨m,hns,hloc⟩:=id I1.loc
    obtain⟨u,ru,lk⟩:=hloc j x v hj hv (.inr (.inl hxc))
    have cu:oc.data=.cell (some u):=by
     rcases lk with ⟨k1,_⟩ | ⟨_,c2,k2,o2,k3,k4⟩
     ·have k1:X.env.scope.names.lookup x=some .local:=k1
      rw[hxc] at k1; cases k1
     ·rw[hcx] at k2; cases k2; rw[g1] at k3; cases k3; exact k4
    obtain⟨a,ha1,T⟩:=hh1.at hb
    obtain⟨st',c2,ps,t1,t2,t3,t4,t5,t6⟩:=T
    have est:=hst st' t1
    subst est
    rw[ht] at t2; cases t2
    have gP:s.heap.get? P=some (tabObj ps):=I1.hok P _ t3
    have GG:s.heap.Ns Vh X.mg:=I1.mod.glob.keeps I1.bk
    have CC:=C.keeps I1.bk
    have BB:s.heap.BuiltinsAt X.mg P:=by
     obtain⟨bm,ob,b1,b2,b3,b4,b5,b6⟩:=B
     exact⟨bm,ob,b1,b2,b3,b4,I1.bk _ _ b5,b6⟩
    have fin:∀ (f':Ve) (H2:Hp) (s2:Vd),Inv X pins σ H2 s2->Le X.K H1 ι H2 (ι++[f'])->HRep X.K H2 (ι++[f']) (Hd.set t (.tab n' true)++[.clo n' x d]) ->
      Vg (Vl X.prog X.w) X.A (Ueg X.env name (.ref f')) (fun _ s''=>SP X pins D .next s'') X.xe s2:=fun f' H2 s2 I2 l2 h2=>by
     refine Zk3 I2 hN hi (.inl hl) (v:=.ref f') rfl (fun s' I3 _=>⟨_,H2,I3,q _ H2 (ι++[f']) (l1.trans l2) h2 ?_⟩) (.inr hl)
     refine(ss.mono (l1.trans l2)).set (Zay.mpr ⟨f',rfl,?_⟩) i
     rw[<- hh.len,Xs (Xe _)]
     simp
    refine nestDef_K hd0 hk0 ha ?_
    rw[hq]
    cases b with
    | true =>
     obtain⟨c',t7,t8⟩:=t6 rfl
     refine makeFunction_hit hcl I1.ok.glob GG hcode CC gP t4 t7 BB fun ctv doc h' tk hk hsz=>?_
     have kk:∀ b o,s.heap.get? b=some o->(h'.push (fnMade name (Ua n' ++ ".<locals>." ++ name) params body scope [(x,cx)] doc ((X.mg "__name__").getD .none) c' ctv)).get? b=some o:=fun b o e=>Xa _ (hk b o e)
     have gf:(h'.push (fnMade name (Ua n' ++ ".<locals>." ++ name) params body scope [(x,cx)] doc ((X.mg "__name__").getD .none) c' ctv)).get? h'.objs.size=some _:=Xd _ rfl
     have I2:=I1.laid (o:=fzO h'.objs.size (fnMade name (Ua n' ++ ".<locals>." ++ name) params body scope [(x,cx)] doc ((X.mg "__name__").getD .none) c' ctv)) (t':=tk) kk hsz ⟨gf,gf,⟨_,gf⟩,fun h1 h2 a k=>k _ a⟩
     have hf:H1 h'.objs.size=none:=I1.hok.fresh hsz
     have lf:=Le.fresh1 (K:=X.K) (ι:=ι) hf (fzO h'.objs.size (fnMade name (Ua n' ++ ".<locals>." ++ name) params body scope [(x,cx)] doc ((X.mg "__name__").getD .none) c' ctv))
     refine fin _ _ _ I2 lf ?_
     have eset:Hd.set t (.tab n' true)=Hd:=by
      apply Wfu
      intro k
      rw[Wdj]
      split
      ·rename_i z
       subst z
       rw[hb,if_pos (Xc.mp hb).1]
      ·rfl
     rw[eset]
     refine hh1.new hf ⟨v,⟨_,name,_,doc,_,ctv,cx,c',oc,uc,u,t1,Zas,t8.step lf.toLw,?_,cu,ru⟩,rv1.mono lf⟩
     exact lf.fr _ _ _ e1
    | false =>
     refine makeFunction_K hcl I1.ok.glob GG hcode CC gP t4 (t5 rfl) ?_ BB fun c' ctv doc h' tk hx hge hlt hrec htb=>?_
     ·intro z
      obtain⟨o,es,ep,e,hd,_⟩:=GG
      rw[z,gP] at e; cases e; cases hd
     obtain⟨c3,o3,vs3,tt,e3,ho3,hd3,hv3⟩:=hrec
     cases e3
     have nP:∀ b o,H1 b=some o->(∀ ps',o≠.tbl ps')->b≠P:=fun b o h1 h2 z=>by
      subst z; rw[t3] at h1; cases h1; exact h2 _ rfl
     have nP0:∀ b,H1 b=none->b≠P:=fun b h1 z=>by subst z; rw[t3] at h1; cases h1
     have hPs:P<s.heap.objs.size:=Xf gP
     have fc:H1 c'=none:=I1.hok.fresh hge
     have hsf:s.heap.objs.size<=h'.objs.size:=Wed (Nat.lt_of_le_of_lt hge hlt)
     have ff:H1 h'.objs.size=none:=I1.hok.fresh hsf
     have ncP:P≠c':=Xh (Xj hPs hge)
     have nfP:P≠h'.objs.size:=Xh (Xj hPs hsf)
     have ncf:c'≠h'.objs.size:=Xh hlt
     generalize hfo:fnMade name (Ua n' ++ ".<locals>." ++ name) params body scope [(x,cx)] doc ((X.mg "__name__").getD .none) c' ctv=fo
     have gf:(h'.push fo).get? h'.objs.size=some fo:=Xd _ (by rw[<- hfo]; rfl)
     have gc:(h'.push fo).get? c'=some o3:=Xa _ ho3
     have gt:(h'.push fo).get? P=some (tabObj (ps ++ #[Uad pos.line,Uad pos.col,.ref c'])):=Xa _ htb
     have kk:∀ b o,b≠P->s.heap.get? b=some o->(h'.push fo).get? b=some o:=fun b o hb e=>Xa _ (hx b o hb e)
     have old:∀ b u1 u2 u3,b<s.heap.objs.size->b≠P->upd (upd (upd H1 c' u1) P u2) h'.objs.size u3 b=H1 b:=fun b u1 u2 u3 h1 h2=>by
      rw[Zah (Xh (Xj h1 hsf)),Zah h2,Zah (Xh (Xj h1 hge))]
     have I2:Inv X pins σ (upd (upd (upd H1 c' (fzO c' o3)) P (.tbl (ps ++ #[Uad pos.line,Uad pos.col,.ref c']))) h'.objs.size (fzO h'.objs.size fo)) { s with heap:=h'.push fo,toks:=tk }:=by
      refine I1.step (g':=s.gens) (d':=s.drawn) (ch:=[]) (fun _ z=>nomatch z) (fun b o _ _ _ e n=>kk b o (nP0 b n) e) (fun b o _ _ _ e n=>⟨o.slots,kk b o (nP0 b n) e⟩) (fun b o _ e n=>?_) (fun b o _ e=>?_) (fun b xs e=>?_) (fun b o u e=>?_) (fun b ps' e=>?_) (fun m hn=>?_) (fun b o e=>?_) I1.bare
      ·rw[old b _ _ _ (Xf e) (nP0 b n)]; exact n
      ·by_cases hbP:b=P
       ·subst hbP; exact⟨_,gt⟩
       ·exact⟨o,kk b o hbP e⟩
      ·rw[old b _ _ _ (I1.hok.lt e) (nP b _ e (by simp))]; exact e
      ·rw[old b _ _ _ (I1.hok.lt e) (nP b _ e (by simp))]; exact e
      ·by_cases hbP:b=P
       ·subst hbP
        rw[t3] at e
        cases e
        exact⟨_,by rw[Zah nfP,Zas]⟩
       ·exact⟨#[],by rw[old b _ _ _ (I1.hok.lt e) hbP,e]; simp⟩
      ·exact(hn.extBut hx (nP0 _ I1.free)).push _
      ·by_cases hbf:b=h'.objs.size
       ·subst hbf; rw[Zas] at e; cases e; exact⟨gf,gf,⟨_,gf⟩,fun h1 h2 a k=>k _ a⟩
       ·rw[Zah hbf] at e
        by_cases hbP:b=P
        ·subst hbP; rw[Zas] at e; cases e; exact gt
        ·rw[Zah hbP] at e
         by_cases hbc:b=c'
         ·subst hbc; rw[Zas] at e; cases e; exact⟨gc,gc,⟨_,gc⟩,fun h1 h2 a k=>k _ a⟩
         ·rw[Zah hbc] at e
          refine(I1.hok b o e).stay (fun c v hc q=>?_) (fun c q=>?_) (fun c xs q=>?_)
          ·refine kk c v ?_ q
           rcases hc with rfl | hc
           ·exact hbP
           ·exact nP c _ hc (by simp)
          ·rw[old c _ _ _ (I1.hok.lt q) (nP c _ q (by simp))]; exact q
          ·rw[old c _ _ _ (I1.hok.lt q) (nP c _ q (by simp))]; exact q
     have mP:P∈ι:=Xk ha1
     have la:=Le.fresh (K:=X.K) (ι:=ι) fc (fzO c' o3)
     have tP:upd H1 c' (fzO c' o3) P=some (.tbl ps):=by rw[Zah ncP]; exact t3
     have lb:=Le.upd (K:=X.K) mP tP trivial (.tbl (ps ++ #[Uad pos.line,Uad pos.col,.ref c']))
     have fb:upd (upd H1 c' (fzO c' o3)) P (.tbl (ps ++ #[Uad pos.line,Uad pos.col,.ref c'])) h'.objs.size=none:=by
      rw[Zah (Ul nfP),Zah (Ul ncf)]; exact ff
     have lc:=Le.fresh1 (K:=X.K) (ι:=ι) fb (fzO h'.objs.size fo)
     have cod:Ztz (upd (upd H1 c' (fzO c' o3)) P (.tbl (ps ++ #[Uad pos.line,Uad pos.col,.ref c']))) c' (Ua n' ++ ".<locals>." ++ name):=⟨o3,vs3,tt,by rw[Zah (Ul ncP),Zas],hd3,hv3⟩
     refine fin _ _ _ I2 ((la.trans lb).trans lc) ?_
     have hb2:=(hh1.tup fc (fzO c' o3)).upd (u:=.tbl (ps ++ #[Uad pos.line,Uad pos.col,.ref c'])) (ob:=.tab n' true) ha1 tP trivial
      ⟨_,c,_,t1,ht,Zas,by rw[Wfg]; exact TriplesOk_snoc _ _ _ _ t4,(fun z=>by cases z),fun _=>⟨c',by rw[Wfg]; exact codeAmong_snoc _ t4 (t5 rfl),cod⟩⟩
     have hlen:(Hd.set t (.tab n' true)).length=Hd.length:=by simp
     refine hb2.new fb ⟨v,⟨_,name,_,doc,(X.mg "__name__").getD .none,ctv,cx,c',oc,uc,u,t1,?_,cod.step lc.toLw,?_,cu,ru⟩,(rv1.mono (la.trans lb)).mono lc⟩
     ·rw[Zas,<- hfo]; rfl
     ·exact lc.fr _ _ _ (lb.fr _ _ _ (la.fr _ _ _ e1))
   ·cases e
  ·cases e
 ·cases e
end
structure Tabs (K:Xb) (names:List String) (tabs:List (Ve×Ve)):Prop where
 len:tabs.length=names.length
 nd:(tabs.map (·.2)).Nodup
 at':∀ (i:Nat) (n:String) (q:Ve×Ve),names[i]? = some n->tabs[i]? = some q->Udz K (Ua n)=some q/\∃ st,Zkw K n st
 no:noTabs K=true
nonrec def Zfp (names:List String):HD:=names.map fun n=>DO.tab n false
theorem Zvj {K:Xb} {H:Hp} {names:List String} {tabs:List (Ve×Ve)} (T:Tabs K names tabs) (h:∀ q∈tabs,H q.2=some (.tbl #[])):HRep K H (tabs.map (·.2)) (Zfp names):=by
 refine⟨by simp[Zfp,T.len],T.nd,fun i a o h1 h2=>?_⟩
 rw[Xp] at h1
 unfold Zfp at h2
 rw[Xp] at h2
 cases e1:tabs[i]? with
 | none=>rw[e1] at h1; cases h1
 | some q =>
  cases e2:names[i]? with
  | none=>rw[e2] at h2; cases h2
  | some n =>
   rw[e1] at h1
   rw[e2] at h2
   cases h1
   cases h2
   obtain⟨h3,st,h4⟩:=T.at' i n q e2 e1
   exact⟨st,q.1,#[],h4,h3,h q (Xk e1),trivial,fun _=>rfl,fun z=>by cases z⟩
def Yb3 (tabs:List (Ve×Ve)) (H:Hp):Prop:=(∀ q∈tabs,H q.2=some (.tbl #[]))/\∀ b,H b=none\/(∃ o xs,H b=some (.frz o (.lst xs)))\/∃ q∈tabs,b=q.2
theorem Zv6 {P:Vi} {w:Vs} {K:Xb} {mg mb:Str->Option Vb} {k:Nat} {fa a:Ve} {fd:Uat} {x:Str} {sp:Sp} {s₁:Vd} {vs:List Vb} {ns:List Int} {tabs:List (Ve×Ve)}
  (KX:K.In s₁.heap) (hns:s₁.heap.Ns Vh mg) (hb:s₁.heap.Ns builtinsNs mb) (hbb:∀ x:Str,x ≠ "__name__" -> mb x=Vq x) (hlim:s₁.heap.NoLimit) (hg:s₁.gens = #[])
  (ha:s₁.heap.get? a=some { cls:=.type "list",data:=.seq vs.toArray }) (hi:Ubg vs ns) (hl:ns.length<=sizeLine) (hr:Room k Udy)
  (hT:TabsAt tabs s₁.heap) (hno:noTabs K=true) (hB:∀ q∈tabs,s₁.heap.BuiltinsAt mg q.2)
  (F:∀ base:Vy,K.In base->base.Ns Vh mg->(∀ q∈tabs,CodeHd base q.1 q.2/\base.BuiltinsAt mg q.2)->FnOk P w K mg base CX0 k fa fd [x] sp) (hbind:∀ (s:Vd) (u:Vb),BindsTo s fd ⟨[u],[]⟩ [(x,u)])
  (hsp:∀ H:Hp,Yb3 tabs H->SqL K H a (ns.map V.int)->sp [.ref a] H (fun v _=>v=.bl true) fun _ _ _=>False) :
  Uca (Vl P w) Udy (.call (.ref fa) ⟨[.ref a],[]⟩) (fun r s'=>r=.ok (.ret (.bool true))/\OldK s₁.heap s'.heap/\s'.os=s₁.os/\Ucp s'.gens) s₁:=by
 have rv:=L2.vals_ints hi
 have lenV:=hi.length
 have core:∀ H:Hp,Yb3 tabs H->SqL K H a (ns.map V.int)->HOk P w H s₁.heap->(∀ b,H b≠none->b=a\/∃ q∈tabs,b=q.2)->(H a≠none->K.lookup a=none) ->
   Uca (Vl P w) Udy (.call (.ref fa) ⟨[.ref a],[]⟩) (fun r s'=>r=.ok (.ret (.bool true))/\OldK s₁.heap s'.heap/\s'.os=s₁.os/\Ucp s'.gens) s₁:=by
  intro H hO hS hok hA hK
  have base_of:∀ {b:Ve} {o:Obj},s₁.heap.get? b=some o->H b=none->(Zyg s₁.heap H).get? b=some o:=fun e n=>Zzb e n
  have noH:∀ {b:Ve} {o:Obj},s₁.heap.get? b=some o->(∀ i m,o.data≠.seq i m)->(o.cls=.none->∀ fs,o.data≠.fields fs)->H b=none:=fun {b o} e d1 d2=>by
   cases q:H b with
   | none=>rfl
   | some u =>
    rcases hA b (by rw[q]; simp) with e' | ⟨t,ht,e'⟩
    ·subst e'
     rw[ha] at e; cases e
     exact absurd rfl (d1 _ _)
    ·subst e'
     rw[(hT t ht).2] at e; cases e
     exact absurd rfl (d2 rfl _)
  have nsK:∀ {b:Ve} {m:Str->Option Vb},s₁.heap.Ns b m->(Zyg s₁.heap H).Ns b m:=fun {b m} ⟨o,es,ep,e,d,r⟩=>⟨o,es,ep,base_of e (noH e (fun i m z=>by rw[d] at z; cases z) (fun _ fs z=>by rw[d] at z; cases z)),d,r⟩
  have hKb:K.In (Zyg s₁.heap H):=fun b o e=>base_of (KX b o e) (by
   cases q:H b with
   | none=>rfl
   | some u =>
    rcases hA b (by rw[q]; simp) with e' | ⟨t,ht,e'⟩
    ·subst e'
     rw[hK (by rw[q]; simp)] at e; cases e
    ·subst e'
     have e3:=KX _ _ e
     rw[(hT t ht).2] at e3
     cases e3
     have h2:=Xu.mp hno _ (mem_of_lookupK e)
     exact absurd (show false=true from h2) Waz)
  have hM:Mod K mg (Zyg s₁.heap H):=⟨hKb,nsK hns,⟨mb,nsK hb,hbb⟩,let ⟨mc,h1,h2⟩:=hlim; ⟨mc,nsK h1,h2⟩⟩
  have hC:∀ q∈tabs,CodeHd (Zyg s₁.heap H) q.1 q.2/\(Zyg s₁.heap H).BuiltinsAt mg q.2:=fun q hq=>by
   refine⟨?_,?_⟩
   ·obtain⟨o,vs,file,tf,flags,tg,inF,text,tt,e,c1,c2,r⟩:=(hT q hq).1
    refine⟨o,vs,file,tf,flags,tg,inF,text,tt,base_of e (noH e (fun i m z=>by rw[c2] at z; cases z) (fun z=>by rw[c1] at z; cases z)),c1,c2,r⟩
   ·obtain⟨bm,ob,b1,b2,b3,b4,b5,b6,b7,b8⟩:=hB q hq
    exact⟨bm,ob,b1,b2,b3,b4,base_of b5 (noH b5 (fun i m z=>by rw[b8] at z; cases z) (fun z=>by rw[b6] at z; cases z)),b6,b7,b8⟩
  have e0:Env0 P w K mg (Zyg s₁.heap H) Udy [] s₁ H:=⟨rfl,hM,fun b o e=>Ycy e,Wga (Zuj _ _),trivial,fun b hb=>absurd (show b∈([]:List Ve) from hb) (by simp),hok,.of_eq hg⟩
  refine Uas ((F _ hKb (nsK hns) hC).run Udy [] s₁ H ⟨[.ref a],[]⟩ [.ref a] [.ref a] _ _ hr e0 (hbind s₁ (.ref a)) (.cons rfl .nil) (hsp H hO hS)) fun r s' h=>?_
  cases r with
  | error e=>exact(show False from h).elim
  | ok fl =>
   cases fl with
   | next=>exact Ug h
   | brk=>exact Ug h
   | cont=>exact Ug h
   | ret u =>
    obtain⟨v,H',os,bare,un,hok',r',q⟩:=h
    have q':v=.bl true:=q
    subst q'
    obtain rfl:u=Tbp true:=r'
    have all:∀ b o,s₁.heap.get? b=some o->s'.heap.get? b=some o\/∃ t∈tabs,b=t.2/\o=tabObj #[]/\∃ ps,s'.heap.get? b=some (tabObj ps):=fun b o e=>by
     cases q:H b with
     | none=>exact .inl (un.keep b o e q (by intro z; exact absurd (show b∈([]:List Ve) from z) (by simp)) (by simp))
     | some u =>
      rcases hO.2 b with z | ⟨ob,xs,z⟩ | ⟨t,ht,z⟩
      ·rw[q] at z; cases z
      ·have z2:=un.frzs b ob _ z
       obtain⟨e1,_⟩:=hok b _ z
       obtain⟨e2,_⟩:=hok' b _ z2
       rw[e] at e1; cases e1
       exact .inl e2
      ·subst z
       obtain⟨m,e1⟩:=un.tbls _ _ (hO.1 t ht)
       rw[(hT t ht).2] at e
       exact .inr ⟨t,ht,rfl,(Xx.inj e).symm,_,hok' _ _ e1⟩
    refine⟨rfl,⟨fun b o e=>?_,fun b o e=>?_⟩,os,bare⟩
    ·rcases all b o e with z | ⟨t,ht,rfl,rfl,ps,z⟩
     ·exact .inl z
     ·exact .inr (.inl ⟨((hT t ht).1.tab (hT t ht).2).isCodeTable,rfl,#[],ps,rfl,by rw[Wfl]; exact z⟩)
    ·rcases all b o e with z | ⟨t,ht,_,_,ps,z⟩
     ·exact⟨_,z⟩
     ·exact⟨_,z⟩
 have naT:∀ q∈tabs,q.2≠a:=fun q hq z=>by
  have e:=(hT q hq).2
  rw[z,ha] at e; cases e
 have tabOk:∀ (H:Hp) (q:Ve×Ve),q∈tabs->Zc2 P w H s₁.heap q.2 (.tbl #[]):=fun H q hq=>(hT q hq).2
 open Classical in
 cases hk:K.lookup a with
 | some o =>
  have e:=KX a o hk
  rw[ha] at e
  cases e
  refine core (fun b=>if ∃ q∈tabs,b=q.2 then some (.tbl #[]) else none) ⟨fun q hq=>if_pos ⟨q,hq,rfl⟩,fun b=>?_⟩ (.inr ⟨_,vs.toArray,_,hk,rfl,rfl,rfl,by rw[Xo,lenV]; exact hl,by simpa using rv⟩) (fun b u z=>?_) (fun b z=>?_) fun z=>?_
  ·by_cases hb:∃ q∈tabs,b=q.2
   ·exact .inr (.inr hb)
   ·exact .inl (if_neg hb)
  ·by_cases hb:∃ q∈tabs,b=q.2
   ·have z':=(if_pos hb).symm.trans z
    cases z'
    obtain⟨q,hq,rfl⟩:=hb
    exact tabOk _ q hq
   ·have z':=(if_neg hb).symm.trans z
    cases z'
  ·by_cases hb:∃ q∈tabs,b=q.2
   ·exact .inr hb
   ·exact absurd (if_neg hb) z
  ·have:¬ ∃ q∈tabs,a=q.2:=fun⟨q,hq,z⟩=>naT q hq z.symm
   exact absurd (if_neg this) z
 | none =>
  refine core (fun b=>if b=a then some (.frz { cls:=.type "list",data:=.seq vs.toArray } (.lst (ns.map V.int))) else if ∃ q∈tabs,b=q.2 then some (.tbl #[]) else none) ⟨fun q hq=>?_,fun b=>?_⟩ (.inl (.inr ⟨{ cls:=.type "list",data:=.seq vs.toArray },if_pos rfl⟩)) (fun b u z=>?_) (fun b z=>?_) fun _=>hk
  ·exact(if_neg (naT q hq)).trans (if_pos ⟨q,hq,rfl⟩)
  ·by_cases hb:b=a
   ·exact .inr (.inl ⟨_,_,if_pos hb⟩)
   ·by_cases hb2:∃ q∈tabs,b=q.2
    ·exact .inr (.inr hb2)
    ·exact .inl ((if_neg hb).trans (if_neg hb2))
  ·by_cases hb:b=a
   ·have z':=(if_pos hb).symm.trans z
    cases z'
    subst hb
    exact⟨ha,by rw[Xr]; exact hl,vs,_,rv,ha⟩
   ·by_cases hb2:∃ q∈tabs,b=q.2
    ·have z':=((if_neg hb).trans (if_pos hb2)).symm.trans z
     cases z'
     obtain⟨q,hq,rfl⟩:=hb2
     exact tabOk _ q hq
    ·have z':=((if_neg hb).trans (if_neg hb2)).symm.trans z
     cases z'
  ·by_cases hb:b=a
   ·exact .inl hb
   ·by_cases hb2:∃ q∈tabs,b=q.2
    ·exact .inr hb2
    ·exact absurd ((if_neg hb).trans (if_neg hb2)) z
theorem Ztb {F:FF} {names:List String} (h:∀ ns:List Int,ns.length<=63->∃ Hd',F [.fl (ns.map .int)] (Zfp names)=some (.bl true,Hd')) {K:Xb} {tabs:List (Ve×Ve)} (T:Tabs K names tabs) :
  ∀ (H:Hp) (a:Ve) (ns:List Int),ns.length<=63->Yb3 tabs H->SqL K H a (ns.map V.int)->Yf0 F K [.ref a] H (fun v _=>v=.bl true) fun _ _ _=>False:=by
 intro H a ns hl hO hS
 obtain⟨Hd',e⟩:=h ns hl
 have fz:FzL K H a (ns.map V.int):=by
  rcases hS with (h | h) | h
  ·rcases hO.2 a with z | ⟨o,xs,z⟩ | ⟨q,hq,z⟩
   ·rw[h] at z; cases z
   ·rw[h] at z; cases z
   ·subst z; rw[hO.1 q hq] at h; cases h
  ·exact .inl h
  ·exact .inr h
 have P:Vj (Rep K H (tabs.map (·.2))) (ns.map D.int) (ns.map V.int):=by
  generalize ns=ks
  induction ks with
  | nil=>exact .nil
  | cons k ks ih=>exact .cons (by simp) ih
 exact⟨tabs.map (·.2),[.fl (ns.map .int)],Zfp names,.bl true,Hd',rfl,Zvj T hO.1,.cons (Zhr.mpr ⟨a,_,rfl,fz,P⟩) .nil,e,fun v H' ι' l h r=>by simpa using r⟩
def Zom (K:Xb) (mg:Str->Option Vb) (base:Vy) (n:String):Prop:=∃ c P,Udz K (Ua n)=some (c,P)/\CodeHd base c P/\base.BuiltinsAt mg P
theorem Zzi {l:Tcq} {k:Nat} {q:Vi} {loose:List Str} {XP:(Str->Option Vb)->Vy->Prop} {YP:Vs->Vy->Prop} {d:DefRec} {K:Params->Xb} {G:FF} {x:Str} {names:List String}
  (hn:l.most=some 63) (hdf:d.params.defaults=[]) (hr:Room k Udy)
  (hY:∀ (w:Vs) (h:Vy),YP w h->(K w.params).In h) (hrec:∀ n∈names,((recsOf q).find? (fun e=>e.name==Ua n)).isSome=true)
  (hTb:∀ (w:Vs) (mg:Str->Option Vb) (h:Vy),(K w.params).In h->h.Ns Vh mg->∃ tabs,Tabs (K w.params) names tabs)
  (F:∀ (w:Vs) (mg:Str->Option Vb) (fa:Ve) (h:Vy),(K w.params).In h->h.Ns Vh mg->mg d.name=some (.ref fa) ->
   ∃ fd:Uat,(∀ (s:Vd) (u:Vb),BindsTo s fd ⟨[u],[]⟩ [(x,u)]) /\
    ∀ base:Vy,(K w.params).In base->base.Ns Vh mg->(∀ n∈names,Zom (K w.params) mg base n)->FnOk l.prog w (K w.params) mg base CX0 k fa fd [x] (Yf0 G (K w.params)))
  (hG:∀ ns:List Int,ns.length<=63->∃ Hd',G [.fl (ns.map .int)] (Zfp names)=some (.bl true,Hd')) :
  Wgs q loose XP YP l.row.toRowW d [] (fun f vs=>Tcw f vs):=by
 refine Att.attach_call hn hdf fun w s₀ s₁ mg mb fa o pm cd doc a vs ns G' Y ho hd hcd hmg hobj hints hlen hg=>?_
 have KX:=hY w _ Y
 obtain⟨tabs,T⟩:=hTb w mg _ KX G'.T.g
 obtain⟨fd,hb,hF⟩:=F w mg fa _ KX G'.T.g hmg
 have name_of:∀ t∈tabs,∃ n∈names,Udz (K w.params) (Ua n)=some t:=fun t ht=>by
  obtain⟨i,hi⟩:=Wby.mp ht
  have hl:i<names.length:=by rw[<- T.len]; exact(Xc.mp hi).1
  exact⟨names[i],Wac hl,(T.at' i _ t (Xm hl) hi).1⟩
 have tab_of':∀ n∈names,∃ t∈tabs,Udz (K w.params) (Ua n)=some t:=fun n hn=>by
  obtain⟨i,hi⟩:=Wby.mp hn
  have hl:i<tabs.length:=by rw[T.len]; exact(Xc.mp hi).1
  exact⟨tabs[i],Wac hl,(T.at' i n _ hi (Xm hl)).1⟩
 have hT:TabsAt tabs s₁.heap:=fun t ht=>by
  obtain⟨n,hn,e⟩:=name_of t ht
  obtain⟨dr,hdr⟩:=Wak.mp (hrec n hn)
  exact tab_of G'.T KX hdr e
 have hB:∀ t∈tabs,s₁.heap.BuiltinsAt mg t.2:=fun t ht=>by
  obtain⟨bm,ob,b1,b2,b3,b4,b5,b6⟩:=G'.T.bmain
  refine⟨bm,ob,b1,b2,fun z=>?_,fun z=>?_,b3,b4,b5,b6⟩
  ·obtain⟨o,es,ep,e,hd,_⟩:=G'.T.g
   rw[z,e] at b3; cases b3; rw[hd] at b6; cases b6
  ·rw[z,(hT t ht).2] at b3; cases b3; cases b4
 exact Zv6 KX G'.T.g G'.T.b G'.T.builtins G'.T.nolimit hg hobj hints (Waa hlen (by decide)) hr hT T.no hB
  (fun base h1 h2 h3=>hF base h1 h2 fun n hn=>by
   obtain⟨t,ht,e⟩:=tab_of' n hn
   exact⟨t.1,t.2,e,h3 t ht⟩) hb (fun H hO hS=>Ztb hG T H a ns hlen hO hS)
theorem us6 {us:List Vb} (h:us.length=6):∃ a b c d e f,us=[a,b,c,d,e,f]:=by
 obtain⟨a,t,rfl⟩:=Waj h
 obtain⟨b,c,d,e,f,rfl⟩:=us5 (us:=t) (by simpa using h)
 exact⟨a,b,c,d,e,f,rfl⟩
def Tn (K:Xb) (mg:Str->Option Vb) (n:String) (st:Vw):Prop :=
 ∃ f fd c P,Fun K (Ua n) (Ua n) st f fd/\mg (Ua n)=some (.ref f)/\Ueo K Vh (Ua n)=some (some (.ref f))/\Udz K (Ua n)=some (c,P)
theorem Yhu {K:Xb} {n:Str} {f c P:Ve} {oc oc2:Vb} {od od2:Option Ve} {fd:Uat} {sl sl2:Array (Option Vb)} {vs:Array Vb} (a:Ueo K Vh n=some (some (.ref f))) (l:K.lookup f=some ⟨oc,od,.func fd,sl⟩) (e:fd.code=.ref c)
  (m:K.lookup c=some ⟨oc2,od2,.fields vs,sl2⟩) (v:vs[11]? = some (.ref P)):Udz K n=some (c,P):=by
 unfold Udz
 rw[a]
 simp only[l,e,m,v]
theorem Yh2 {K:Xb} {h:Vy} {mg:Str->Option Vb} {n:String} {st:Vw} {f c P:Ve} {oc oc2:Vb} {od od2 an:Option Ve} {osl sl2:Array (Option Vb)} {kV doc pm ct:Vb} {vs:Array Vb} (X:K.In h) (G:h.Ns Vh mg)
  (a:Ueo K Vh (Ua n)=some (some (.ref f))) (l:K.lookup f=some ⟨oc,od,.func (Wba (Ua n) (Ua n) (Zb1 st) (Za1 st) (Zad st) .none kV doc pm an (.ref c) ct),osl⟩)
  (cc:Wcs K (.ref c) (Ua n)=true) (k:Wbt K (.ref f)=true) (m:K.lookup c=some ⟨oc2,od2,.fields vs,sl2⟩) (v:vs[11]? = some (.ref P)):Tn K mg n st:=⟨f,_,c,P,Zr2 l cc k,Wfk X G a,a,Yhu a l rfl m v⟩
section
variable {P:Vi} {w:Vs} {K:Xb} {mg:Str->Option Vb} {base:Vy} {n:String} {st:Vw}
theorem Tn.first (T:Tn K mg n st) {s2:Vw} {r:List Vw} (h:Za1 st=s2::r):∀ st',Zkw K n st'->st'=s2:=by
 rintro st' ⟨f0,o0,fd0,rest,h1,h2,h3,h4⟩
 obtain⟨f,fd,c,T',F,m,a,t⟩:=T
 obtain⟨oc,od,kV,doc,pm,an,cdv,ct,osl,rfl,lk,hcd⟩:=F.ex
 rw[a] at h1
 cases h1
 rw[lk] at h2
 cases h2
 cases h3
 have h5:Tcv (Za1 st)=.stmts (st'::rest):=h4
 injection h5 with h6
 rw[h] at h6
 exact(Wbo.inj h6).1.symm
theorem Tn.nest (T:Tn K mg n st) {s2:Vw} {r:List Vw} (h:Za1 st=s2::r):∃ st',Zkw K n st':=by
 obtain⟨f,fd,c,T',F,m,a,t⟩:=T
 obtain⟨oc,od,kV,doc,pm,an,cdv,ct,osl,rfl,lk,hcd⟩:=F.ex
 exact⟨s2,f,_,_,r,a,lk,rfl,by show Tcv (Za1 st)=_; rw[h]⟩
theorem Yay {N ps:List Str} {k:Nat} {b:SF} (T:Tn K mg n st) (B:Zom K mg base n) (S:FnScope N ps (Zad st))
  (hbd:∀ (kV doc pm:Vb) (an:Option Ve) (cdv ct:Vb) (us:List Vb),us.length=ps.length->Ubq (Wba (Ua n) (Ua n) (Zb1 st) (Za1 st) (Zad st) .none kV doc pm an cdv ct) ⟨us,[]⟩=pure (ps.zip us))
  (hb:∀ (f c T:Ve) (A:Vr) (outer:List Env) (s:Vd) (H:Hp) (E:XK),Udz K (Ua n)=some (c,T)->CodeHd base c T->base.BuiltinsAt mg T->Room k (A.deeper (Uaw (Ua n) (Zad st) s.heap.objs.size f (.ref c))) ->
   (∀ y z,(Uaw (Ua n) (Zad st) s.heap.objs.size f (.ref c)).cells.lookup y=some z->s.heap.objs.size<=z) ->
   Zpp (Zlo CX0 P w K mg base N (Ua n) (Zad st) f (.ref c) A outer s H E).nox.nofn (Za1 st) b):Fn P w K mg base (k+1) (Ua n) ps (Za4 ps.length N.length b):=by
 obtain⟨f,fd,c,T',F,m,a,t⟩:=T
 obtain⟨c2,P2,t2,C,BB⟩:=B
 rw[t] at t2
 cases t2
 refine⟨f,fd,fn_fN F S a t fun A outer s H E hr hnew=>hb f c T' A outer s H E t C BB hr hnew,F.binds hbd,F.kp,m,?_⟩
 obtain⟨oc,od,kV,doc,pm,an,cdv,ct,osl,rfl,lk,hcd⟩:=F.ex
 exact⟨oc,od,osl,lk⟩
end
nonrec def Zoz (K:Xb) (n m:String):Bool:=match Udz K (Ua n),Udz K (Ua m) with
 | some p,some q=>decide (p.2≠q.2)
 | _,_=>false
theorem Zzu {K:Xb} {mg:Str->Option Vb} {n m:String} {st s2 st' s2':Vw} {r r':List Vw} (T:Tn K mg n st) (hb:Za1 st=s2::r) (T':Tn K mg m st') (hb':Za1 st'=s2'::r') (hd:Zoz K n m=true) (hn:noTabs K=true):∃ tabs,Tabs K [n,m] tabs:=by
 obtain⟨f,fd,c,P,F,mm,a,h⟩:=id T
 obtain⟨f',fd',c',P',F',mm',a',h'⟩:=id T'
 have ne:P≠P':=by
  unfold Zoz at hd
  rw[h,h'] at hd
  exact of_decide_eq_true hd
 refine⟨[(c,P),(c',P')],rfl,by simp[ne],fun i n' q h1 h2=>?_,hn⟩
 match i with
 | 0=>simp at h1 h2; subst h1 h2; exact⟨h,T.nest hb⟩
 | 1=>simp at h1 h2; subst h1 h2; exact⟨h',T'.nest hb'⟩
 | i+2=>simp at h1
end DL
namespace DL
open PySem L2
theorem Zg9 {n:Nat} (h:n<=1000000):n<=sizeLine:=by rw[Ux]; omega
theorem Zh0 {xs:List D} {i:Int} {d:D} (h0:0<=i) (h:xs[i.toNat]? = some d):atI xs i=some d:=by
 have:i=(i.toNat:Int):=by omega
 rw[this]; exact Zbn h
end DL
namespace LH
open PySem L2 DL
structure ExtS (S:List Nat) (H H':HD):Prop where
 old:∀ m o,m∉S->H[m]? = some o->H'[m]? = some o
 len:H.length<=H'.length
theorem ExtS.trans {S:List Nat} {H H1 H2:HD} (a:ExtS S H H1) (b:ExtS S H1 H2):ExtS S H H2:=⟨fun m o h q=>b.old m o h (a.old m o h q),Waa a.len b.len⟩
theorem ExtS.refl {S:List Nat} {H:HD}:ExtS S H H:=⟨fun _ _ _ q=>q,Xe _⟩
nonrec def Zau (l:Int):Int:=if l<0 then -l else l
nonrec def Up (m:Int):Int->List Int->Prop
 | _,[]=>True
 | last,l::r=>last<Zau l/\Zau l<=m/\Up m (Zau l) r
theorem Yfa {m:Int}:∀ (ls:List Int) (last:Int),(ls.map Zau).Pairwise (· < ·)->(∀ x∈ls.map Zau,last<x/\x<=m)->Up m last ls
 | [],_,_,_=>trivial
 | l::r,last,p,h=>by
  rw[Xn,Wee] at p
  have h1:=h (Zau l) (by simp)
  exact⟨h1.1,h1.2,Yfa r (Zau l) p.2 fun x hx=>⟨p.1 x hx,(h x (by rw[Xn]; exact Wae _ hx)).2⟩⟩
theorem Zco {f g:SF} {σ σ1:SD} {H H1:HD} (h:f σ H=some (.nx,σ1,H1)):Zag f g σ H=g σ1 H1:=by
 unfold Zag
 rw[h]
 rfl
theorem Zlt {f g:SF} {σ σ1:SD} {H H1:HD} {d:D} (h:f σ H=some (.rt d,σ1,H1)):Zag f g σ H=some (.rt d,σ1,H1):=by
 unfold Zag
 rw[h]
 rfl
theorem Zod {i:Nat} {f:EF} {σ:SD} {H H1:HD} {d:D} (h:f σ H=some (d,H1)):Zbm i f σ H=some (.nx,σ.set i (some d),H1):=by
 unfold Zbm
 rw[h]
 rfl
def Zcx (d:D):Prop:=d=.str "all" \/ d=.str "some"
theorem Zi0 {H:HD}:Zci [] H:=by intro x hx; simp at hx
theorem Zwe (H:HD) (n:Nat) (i:Int):toP H n (.int i)=some (.int i):=by cases n<;>rw[toP]
theorem Yhf (H:HD) (n:Nat) (b:Bool):toP H n (.bl b)=some (.bool b):=by cases n<;>rw[toP]
theorem Zvp (H:HD) (i:Int):dat (.int i) H=some (.int i):=by
 simp[dat,Zwe,okP,Tae,Taq]
theorem Zxp (i j:Int) (H:HD):eqD (.int i) (.int j) H=some (.bl (i==j),H):=by
 simp[eqD,Zs8,Zvp,Ub]
theorem Ygb (i j:Int) (H:HD):neD (.int i) (.int j) H=some (.bl (!(i==j)),H):=by
 simp[neD,Zs8,Zvp,Ub]
theorem Zmi (H:HD) (n:Nat) (x:Str):toP H n (.str x)=some (.str x):=by cases n<;>rw[toP]
theorem Zto {x:Str} (h:(x.cps.toList.all fun c=>decide (c<0x110000))=true):Tco x=true:=by
 unfold Tco
 rw[<- Array.all_toList]
 exact h
theorem Ybj (xs:List D) (k:Nat):Znz xs (some (k:Int)) none=xs.drop k:=by
 unfold Znz
 have h1:HT.sIx xs.length 0 (some (k:Int))=min k xs.length:=by
  show (if (k:Int)<0 then ((k:Int)+(xs.length:Int)).toNat else min (k:Int).toNat xs.length)=min k xs.length
  rw[if_neg (by omega),Wah]
 have h2:HT.sIx xs.length xs.length none=xs.length:=rfl
 rw[h1,h2]
 by_cases h:k<=xs.length
 ·rw[Nat.min_eq_left h]
  exact List.take_of_length_le (by simp)
 ·rw[Nat.min_eq_right (by omega),Wes (Xe _),Wes (by omega)]
  simp
theorem Ygj (xs:List D) (k:Nat):Znz xs none (some (k:Int))=xs.take k:=by
 unfold Znz
 have h1:HT.sIx xs.length 0 none=0:=rfl
 have h2:HT.sIx xs.length xs.length (some (k:Int))=min k xs.length:=by
  show (if (k:Int)<0 then ((k:Int)+(xs.length:Int)).toNat else min (k:Int).toNat xs.length)=min k xs.length
  rw[if_neg (by omega),Wah]
 rw[h1,h2]
 simp
theorem ac {f:EF} {g:AF} {σ:SD} {H H1 H2:HD} {d:D} {ds:List D} (h1:f σ H=some (d,H1)) (h2:g σ H1=some (ds,H2)):Zab f g σ H=some (d::ds,H2):=by
 unfold Zab; rw[h1]; simp only[Zb]; rw[h2]; rfl
theorem an {σ:SD} {H:HD}:Zaf σ H=some ([],H):=rfl
theorem cb {g:FF} {f:AF} {σ:SD} {H H1:HD} {ds:List D} {r:Option (D×HD)} (h1:f σ H=some (ds,H1)) (h2:g ds H1=r):eCB g f σ H=r:=by
 unfold eCB; rw[h1]; exact h2
theorem tu {n:Nat} {xs:List D} {H:HD} (h:H[n]? = some (.lst xs)):Ze1 [.ref n] H=some (.tup xs,H):=by
 simp[Ze1,Zp1,h]
theorem tp {f:AF} {σ:SD} {H H1:HD} {ds:List D} (h1:f σ H=some (ds,H1)) (h2:ds.length<=1000000):Zd1 f σ H=some (.tup ds,H1):=by
 unfold Zd1; rw[h1]; exact if_pos (Zg9 h2)
theorem ls {f:AF} {σ:SD} {H H1:HD} {ds:List D} (h1:f σ H=some (ds,H1)) (h2:ds.length<=1000000):Zgw f σ H=some (.ref H1.length,H1++[.lst ds]):=by
 unfold Zgw; rw[h1]; exact if_pos (Zg9 h2)
theorem ca {n:Nat} {F:FF} {f:AF} {σ:SD} {H H1:HD} {ds:List D} {r:Option (D×HD)} (h1:f σ H=some (ds,H1)) (hl:ds.length=n) (h2:F ds H1=r):Zak n F f σ H=r:=by
 unfold Zak; rw[h1]; simp only[Zb]; rw[if_pos hl]; exact h2
theorem rt {f:EF} {σ:SD} {H H1:HD} {d:D} (h:f σ H=some (d,H1)):Zbc f σ H=some (.rt d,σ,H1):=by
 unfold Zbc; rw[h]; rfl
theorem op {g:F2} {fa fb:EF} {σ:SD} {H H1 H2:HD} {d1 d2:D} {r:Option (D×HD)} (h1:fa σ H=some (d1,H1)) (h2:fb σ H1=some (d2,H2)) (h3:g d1 d2 H2=r):eOp g fa fb σ H=r:=by
 unfold eOp; rw[h1]; simp only[Zb]; rw[h2]; exact h3
theorem Zpx {t:TF} {f g:SF} {σ:SD} {H H1:HD} {b:Bool} (h:t σ H=some (b,H1)):sIf t f g σ H=if b=true then f σ H1 else g σ H1:=by
 unfold sIf; rw[h]; rfl
theorem tof {f:EF} {σ:SD} {H H1:HD} {b:Bool} (h:f σ H=some (.bl b,H1)):tOf f σ H=some (b,H1):=by
 unfold tOf; rw[h]; rfl
theorem lenT (xs:List D) (H:HD):Zcz [.tup xs] H=some (.int xs.length,H):=by simp[Zcz,Zp1]
theorem lenB (bs:List Bool) (H:HD):Zcz [.tup (bs.map .bl)] H=some (.int bs.length,H):=by simp[Zcz,Zp1]
theorem ixT {xs:List D} {i:Int} {d:D} {H:HD} (h:atI xs i=some d):ixD (.tup xs) (.int i) H=some (d,H):=by simp[ixD,Zp1,h]
theorem skip {t:TF} {f g:SF} {σ:SD} {H H1:HD} (h:t σ H=some (false,H1)):Zag (sIf t f Zaj) g σ H=g σ H1:=by
 refine Zco ?_
 rw[Zpx h]
 rfl
theorem hit {t:TF} {f f2 g:SF} {σ σ1:SD} {H H1 H2:HD} {d:D} (h:t σ H=some (true,H1)) (h2:f σ H1=some (.rt d,σ1,H2)):Zag (sIf t (Zag f Zaj) f2) g σ H=some (.rt d,σ1,H2):=by
 refine Zlt ?_
 rw[Zpx h]
 exact Zlt h2
theorem vr {i:Nat} {σ:SD} {H:HD} {d:D} (h:σ[i]? = some (some d)):Zac i σ H=some (d,H):=by simp[Zac,h]
theorem sl {fe:EF} {fl fh:OF} {σ:SD} {H H1 H2 H3:HD} {d:D} {l h:Option Int} {r:Option (D×HD)} (h1:fe σ H=some (d,H1)) (h2:fl σ H1=some (l,H2)) (h3:fh σ H2=some (h,H3)) (h4:slD d l h H3=r):eSl fe fl fh σ H=r:=by
 unfold eSl; rw[h1]; simp only[Zb]; rw[h2]; simp only[Zb]; rw[h3]; exact h4
theorem os {f:EF} {σ:SD} {H H1:HD} {i:Int} (h:f σ H=some (.int i,H1)):Zij f σ H=some (some i,H1):=by
 unfold Zij; rw[h]; rfl
theorem on {σ:SD} {H:HD}:Zjc σ H=some (none,H):=rfl
theorem slhi {xs:List D} {k:Nat} {H:HD}:slD (.tup xs) none (some (k:Int)) H=some (.tup (xs.take k),H):=by
 rw[<- Ygj]; rfl
theorem sllo {xs:List D} {k:Nat} {H:HD}:slD (.tup xs) (some (k:Int)) none H=some (.tup (xs.drop k),H):=by
 rw[<- Ybj]; rfl
theorem adT {xs ys:List D} {H:HD} (h:xs.length+ys.length<=1000000):Zcq (.tup xs) (.tup ys) H=some (.tup (xs++ys),H) :=
 if_pos (Zg9 (by rw[Xq]; exact h))
theorem adI (i j:Int) (H:HD):Zcq (.int i) (.int j) H=some (.int (i+j),H):=rfl
theorem suI (i j:Int) (H:HD):Zpw (.int i) (.int j) H=some (.int (i - j),H):=by simp[Zpw,iiD,CT]
theorem ExtS.app {S:List Nat} {H:HD} (L:HD):ExtS S H (H++L):=⟨fun m o _ q=>by
 have:m<H.length:=(Xc.mp q).1
 rw[Xg this]; exact q,by simp⟩
nonrec def Zaz (ls:List Int):D:=.tup (ls.map .int)
theorem orF {t u:TF} {σ:SD} {H H1:HD} (h:t σ H=some (false,H1)):Zn0 t u σ H=u σ H1:=by unfold Zn0; rw[h]; rfl
theorem orT {t u:TF} {σ:SD} {H H1:HD} (h:t σ H=some (true,H1)):Zn0 t u σ H=some (true,H1):=by unfold Zn0; rw[h]; rfl
theorem anF {t u:TF} {σ:SD} {H H1:HD} (h:t σ H=some (false,H1)):tAn t u σ H=some (false,H1):=by unfold tAn; rw[h]; rfl
theorem anT {t u:TF} {σ:SD} {H H1:HD} (h:t σ H=some (true,H1)):tAn t u σ H=u σ H1:=by unfold tAn; rw[h]; rfl
theorem Yaz {H:HD} {p:Nat} {bs:List Bool} (h:H[p]? = some (.lst (bs.map .bl))):Yaw [.ref p] H=some (.bl (bs.all id),H):=by
 simp[Yaw,h,Zst]
end LH
namespace WP
open PySem L2 DL LH
def wE (r:Option (D×HD)) (Q:D->HD->Prop):Prop:=∃ d H,r=some (d,H)/\Q d H
def wT (r:Option (Bool×HD)) (Q:Bool->HD->Prop):Prop:=∃ d H,r=some (d,H)/\Q d H
def wA (r:Option (List D×HD)) (Q:List D->HD->Prop):Prop:=∃ d H,r=some (d,H)/\Q d H
def wO (r:Option (Option Int×HD)) (Q:Option Int->HD->Prop):Prop:=∃ d H,r=some (d,H)/\Q d H
def wI (r:Option ((List D×Zh4)×HD)) (Q:List D->Zh4->HD->Prop):Prop:=∃ d o H,r=some ((d,o),H)/\Q d o H
def wG (r:Option (SD×HD)) (Q:SD->HD->Prop):Prop:=∃ d H,r=some (d,H)/\Q d H
def wH (r:Option HD) (Q:HD->Prop):Prop:=∃ H,r=some H/\Q H
def wS (r:Option (FD×SD×HD)) (Q:FD->SD->HD->Prop):Prop:=∃ x d H,r=some (x,d,H)/\Q x d H
def wN (n:Nat) (F:FF) (ds:List D) (H:HD) (Q:D->HD->Prop):Prop:=ds.length=n/\wE (F ds H) Q
def br (b:Bool) (P Q:Prop):Prop:=(b=true->P)/\(b=false->Q)
nonrec def Yfg (k:SD->HD->Prop) (Q:FD->SD->HD->Prop):FD->SD->HD->Prop
 | .nx,σ,H=>k σ H
 | r,σ,H=>Q r σ H
nonrec def fin (Q:D->HD->Prop):FD->SD->HD->Prop
 | .rt d,_,H=>Q d H
 | .nx,_,H=>Q .non H
 | _,_,_=>False
section
variable {σ:SD} {H:HD} {Q:D->HD->Prop}
theorem wS_of {Q:FD->SD->HD->Prop} {r:Option (FD×SD×HD)} {x:FD} {d:SD} {H:HD} (e:r=some (x,d,H)) (q:Q x d H):wS r Q:=⟨x,d,H,e,q⟩
theorem w_var {i:Nat} {d:D} (h:(σ[i]?).join=some d) (q:Q d H):wE (Zac i σ H) Q:=⟨d,H,by unfold Zac; rw[h]; rfl,q⟩
theorem w_c {d:D} (q:Q d H):wE (eC d σ H) Q:=⟨d,H,rfl,q⟩
theorem w_op {g:F2} {fa fb:EF} (h:wE (fa σ H) fun x H1=>wE (fb σ H1) fun y H2=>wE (g x y H2) Q):wE (eOp g fa fb σ H) Q:=by
 obtain⟨x,H1,e1,y,H2,e2,d,H3,e3,q⟩:=h
 exact⟨d,H3,op e1 e2 e3,q⟩
theorem w_un {g:D->HD->Option (D×HD)} {fa:EF} (h:wE (fa σ H) fun x H1=>wE (g x H1) Q):wE (eUn g fa σ H) Q:=by
 obtain⟨x,H1,e1,d,H3,e3,q⟩:=h
 exact⟨d,H3,by unfold eUn; rw[e1]; exact e3,q⟩
theorem w_ch {g g':F2} {fa fb fc:EF} (h:wE (fa σ H) fun x H1=>wE (fb σ H1) fun y H2=>wE (g x y H2) fun z H3=>∃ k,z=.bl k/\br k (wE (fc σ H3) fun w H4=>wE (g' y w H4) Q) (Q (.bl false) H3)):wE (eCh g g' fa fb fc σ H) Q:=by
 obtain⟨x,H1,e1,y,H2,e2,z,H3,e3,k,rfl,b1,b2⟩:=h
 unfold eCh
 rw[e1]; simp only[Zb]; rw[e2]; simp only[Zb]; rw[e3]; simp only[Zb,blD]
 cases k with
 | true =>
  obtain⟨w,H4,e4,d,H5,e5,q⟩:=b1 rfl
  exact⟨d,H5,by rw[if_pos rfl,e4]; exact e5,q⟩
 | false=>exact⟨.bl false,H3,by rw[if_neg (by simp)],b2 rfl⟩
theorem w_tof {f:EF} {Q:Bool->HD->Prop} (h:wE (f σ H) fun d H1=>∃ b,d=.bl b/\Q b H1):wT (tOf f σ H) Q:=by
 obtain⟨d,H1,e,b,rfl,q⟩:=h
 exact⟨b,H1,tof e,q⟩
theorem w_bl {b:Bool} {P:Bool->Prop} (h:P b):∃ c,D.bl b=.bl c/\P c:=⟨b,rfl,h⟩
theorem w_ttru {f:EF} {Q:Bool->HD->Prop} (h:wE (f σ H) fun d H1=>∃ b,Zwx d H1=some b/\Q b H1):wT (Zgv f σ H) Q:=by
 obtain⟨d,H1,e,b,e2,q⟩:=h
 exact⟨b,H1,by unfold Zgv; rw[e]; simp only[Zb]; rw[e2]; rfl,q⟩
theorem w_no {t:TF} {Q:Bool->HD->Prop} (h:wT (t σ H) fun b H1=>Q (!b) H1):wT (tNo t σ H) Q:=by
 obtain⟨b,H1,e,q⟩:=h
 exact⟨!b,H1,by unfold tNo; rw[e]; rfl,q⟩
theorem w_an {t u:TF} {Q:Bool->HD->Prop} (h:wT (t σ H) fun b H1=>br b (wT (u σ H1) Q) (Q false H1)):wT (tAn t u σ H) Q:=by
 obtain⟨b,H1,e,q1,q2⟩:=h
 cases b with
 | true=>obtain⟨c,H2,e2,q⟩:=q1 rfl; exact⟨c,H2,(anT e).trans e2,q⟩
 | false=>exact⟨false,H1,anF e,q2 rfl⟩
theorem w_or {t u:TF} {Q:Bool->HD->Prop} (h:wT (t σ H) fun b H1=>br b (Q true H1) (wT (u σ H1) Q)):wT (Zn0 t u σ H) Q:=by
 obtain⟨b,H1,e,q1,q2⟩:=h
 cases b with
 | true=>exact⟨true,H1,orT e,q1 rfl⟩
 | false=>obtain⟨c,H2,e2,q⟩:=q2 rfl; exact⟨c,H2,(orF e).trans e2,q⟩
theorem w_eno {f:EF} (h:wE (f σ H) fun d H1=>∃ b,d=.bl b/\Q (.bl (!b)) H1):wE (eNo f σ H) Q:=by
 obtain⟨d,H1,e,b,rfl,q⟩:=h
 exact⟨.bl (!b),H1,by unfold eNo; rw[e]; rfl,q⟩
theorem w_ean {f g:EF} (h:wE (f σ H) fun d H1=>∃ b,d=.bl b/\br b (wE (g σ H1) Q) (Q (.bl false) H1)):wE (eAn f g σ H) Q:=by
 obtain⟨d,H1,e,b,rfl,q1,q2⟩:=h
 unfold eAn
 rw[e]; simp only[Zb,blD]
 cases b with
 | true=>rw[if_pos rfl]; exact q1 rfl
 | false=>rw[if_neg (by simp)]; exact⟨_,_,rfl,q2 rfl⟩
theorem w_eorr {f g:EF} (h:wE (f σ H) fun d H1=>∃ b,d=.bl b/\br b (Q (.bl true) H1) (wE (g σ H1) Q)):wE (eOrr f g σ H) Q:=by
 obtain⟨d,H1,e,b,rfl,q1,q2⟩:=h
 unfold eOrr
 rw[e]; simp only[Zb,blD]
 cases b with
 | true=>rw[if_pos rfl]; exact⟨_,_,rfl,q1 rfl⟩
 | false=>rw[if_neg (by simp)]; exact q2 rfl
theorem w_eif {t:TF} {f g:EF} (h:wT (t σ H) fun b H1=>br b (wE (f σ H1) Q) (wE (g σ H1) Q)):wE (eIf t f g σ H) Q:=by
 obtain⟨b,H1,e,q1,q2⟩:=h
 unfold eIf
 rw[e]; simp only[Zb]
 cases b with
 | true=>rw[if_pos rfl]; exact q1 rfl
 | false=>rw[if_neg (by simp)]; exact q2 rfl
theorem w_anil {Q:List D->HD->Prop} (q:Q [] H):wA (Zaf σ H) Q:=⟨[],H,rfl,q⟩
theorem w_acons {f:EF} {g:AF} {Q:List D->HD->Prop} (h:wE (f σ H) fun d H1=>wA (g σ H1) fun ds H2=>Q (d::ds) H2):wA (Zab f g σ H) Q:=by
 obtain⟨d,H1,e1,ds,H2,e2,q⟩:=h
 exact⟨d::ds,H2,ac e1 e2,q⟩
theorem w_cb {g:FF} {f:AF} (h:wA (f σ H) fun ds H1=>wE (g ds H1) Q):wE (eCB g f σ H) Q:=by
 obtain⟨ds,H1,e1,d,H2,e2,q⟩:=h
 exact⟨d,H2,cb e1 e2,q⟩
theorem w_call {n:Nat} {F:FF} {f:AF} (h:wA (f σ H) fun ds H1=>wN n F ds H1 Q):wE (Zak n F f σ H) Q:=by
 obtain⟨ds,H1,e1,hl,d,H2,e2,q⟩:=h
 exact⟨d,H2,ca e1 hl e2,q⟩
theorem w_n {n:Nat} {F:FF} {ds:List D} (hl:ds.length=n) (h:wE (F ds H) Q):wN n F ds H Q:=⟨hl,h⟩
theorem w_tup {f:AF} (h:wA (f σ H) fun ds H1=>ds.length<=1000000/\Q (.tup ds) H1):wE (Zd1 f σ H) Q:=by
 obtain⟨ds,H1,e1,hl,q⟩:=h
 exact⟨_,H1,tp e1 hl,q⟩
theorem w_lst {f:AF} (h:wA (f σ H) fun ds H1=>ds.length<=1000000/\Q (.ref H1.length) (H1++[.lst ds])):wE (Zgw f σ H) Q:=by
 obtain⟨ds,H1,e1,hl,q⟩:=h
 exact⟨_,_,ls e1 hl,q⟩
theorem w_lm {g:D->List D->HD->Option (D×HD)} {fo:EF} {f:AF} (h:wE (fo σ H) fun o H1=>Zql o H1=true/\wA (f σ H1) fun ds H2=>wE (g o ds H2) Q):wE (eLM g fo f σ H) Q:=by
 obtain⟨o,H1,e1,i,ds,H2,e2,d,H3,e3,q⟩:=h
 exact⟨d,H3,by unfold eLM; rw[e1]; simp only[Zb]; rw[if_pos i,e2]; exact e3,q⟩
theorem w_dn (q:Q (.ref H.length) (H++[.dic [] false])):wE (eDN σ H) Q:=⟨_,_,rfl,q⟩
theorem w_on {Q:Option Int->HD->Prop} (q:Q none H):wO (Zjc σ H) Q:=⟨none,H,rfl,q⟩
theorem w_os {f:EF} {Q:Option Int->HD->Prop} (h:wE (f σ H) fun d H1=>∃ i,d=.int i/\Q (some i) H1):wO (Zij f σ H) Q:=by
 obtain⟨d,H1,e,i,rfl,q⟩:=h
 exact⟨some i,H1,os e,q⟩
theorem w_int {i:Int} {P:Int->Prop} (h:P i):∃ c,D.int i=.int c/\P c:=⟨i,rfl,h⟩
theorem w_sl {fe:EF} {fl fh:OF} (h:wE (fe σ H) fun x H1=>wO (fl σ H1) fun l H2=>wO (fh σ H2) fun u H3=>wE (slD x l u H3) Q):wE (eSl fe fl fh σ H) Q:=by
 obtain⟨x,H1,e1,l,H2,e2,u,H3,e3,d,H4,e4,q⟩:=h
 exact⟨d,H4,sl e1 e2 e3 e4,q⟩
variable {R:FD->SD->HD->Prop}
theorem w_snil (q:R .nx σ H):wS (Zaj σ H) R:=⟨_,_,_,rfl,q⟩
theorem w_seq {f g:SF} (h:wS (f σ H) (Yfg (fun σ1 H1=>wS (g σ1 H1) R) R)):wS (Zag f g σ H) R:=by
 obtain⟨x,σ1,H1,e,k⟩:=h
 unfold Zag
 rw[e]; simp only[Zb]
 cases x with
 | nx=>exact k
 | bk=>exact⟨_,_,_,rfl,k⟩
 | ct=>exact⟨_,_,_,rfl,k⟩
 | rt d=>exact⟨_,_,_,rfl,k⟩
theorem w_kn {k:SD->HD->Prop} (h:k σ H):Yfg k R .nx σ H:=h
theorem w_kr {k:SD->HD->Prop} {d:D} (h:R (.rt d) σ H):Yfg k R (.rt d) σ H:=h
theorem Zu6 {r:Option (FD×SD×HD)} {k:SD->HD->Prop} (J:SD->HD->Prop) (h:wS r fun x σ H=>x=.nx/\J σ H) (q:∀ σ H,J σ H->k σ H):wS r (Yfg k R):=by
 obtain⟨x,s,H,e,rfl,j⟩:=h
 exact⟨_,s,H,e,q s H j⟩
theorem w_fr {d:D} (h:Q d H):fin Q (.rt d) σ H:=h
theorem w_fn (h:Q .non H):fin Q .nx σ H:=h
theorem w_ret {f:EF} (h:wE (f σ H) fun d H1=>R (.rt d) σ H1):wS (Zbc f σ H) R:=by
 obtain⟨d,H1,e,q⟩:=h; exact⟨_,_,_,rt e,q⟩
theorem w_retn (h:R (.rt .non) σ H):wS (Yds σ H) R:=⟨_,_,_,rfl,h⟩
theorem w_expr {f:EF} (h:wE (f σ H) fun d H1=>R .nx σ H1):wS (Zc0 f σ H) R:=by
 obtain⟨d,H1,e,q⟩:=h; exact⟨_,_,_,by unfold Zc0; rw[e]; rfl,q⟩
theorem w_if {t:TF} {f g:SF} (h:wT (t σ H) fun b H1=>br b (wS (f σ H1) R) (wS (g σ H1) R)):wS (sIf t f g σ H) R:=by
 obtain⟨b,H1,e,q1,q2⟩:=h
 rw[Zpx e]
 cases b with
 | true=>rw[if_pos rfl]; exact q1 rfl
 | false=>rw[if_neg (by simp)]; exact q2 rfl
theorem w_set {i:Nat} {f:EF} (h:wE (f σ H) fun d H1=>R .nx (σ.set i (some d)) H1):wS (Zbm i f σ H) R:=by
 obtain⟨d,H1,e,q⟩:=h; exact⟨_,_,_,by unfold Zbm; rw[e]; rfl,q⟩
theorem w_asg {f:EF} {g:GF} (h:wE (f σ H) fun d H1=>wG (g d σ H1) fun σ2 H2=>R .nx σ2 H2):wS (Zyp f g σ H) R:=by
 obtain⟨d,H1,e,σ2,H2,e2,q⟩:=h; exact⟨_,_,_,by unfold Zyp; rw[e]; simp only[Zb]; rw[e2]; rfl,q⟩
theorem w_gnm {i:Nat} {d:D} {Q:SD->HD->Prop} (h:Q (σ.set i (some d)) H):wG (gNm i d σ H) Q:=⟨_,_,rfl,h⟩
theorem w_gsb {fo fi:EF} {g:Yb5} {d:D} {Q:SD->HD->Prop} (h:wE (fo σ H) fun o H1=>wE (fi σ H1) fun i H2=>wH (g o i d H2) fun H3=>Q σ H3):wG (gSb fo fi g d σ H) Q:=by
 obtain⟨o,H1,e1,i,H2,e2,H3,e3,q⟩:=h
 exact⟨σ,H3,by unfold gSb; rw[e1]; simp only[Zb]; rw[e2]; simp only[Zb]; rw[e3]; rfl,q⟩
theorem w_gtp {n:Nat} {g:GFs} {ds:List D} {Q:SD->HD->Prop} (hl:ds.length=n) (h:wG (g ds σ H) Q):wG (gTp n g (.tup ds) σ H) Q:=by
 obtain⟨s,H1,e,q⟩:=h
 exact⟨s,H1,by unfold gTp; simp only[if_pos hl]; exact e,q⟩
theorem w_gnl {Q:SD->HD->Prop} (h:Q σ H):wG (gNl [] σ H) Q:=⟨_,_,rfl,h⟩
theorem w_gcn {g:GF} {h:GFs} {d:D} {r:List D} {Q:SD->HD->Prop} (q:wG (g d σ H) fun σ1 H1=>wG (h r σ1 H1) Q):wG (gCn g h (d::r) σ H) Q:=by
 obtain⟨s,H1,e,s2,H2,e2,q⟩:=q
 exact⟨s2,H2,by unfold gCn; simp only; rw[e]; exact e2,q⟩
theorem w_for {it:ItF} {g:GF} {b:SF} (h:wI (it σ H) fun xs own H1=>wS (Zhk own g b xs σ H1) R):wS (Zfb it g b σ H) R:=by
 obtain⟨xs,own,H1,e,q⟩:=h
 unfold Zfb; rw[e]; exact q
theorem Za7 {n N:Nat} {b:SF} {ds:List D} (hl:ds.length=n) (h:wS (b (ds.map some++Xl (N - ds.length) none) H) (fin Q)):wE (Za4 n N b ds H) Q:=by
 obtain⟨x,s,H1,e,q⟩:=h
 unfold Za4
 rw[if_pos hl,e]
 simp only[Zb]
 cases x with
 | nx=>exact⟨_,_,rfl,q⟩
 | rt d=>exact⟨_,_,rfl,q⟩
 | bk=>exact q.elim
 | ct=>exact q.elim
theorem w_lc {it:ItF} {ci:List Nat} {tt:TF} {te:EF} (h:wI (it σ H) fun xs own H1=>wA (Zfq own (Zyj ci σ) tt te xs H1) fun ds H2=>ds.length<=1000000/\Q (.ref H2.length) (H2++[.lst ds])):wE (eLC it ci tt te σ H) Q:=by
 obtain⟨xs,own,H1,e,ds,H2,e2,hl,q⟩:=h
 exact⟨_,_,by unfold eLC; rw[e]; simp only[Zb]; rw[e2]; exact if_pos (Zg9 hl),q⟩
theorem w_bt {P S:Prop} (h:P):br true P S:=⟨fun _=>h,nofun⟩
theorem w_bf {P S:Prop} (h:S):br false P S:=⟨nofun,fun _=>h⟩
theorem w_bnt {P S:Prop} (h:P):br (!false) P S:=⟨fun _=>h,nofun⟩
theorem w_bnf {P S:Prop} (h:S):br (!true) P S:=⟨nofun,fun _=>h⟩
theorem w_bT {b:Bool} {P S:Prop} (e:b=true) (h:P):br b P S:=by subst e; exact w_bt h
theorem w_bF {b:Bool} {P S:Prop} (e:b=false) (h:S):br b P S:=by subst e; exact w_bf h
theorem w_sz {ds:List D} {P:Prop} (h:ds.length<=1000000) (q:P):ds.length<=1000000/\P:=⟨h,q⟩
theorem w_addI {i j:Int} (q:Q (.int (i+j)) H):wE (Zcq (.int i) (.int j) H) Q:=⟨_,_,rfl,q⟩
theorem w_subI {i j:Int} (q:Q (.int (i - j)) H):wE (Zpw (.int i) (.int j) H) Q:=⟨_,_,suI i j H,q⟩
theorem w_lt {i j:Int} (q:Q (.bl (decide (i<j))) H):wE (ltD (.int i) (.int j) H) Q:=⟨_,_,by simp[ltD,iiD,CT],q⟩
theorem w_le {i j:Int} (q:Q (.bl (decide (i<=j))) H):wE (leD (.int i) (.int j) H) Q:=⟨_,_,by simp[leD,iiD,CT],q⟩
theorem w_gt {i j:Int} (q:Q (.bl (decide (j<i))) H):wE (gtD (.int i) (.int j) H) Q:=⟨_,_,by simp[gtD,iiD,CT],q⟩
theorem w_ge {i j:Int} (q:Q (.bl (decide (j<=i))) H):wE (geD (.int i) (.int j) H) Q:=⟨_,_,by simp[geD,iiD,CT],q⟩
theorem w_mod {i j:Int} (h:0<j) (q:Q (.int (i % j)) H):wE (Zhn (.int i) (.int j) H) Q:=⟨_,_,by have c:Yh6 i j:=h; simp[Zhn,iiD,c],q⟩
theorem w_fdiv {i j:Int} (h:0<j) (h2:j<1073741824) (q:Q (.int (i / j)) H):wE (Zra (.int i) (.int j) H) Q:=⟨_,_,by have c:Yfk i j:=⟨h,h2⟩; simp[Zra,iiD,c],q⟩
theorem w_mulL {i j:Int} (h1 : -(2 ^ 64)<i) (h2:i<2 ^ 64) (q:Q (.int (i*j)) H):wE (Zth (.int i) (.int j) H) Q:=⟨_,_,by have c:Ya0 i j:=.inl ⟨h1,h2⟩; simp[Zth,c],q⟩
theorem w_mulR {i j:Int} (h1 : -(2 ^ 64)<j) (h2:j<2 ^ 64) (q:Q (.int (i*j)) H):wE (Zth (.int i) (.int j) H) Q:=⟨_,_,by have c:Ya0 i j:=.inr ⟨h1,h2⟩; simp[Zth,c],q⟩
theorem Yce {i j:Int} (h1:0<=j) (h2:j<=1000000) (h3:i.natAbs<2 ^ 64) (q:Q (.int (i ^ j.toNat)) H):wE (Yez (.int i) (.int j) H) Q:=⟨_,_,by have c:Yib i j:=⟨h1,h2,h3⟩; simp[Yez,iiD,c],q⟩
theorem w_neg {i:Int} (q:Q (.int (-i)) H):wE (Zln (.int i) H) Q:=⟨_,_,rfl,q⟩
theorem w_eqI {i j:Int} (q:Q (.bl (i==j)) H):wE (eqD (.int i) (.int j) H) Q:=⟨_,_,Zxp _ _ _,q⟩
theorem w_eqS {a b:Str} (q:Q (.bl (a==b)) H):wE (eqD (.str a) (.str b) H) Q:=⟨_,_,rfl,q⟩
theorem w_neS {a b:Str} (q:Q (.bl (a != b)) H):wE (neD (.str a) (.str b) H) Q:=⟨_,_,rfl,q⟩
theorem w_lenT {xs:List D} (q:Q (.int xs.length) H):wE (Zcz [.tup xs] H) Q:=⟨_,_,lenT xs H,q⟩
theorem w_lenR {n:Nat} {xs:List D} (h:H[n]? = some (.lst xs)) (q:Q (.int xs.length) H):wE (Zcz [.ref n] H) Q:=⟨_,_,by simp[Zcz,Zp1,h],q⟩
theorem w_lenF {xs:List D} (q:Q (.int xs.length) H):wE (Zcz [.fl xs] H) Q:=⟨_,_,by simp[Zcz,Zp1],q⟩
theorem w_abs {i:Int} (q:Q (.int (Zau i)) H):wE (Zyy [.int i] H) Q:=⟨_,_,rfl,q⟩
theorem w_ixT {xs:List D} {i:Int} {d:D} (h:atI xs i=some d) (q:Q d H):wE (ixD (.tup xs) (.int i) H) Q:=⟨_,_,ixT h,q⟩
theorem w_ixR {n:Nat} {xs:List D} {i:Int} {d:D} (g:H[n]? = some (.lst xs)) (h:atI xs i=some d) (q:Q d H):wE (ixD (.ref n) (.int i) H) Q:=⟨_,_,by simp[ixD,Zp1,g,h],q⟩
theorem w_ixF {xs:List D} {i:Int} {d:D} (h:atI xs i=some d) (q:Q d H):wE (ixD (.fl xs) (.int i) H) Q:=⟨_,_,by simp[ixD,Zp1,h],q⟩
theorem w_intB {b:Bool} (q:Q (.int (if b then 1 else 0)) H):wE (Zyo [.bl b] H) Q:=⟨_,_,rfl,q⟩
theorem w_max {i j:Int} (q:Q (.int (if j > i then j else i)) H):wE (maxD [.int i,.int j] H) Q:=⟨_,_,rfl,q⟩
theorem w_min {i j:Int} (q:Q (.int (if j<i then j else i)) H):wE (minD [.int i,.int j] H) Q:=⟨_,_,rfl,q⟩
theorem w_tupR {n:Nat} {xs:List D} (h:H[n]? = some (.lst xs)) (q:Q (.tup xs) H):wE (Ze1 [.ref n] H) Q:=⟨_,_,tu h,q⟩
theorem Zlj {n:Nat} {xs:List D} {d:D} (h:H[n]? = some (.lst xs)) (hl:xs.length<1000000) (q:Q .non (H.set n (.lst (xs++[d])))):wE (Zcw (.ref n) [d] H) Q :=
 ⟨_,_,by simp[Zcw,h,Xj hl (Zg9 (Xe _))],q⟩
theorem w_isi {d:D} {c t:String} (ha:Zwd c=true) (h:tyD d H=some t) (q:Q (.bl (t==c||(t == "bool" && c == "int"))) H):wE (Ybd [d,.ty c] H) Q:=⟨_,_,by simp[Ybd,ha,h],q⟩
theorem w_isN {d:D} {b:Bool} (h:isB d .non=some b) (q:Q (.bl b) H):wE (isD d .non H) Q:=⟨_,_,by simp[isD,h],q⟩
theorem w_isnN {d:D} {b:Bool} (h:isB d .non=some b) (q:Q (.bl (!b)) H):wE (Ye0 d .non H) Q:=⟨_,_,by simp[Ye0,h],q⟩
theorem w_isBl {d:D} {c b:Bool} (h:isB d (.bl c)=some b) (q:Q (.bl b) H):wE (isD d (.bl c) H) Q:=⟨_,_,by simp[isD,h],q⟩
theorem Yhv {n:Nat} {kvs:List (D×D)} {fz:Bool} (h:H[n]? = some (.dic kvs fz)) (q:Q (.int kvs.length) H):wE (Zmt [.ref n] H) Q:=⟨_,_,by simp[Zmt,Zyr,h],q⟩
theorem Yav {n:Nat} {kvs:List (D×D)} {fz:Bool} {k:D} {ks:List Int} {v:D} (h:H[n]? = some (.dic kvs fz)) (hk:nk k=some ks) (hv:Zbi kvs ks=some v) (q:Q v H):wE (Zgy (.ref n) k H) Q:=⟨_,_,by simp[Zgy,Zyr,h,hk,hv],q⟩
theorem w_truB {b:Bool} {P:Bool->Prop} (h:P b):∃ c,Zwx (.bl b) H=some c/\P c:=⟨b,rfl,h⟩
theorem w_isi' {d:D} {c t:String} {r:Bool} (ha:Zwd c=true) (h:tyD d H=some t) (hr:(t==c||(t == "bool" && c == "int"))=r) (q:Q (.bl r) H):wE (Ybd [d,.ty c] H) Q:=w_isi ha h (by rw[hr]; exact q)
theorem w_eqS' {a b:Str} {r:Bool} (hr:(a==b)=r) (q:Q (.bl r) H):wE (eqD (.str a) (.str b) H) Q:=w_eqS (by rw[hr]; exact q)
theorem w_neS' {a b:Str} {r:Bool} (hr:(a==b)=r) (q:Q (.bl (!r)) H):wE (neD (.str a) (.str b) H) Q:=w_neS (by rw[bne,hr]; exact q)
theorem w_eqI' {a b:Int} {r:Bool} (hr:(a==b)=r) (q:Q (.bl r) H):wE (eqD (.int a) (.int b) H) Q:=w_eqI (by rw[hr]; exact q)
theorem w_slhi {xs:List D} {k:Nat} (q:Q (.tup (xs.take k)) H):wE (slD (.tup xs) none (some (k:Int)) H) Q:=⟨_,_,slhi,q⟩
theorem w_sllo {xs:List D} {k:Nat} (q:Q (.tup (xs.drop k)) H):wE (slD (.tup xs) (some (k:Int)) none H) Q:=⟨_,_,sllo,q⟩
variable {I:List D->Zh4->HD->Prop}
theorem w_isq {f:EF} (h:wE (f σ H) fun d H1=>∃ xs own,Zkc d H1=some (xs,own)/\I xs own H1):wI (iSq f σ H) I:=by
 obtain⟨d,H1,e,xs,own,e2,q⟩:=h
 exact⟨xs,own,H1,by unfold iSq; rw[e]; simp only[Zb]; rw[e2]; rfl,q⟩
theorem w_itT {xs:List D} {P:List D->Zh4->Prop} (h:P xs []):∃ ys own,Zkc (.tup xs) H=some (ys,own)/\P ys own:=⟨_,_,rfl,h⟩
theorem w_itR {n:Nat} {xs:List D} {P:List D->Zh4->Prop} (g:H[n]? = some (.lst xs)) (h:P xs [(n,.lst xs)]):∃ ys own,Zkc (.ref n) H=some (ys,own)/\P ys own:=⟨_,_,by simp[Zkc,g],h⟩
theorem w_ir1 {f:AF} (h:wA (f σ H) fun ds H1=>∃ j,ds=[.int j]/\Zr7 j/\I (Zbj 0 j.toNat) [] H1):wI (iR1 f σ H) I:=by
 obtain⟨ds,H1,e,j,rfl,s,q⟩:=h
 exact⟨_,_,H1,by unfold iR1; rw[e]; exact if_pos s,q⟩
theorem w_idic {f:EF} (h:wE (f σ H) fun d H1=>∃ n kvs fz,d=.ref n/\H1[n]? = some (.dic kvs fz)/\I (kvs.map (·.1)) [(n,.dic kvs true)] (H1.set n (.dic kvs true))):wI (Yec f σ H) I:=by
 obtain⟨d,H1,e,n,kvs,fz,rfl,g,q⟩:=h
 exact⟨_,_,_,by unfold Yec; rw[e]; simp only[Zb,g],q⟩
theorem w_zip {f:AF} (h:wA (f σ H) fun ds H1=>∃ d1 d2 a b,ds=[d1,d2]/\Zym d1 H1=some a/\Zym d2 H1=some b/\I (Zsg a.1 b.1) (a.2++b.2) H1):wI (Zw0 f σ H) I:=by
 obtain⟨ds,H1,e,d1,d2,a,b,rfl,e1,e2,q⟩:=h
 exact⟨_,_,H1,by unfold Zw0; rw[e]; simp only[Zb]; rw[e1]; simp only[Zb]; rw[e2]; rfl,q⟩
theorem Zn3 {own:Zh4} {g:GF} {b:SF} (h:Zci own H) (q:R .nx σ H):wS (Zhk own g b [] σ H) R:=⟨_,_,_,by rw[Zhk,if_pos h],q⟩
nonrec def again (k:SD->HD->Prop) (R:FD->SD->HD->Prop):FD->SD->HD->Prop
 | .nx,σ,H=>k σ H
 | .ct,σ,H=>k σ H
 | .bk,σ,H=>R .nx σ H
 | .rt d,σ,H=>R (.rt d) σ H
theorem Zgi {own:Zh4} {g:GF} {b:SF} {x:D} {r:List D} (h:Zci own H) (q:wG (g x σ H) fun σ1 H1=>wS (b σ1 H1) (again (fun σ2 H2=>wS (Zhk own g b r σ2 H2) R) R)):wS (Zhk own g b (x::r) σ H) R:=by
 obtain⟨σ1,H1,e1,y,σ2,H2,e2,q⟩:=q
 rw[Zhk,if_pos h,e1]
 simp only[Zb]
 rw[e2]
 cases y with
 | nx=>exact q
 | ct=>exact q
 | bk=>exact⟨_,_,_,rfl,q⟩
 | rt d=>exact⟨_,_,_,rfl,q⟩
theorem w_agn {k:SD->HD->Prop} (h:k σ H):again k R .nx σ H:=h
theorem w_agr {k:SD->HD->Prop} {d:D} (h:R (.rt d) σ H):again k R (.rt d) σ H:=h
theorem Zcn {own:Zh4} {g:GF} {b:SF} (Inv:List D->List D->SD->HD->Prop) (ho:∀ d t σ H,Inv d t σ H->Zci own H)
  (st:∀ d x t σ H,Inv d (x::t) σ H->wG (g x σ H) fun σ1 H1=>wS (b σ1 H1) (again (fun σ2 H2=>Inv (d++[x]) t σ2 H2) R))
  (q:∀ d σ H,Inv d [] σ H->R .nx σ H):∀ (t d:List D) (σ:SD) (H:HD),Inv d t σ H->wS (Zhk own g b t σ H) R
 | [],d,σ,H,i=>Zn3 (ho _ _ _ _ i) (q d σ H i)
 | x::t,d,σ,H,i=>by
  refine Zgi (ho _ _ _ _ i) ?_
  obtain⟨σ1,H1,e1,y,σ2,H2,e2,k⟩:=st d x t σ H i
  refine⟨σ1,H1,e1,y,σ2,H2,e2,?_⟩
  cases y with
  | nx=>exact Zcn Inv ho st q t _ σ2 H2 k
  | ct=>exact Zcn Inv ho st q t _ σ2 H2 k
  | bk=>exact k
  | rt d=>exact k
theorem Zxm {own:Zh4} {g:GF} {b:SF} (Inv:SD->HD->Prop) (ho:∀ σ H,Inv σ H->Zci own H):∀ (xs:List D) (st:∀ x∈xs,∀ σ H,Inv σ H->wG (g x σ H) fun σ1 H1=>wS (b σ1 H1) (again Inv R)) (σ:SD) (H:HD),Inv σ H->(∀ σ H,Inv σ H->R .nx σ H)->wS (Zhk own g b xs σ H) R
 | [],st,σ,H,i,q=>Zn3 (ho _ _ i) (q σ H i)
 | x::t,st,σ,H,i,q=>by
  refine Zgi (ho _ _ i) ?_
  obtain⟨σ1,H1,e1,y,σ2,H2,e2,k⟩:=st x (by simp) σ H i
  refine⟨σ1,H1,e1,y,σ2,H2,e2,?_⟩
  cases y with
  | nx=>exact Zxm Inv ho t (fun z hz=>st z (by simp[hz])) σ2 H2 k q
  | ct=>exact Zxm Inv ho t (fun z hz=>st z (by simp[hz])) σ2 H2 k q
  | bk=>exact k
  | rt d=>exact k
theorem w_wh {t:TF} {b:SF} {n:Nat} (h:wT (t σ H) fun x H1=>br x (wS (b σ H1) (again (fun σ2 H2=>wS (sWh t b n σ2 H2) R) R)) (R .nx σ H1)):wS (sWh t b (n+1) σ H) R:=by
 obtain⟨x,H1,e,q1,q2⟩:=h
 rw[sWh]
 dsimp only
 rw[e]
 simp only[Zb]
 cases x with
 | true =>
  rw[if_pos rfl]
  obtain⟨y,σ2,H2,e2,q⟩:=q1 rfl
  rw[e2]
  cases y with
  | nx=>exact q
  | ct=>exact q
  | bk=>exact⟨_,_,_,rfl,q⟩
  | rt d=>exact⟨_,_,_,rfl,q⟩
 | false=>rw[if_neg (by simp)]; exact⟨_,_,_,rfl,q2 rfl⟩
theorem Znl {t:TF} {b:SF} (Inv:Nat->SD->HD->Prop) (st:∀ m σ H,Inv m σ H->wT (t σ H) fun x H1=>br x (∃ m',m=m'+1/\wS (b σ H1) (again (Inv m') R)) (R .nx σ H1)):∀ (n m:Nat) (σ:SD) (H:HD),m<n->Inv m σ H->wS (sWh t b n σ H) R
 | 0,m,σ,H,h,i=>by omega
 | n+1,m,σ,H,h,i=>by
  refine w_wh ?_
  obtain⟨x,H1,e,q1,q2⟩:=st m σ H i
  refine⟨x,H1,e,fun hx=>?_,q2⟩
  obtain⟨m',rfl,y,σ2,H2,e2,q⟩:=q1 hx
  refine⟨y,σ2,H2,e2,?_⟩
  cases y with
  | nx=>exact Znl Inv st n m' σ2 H2 (by omega) q
  | ct=>exact Znl Inv st n m' σ2 H2 (by omega) q
  | bk=>exact q
  | rt d=>exact q
theorem Zsd {own:Zh4} {c0:SD} {tt:TF} {te:EF} {Q:List D->HD->Prop} (h:Zci own H) (q:Q [] H):wA (Zfq own c0 tt te [] H) Q:=⟨_,_,by rw[Zfq,if_pos h],q⟩
theorem Znh {own:Zh4} {c0:SD} {tt:TF} {te:EF} {x:D} {r:List D} {Q:List D->HD->Prop} (h:Zci own H)
  (q:wT (tt (some x::c0) H) fun b H1=>br b (wE (te (some x::c0) H1) fun e H2=>wA (Zfq own c0 tt te r H2) fun es H3=>Q (e::es) H3) (wA (Zfq own c0 tt te r H1) Q)):wA (Zfq own c0 tt te (x::r) H) Q:=by
 obtain⟨b,H1,e1,q1,q2⟩:=q
 rw[Zfq,if_pos h,e1]
 simp only[Zb]
 cases b with
 | true =>
  obtain⟨e,H2,e2,es,H3,e3,q⟩:=q1 rfl
  exact⟨e::es,H3,by rw[if_pos rfl,e2]; simp only[Zb]; rw[e3]; rfl,q⟩
 | false=>rw[if_neg (by simp)]; exact q2 rfl
theorem w_yes {Q:Bool->HD->Prop} (q:Q true H):wT (Zyv σ H) Q:=⟨_,_,rfl,q⟩
theorem Zu3 {own:Zh4} {c0:SD} {tt:TF} {te:EF} (Inv:List D->List D->List D->HD->Prop) (ho:∀ d t o H,Inv d t o H->Zci own H)
  (st:∀ d x t o H,Inv d (x::t) o H->wT (tt (some x::c0) H) fun b H1=>br b (wE (te (some x::c0) H1) fun e H2=>Inv (d++[x]) t (o++[e]) H2) (Inv (d++[x]) t o H1))
  {Q:List D->HD->Prop}:∀ (t d o:List D) (H:HD),Inv d t o H->(∀ d o' H',Inv d [] (o++o') H'->Q o' H')->wA (Zfq own c0 tt te t H) Q
 | [],d,o,H,i,q=>Zsd (ho _ _ _ _ i) (q d [] H (by rw[Wad]; exact i))
 | x::t,d,o,H,i,q=>by
  refine Znh (ho _ _ _ _ i) ?_
  obtain⟨b,H1,e1,q1,q2⟩:=st d x t o H i
  refine⟨b,H1,e1,fun h=>?_,fun h=>?_⟩
  ·obtain⟨e,H2,e2,k⟩:=q1 h
   refine⟨e,H2,e2,?_⟩
   refine Zu3 Inv ho st t _ _ H2 k fun d' o' H' i'=>q d' (e::o') H' ?_
   rw[Wab] at i'; exact i'
  ·exact Zu3 Inv ho st t _ _ H1 (q2 h) fun d' o' H' i'=>q d' o' H' i'
theorem Zdw {own:Zh4} {c0:SD} {tt:TF} (f:D->Bool) (J:HD->Prop) (ho:∀ H,J H->Zci own H) {Q:List D->HD->Prop}:∀ (xs:List D) (st:∀ x∈xs,∀ H,J H->wT (tt (some x::c0) H) fun b H1=>b=f x/\J H1) (H:HD),J H->(∀ H',J H'->Q (xs.filter f) H')->wA (Zfq own c0 tt (Zac 0) xs H) Q
 | [],st,H,j,q=>Zsd (ho H j) (q H j)
 | x::xs,st,H,j,q=>by
  refine Znh (ho H j) ?_
  obtain⟨b,H1,e,rfl,j1⟩:=st x (by simp) H j
  refine⟨_,H1,e,fun h=>?_,fun h=>?_⟩
  ·refine⟨x,H1,rfl,?_⟩
   refine Zdw f J ho xs (fun y hy=>st y (by simp[hy])) H1 j1 fun H' j'=>?_
   have:=q H' j'
   rwa [Wbq h] at this
  ·refine Zdw f J ho xs (fun y hy=>st y (by simp[hy])) H1 j1 fun H' j'=>?_
   have:=q H' j'
   rwa [Waw (by rw[h]; simp)] at this
theorem Zrm {own:Zh4} {c0:SD} {te:EF} (g:D->D) (J:HD->Prop) (ho:∀ H,J H->Zci own H) {Q:List D->HD->Prop}:∀ (xs:List D) (st:∀ x∈xs,∀ H,J H->wE (te (some x::c0) H) fun d H1=>d=g x/\J H1) (H:HD),J H->(∀ H',J H'->Q (xs.map g) H')->wA (Zfq own c0 Zyv te xs H) Q
 | [],st,H,j,q=>Zsd (ho H j) (q H j)
 | x::xs,st,H,j,q=>by
  refine Znh (ho H j) (w_yes (w_bt ?_))
  obtain⟨b,H1,e,rfl,j1⟩:=st x (by simp) H j
  exact⟨_,H1,e,Zrm g J ho xs (fun y hy=>st y (by simp[hy])) H1 j1 q⟩
theorem Zy1 {own:Zh4} {c0:SD} {tt:TF} {te:EF} (f:D->Bool) (g:D->D) (J:HD->Prop) (ho:∀ H,J H->Zci own H) {Q:List D->HD->Prop}:∀ (xs:List D) (st:∀ x∈xs,∀ H,J H->wT (tt (some x::c0) H) fun b H1=>b=f x/\J H1) (st2:∀ x∈xs,f x=true->∀ H,J H->wE (te (some x::c0) H) fun d H1=>d=g x/\J H1) (H:HD),J H->(∀ H',J H'->Q ((xs.filter f).map g) H')->wA (Zfq own c0 tt te xs H) Q
 | [],st,st2,H,j,q=>Zsd (ho H j) (q H j)
 | x::xs,st,st2,H,j,q=>by
  refine Znh (ho H j) ?_
  obtain⟨b,H1,e,rfl,j1⟩:=st x (by simp) H j
  refine⟨_,H1,e,fun h=>?_,fun h=>?_⟩
  ·obtain⟨d,H2,e2,rfl,j2⟩:=st2 x (by simp) h H1 j1
   refine⟨_,H2,e2,?_⟩
   refine Zy1 f g J ho xs (fun y hy=>st y (by simp[hy])) (fun y hy=>st2 y (by simp[hy])) H2 j2 fun H' j'=>?_
   have:=q H' j'
   rwa [Wbq h] at this
  ·refine Zy1 f g J ho xs (fun y hy=>st y (by simp[hy])) (fun y hy=>st2 y (by simp[hy])) H1 j1 fun H' j'=>?_
   have:=q H' j'
   rwa [Waw (by rw[h]; simp)] at this
end
structure Fm (S:List Nat) (H H':HD):Prop where
 old:∀ (m:Nat) (o:DO),m∉S->H[m]? = some o->H'[m]? = some o\/∃ kvs,o=.dic kvs false/\H'[m]? = some (.dic kvs true)
 len:H.length<=H'.length
theorem Fm.refl {S:List Nat} {H:HD}:Fm S H H:=⟨fun _ _ _ h=>.inl h,Xe _⟩
theorem Fm.trans {S:List Nat} {H H1 H2:HD} (a:Fm S H H1) (b:Fm S H1 H2):Fm S H H2:=by
 refine⟨fun m o hm h=>?_,Waa a.len b.len⟩
 rcases a.old m o hm h with h1 | ⟨kvs,rfl,h1⟩
 ·exact b.old m o hm h1
 ·rcases b.old m _ hm h1 with h2 | ⟨k2,e,_⟩
  ·exact .inr ⟨kvs,rfl,h2⟩
  ·cases e
theorem Fm.sub {S T:List Nat} {H H':HD} (a:Fm S H H') (h:∀ m∈S,m∈T):Fm T H H':=⟨fun m o hm q=>a.old m o (fun z=>hm (h m z)) q,a.len⟩
theorem Fm.app {S:List Nat} {H:HD} (L:HD):Fm S H (H++L):=⟨fun m o _ q=>.inl (by
 have:m<H.length:=(Xc.mp q).1
 rw[Xg this]; exact q),by simp⟩
theorem Fm.set {S:List Nat} {H:HD} {p:Nat} {o:DO} (h:p∈S):Fm S H (H.set p o):=⟨fun m u hm q=>.inl (by rw[Wal (fun z=>hm (by rw[<- z]; exact h))]; exact q),by simp⟩
theorem Fm.new {S T:List Nat} {H H1 H':HD} (a:Fm S H H1) (b:Fm T H1 H') (h:∀ m∈T,m∉S->H.length<=m):Fm S H H':=by
 refine⟨fun m o hm q=>?_,Waa a.len b.len⟩
 have lt:m<H.length:=(Xc.mp q).1
 have ht:m∉T:=fun z=>by have:=h m z hm; omega
 rcases a.old m o hm q with h1 | ⟨kvs,rfl,h1⟩
 ·exact b.old m o ht h1
 ·rcases b.old m _ ht h1 with h2 | ⟨k2,e,_⟩
  ·exact .inr ⟨kvs,rfl,h2⟩
  ·cases e
theorem Fm.lst {S:List Nat} {H H':HD} (x:Fm S H H') {m:Nat} {xs:List D} (hm:m∉S) (h:H[m]? = some (.lst xs)):H'[m]? = some (.lst xs):=by
 rcases x.old m _ hm h with h1 | ⟨k2,e,_⟩
 ·exact h1
 ·cases e
theorem Fm.fr {S:List Nat} {H H':HD} (x:Fm S H H') {m:Nat} {kvs:List (D×D)} (hm:m∉S) (h:H[m]? = some (.dic kvs true)):H'[m]? = some (.dic kvs true):=by
 rcases x.old m _ hm h with h1 | ⟨k2,e,_⟩
 ·exact h1
 ·cases e
theorem Fm.dic {S:List Nat} {H H':HD} (x:Fm S H H') {m:Nat} {kvs:List (D×D)} {fz:Bool} (hm:m∉S) (h:H[m]? = some (.dic kvs fz)):∃ fz',H'[m]? = some (.dic kvs fz'):=by
 rcases x.old m _ hm h with h1 | ⟨k2,e,h1⟩
 ·exact⟨fz,h1⟩
 ·cases e; exact⟨true,h1⟩
theorem _root_.LH.ExtS.fm {S:List Nat} {H H':HD} (x:ExtS S H H'):Fm S H H':=⟨fun m o hm q=>.inl (x.old m o hm q),x.len⟩
theorem isl {H:HD} {n:Nat} {xs:List D} (h:H[n]? = some (.lst xs)):Zql (.ref n) H=true:=by simp[Zql,h]
theorem Yet {H:HD} {n:Nat} {o:DO} (h:H[n]? = some o):Zci [(n,o)] H:=by intro p hp; simp at hp; subst hp; exact h
theorem Zg4 {H:HD}:Zci [] H:=by intro p hp; cases hp
theorem last {H:HD} {o:DO}:(H++[o])[H.length]? = some o:=by simp
theorem appL {H:HD} {n:Nat} {o u:DO} (h:H[n]? = some o):(H++[u])[n]? = some o:=by
 rw[Xg (Xc.mp h).1]; exact h
theorem Zud {H:HD} {n m:Nat} {o u:DO} (hn:n≠m) (h:H[m]? = some o):(H.set n u)[m]? = some o:=by rw[Wal hn]; exact h
theorem Zlm {H:HD} {n:Nat} {o u:DO} (h:H[n]? = some u):(H.set n o)[n]? = some o:=War (Xc.mp h).1
structure Fine (d:D) (x:Uah) (h:Nat):Prop where
 to:∀ H n,toP H n d=some x
 lay:x.canLay0=true
 dep:x.depth<=h
theorem Fine.int (i:Int):Fine (.int i) (.int i) 0:=⟨fun H n=>Zwe H n i,rfl,Xe _⟩
theorem Fine.bl (b:Bool):Fine (.bl b) (.bool b) 0:=⟨fun H n=>Yhf H n b,rfl,Xe _⟩
structure Fines (ds:List D) (xs:List Uah) (h:Nat):Prop where
 to:∀ H n,Zux H n ds=some xs
 lay:Tal xs=true
 dep:Tcb xs<=h
 len:xs.length=ds.length
theorem Fines.nil {h:Nat}:Fines [] [] h:=⟨fun H n=>by rw[Zux],rfl,Wbd _,rfl⟩
theorem Fines.cons {d:D} {x:Uah} {ds:List D} {xs:List Uah} {h:Nat} (a:Fine d x h) (b:Fines ds xs h):Fines (d::ds) (x::xs) h :=
 ⟨fun H n=>by rw[Zux,a.to,b.to]; rfl,by simp[Tal,a.lay,b.lay],by simp only[Tcb]; exact Nat.max_le.mpr ⟨a.dep,b.dep⟩,by simp[b.len]⟩
theorem Fine.tup {ds:List D} {xs:List Uah} {h:Nat} (f:Fines ds xs h):Fine (.tup ds) (.tuple xs) (h+1) :=
 ⟨fun H n=>by cases n<;>rw[toP,f.to]<;>rfl,f.lay,Wgk f.dep⟩
theorem Fine.dat {d:D} {x:Uah} {h:Nat} (f:Fine d x h) (l:h<=30) (H:HD):DL.dat d H=some x:=by
 unfold DL.dat
 rw[f.to]
 have:x.depth<=30:=Waa f.dep l
 simp[okP,f.lay,this]
theorem Fines.dat {ds:List D} {xs:List Uah} {h:Nat} (f:Fines ds xs h) (l:h<30) {H:HD} {p:Nat} (g:H[p]? = some (.lst ds)):DL.dat (.ref p) H=some (.list xs):=by
 unfold DL.dat
 rw[toP]
 simp only[g]
 rw[f.to]
 have:(PyData.list xs).depth<=30:=Waa (Wgk f.dep) l
 have h2:(PyData.list xs).canLay0=true:=f.lay
 simp[okP,h2,this]
mutual
theorem Zse:∀ x:Uah,x.canLay0=true->Ub x x=true
 | .none,_=>by simp[Ub]
 | .bool _,_=>by simp[Ub]
 | .int _,_=>by simp[Ub]
 | .str _,_=>by simp[Ub]
 | .list xs,h=>by rw[Ub]; exact Zha xs h
 | .tuple xs,h=>by rw[Ub]; exact Zha xs h
 | .dict _,h=>by cases h
theorem Zha:∀ xs:List Uah,Tal xs=true->Uo xs xs=true
 | [],_=>by rw[Uo]
 | x::xs,h=>by
  simp only[Tal,Wai] at h
  rw[Uo,Zse x h.1,Zha xs h.2]; rfl
end
theorem Zx4 {a b:D} {x y:Uah} {H:HD} (h1:dat a H=some x) (h2:dat b H=some y):eqD a b H=some (.bl (Ub x y),H):=by
 unfold eqD
 cases e:Zs8 a b with
 | none=>rw[h1,h2]; rfl
 | some p =>
  obtain⟨s,t⟩:=p
  unfold Zs8 at e
  split at e
  ·cases e
   unfold dat at h1 h2
   rw[Zmi] at h1 h2
   simp only[Zb] at h1 h2
   split at h1
   ·split at h2
    ·cases h1; cases h2; simp[Ub]
    ·cases h2
   ·cases h1
  ·cases e
theorem Yd9 {a b:D} {x y:Uah} {H:HD} (h1:dat a H=some x) (h2:dat b H=some y):neD a b H=some (.bl (!Ub x y),H):=by
 unfold neD
 cases e:Zs8 a b with
 | none=>rw[h1,h2]; rfl
 | some p =>
  obtain⟨s,t⟩:=p
  unfold Zs8 at e
  split at e
  ·cases e
   unfold dat at h1 h2
   rw[Zmi] at h1 h2
   simp only[Zb] at h1 h2
   split at h1
   ·split at h2
    ·cases h1; cases h2; simp[Ub]; rfl
    ·cases h2
   ·cases h1
  ·cases e
variable {H:HD} {Q:D->HD->Prop}
theorem Ycr {a b:D} {x y:Uah} {h k:Nat} (f:Fine a x h) (g:Fine b y k) (hh:h<=30) (hk:k<=30) (q:Q (.bl (Ub x y)) H):wE (eqD a b H) Q:=⟨_,_,Zx4 (f.dat hh H) (g.dat hk H),q⟩
theorem Zxz {a b:D} {x y:Uah} {h k:Nat} (f:Fine a x h) (g:Fine b y k) (hh:h<=30) (hk:k<=30) (q:Q (.bl (!Ub x y)) H):wE (neD a b H) Q:=⟨_,_,Yd9 (f.dat hh H) (g.dat hk H),q⟩
theorem Zvh {xs:List D} {ys:List Uah} {h:Nat} (f:Fines xs ys h):Ub (.tuple ys) (.tuple [])=xs.isEmpty:=by
 have:=f.len
 cases ys with
 | nil=>cases xs with
  | nil=>rfl
  | cons _ _=>simp at this
 | cons p ps=>cases xs with
  | nil=>simp at this
  | cons _ _=>simp[Ub,Uo]
theorem Yc9 {xs:List D} {ys:List Uah} {h:Nat} (f:Fines xs ys h) (hh:h<30) (q:Q (.bl xs.isEmpty) H):wE (eqD (.tup xs) (.tup []) H) Q :=
 Ycr (Fine.tup f) (Fine.tup (Fines.nil (h:=0))) (by omega) (by omega) (by rw[Zvh f]; exact q)
theorem Yb4 {xs:List D} {ys:List Uah} {h:Nat} (f:Fines xs ys h) (hh:h<30) (q:Q (.bl (!xs.isEmpty)) H):wE (neD (.tup xs) (.tup []) H) Q :=
 Zxz (Fine.tup f) (Fine.tup (Fines.nil (h:=0))) (by omega) (by omega) (by rw[Zvh f]; exact q)
theorem w_niL {a:D} {x:Uah} {h k p:Nat} {ds:List D} {xs:List Uah} (f:Fine a x h) (g:Fines ds xs k) (hh:h<=30) (hk:k<30) (hp:H[p]? = some (.lst ds)) (q:Q (.bl (!xs.any fun z=>Ub z x)) H):wE (niD a (.ref p) H) Q :=
 ⟨_,_,by unfold niD; rw[f.dat hh,Zb,g.dat hk hp]; rfl,q⟩
theorem w_niT {a:D} {x:Uah} {h k:Nat} {ds:List D} {xs:List Uah} (f:Fine a x h) (g:Fines ds xs k) (hh:h<=30) (hk:k<30) (q:Q (.bl (!xs.any fun z=>Ub z x)) H):wE (niD a (.tup ds) H) Q :=
 ⟨_,_,by unfold niD; rw[f.dat hh,Zb,(Fine.tup g).dat hk]; rfl,q⟩
theorem Ygv {a:D} {x:Uah} {h k:Nat} {ds:List D} {xs:List Uah} (f:Fine a x h) (g:Fines ds xs k) (hh:h<=30) (hk:k<30) (q:Q (.bl (xs.any fun z=>Ub z x)) H):wE (inD a (.tup ds) H) Q :=
 ⟨_,_,by unfold inD; rw[f.dat hh,Zb,(Fine.tup g).dat hk]; rfl,q⟩
theorem w_neI {i j:Int} (q:Q (.bl (!(i==j))) H):wE (neD (.int i) (.int j) H) Q:=Zxz (.int i) (.int j) (by omega) (by omega) (by simpa [Ub] using q)
theorem w_neI' {i j:Int} {r:Bool} (hr:(i==j)=r) (q:Q (.bl (!r)) H):wE (neD (.int i) (.int j) H) Q:=w_neI (by rw[hr]; exact q)
end WP
set_option maxHeartbeats 8000000
namespace K08
open PySem L2 DL
nonrec def k_TRUTHS:D:=(.tup [(.bl false),(.bl true)])
nonrec def Ze0:SF :=
 (Zag (Zbc (eAn (eCB Ybd (Zab (Zac 0) (Zab (eC (.ty "int")) Zaf))) (eNo (eCB Ybd (Zab (Zac 0) (Zab (eC (.ty "bool")) Zaf))))))
 Zaj)
nonrec def Zgp:FF:=Za4 1 1 Ze0
nonrec def Zer:SF :=
 (Zag (Zbc (eOrr (eOp isD (Zac 0) (eC (.bl true))) (eOp isD (Zac 0) (eC (.bl false)))))
 Zaj)
nonrec def Zig:FF:=Za4 1 1 Zer
nonrec def Zgm:SF :=
 (Zag (Zbc (eOp gtD (eCB Zyy (Zab (Zac 0) Zaf)) (eCB Zcz (Zab (Zac 1) Zaf))))
 Zaj)
nonrec def Zgh:FF:=Za4 2 2 Zgm
nonrec def Zex:SF :=
 (Zag (Zbc (eAn (eNo (Zak 2 Zgh (Zab (Zac 0) (Zab (Zac 1) Zaf)))) (eOp eqD (eOp ixD (Zac 1) (eOp Zpw (eCB Zyy (Zab (Zac 0) Zaf)) (eC (.int 1)))) (eOp gtD (Zac 0) (eC (.int 0))))))
 Zaj)
nonrec def Zc1:FF:=Za4 2 2 Zex
nonrec def Zga:SF :=
 (Zag (Zfb (iSq (Zac 0)) (gNm 2) (Zag (sIf (Zgv (Zak 2 Zc1 (Zab (Zac 2) (Zab (Zac 1) Zaf)))) (Zag (Zbc (eC (.bl true)))
 Zaj) Zaj)
 Zaj))
 (Zag (Zbc (eC (.bl false)))
 Zaj))
nonrec def Zky:FF:=Za4 2 3 Zga
nonrec def Zgj:SF :=
 (Zag (Zfb (iSq (Zac 0)) (gNm 2) (Zag (sIf (Zn0 (Zgv (Zak 2 Zgh (Zab (Zac 2) (Zab (Zac 1) Zaf)))) (Zgv (Zak 2 Zc1 (Zab (Zac 2) (Zab (Zac 1) Zaf))))) (Zag (Zbc (eC (.bl false)))
 Zaj) Zaj)
 Zaj))
 (Zag (Zbc (eC (.bl true)))
 Zaj))
nonrec def Zkm:FF:=Za4 2 3 Zgj
nonrec def Zdn:SF :=
 (Zag (Zbc (eIf (tOf (eOp gtD (Zac 0) (eC (.int 0)))) (eOp Zpw (Zac 0) (Zac 1)) (eOp Zcq (Zac 0) (Zac 1))))
 Zaj)
nonrec def Zf6:FF:=Za4 2 2 Zdn
nonrec def Zep:SF :=
 (Zag (Zbc (eCB Ze1 (Zab (eLC (iSq (Zac 0)) [1] (Zgv (Zak 2 Zgh (Zab (Zac 0) (Zab (Zac 1) Zaf)))) (Zak 2 Zf6 (Zab (Zac 0) (Zab (eCB Zcz (Zab (Zac 1) Zaf)) Zaf)))) Zaf)))
 Zaj)
nonrec def Ziq:FF:=Za4 2 2 Zep
nonrec def Zpt:SF :=
 (Zag (Zbm 2 (eLC (iSq (eOp ixD (Zac 0) (eC (.int 1)))) [1] (tNo (Zgv (Zak 2 Zky (Zab (Zac 0) (Zab (Zac 1) Zaf))))) (Zak 2 Ziq (Zab (Zac 0) (Zab (Zac 1) Zaf)))))
 (Zag (Zbc (Zd1 (Zab (eSl (eOp ixD (Zac 0) (eC (.int 0))) (Zij (eCB Zcz (Zab (Zac 1) Zaf))) Zjc) (Zab (eCB Ze1 (Zab (Zac 2) Zaf)) Zaf))))
 Zaj))
nonrec def Zvm:FF:=Za4 2 3 Zpt
nonrec def Zb8:SF :=
 (Zag (Zbm 1 eDN)
 (Zag (Zfb (Zzc (Zab (Zac 0) Zaf)) (gTp 2 (gCn (gNm 2) (gCn (gNm 3) gNl))) (Zag (Zc0 (eDM Zlc (Zac 1) (Zab (Zac 3) (Zab (Zac 2) Zaf))))
 Zaj))
 (Zag (Zbc (Zac 1))
 Zaj)))
nonrec def Zbp:FF:=Za4 1 4 Zb8
nonrec def Zcs:SF :=
 (Zag (Zbm 3 (eIf (Zgv (Zac 2)) (Zac 1) (eUn Zln (Zac 1))))
 (Zag (Zbm 4 eDN)
 (Zag (Zfb (Yec (Zac 0)) (gNm 5) (Zag (Zbm 6 (eIf (Zgv (Zac 5)) (eOp ixD (Zac 5) (eC (.int 0))) (eC (.int 0))))
 (Zag (sIf (tOf (eOp eqD (Zac 6) (eUn Zln (Zac 3)))) (Zag (Zc0 (eDM Zlc (Zac 4) (Zab (eSl (Zac 5) (Zij (eC (.int 1))) Zjc) (Zab (eOp Zgy (Zac 0) (Zac 5)) Zaf))))
 Zaj) (Zag (sIf (tOf (eOp neD (Zac 6) (Zac 3))) (Zag (Zc0 (eDM Zlc (Zac 4) (Zab (Zac 5) (Zab (eOp Zgy (Zac 0) (Zac 5)) Zaf))))
 Zaj) Zaj)
 Zaj))
 Zaj)))
 (Zag (Zbc (Zac 4))
 Zaj))))
nonrec def Za9:FF:=Za4 3 7 Zcs
nonrec def Zbk:SF :=
 (Zag (Zbm 2 (Zak 1 Zbp (Zab (Zac 0) Zaf)))
 (Zag (Zfb (Zsh (Zab (Zac 1) Zaf)) (gTp 2 (gCn (gNm 3) (gCn (gNm 4) gNl))) (Zag (Zbm 2 (Zak 3 Za9 (Zab (Zac 2) (Zab (Zac 3) (Zab (Zac 4) Zaf)))))
 Zaj))
 (Zag (Zbc (Zac 2))
 Zaj)))
nonrec def Zb2:FF:=Za4 2 5 Zbk
nonrec def Zdj:SF :=
 (Zag (Zbc (eIf (tOf (eOp eqD (Zac 0) (eC (.str "some")))) (eC (.str "all")) (eC (.str "some"))))
 Zaj)
nonrec def Zbr:FF:=Za4 1 1 Zdj
nonrec def Za8 (F:FF):SF :=
 (Zag (sIf (tOf (eOp dinD (Zd1 Zaf) (Zac 1))) (Zag (Zbc (eC (.str "all")))
 Zaj) Zaj)
 (Zag (sIf (tOf (eOp eqD (eCB Zmt (Zab (Zac 1) Zaf)) (eC (.int 0)))) (Zag (Zbc (eC (.str "some")))
 Zaj) Zaj)
 (Zag (Zbm 3 (eOp ixD (Zac 0) (Zac 2)))
 (Zag (Zfb (iSq (eC k_TRUTHS)) (gNm 4) (Zag (sIf (tOf (eOp eqD (Zak 3 F (Zab (Zac 0) (Zab (Zak 3 Za9 (Zab (Zac 1) (Zab (eOp Zcq (Zac 2) (eC (.int 1))) (Zab (Zac 4) Zaf)))) (Zab (eOp Zcq (Zac 2) (eC (.int 1))) Zaf)))) (Zac 3))) (Zag (Zbc (Zac 3))
 Zaj) Zaj)
 Zaj))
 (Zag (Zbc (Zak 1 Zbr (Zab (Zac 3) Zaf)))
 Zaj)))))
nonrec def Zcu:FF:=Ycl 3 5 Za8 10
nonrec def Zhz:SF :=
 (Zag (Zbc (Zak 3 Zcu (Zab (eOp ixD (Zac 0) (eC (.int 0))) (Zab (Zak 2 Zb2 (Zab (eOp ixD (Zac 0) (eC (.int 1))) (Zab (Zac 1) Zaf))) (Zab (eCB Zcz (Zab (Zac 1) Zaf)) Zaf)))))
 Zaj)
nonrec def Zgs:FF:=Za4 2 2 Zhz
nonrec def Zdh:SF :=
 (Zag (sIf (tOf (eOp eqD (eCB Zcz (Zab (Zac 1) Zaf)) (eCB Zcz (Zab (eOp ixD (Zac 0) (eC (.int 0))) Zaf)))) (Zag (Zbc (Zgw Zaf))
 Zaj) Zaj)
 (Zag (Zbm 2 (eOp ixD (eOp ixD (Zac 0) (eC (.int 0))) (eCB Zcz (Zab (Zac 1) Zaf))))
 (Zag (Zbc (eLC (iSq (eC k_TRUTHS)) [0,1,2] (tOf (eOp eqD (Zak 2 Zgs (Zab (Zac 1) (Zab (eOp Zcq (Zac 2) (Zd1 (Zab (Zac 0) Zaf))) Zaf))) (Zac 3))) (Zac 0)))
 Zaj)))
nonrec def Zgk:FF:=Za4 2 3 Zdh
nonrec def Zdi:SF :=
 (Zag (Zbc (eCB Yaw (Zab (eLC (iSq (Zac 1)) [0] Zyv (eOp eqD (eOp ixD (Zac 1) (eOp Zpw (eCB Zyy (Zab (Zac 0) Zaf)) (eC (.int 1)))) (eC (.str "all")))) Zaf)))
 Zaj)
nonrec def Zfw:FF:=Za4 2 2 Zdi
nonrec def Zbz:SF :=
 (Zag (Zfb (Yec (Zac 1)) (gNm 2) (Zag (sIf (Zgv (Zak 2 Zfw (Zab (Zac 0) (Zab (Zac 2) Zaf)))) (Zag (Zbc (eOp Zgy (Zac 1) (Zac 2)))
 Zaj) Zaj)
 Zaj))
 (Zag (Zbc (eC .non))
 Zaj))
nonrec def Zdq:FF:=Za4 2 3 Zbz
nonrec def Zcj:SF :=
 (Zag (Zbc (eAn (Zak 1 Zgp (Zab (Zac 0) Zaf)) (eCh leD ltD (eC (.int 0)) (Zac 0) (Zac 1))))
 Zaj)
nonrec def Zb0:FF:=Za4 2 2 Zcj
nonrec def Zbl:SF :=
 (Zag (Zbc (eAn (Zak 1 Zgp (Zab (Zac 2) Zaf)) (eAn (eCh leD leD (eC (.int 1)) (Zac 2) (eCB Zcz (Zab (Zac 0) Zaf))) (eOp neD (eOp ixD (Zac 0) (eOp Zpw (Zac 2) (eC (.int 1)))) (Zac 1)))))
 Zaj)
nonrec def Zct:FF:=Za4 3 3 Zbl
nonrec def Zeq:SF :=
 (Zag (Zbm 3 (eCB Zcz (Zab (Zac 2) Zaf)))
 (Zag (sWh (tAn (tOf (eOp gtD (Zac 3) (eC (.int 0)))) (tOf (eOp eqD (eOp ixD (Zac 0) (eOp Zpw (eCB Zyy (Zab (eOp ixD (Zac 2) (eOp Zpw (Zac 3) (eC (.int 1)))) Zaf)) (eC (.int 1)))) (Zac 1)))) (Zag (sAug (fun i j=>i - j) 3 (eC (.int 1)))
 Zaj) 20)
 (Zag (Zbc (eSl (Zac 2) Zjc (Zij (Zac 3))))
 Zaj)))
nonrec def Zgr:FF:=Za4 3 4 Zeq
nonrec def Zf9:SF :=
 (Zag (Zbc (eCB Ze1 (Zab (eLC (iSq (Zac 0)) [1] (tOf (eOp neD (Zac 0) (Zac 1))) (Zac 0)) Zaf)))
 Zaj)
nonrec def Zh5:FF:=Za4 2 2 Zf9
nonrec def Zn5:SF :=
 (Zag (Zbm 2 (eCB Zz7 (Zab (Zac 0) Zaf)))
 (Zag (Zfb (iSq (Zac 1)) (gNm 3) (Zag (sIf (tOf (eOp inD (eUn Zln (Zac 3)) (Zac 0))) (Zag (Zbc (eC .non))
 Zaj) Zaj)
 (Zag (sIf (tOf (eOp niD (Zac 3) (Zac 0))) (Zag (Zc0 (eLM Zcw (Zac 2) (Zab (Zac 3) Zaf)))
 Zaj) Zaj)
 Zaj)))
 (Zag (Zbc (eCB Ze1 (Zab (eCB Zo6 (Zab (Zac 2) Zaf)) Zaf)))
 Zaj)))
nonrec def Zwq:FF:=Za4 2 4 Zn5
nonrec def Zh1:SF :=
 (Zag (sIf (Zn0 (tOf (eOp niD (Zac 2) (Zac 0))) (tOf (eOp niD (eUn Zln (Zac 2)) (Zac 1)))) (Zag (Zbc (eC .non))
 Zaj) Zaj)
 (Zag (Zbc (Zak 2 Zwq (Zab (Zak 2 Zh5 (Zab (Zac 0) (Zab (Zac 2) Zaf))) (Zab (Zak 2 Zh5 (Zab (Zac 1) (Zab (eUn Zln (Zac 2)) Zaf))) Zaf))))
 Zaj))
nonrec def Zjl:FF:=Za4 3 3 Zh1
nonrec def Zch:SF :=
 (Zag (sIf (Zn0 (tOf (eOp neD (eCB Zcz (Zab (Zac 3) Zaf)) (eC (.int 2)))) (tNo (Zgv (Zak 2 Zb0 (Zab (eOp ixD (Zac 3) (eC (.int 1))) (Zab (eCB Zcz (Zab (Zac 2) Zaf)) Zaf)))))) (Zag (Zbc (eC .non))
 Zaj) Zaj)
 (Zag (Zbc (Zak 3 Zgr (Zab (Zac 0) (Zab (Zac 1) (Zab (eOp ixD (Zac 2) (eOp ixD (Zac 3) (eC (.int 1)))) Zaf)))))
 Zaj))
nonrec def Zg2:FF:=Za4 4 4 Zch
nonrec def Zbv:SF :=
 (Zag (sIf (Zn0 (tOf (eOp neD (eCB Zcz (Zab (Zac 3) Zaf)) (eC (.int 4)))) (Zn0 (tNo (Zgv (Zak 2 Zb0 (Zab (eOp ixD (Zac 3) (eC (.int 1))) (Zab (eCB Zcz (Zab (Zac 2) Zaf)) Zaf))))) (tNo (Zgv (Zak 2 Zb0 (Zab (eOp ixD (Zac 3) (eC (.int 2))) (Zab (eCB Zcz (Zab (Zac 2) Zaf)) Zaf))))))) (Zag (Zbc (eC .non))
 Zaj) Zaj)
 (Zag (sIf (tNo (Zgv (Zak 3 Zct (Zab (Zac 0) (Zab (Zac 1) (Zab (eOp ixD (Zac 3) (eC (.int 3))) Zaf)))))) (Zag (Zbc (eC .non))
 Zaj) Zaj)
 (Zag (Zbc (Zak 3 Zjl (Zab (eOp ixD (Zac 2) (eOp ixD (Zac 3) (eC (.int 1)))) (Zab (eOp ixD (Zac 2) (eOp ixD (Zac 3) (eC (.int 2)))) (Zab (eOp ixD (Zac 3) (eC (.int 3))) Zaf)))))
 Zaj)))
nonrec def Zfl:FF:=Za4 4 4 Zbv
nonrec def Ze5:SF :=
 (Zag (Zc0 (eLM Zcw (Zac 2) (Zab (Zd1 (Zab (Zac 3) (Zab (Zac 4) Zaf))) Zaf)))
 (Zag (Zbm 5 (Zak 3 Zgr (Zab (Zac 0) (Zab (Zac 1) (Zab (Zac 4) Zaf)))))
 (Zag (sIf (tOf (eOp neD (Zac 5) (Zac 4))) (Zag (Zc0 (eLM Zcw (Zac 2) (Zab (Zd1 (Zab (Zd1 (Zab (eC (.str "less")) (Zab (eOp Zpw (eCB Zcz (Zab (Zac 2) Zaf)) (eC (.int 1))) Zaf))) (Zab (Zac 5) Zaf))) Zaf)))
 Zaj) Zaj)
 Zaj)))
nonrec def Zgt:FF:=Za4 5 6 Ze5
nonrec def Zc8:SF :=
 (Zag (sIf (Zn0 (tOf (eOp neD (eCB Zcz (Zab (Zac 1) Zaf)) (eC (.int 2)))) (Zn0 (tOf (eOp neD (eOp ixD (Zac 1) (eC (.int 0))) (eC (.str "row")))) (tNo (Zgv (Zak 2 Zb0 (Zab (eOp ixD (Zac 1) (eC (.int 1))) (Zab (eCB Zcz (Zab (eOp ixD (Zac 0) (eC (.int 1))) Zaf)) Zaf))))))) (Zag (Zbc (eC .non))
 Zaj) Zaj)
 (Zag (Zbc (eOp ixD (eOp ixD (Zac 0) (eC (.int 1))) (eOp ixD (Zac 1) (eC (.int 1)))))
 Zaj))
nonrec def Zi6:FF:=Za4 2 2 Zc8
nonrec def Zb7:SF :=
 (Zag (sIf (tOf (eOp eqD (Zac 0) (eC (.str "all")))) (Zag (Zbc (Zak 2 Zkm (Zab (Zac 1) (Zab (Zac 2) Zaf))))
 Zaj) Zaj)
 (Zag (Zbc (eCB Yaw (Zab (eLC (iSq (Zac 1)) [2] Zyv (Zak 2 Zc1 (Zab (Zac 0) (Zab (Zac 1) Zaf)))) Zaf)))
 Zaj))
nonrec def Zf2:FF:=Za4 3 3 Zb7
nonrec def Zcg:SF :=
 (Zag (Zbc (eIf (tOf (eOp eqD (Zac 2) (eOp eqD (Zac 0) (eC (.str "some"))))) (Zac 1) (eUn Zln (Zac 1))))
 Zaj)
nonrec def Zei:FF:=Za4 3 3 Zcg
nonrec def Zd5:SF :=
 (Zag (Zbc (eOp ixD (Zac 1) (eC (.int 1))))
 Zaj)
nonrec def Zjo:FF:=Za4 2 2 Zd5
nonrec def Zcf:SF :=
 (Zag (sIf (Zn0 (tNo (Zgv (eCB Ybd (Zab (Zac 4) (Zab (eC (.ty "tuple")) Zaf))))) (tOf (eOp eqD (eCB Zcz (Zab (Zac 4) Zaf)) (eC (.int 0))))) (Zag (Zbc (eC .non))
 Zaj) Zaj)
 (Zag (sIf (tOf (eOp eqD (eOp ixD (Zac 4) (eC (.int 0))) (eC (.str "less")))) (Zag (Zbc (Zak 4 Zg2 (Zab (eOp ixD (Zac 0) (eC (.int 0))) (Zab (Zac 1) (Zab (Zac 3) (Zab (Zac 4) Zaf))))))
 Zaj) Zaj)
 (Zag (sIf (tOf (eOp eqD (eOp ixD (Zac 4) (eC (.int 0))) (eC (.str "joined")))) (Zag (Zbc (Zak 4 Zfl (Zab (eOp ixD (Zac 0) (eC (.int 0))) (Zab (Zac 1) (Zab (Zac 3) (Zab (Zac 4) Zaf))))))
 Zaj) Zaj)
 (Zag (Zbc (Yba (Zlu 2 2 "claims_row" Zi6 (Zab (Zac 0) (Zab (Zac 4) Zaf))) (Zlu 2 2 "told_term" Zjo (Zab (Zac 0) (Zab (Zac 4) Zaf)))))
 Zaj))))
nonrec def Zh6:FF:=Za4 5 5 Zcf
nonrec def Zez:SF :=
 (Zag (Zbm 4 (Zgw Zaf))
 (Zag (Zfb (Zrk (Zab (Zac 3) Zaf)) (gTp 2 (gCn (gNm 5) (gCn (gNm 6) gNl))) (Zag (Zbm 7 (Zak 5 Zh6 (Zab (Zac 0) (Zab (Zac 1) (Zab (Zac 2) (Zab (Zac 4) (Zab (Zac 6) Zaf)))))))
 (Zag (sIf (tOf (eOp isD (Zac 7) (eC .non))) (Zag Yd5
 Zaj) Zaj)
 (Zag (Zc0 (eLM Zcw (Zac 4) (Zab (Zac 7) Zaf)))
 Zaj))))
 (Zag (Zbc (Zac 4))
 Zaj)))
nonrec def Ziu:FF:=Za4 4 8 Zez
nonrec def Zeo:SF :=
 (Zag (Zbm 5 (Zak 4 Ziu (Zab (Zac 0) (Zab (Zac 1) (Zab (Zac 2) (Zab (Zac 3) Zaf))))))
 (Zag (Zbm 6 (eOp Zcq (eCB Zcz (Zab (Zac 4) Zaf)) (eC (.int 1))))
 (Zag (Zfb (Zw0 (Zab (Zac 3) (Zab (Zac 5) Zaf))) (gTp 2 (gCn (gNm 7) (gCn (gNm 8) gNl))) (Zag (sIf (tAn (tOf (eOp eqD (eOp ixD (Zac 7) (eC (.int 0))) (eC (.str "less")))) (Zgv (Zak 3 Zf2 (Zab (Zac 1) (Zab (Zac 8) (Zab (Zac 4) Zaf)))))) (Zag (Zfb (iSq (eC k_TRUTHS)) (gNm 9) (Zag (sIf (tOf (eOp inD (Zak 3 Zei (Zab (Zac 1) (Zab (Zac 6) (Zab (Zac 9) Zaf)))) (eOp ixD (Zac 5) (eOp ixD (Zac 7) (eC (.int 1)))))) (Zag (Zbc (Zac 9))
 Zaj) Zaj)
 Zaj))
 Zaj) Zaj)
 Zaj))
 (Zag (Zbc (eC (.bl false)))
 Zaj))))
nonrec def Zgq:FF:=Za4 5 10 Zeo
nonrec def Zf5:SF :=
 (Zag (Zbc (Zak 5 Zgq (Zab (Zac 0) (Zab (eC (.str "all")) (Zab (eC (.ty "claims_row")) (Zab (Zac 1) (Zab (Zac 2) Zaf)))))))
 Zaj)
nonrec def Zpg:FF:=Za4 3 3 Zf5
nonrec def Zes:SF :=
 (Zag (Zbc (Zak 5 Zgq (Zab (Zac 0) (Zab (eC (.str "some")) (Zab (eC (.ty "told_term")) (Zab (Zac 1) (Zab (Zac 2) Zaf)))))))
 Zaj)
nonrec def Zl9:FF:=Za4 3 3 Zes
nonrec def Zbg:SF :=
 (Zag (Zbc (eCB Ye8 (Zab (eLC (iSq (Zac 0)) [1] Zyv (eOp iinD (Zac 0) (Zac 1))) Zaf)))
 Zaj)
nonrec def Zcc:FF:=Za4 2 2 Zbg
nonrec def Zce:SF :=
 (Zag (Zbm 2 eDI)
 (Zag (Zfb (iSq (Zac 0)) (gNm 3) (Zag (sIf (tNo (Zgv (Zak 2 Zcc (Zab (Zac 3) (Zab (Zac 2) Zaf))))) (Zag (Zbm 4 (eLC (iSq (Zac 3)) [1] (Zgv (Zak 2 Zc1 (Zab (Zac 0) (Zab (Zac 1) Zaf)))) (Zac 0)))
 (Zag (Zyp (eC (.bl true)) (gSb (Zac 2) (eOp ixD (Zac 4) (eC (.int 0))) Zts))
 Zaj)) Zaj)
 Zaj))
 (Zag (Zbc (eCB Ze1 (Zab (eCB Zkj (Zab (Zac 2) Zaf)) Zaf)))
 Zaj)))
nonrec def Zej:FF:=Za4 2 5 Zce
nonrec def Zfv:SF :=
 (Zag (Zbm 2 (eOp ixD (Zgw (Zab (eC (.int 2147483647)) (Zab (eC (.int 2147483629)) (Zab (eC (.int 2147483587)) (Zab (eC (.int 2147483579)) (Zab (eC (.int 2147483563)) (Zab (eC (.int 2147483549)) (Zab (eC (.int 2147483543)) Zaf)))))))) (eOp Zhn (Zac 1) (eC (.int 7)))))
 (Zag (Zbm 3 (eOp Zhn (eOp Zth (eOp Zcq (eOp Zhn (Zac 0) (eC (.int 998244353))) (eOp Zth (eC (.int 104729)) (eOp Zcq (Zac 1) (eC (.int 1))))) (eOp Zcq (eOp Zcq (eOp Zth (Zac 1) (Zac 1)) (eOp Zth (eC (.int 7)) (Zac 1))) (eC (.int 13)))) (Zac 2)))
 (Zag (Zbm 3 (eOp Zhn (eOp Yez (Zac 3) (eC (.int 5))) (eC (.int 1000000007))))
 (Zag (Zbm 3 (eOp Zhn (eOp Zcq (eOp Zcq (eOp Zth (Zac 3) (eC (.int 48271))) (eOp Zth (eC (.int 31)) (Zac 1))) (eC (.int 5))) (Zac 2)))
 (Zag (Zbc (eOp Zra (eOp Zhn (eOp Yez (Zac 3) (eC (.int 3))) (eC (.int 998244353))) (eC (.int 8))))
 Zaj)))))
nonrec def Zko:FF:=Za4 2 4 Zfv
nonrec def Zdf:SF :=
 (Zag (Zbm 2 (Zgw Zaf))
 (Zag (Zbm 3 (eCB Zyy (Zab (Zac 0) Zaf)))
 (Zag (Zbm 4 (eOp geD (Zac 3) (eOp Yez (eC (.int 10)) (eC (.int 18)))))
 (Zag (Zfb (iR1 (Zab (Zac 1) Zaf)) (gNm 5) (Zag (sIf (tAn (Zgv (Zac 4)) (tOf (eOp gtD (Zac 3) (eC (.int 0))))) (Zag (Zc0 (eLM Zcw (Zac 2) (Zab (eOp Zhn (Zac 3) (eC (.int 10007))) Zaf)))
 (Zag (Zbm 3 (eOp Zra (Zac 3) (eC (.int 10007))))
 Zaj)) (Zag (Zc0 (eLM Zcw (Zac 2) (Zab (Zak 2 Zko (Zab (Zac 0) (Zab (Zac 5) Zaf))) Zaf)))
 Zaj))
 Zaj))
 (Zag (Zbc (Zac 2))
 Zaj)))))
nonrec def Zcm:FF:=Za4 2 6 Zdf
nonrec def Zhy:SF :=
 (Zag (sIf (tOf (eOp ltD (Zac 1) (eCB Zcz (Zab (Zac 0) Zaf)))) (Zag (Zbc (eOp ixD (Zac 0) (Zac 1)))
 Zaj) Zaj)
 (Zag (Zbc (eOp Zcq (eOp Zcq (eOp Zth (eC (.int 67)) (Zac 1)) (eC (.int 19))) (eCB Zcz (Zab (Zac 0) Zaf))))
 Zaj))
nonrec def Zfg:FF:=Za4 2 2 Zhy
nonrec def Zd7:SF :=
 (Zag (Zbm 2 (Zgw Zaf))
 (Zag (Zfb (iR1 (Zab (Zac 1) Zaf)) (gNm 3) (Zag (Zbm 4 (eOp ixD (Zgw (Zab (eC (.str "all")) (Zab (eC (.str "some")) Zaf))) (eOp Zhn (eOp ixD (Zac 0) (eOp Zcq (eC (.int 1)) (Zac 3))) (eC (.int 2)))))
 (Zag (sIf (tOf (eOp eqD (eOp Zhn (eOp ixD (Zac 0) (eC (.int 0))) (eC (.int 4))) (eC (.int 1)))) (Zag (Zbm 4 (eOp ixD (Zgw (Zab (eC (.str "some")) (Zab (eC (.str "all")) Zaf))) (eOp Zhn (eOp Zcq (Zac 3) (eOp ixD (Zac 0) (eC (.int 1)))) (eC (.int 2)))))
 Zaj) Zaj)
 (Zag (sIf (tOf (eOp eqD (eOp Zhn (eOp ixD (Zac 0) (eC (.int 0))) (eC (.int 4))) (eC (.int 2)))) (Zag (Zbm 4 (eOp ixD (Zgw (Zab (eC (.str "all")) (Zab (eC (.str "some")) Zaf))) (eCB Zyo (Zab (eOp gtD (eOp Zhn (eOp ixD (Zac 0) (eOp Zcq (eC (.int 1)) (Zac 3))) (eC (.int 3))) (eC (.int 0))) Zaf))))
 Zaj) Zaj)
 (Zag (Zc0 (eLM Zcw (Zac 2) (Zab (Zac 4) Zaf)))
 Zaj)))))
 (Zag (Zbc (eCB Ze1 (Zab (Zac 2) Zaf)))
 Zaj)))
nonrec def Zg7:FF:=Za4 2 5 Zd7
nonrec def Zfy:SF :=
 (Zag (Zbm 3 (Zak 2 Zcm (Zab (Zac 0) (Zab (eOp Zcq (Zac 1) (eC (.int 1))) Zaf))))
 (Zag (Zbm 4 (Zgw Zaf))
 (Zag (Zfb (iR1 (Zab (Zac 1) Zaf)) (gNm 5) (Zag (sIf (tOf (eOp ltD (eOp Zhn (eOp ixD (Zac 3) (eOp Zcq (eC (.int 1)) (Zac 5))) (eOp Zcq (Zac 1) (eC (.int 1)))) (eOp Zcq (Zac 2) (eOp Zhn (eOp ixD (Zac 3) (eC (.int 0))) (eC (.int 3)))))) (Zag (Zc0 (eLM Zcw (Zac 4) (Zab (eOp ixD (Zgw (Zab (eOp Zcq (Zac 5) (eC (.int 1))) (Zab (eOp Zpw (eOp Zpw (eC (.int 0)) (Zac 5)) (eC (.int 1))) Zaf))) (eOp Zhn (eOp Zra (eOp ixD (Zac 3) (eOp Zcq (eC (.int 1)) (Zac 5))) (eOp Zcq (Zac 1) (eC (.int 1)))) (eC (.int 2)))) Zaf)))
 Zaj) Zaj)
 Zaj))
 (Zag (Zbc (eCB Ze1 (Zab (Zac 4) Zaf)))
 Zaj))))
nonrec def Zkh:FF:=Za4 3 6 Zfy
nonrec def Zdz:SF :=
 (Zag (Zbm 2 (Zak 2 Zcm (Zab (Zak 2 Zfg (Zab (Zac 0) (Zab (eC (.int 0)) Zaf))) (Zab (eC (.int 14)) Zaf))))
 (Zag (Zbm 3 (eOp ixD (Zgw (Zab (eOp Zhn (eOp ixD (Zac 2) (eC (.int 0))) (eOp Zcq (Zac 1) (eC (.int 1)))) (Zab (eOp Zpw (Zac 1) (eOp Zhn (eOp ixD (Zac 2) (eC (.int 0))) (eC (.int 3)))) (Zab (Zac 1) Zaf)))) (eOp Zhn (eOp ixD (Zac 2) (eC (.int 1))) (eC (.int 3)))))
 (Zag (Zbm 4 (Zak 2 Zg7 (Zab (eSl (Zac 2) (Zij (eC (.int 2))) Zjc) (Zab (eCB maxD (Zab (eC (.int 0)) (Zab (Zac 3) Zaf))) Zaf))))
 (Zag (Zbm 5 (eOp ixD (Zgw (Zab (eOp Zhn (eOp ixD (Zac 2) (eC (.int 12))) (eC (.int 5))) (Zab (eOp Zhn (eOp ixD (Zac 2) (eC (.int 12))) (eC (.int 11))) (Zab (eOp Zcq (eC (.int 5)) (eOp Zhn (eOp ixD (Zac 2) (eC (.int 12))) (eC (.int 16)))) Zaf)))) (eOp Zhn (eOp ixD (Zac 2) (eC (.int 11))) (eC (.int 3)))))
 (Zag (Zbm 6 (eLC (iR1 (Zab (Zac 5) Zaf)) [0,4] Zyv (Zak 3 Zkh (Zab (Zak 2 Zfg (Zab (Zac 1) (Zab (eOp Zcq (eC (.int 1)) (Zac 0)) Zaf))) (Zab (eCB Zcz (Zab (Zac 2) Zaf)) (Zab (eC (.int 1)) Zaf))))))
 (Zag (sIf (tOf (eOp gtD (eOp Zhn (eOp ixD (Zac 2) (eC (.int 13))) (eC (.int 3))) (eC (.int 0)))) (Zag (Zbm 6 (eLC (iSq (Zac 6)) [] (tOf (eOp neD (Zac 0) (Zd1 Zaf))) (Zac 0)))
 Zaj) Zaj)
 (Zag (Zbc (Zd1 (Zab (Zac 4) (Zab (eCB Ze1 (Zab (Zac 6) Zaf)) Zaf))))
 Zaj)))))))
nonrec def Zhe:FF:=Za4 2 7 Zdz
nonrec def Zd4:SF :=
 (Zag (Zbc (eOp eqD (eOp ixD (Zac 1) (eOp Zpw (eCB Zyy (Zab (Zac 0) Zaf)) (eC (.int 1)))) (eOp gtD (Zac 0) (eC (.int 0)))))
 Zaj)
nonrec def Zfc:FF:=Za4 2 2 Zd4
nonrec def Zdv:SF :=
 (Zag (Zbm 1 (Zgw (Zab (Zd1 Zaf) Zaf)))
 (Zag (Zfb (iR1 (Zab (Zac 0) Zaf)) (gNm 2) (Zag (Zbm 3 (Zgw Zaf))
 (Zag (Zfb (iSq (Zac 1)) (gNm 4) (Zag (Zbm 3 (eOp Zcq (Zac 3) (Zgw (Zab (eOp Zcq (Zac 4) (Zd1 (Zab (eC (.bl false)) Zaf))) (Zab (eOp Zcq (Zac 4) (Zd1 (Zab (eC (.bl true)) Zaf))) Zaf)))))
 Zaj))
 (Zag (Zbm 1 (Zac 3))
 Zaj))))
 (Zag (Zbc (Zac 1))
 Zaj)))
nonrec def Ze6:FF:=Za4 1 5 Zdv
nonrec def Zey:SF :=
 (Zag (Zfb (iSq (Zac 0)) (gNm 2) (Zag (sIf (tOf (eOp eqD (eLC (iSq (Zac 2)) [1] (Zgv (Zak 2 Zfc (Zab (Zac 0) (Zab (Zac 1) Zaf)))) (Zac 0)) (Zgw Zaf))) (Zag (Zbc (eC (.bl true)))
 Zaj) Zaj)
 Zaj))
 (Zag (Zbc (eC (.bl false)))
 Zaj))
nonrec def Zeu:FF:=Za4 2 3 Zey
nonrec def Zcv:SF :=
 (Zag (Zyp (Zac 0) (gTp 2 (gCn (gNm 4) (gCn (gNm 5) gNl))))
 (Zag (Zbm 1 eDN)
 (Zag (Zfb (iSq (Zak 1 Ze6 (Zab (eCB Zcz (Zab (Zac 4) Zaf)) Zaf))) (gNm 2) (Zag (Zyp (eOp ixD (Zgw (Zab (eC (.str "some")) (Zab (eC (.str "all")) Zaf))) (eCB Zyo (Zab (Zak 2 Zeu (Zab (Zac 5) (Zab (Zac 2) Zaf))) Zaf))) (gSb (Zac 1) (Zac 2) Zpb))
 Zaj))
 (Zag (Zfb (iRB (Zab (eOp Zpw (eCB Zcz (Zab (Zac 4) Zaf)) (eC (.int 1))) (Zab (eUn Zln (eC (.int 1))) (Zab (eUn Zln (eC (.int 1))) Zaf)))) (gNm 3) (Zag (Zfb (iSq (Zak 1 Ze6 (Zab (Zac 3) Zaf))) (gNm 2) (Zag (Zbm 6 (Zgw (Zab (eOp Zgy (Zac 1) (eOp Zcq (Zac 2) (Zd1 (Zab (eC (.bl false)) Zaf)))) (Zab (eOp Zgy (Zac 1) (eOp Zcq (Zac 2) (Zd1 (Zab (eC (.bl true)) Zaf)))) Zaf))))
 (Zag (Zbm 7 (eOp ixD (Zgw (Zab (eC (.str "all")) (Zab (eC (.str "some")) Zaf))) (eCB Zyo (Zab (eOp eqD (eOp ixD (Zac 4) (Zac 3)) (eC (.str "all"))) Zaf))))
 (Zag (Zyp (eOp ixD (Zgw (Zab (Zac 7) (Zab (eOp ixD (Zac 4) (Zac 3)) Zaf))) (eCB Zyo (Zab (eOp inD (eOp ixD (Zac 4) (Zac 3)) (Zac 6)) Zaf))) (gSb (Zac 1) (Zac 2) Zpb))
 Zaj))))
 Zaj))
 (Zag (Zbc (Zac 1))
 Zaj)))))
nonrec def Zfh:FF:=Za4 1 8 Zcv
nonrec def Ze3:SF :=
 (Zag (sIf (tOf (eOp neD (eOp ixD (eOp ixD (Zac 0) (eC (.int 0))) (eCB Zcz (Zab (Zac 3) Zaf))) (Zac 1))) (Zag (Zbc (eOp eqD (eOp Zhn (Zac 4) (eC (.int 2))) (eC (.int 1))))
 Zaj) Zaj)
 (Zag (sIf (tOf (eOp eqD (Zac 1) (eC (.str "all")))) (Zag (Zbc (Zak 3 Zpg (Zab (Zac 0) (Zab (Zac 2) (Zab (Zac 3) Zaf)))))
 Zaj) Zaj)
 (Zag (Zbc (Zak 3 Zl9 (Zab (Zac 0) (Zab (Zac 2) (Zab (Zac 3) Zaf)))))
 Zaj)))
nonrec def Zim:FF:=Za4 5 5 Ze3
nonrec def Zde:SF :=
 (Zag (Zqo "Match" (Zac 0) (Zac 1) "begun")
 (Zag (Zqo "Match" (Zac 0) (Zd1 Zaf) "picked")
 Zaj))
nonrec def Zgc:FF:=Za4 2 2 Zde
nonrec def Zdg:SF :=
 (Zag (sIf (tNo (Zgv (Zak 1 Zig (Zab (Zac 1) Zaf)))) (Zag Yd5
 Zaj) Zaj)
 (Zag (sIf (tOf (eOp eqD (eCB Zcz (Zab (Zmj "Match" (Zac 0) "picked") Zaf)) (eCB Zcz (Zab (eOp ixD (Zmj "Match" (Zac 0) "begun") (eC (.int 0))) Zaf)))) (Zag Yd5
 Zaj) Zaj)
 (Zag (Zqo "Match" (Zac 0) (eOp Zcq (Zmj "Match" (Zac 0) "picked") (Zd1 (Zab (Zac 1) Zaf))) "picked")
 Zaj)))
nonrec def Zec:FF:=Za4 2 2 Zdg
nonrec def Zda:SF :=
 (Zag (sIf (tOf (eOp eqD (eCB Zcz (Zab (Zmj "Match" (Zac 0) "picked") Zaf)) (eC (.int 0)))) (Zag Yd5
 Zaj) Zaj)
 (Zag (Zqo "Match" (Zac 0) (eSl (Zmj "Match" (Zac 0) "picked") Zjc (Zij (eUn Zln (eC (.int 1))))) "picked")
 Zaj))
nonrec def Zdl:FF:=Za4 1 1 Zda
nonrec def Zdm:SF :=
 (Zag (Zbc (Zmj "Match" (Zac 0) "picked"))
 Zaj)
nonrec def Za6:FF:=Za4 1 1 Zdm
nonrec def Zc7:SF :=
 (Zag (sIf (tOf (eOp eqD (eCB Zcz (Zab (Zmj "Match" (Zac 0) "picked") Zaf)) (eCB Zcz (Zab (eOp ixD (Zmj "Match" (Zac 0) "begun") (eC (.int 0))) Zaf)))) (Zag (Zbc (eC .non))
 Zaj) Zaj)
 (Zag (Zbc (eOp ixD (eOp ixD (Zmj "Match" (Zac 0) "begun") (eC (.int 0))) (eCB Zcz (Zab (Zmj "Match" (Zac 0) "picked") Zaf))))
 Zaj))
nonrec def Zed:FF:=Za4 1 1 Zc7
nonrec def Zd9:SF :=
 (Zag (Zbc (Zak 2 Zgs (Zab (Zmj "Match" (Zac 0) "begun") (Zab (Zmj "Match" (Zac 0) "picked") Zaf))))
 Zaj)
nonrec def Zd8:FF:=Za4 1 1 Zd9
nonrec def Zdp:SF :=
 (Zag (Zbc (Zak 2 Zgk (Zab (Zmj "Match" (Zac 0) "begun") (Zab (Zmj "Match" (Zac 0) "picked") Zaf))))
 Zaj)
nonrec def Zft:FF:=Za4 1 1 Zdp
nonrec def Zc9:SF :=
 (Zag (Zbm 5 (Zcr "Match" "play" 1 Za6 (Zac 0) Zaf))
 (Zag (Zbm 6 (Zak 5 Zim (Zab (Zac 1) (Zab (Zac 2) (Zab (Zac 3) (Zab (Zac 5) (Zab (Zac 4) Zaf)))))))
 (Zag (sIf (Zn0 (tOf (eOp neD (Zcr "Match" "who" 1 Zd8 (Zac 0) Zaf) (Zac 2))) (tOf (eOp neD (Zcr "Match" "turn" 1 Zed (Zac 0) Zaf) (eOp ixD (eOp ixD (Zac 1) (eC (.int 0))) (eCB Zcz (Zab (Zac 5) Zaf)))))) (Zag (Zbc (eC (.bl false)))
 Zaj) Zaj)
 (Zag (sIf (tAn (tOf (eOp eqD (eOp ixD (eOp ixD (Zac 1) (eC (.int 0))) (eCB Zcz (Zab (Zac 5) Zaf))) (Zac 2))) (tOf (eOp niD (Zac 6) (Zcr "Match" "good" 1 Zft (Zac 0) Zaf)))) (Zag (Zbc (eC (.bl false)))
 Zaj) Zaj)
 (Zag (Zbc (eAn (eOp isD (Zcr "Match" "pick" 2 Zec (Zac 0) (Zab (Zac 6) Zaf)) (eC .non)) (eOp eqD (Zcr "Match" "play" 1 Za6 (Zac 0) Zaf) (eOp Zcq (Zac 5) (Zd1 (Zab (Zac 6) Zaf))))))
 Zaj)))))
nonrec def Zdd:FF:=Za4 5 7 Zc9
nonrec def Zdb:SF :=
 (Zag (Zbc (Zak 2 Zvm (Zab (Zmj "Match" (Zac 0) "begun") (Zab (Zmj "Match" (Zac 0) "picked") Zaf))))
 Zaj)
nonrec def Zea:FF:=Za4 1 1 Zdb
nonrec def Zdo:SF :=
 (Zag (Zbm 5 (eCB Zcz (Zab (eOp ixD (Zac 1) (eC (.int 0))) Zaf)))
 (Zag (sWh (tOf (eOp ltD (eCB Zcz (Zab (Zcr "Match" "play" 1 Za6 (Zac 0) Zaf) Zaf)) (Zac 5))) (Zag (sIf (tNo (Zgv (Zak 5 Zdd (Zab (Zac 0) (Zab (Zac 1) (Zab (Zac 2) (Zab (Zac 3) (Zab (eOp ixD (Zac 4) (eCB Zcz (Zab (Zcr "Match" "play" 1 Za6 (Zac 0) Zaf) Zaf))) Zaf)))))))) (Zag (Zbc (eC (.bl false)))
 Zaj) Zaj)
 Zaj) 20)
 (Zag (Zfb (iR1 (Zab (eOp Zhn (eOp ixD (Zac 4) (eC (.int 9))) (eOp Zcq (Zac 5) (eC (.int 1)))) Zaf)) (gNm 6) (Zag (sIf (Zn0 (tOf (eOp Ye0 (Zcr "Match" "back" 1 Zdl (Zac 0) Zaf) (eC .non))) (tOf (eOp neD (Zcr "Match" "who" 1 Zd8 (Zac 0) Zaf) (Zac 2)))) (Zag (Zbc (eC (.bl false)))
 Zaj) Zaj)
 Zaj))
 (Zag (sWh (tOf (eOp ltD (eCB Zcz (Zab (Zcr "Match" "play" 1 Za6 (Zac 0) Zaf) Zaf)) (Zac 5))) (Zag (sIf (tNo (Zgv (Zak 5 Zdd (Zab (Zac 0) (Zab (Zac 1) (Zab (Zac 2) (Zab (Zac 3) (Zab (eOp Zra (eOp ixD (Zac 4) (eCB Zcz (Zab (Zcr "Match" "play" 1 Za6 (Zac 0) Zaf) Zaf))) (eC (.int 2))) Zaf)))))))) (Zag (Zbc (eC (.bl false)))
 Zaj) Zaj)
 Zaj) 20)
 (Zag (sIf (Zn0 (tOf (eOp neD (Zcr "Match" "who" 1 Zd8 (Zac 0) Zaf) (Zac 2))) (Zn0 (tOf (eOp Ye0 (Zcr "Match" "turn" 1 Zed (Zac 0) Zaf) (eC .non))) (tOf (eOp neD (eOp ixD (Zcr "Match" "left" 1 Zea (Zac 0) Zaf) (eC (.int 0))) (Zd1 Zaf))))) (Zag (Zbc (eC (.bl false)))
 Zaj) Zaj)
 (Zag (Zbc (eOp eqD (eOp inD (Zd1 Zaf) (eOp ixD (Zcr "Match" "left" 1 Zea (Zac 0) Zaf) (eC (.int 1)))) (eOp eqD (Zac 2) (eC (.str "all")))))
 Zaj))))))
nonrec def Zf3:FF:=Za4 5 7 Zdo
nonrec def Zb9:SF :=
 (Zag (Zbc (Zd1 (Zab (Zd1 (Zab (eC (.str "row")) (Zab (eOp ixD (Zac 0) (eC (.int 1))) Zaf))) (Zab (eOp ixD (eOp ixD (Zac 2) (eC (.int 1))) (eOp ixD (Zac 0) (eC (.int 1)))) Zaf))))
 Zaj)
nonrec def Zdx:D->FF:=Ybl 2 3 Zb9
nonrec def Zbw:SF :=
 (Zag (Zbm 3 (Zak 2 Zej (Zab (eOp ixD (Zac 2) (eC (.int 1))) (Zab (Zac 1) Zaf))))
 (Zag (Zbc (Zd1 (Zab (Zd1 (Zab (eC (.str "term")) (Zab (Zac 3) Zaf))) (Zab (Zac 3) Zaf))))
 Zaj))
nonrec def Zdr:D->FF:=Ybl 2 4 Zbw
nonrec def Za2 (F1 F2:FF):SF :=
 (Zag (sIf (tOf (eOp eqD (eCB Zmt (Zab (Zac 1) Zaf)) (eC (.int 0)))) (Zag (Zbc (Zd1 (Zab (eC (.str "some")) (Zab (Zd1 (Zab (eC (.str "kept")) Zaf)) Zaf))))
 Zaj) Zaj)
 (Zag (Zbm 3 (Zak 2 Zdq (Zab (Zac 0) (Zab (Zac 1) Zaf))))
 (Zag (sIf (tOf (eOp Ye0 (Zac 3) (eC .non))) (Zag (Zbc (Zd1 (Zab (eC (.str "all")) (Zab (Zd1 (Zab (eC (.str "lost")) (Zab (Zac 3) Zaf))) Zaf))))
 Zaj) Zaj)
 (Zag (Zbc (Zak 3 F2 (Zab (Zac 0) (Zab (Zac 1) (Zab (Zac 2) Zaf)))))
 Zaj))))
nonrec def Zat (F1 F2:FF):SF :=
 (Zag (Zbm 3 (eOp ixD (Zac 0) (Zac 2)))
 (Zag (Zbm 4 (Zgw Zaf))
 (Zag (Zfb (iSq (eC k_TRUTHS)) (gNm 5) (Zag (Zbm 6 (Zak 3 F1 (Zab (Zac 0) (Zab (Zak 3 Za9 (Zab (Zac 1) (Zab (eOp Zcq (Zac 2) (eC (.int 1))) (Zab (Zac 5) Zaf)))) (Zab (eOp Zcq (Zac 2) (eC (.int 1))) Zaf)))))
 (Zag (sIf (tOf (eOp eqD (eOp ixD (Zac 6) (eC (.int 0))) (Zac 3))) (Zag (Zbc (Zd1 (Zab (Zac 3) (Zab (Zd1 (Zab (eC (.str "pick")) (Zab (Zac 5) (Zab (eOp ixD (Zac 6) (eC (.int 1))) Zaf)))) Zaf))))
 Zaj) Zaj)
 (Zag (Zc0 (eLM Zcw (Zac 4) (Zab (eOp ixD (Zac 6) (eC (.int 1))) Zaf)))
 Zaj))))
 (Zag (Zbc (Zd1 (Zab (Zak 1 Zbr (Zab (Zac 3) Zaf)) (Zab (Zd1 (Zab (eC (.str "each")) (Zab (eOp ixD (Zac 4) (eC (.int 0))) (Zab (eOp ixD (Zac 4) (eC (.int 1))) Zaf)))) Zaf))))
 Zaj))))
nonrec def Zmd:FF:=(Zee 3 4 3 7 Za2 Zat 22).1
nonrec def Zo4:SF :=
 (Zag (Zbc (Zak 3 Zmd (Zab (eOp ixD (Zac 0) (eC (.int 0))) (Zab (Zak 1 Zbp (Zab (eOp ixD (Zac 0) (eC (.int 1))) Zaf)) (Zab (eC (.int 0)) Zaf)))))
 Zaj)
nonrec def Zuv:FF:=Za4 1 1 Zo4
nonrec def Zaq (F1 F2:FF):SF :=
 (Zag (sIf (tOf (eOp eqD (eOp ixD (Zac 4) (eC (.int 0))) (eC (.str "pick")))) (Zag (Zc0 (Zak 6 F1 (Zab (Zac 0) (Zab (Zac 1) (Zab (Zac 2) (Zab (Zac 3) (Zab (eOp ixD (Zac 4) (eC (.int 2))) (Zab (eOp Zcq (Zac 5) (Zd1 (Zab (eOp ixD (Zac 4) (eC (.int 1))) Zaf))) Zaf))))))))
 Zaj) (Zag (sIf (tOf (eOp eqD (eOp ixD (Zac 4) (eC (.int 0))) (eC (.str "each")))) (Zag (Zc0 (Zak 6 F2 (Zab (Zac 0) (Zab (Zac 1) (Zab (Zac 2) (Zab (Zac 3) (Zab (Zac 4) (Zab (Zac 5) Zaf))))))))
 Zaj) (Zag (Zbm 6 (Yba (Zjr 2 2 "row_paper" "claim" Zdx (Zab (Zac 4) (Zab (Zac 5) Zaf))) (Zjr 2 2 "term_paper" "claim" Zdr (Zab (Zac 4) (Zab (Zac 5) Zaf)))))
 (Zag (Zc0 (Zak 5 Zgt (Zab (Zac 0) (Zab (Zac 1) (Zab (Zac 3) (Zab (eOp ixD (Zac 6) (eC (.int 0))) (Zab (eOp ixD (Zac 6) (eC (.int 1))) Zaf)))))))
 Zaj)))
 Zaj))
 Zaj)
nonrec def Zax (F1 F2:FF):SF :=
 (Zag (Zbm 6 (eOp Zcq (eCB Zcz (Zab (Zac 5) Zaf)) (eC (.int 1))))
 (Zag (Zbm 7 eDI)
 (Zag (Zfb (Zw0 (Zab (eC k_TRUTHS) (Zab (eSl (Zac 4) (Zij (eC (.int 1))) Zjc) Zaf))) (gTp 2 (gCn (gNm 10) (gCn (gNm 11) gNl))) (Zag (Zc0 (Zak 6 F1 (Zab (Zac 0) (Zab (Zac 1) (Zab (Zac 2) (Zab (Zac 3) (Zab (Zac 11) (Zab (eOp Zcq (Zac 5) (Zd1 (Zab (Zac 10) Zaf))) Zaf))))))))
 (Zag (Zbm 12 (eOp ixD (eOp ixD (Zac 3) (eUn Zln (eC (.int 1)))) (eC (.int 1))))
 (Zag (sIf (tAn (tOf (eOp niD (Zac 6) (Zac 12))) (tOf (eOp niD (eUn Zln (Zac 6)) (Zac 12)))) (Zag Yds
 Zaj) Zaj)
 (Zag (Zyp (eOp Zpw (eCB Zcz (Zab (Zac 3) Zaf)) (eC (.int 1))) (gSb (Zac 7) (eOp ixD (Zac 12) (eUn Zln (eC (.int 1)))) Zts))
 Zaj)))))
 (Zag (Zbm 8 (eOp Zvb (Zac 7) (Zac 6)))
 (Zag (Zbm 9 (eOp Zvb (Zac 7) (eUn Zln (Zac 6))))
 (Zag (Zc0 (Zak 5 Zgt (Zab (Zac 0) (Zab (Zac 1) (Zab (Zac 3) (Zab (Zd1 (Zab (eC (.str "joined")) (Zab (Zac 8) (Zab (Zac 9) (Zab (Zac 6) Zaf))))) (Zab (Zak 3 Zjl (Zab (eOp ixD (eOp ixD (Zac 3) (Zac 8)) (eC (.int 1))) (Zab (eOp ixD (eOp ixD (Zac 3) (Zac 9)) (eC (.int 1))) (Zab (Zac 6) Zaf)))) Zaf)))))))
 Zaj))))))
nonrec def Zti:FF:=(Zee 6 7 6 13 Zaq Zax 22).1
nonrec def Zj2:SF :=
 (Zag (Zbm 3 (Zak 1 Zuv (Zab (Zac 0) Zaf)))
 (Zag (sIf (tOf (eOp neD (eOp ixD (Zac 3) (eC (.int 0))) (Zac 1))) (Zag Yd5
 Zaj) Zaj)
 (Zag (Zbm 4 (Zgw Zaf))
 (Zag (Zc0 (Zak 6 Zti (Zab (eOp ixD (Zac 0) (eC (.int 0))) (Zab (Zac 1) (Zab (Zac 2) (Zab (Zac 4) (Zab (eOp ixD (Zac 3) (eC (.int 1))) (Zab (Zd1 Zaf) Zaf))))))))
 (Zag (Zbc (Yf8 (iSq (Zac 4)) [] Zyv (Zac 0)))
 Zaj)))))
nonrec def Znx:FF:=Za4 3 5 Zj2
nonrec def Zd3:SF :=
 (Zag (Yew 0 1 0 "row_paper" "claim")
 (Zag (Zbc (Zak 3 Znx (Zab (Zac 0) (Zab (eC (.str "all")) (Zab (Zac 1) Zaf)))))
 Zaj))
nonrec def Zhj:FF:=Za4 1 2 Zd3
nonrec def Zdk:SF :=
 (Zag (Yew 1 1 0 "term_paper" "claim")
 (Zag (Zbc (Zak 3 Znx (Zab (Zac 0) (Zab (eC (.str "some")) (Zab (Zac 1) Zaf)))))
 Zaj))
nonrec def Zgb:FF:=Za4 1 2 Zdk
nonrec def Zu7:SF :=
 (Zag (Zbm 1 (Zak 2 Zhe (Zab (Zac 0) (Zab (eOp ixD (Zgw (Zab (eC (.int 8)) (Zab (eC (.int 6)) (Zab (eC (.int 6)) (Zab (eC (.int 6)) (Zab (eC (.int 6)) (Zab (eC (.int 6)) (Zab (eC (.int 6)) (Zab (eC (.int 6)) Zaf))))))))) (eOp Zhn (eOp ixD (Zak 2 Zcm (Zab (Zak 2 Zfg (Zab (Zac 0) (Zab (eC (.int 1)) Zaf))) (Zab (eC (.int 31)) Zaf))) (eC (.int 30))) (eC (.int 8)))) Zaf))))
 (Zag (Zbm 2 (eOp Zgy (Zak 1 Zfh (Zab (Zac 1) Zaf)) (Zd1 Zaf)))
 (Zag (Zbm 3 (eMk "Match" 2 Zgc (Zab (Zac 1) Zaf)))
 (Zag (Zbm 4 (Zgw Zaf))
 (Zag (sIf (tOf (eOp eqD (Zac 2) (eC (.str "all")))) (Zag (Zbm 4 (Zak 1 Zhj (Zab (Zac 1) Zaf)))
 Zaj) (Zag (Zbm 4 (Zak 1 Zgb (Zab (Zac 1) Zaf)))
 Zaj))
 (Zag (Zfb (iR1 (Zab (eCB minD (Zab (eC (.int 4)) (Zab (eOp Zcq (eC (.int 2)) (eCB Zcz (Zab (Zac 0) Zaf))) Zaf))) Zaf)) (gNm 5) (Zag (Zbm 6 (eSl (Zak 2 Zcm (Zab (Zak 2 Zfg (Zab (Zac 0) (Zab (Zac 5) Zaf))) (Zab (eC (.int 44)) Zaf))) (Zij (eC (.int 30))) Zjc))
 (Zag (sIf (tNo (Zgv (Zak 5 Zf3 (Zab (Zac 3) (Zab (Zac 1) (Zab (Zac 2) (Zab (Zac 4) (Zab (Zac 6) Zaf)))))))) (Zag (Zbc (eC (.bl false)))
 Zaj) Zaj)
 (Zag (sIf (tOf (eOp neD (Zak 2 Zeu (Zab (eOp ixD (Zac 1) (eC (.int 1))) (Zab (Zcr "Match" "play" 1 Za6 (Zac 3) Zaf) Zaf))) (eOp eqD (Zac 2) (eC (.str "all"))))) (Zag (Zbc (eC (.bl false)))
 Zaj) Zaj)
 (Zag (Zfb (iR1 (Zab (eCB Zcz (Zab (eOp ixD (Zac 1) (eC (.int 0))) Zaf)) Zaf)) (gNm 7) (Zag (Zc0 (Zcr "Match" "back" 1 Zdl (Zac 3) Zaf))
 Zaj))
 Zaj)))))
 (Zag (Zbc (eOp eqD (Zcr "Match" "play" 1 Za6 (Zac 3) Zaf) (Zd1 Zaf)))
 Zaj)))))))
nonrec def Ztq:FF:=Za4 1 8 Zu7
end K08
set_option maxHeartbeats 4000000
namespace WP
open PySem L2 DL LH
section
variable {σ:SD} {H:HD} {Q:D->HD->Prop} {R:FD->SD->HD->Prop} {cn f m:Str} {fo fv:EF} {fa:AF} {F:FF} {k:Nat}
theorem Zgz (h:wE (fo σ H) fun d H1=>∃ n fs,d=.ref n/\H1[n]? = some (.obj cn fs)/\∃ v,fs.lookup f=some v/\Q v H1):wE (Zmj cn fo f σ H) Q:=by
 obtain⟨d,H1,e,n,fs,rfl,g,v,l,q⟩:=h
 exact⟨v,H1,by unfold Zmj; rw[e]; simp only[Zb]; rw[g]; simp[l],q⟩
theorem Zrw (h:wE (fv σ H) fun y H1=>wE (fo σ H1) fun d H2=>∃ n fs,d=.ref n/\H2[n]? = some (.obj cn fs)/\fs.length<1000/\R .nx σ (H2.set n (.obj cn (Ycg f y fs)))):wS (Zqo cn fo fv f σ H) R:=by
 obtain⟨y,H1,e1,d,H2,e,n,fs,rfl,g,l,q⟩:=h
 exact⟨_,_,_,by unfold Zqo; rw[e1]; simp only[Zb]; rw[e]; simp only[Zb]; rw[g]; simp only; rw[if_pos ⟨trivial,l⟩],q⟩
theorem Zf0 (h:wE (fo σ H) fun d H1=>∃ n fs,d=.ref n/\H1[n]? = some (.obj cn fs)/\fs.lookup m=none/\wA (fa σ H1) fun ds H2=>ds.length+1=k/\wE (F (.ref n::ds) H2) Q):wE (Zcr cn m k F fo fa σ H) Q:=by
 obtain⟨d,H1,e,n,fs,rfl,g,l,ds,H2,e2,hl,v,H3,e3,q⟩:=h
 exact⟨v,H3,by unfold Zcr; rw[e]; simp only[Zb]; rw[g]; simp only; rw[if_pos ⟨trivial,l⟩,e2]; simp only[Zb]; rw[if_pos hl]; exact e3,q⟩
theorem w_mk (h:wA (fa σ H) fun ds H1=>ds.length+1=k/\wE (F (.ref H1.length::ds) (H1++[.obj cn []])) fun d H2=>d=.non/\Q (.ref H1.length) H2):wE (eMk cn k F fa σ H) Q:=by
 obtain⟨ds,H1,e,hl,d,H2,e2,rfl,q⟩:=h
 exact⟨_,H2,by unfold eMk; rw[e]; simp only[Zb]; rw[if_pos hl,e2]; rfl,q⟩
theorem Fm.obj {S:List Nat} {H H':HD} (x:Fm S H H') {n:Nat} {cn:Str} {fs:List (Str×D)} (hm:n∉S) (h:H[n]? = some (.obj cn fs)):H'[n]? = some (.obj cn fs):=by
 rcases x.old n _ hm h with h1 | ⟨k2,e,_⟩
 ·exact h1
 ·cases e
end
end WP
namespace K08
open PySem L2 DL LH
nonrec def opn (bs:List Bool) (l:Int):Bool:=decide ((bs.length:Int)<Zau l)
nonrec def rig (bs:List Bool) (l:Int):Bool:=match bs[(Zau l - 1).toNat]? with
 | some b=>b==decide (0<l)
 | none=>false
nonrec def kept (bs:List Bool) (ls:List Int):Bool:=ls.any (rig bs)
nonrec def rest (bs:List Bool) (ls:List Int):List Int:=ls.filter (opn bs)
nonrec def Zfx (b:Int):List Int->List Int
 | []=>[]
 | l::r=>if Zau l=b+1 then r else l::r
nonrec def Zk9 (b:Int) (t:Bool):List Int->Bool
 | []=>false
 | l::_=>decide (Zau l=b+1)&&(t==decide (0<l))
theorem Zg6 {m:Int} (bs:List Bool):∀ (ls:List Int) (last:Int),Up m last ls->(bs.length:Int)<=last->rest bs ls=ls/\kept bs ls=false
 | [],_,_,_=>⟨rfl,rfl⟩
 | l::r,last,u,h=>by
  obtain⟨h1,h2,h3⟩:=u
  obtain⟨a,b⟩:=Zg6 bs r (Zau l) h3 (by omega)
  have o:opn bs l=true:=decide_eq_true (by omega)
  have g:rig bs l=false:=by
   unfold rig
   rw[Wbz (by omega)]
  refine⟨?_,?_⟩
  ·unfold rest; rw[Wbq o]; exact congrArg _ a
  ·unfold kept; rw[Wcq,g]; exact b
theorem Ydo {bs:List Bool} {t:Bool} {l:Int} (h:Zau l<=bs.length) (h0:0<Zau l):rig (bs++[t]) l=rig bs l:=by
 unfold rig
 rw[Xg (by omega)]
theorem Zhl {m:Int} (bs:List Bool) (t:Bool):∀ (ls:List Int) (last:Int),0<=last->Up m last ls->rest (bs++[t]) ls=Zfx bs.length (rest bs ls)/\kept (bs++[t]) ls=(kept bs ls||Zk9 bs.length t (rest bs ls))
 | [],_,_,_=>⟨rfl,rfl⟩
 | l::r,last,h0,u=>by
  obtain⟨h1,h2,h3⟩:=u
  have la:(((bs++[t]).length:Nat):Int)=bs.length+1:=by simp
  by_cases c1:Zau l<=bs.length
  ·obtain⟨a,b⟩:=Zhl bs t r (Zau l) (by omega) h3
   have o1:opn bs l=false:=decide_eq_false (by omega)
   have o2:opn (bs++[t]) l=false:=decide_eq_false (by rw[la]; omega)
   have e:rest bs (l::r)=rest bs r:=by unfold rest; rw[Waw (by rw[o1]; simp)]
   have e':rest (bs++[t]) (l::r)=rest (bs++[t]) r:=by unfold rest; rw[Waw (by rw[o2]; simp)]
   rw[e,e']
   refine⟨a,?_⟩
   have k:∀ cs,kept cs (l::r)=(rig cs l||kept cs r):=fun cs=>by unfold kept; rw[Wcq]
   rw[k,k,Ydo c1 (by omega),b,Bool.or_assoc]
  ·have o1:opn bs l=true:=decide_eq_true (by omega)
   obtain⟨a1,a2⟩:=Zg6 bs r (Zau l) h3 (by omega)
   have e:rest bs (l::r)=l::r:=by unfold rest; rw[Wbq o1]; exact congrArg _ a1
   have g1:rig bs l=false:=by unfold rig; rw[Wbz (by omega)]
   have k:∀ cs,kept cs (l::r)=(rig cs l||kept cs r):=fun cs=>by unfold kept; rw[Wcq]
   by_cases c2:Zau l=bs.length+1
   ·obtain⟨b1,b2⟩:=Zg6 (bs++[t]) r (Zau l) h3 (by rw[la]; omega)
    have o2:opn (bs++[t]) l=false:=decide_eq_false (by rw[la]; omega)
    have e':rest (bs++[t]) (l::r)=r:=by unfold rest; rw[Waw (by rw[o2]; simp)]; exact b1
    have g2:rig (bs++[t]) l=(t==decide (0<l)):=by
     unfold rig
     have:(Zau l - 1).toNat=bs.length:=by omega
     rw[this]; simp
    rw[e,e',k,k,g1,g2,a2,b2]
    refine⟨by simp[Zfx,c2],by simp[Zk9,c2]⟩
   ·obtain⟨b1,b2⟩:=Zg6 (bs++[t]) (l::r) (Zau l - 1) ⟨by omega,h2,h3⟩ (by rw[la]; omega)
    rw[e,b1,k bs,g1,a2,b2]
    refine⟨by simp[Zfx,c2],by simp[Zk9,c2]⟩
theorem Zrj:∀ ls:List Int,Znc (ls.map .int)=some ls
 | []=>rfl
 | l::r=>by simp[Znc,nkOf,Zrj r]
theorem Ze2 (ls:List Int):nk (Zaz ls)=some ls:=Zrj ls
theorem Zyw {kvs:List (D×D)} {kd vd:D} {k k':List Int} (h:nk kd=some k) (h0:Zbi kvs k=none):(Zbi (Zp6 kvs kd k vd) k').isSome=((Zbi kvs k').isSome||decide (k'=k)):=by
 have e:Zp6 kvs kd k vd=kvs++[(kd,vd)]:=by unfold Zp6; rw[h0]; rfl
 rw[e]
 unfold Zbi
 rw[List.find?_append]
 cases q:kvs.find? (fun p=>nk p.1==some k') with
 | some p=>simp
 | none =>
  by_cases c:k'=k
  ·subst c; simp[h]
  ·have:(nk kd==some k')=false:=by rw[h]; simp; exact fun z=>c z.symm
   simp[Wce,this,c]
structure DR (rss:List (List Int)) (bs:List Bool) (kvs:List (D×D)):Prop where
 key:∀ p∈kvs,∃ ls∈rss,kept bs ls=false/\p.1=Zaz (rest bs ls)
 all:∀ ls∈rss,kept bs ls=false->(Zbi kvs (rest bs ls)).isSome=true
 len:kvs.length<=rss.length
 val:∀ p∈kvs,∃ (i:Nat) (ls:List Int),rss[i]? = some ls/\kept bs ls=false/\p=(Zaz (rest bs ls),.int i)
structure Fz (H H':HD):Prop where
 old:∀ (m:Nat) (o:DO),H[m]? = some o->H'[m]? = some o\/∃ kvs,o=.dic kvs false/\H'[m]? = some (.dic kvs true)
 len:H.length<=H'.length
theorem Fz.refl {H:HD}:Fz H H:=⟨fun _ _ h=>.inl h,Xe _⟩
theorem Fz.trans {H H1 H2:HD} (a:Fz H H1) (b:Fz H1 H2):Fz H H2:=by
 refine⟨fun m o h=>?_,Waa a.len b.len⟩
 rcases a.old m o h with h1 | ⟨kvs,rfl,h1⟩
 ·exact b.old m o h1
 ·rcases b.old m _ h1 with h2 | ⟨k2,e,_⟩
  ·exact .inr ⟨kvs,rfl,h2⟩
  ·cases e
theorem Fz.app {H:HD} (L:HD):Fz H (H++L):=⟨fun m o q=>.inl (by
 have:m<H.length:=(Xc.mp q).1
 rw[Xg this]; exact q),by simp⟩
theorem Fz.dic {H H':HD} (x:Fz H H') {m:Nat} {kvs:List (D×D)} {fz:Bool} (h:H[m]? = some (.dic kvs fz)):∃ fz',H'[m]? = some (.dic kvs fz'):=by
 rcases x.old m _ h with h1 | ⟨k2,e,h1⟩
 ·exact⟨fz,h1⟩
 ·cases e; exact⟨true,h1⟩
theorem dm {g:D->List D->HD->Option (D×HD)} {fo:EF} {f:AF} {σ:SD} {H H1 H2:HD} {o:D} {ds:List D} {r:Option (D×HD)} (h1:fo σ H=some (o,H1)) (hd:Zqb o H1=true) (h2:f σ H1=some (ds,H2)) (h3:g o ds H2=r):eDM g fo f σ H=r:=by
 unfold eDM; rw[h1]; simp only[Zb]; rw[if_pos hd,h2]; exact h3
theorem ex {f:EF} {σ:SD} {H H1:HD} {d:D} (h:f σ H=some (d,H1)):Zc0 f σ H=some (.nx,σ,H1):=by unfold Zc0; rw[h]; rfl
nonrec def Ziw (acc:List (D×D)) (k:List Int) (v:D):List (D×D):=if (Zbi acc k).isSome=true then acc else acc++[(Zaz k,v)]
theorem Zqm {q:Nat} {acc:List (D×D)} {k:List Int} {v:D} {H:HD} (h:H[q]? = some (.dic acc false)) (hl:acc.length<=100000):∃ z,Zlc (.ref q) [Zaz k,v] H=some (z,H.set q (.dic (Ziw acc k v) false)):=by
 have sz:acc.length<sizeLine:=by rw[Ux]; omega
 unfold Zlc
 simp only[h,Ze2,Zb,if_pos sz]
 cases e:Zbi acc k with
 | some z =>
  refine⟨z,?_⟩
  have:Ziw acc k v=acc:=by unfold Ziw; rw[e]; rfl
  rw[this]
  obtain⟨h1,h2⟩:=Xc.mp h
  rw[<- h2,Wcn h1]
 | none =>
  refine⟨v,?_⟩
  have e1:Zp6 acc (Zaz k) k v=acc++[(Zaz k,v)]:=by unfold Zp6; rw[e]; rfl
  have e2:Ziw acc k v=acc++[(Zaz k,v)]:=by unfold Ziw; rw[e]; rfl
  rw[e1,e2]
theorem Zjk {acc:List (D×D)} {k k':List Int} {v:D}:(Zbi (Ziw acc k v) k').isSome=((Zbi acc k').isSome||decide (k'=k)):=by
 unfold Ziw
 cases e:Zbi acc k with
 | some z =>
  rw[if_pos (by simp)]
  by_cases c:k'=k
  ·subst c; rw[e]; rfl
  ·simp[c]
 | none =>
  have:=Zyw (kvs:=acc) (kd:=Zaz k) (vd:=v) (k:=k) (k':=k') (Ze2 k) e
  have e1:Zp6 acc (Zaz k) k v=acc++[(Zaz k,v)]:=by unfold Zp6; rw[e]; rfl
  rw[e1] at this
  rw[if_neg (by simp)]; exact this
theorem Zx0 (acc:List (D×D)) (k:List Int) (v:D):(Ziw acc k v).length<=acc.length+1:=by unfold Ziw; split<;>simp
theorem Zxg {acc:List (D×D)} {k:List Int} {v:D} {p:D×D} (h:p∈Ziw acc k v):p∈acc\/p.1=Zaz k:=by
 unfold Ziw at h
 split at h
 ·exact .inl h
 ·rcases Xy.mp h with h | h
  ·exact .inl h
  ·simp at h; subst h; exact .inr rfl
theorem Zr9 {acc:List (D×D)} {k:List Int} {v:D} {p:D×D} (h:p∈Ziw acc k v):p∈acc\/p=(Zaz k,v):=by
 unfold Ziw at h
 split at h
 ·exact .inl h
 ·rcases Xy.mp h with h | h
  ·exact .inl h
  ·simp at h; subst h; exact .inr rfl
nonrec abbrev fb:SF:=(Zag (Zc0 (eDM Zlc (Zac 1) (Zab (Zac 3) (Zab (Zac 2) Zaf)))) Zaj)
theorem Zma {q:Nat} {r:D}:∀ (rss:List (List Int)) (c:Int) (acc:List (D×D)) (H:HD) (z2 z3:Option D),H[q]? = some (.dic acc false)->acc.length+rss.length<=100000 ->
  ∃ (acc':List (D×D)) (z2' z3':Option D),Zhk [] (gTp 2 (gCn (gNm 2) (gCn (gNm 3) gNl))) fb (Zdy c (rss.map Zaz)) [some r,some (.ref q),z2,z3] H=some (.nx,[some r,some (.ref q),z2',z3'],H.set q (.dic acc' false)) /\
   (∀ p∈acc',p∈acc\/∃ ls∈rss,p.1=Zaz ls)/\(∀ k,(Zbi acc k).isSome=true->(Zbi acc' k).isSome=true)/\(∀ ls∈rss,(Zbi acc' ls).isSome=true)/\acc'.length<=acc.length+rss.length/\(∀ p∈acc',p∈acc\/∃ (i:Nat) (ls:List Int),rss[i]? = some ls/\p=(Zaz ls,.int (c+i)))
 | [],c,acc,H,z2,z3,hq,_=>by
  obtain⟨h1,h2⟩:=Xc.mp hq
  refine⟨acc,z2,z3,?_,fun p hp=>.inl hp,fun _ h=>h,by simp,by simp,fun p hp=>.inl hp⟩
  rw[Wdl,Zdy,Zhk,if_pos Zi0,<- h2,Wcn h1]
 | ls::rss,c,acc,H,z2,z3,hq,hl=>by
  rw[Xn,Zdy,Zhk,if_pos Zi0]
  simp only[gTp,Wbc,Wcm,gCn,gNm,gNl,Wfm,Zb,if_true,Nat.zero_add,Nat.reduceAdd]
  obtain⟨z,es⟩:=Zqm (k:=ls) (v:=.int c) hq (by omega)
  have lt:=(Xc.mp hq).1
  have st:fb [some r,some (.ref q),some (.int c),some (Zaz ls)] H=some (.nx,[some r,some (.ref q),some (.int c),some (Zaz ls)],H.set q (.dic (Ziw acc ls (.int c)) false)) :=
   (Zco (ex (dm (vr rfl) (by simp[Zqb,hq]) (ac (vr rfl) (ac (vr rfl) an)) es))).trans rfl
  rw[st]
  simp only[Zb]
  have al:=Zx0 acc ls (.int c)
  obtain⟨acc',z2',z3',e,a1,a2,a3,a4,a5⟩:=Zma (q:=q) (r:=r) rss (c+1) (Ziw acc ls (.int c)) (H.set q (.dic (Ziw acc ls (.int c)) false)) (some (.int c)) (some (Zaz ls)) (by rw[War lt]) (by simp at hl ⊢; omega)
  refine⟨acc',z2',z3',by rw[e,Wgd],fun p hp=>?_,fun k hk=>a2 k (by rw[Zjk,hk]; rfl),fun l hl'=>?_,by omega,fun p hp=>?_⟩
  ·rcases a1 p hp with h | ⟨l,h1,h2⟩
   ·rcases Zxg h with h | h
    ·exact .inl h
    ·exact .inr ⟨ls,by simp,h⟩
   ·exact .inr ⟨l,by simp[h1],h2⟩
  ·rcases Xi.mp hl' with rfl | hl'
   ·exact a2 _ (by rw[Zjk]; simp)
   ·exact a3 l hl'
  ·rcases a5 p hp with h | ⟨i,l,h1,h2⟩
   ·rcases Zr9 h with h | h
    ·exact .inl h
    ·exact .inr ⟨0,ls,rfl,by rw[h]; simp⟩
   ·exact .inr ⟨i+1,l,by simpa using h1,by rw[h2]; simp; omega⟩
theorem Zr1 {rss:List (List Int)} {m:Int} (hu:∀ ls∈rss,Up m 0 ls) (hl:rss.length<=1000) (H:HD) :
  ∃ (kvs:List (D×D)) (H':HD) (q:Nat),Zbp [.tup (rss.map Zaz)] H=some (.ref q,H')/\H'[q]? = some (.dic kvs false)/\DR rss [] kvs/\Fz H H':=by
 have s1:Zbm 1 eDN [some (.tup (rss.map Zaz)),none,none,none] H=some (.nx,[some (.tup (rss.map Zaz)),some (.ref H.length),none,none],H++[.dic [] false]):=rfl
 obtain⟨kvs,z2,z3,e,a1,a2,a3,a4,a5⟩:=Zma (q:=H.length) (r:=.tup (rss.map Zaz)) rss 0 [] (H++[.dic [] false]) none none (by simp) (by simp; omega)
 have e1:Zfb (Zzc (Zab (Zac 0) Zaf)) (gTp 2 (gCn (gNm 2) (gCn (gNm 3) gNl))) fb [some (.tup (rss.map Zaz)),some (.ref H.length),none,none] (H++[.dic [] false])=some (.nx,[some (.tup (rss.map Zaz)),some (.ref H.length),z2,z3],(H++[DO.dic [] false]).set H.length (DO.dic kvs false)):=by
  unfold Zfb Zzc
  rw[ac (vr rfl) an]
  exact e
 have es:(H++[DO.dic [] false]).set H.length (.dic kvs false)=H++[.dic kvs false]:=by simp
 rw[es] at e1
 refine⟨kvs,H++[.dic kvs false],H.length,?_,by simp,⟨fun p hp=>?_,fun ls hls _=>?_,by simpa using a4,fun p hp=>?_⟩,Fz.app _⟩
 ·show ((Zb8 [some (.tup (rss.map Zaz)),none,none,none] H).bind _)=_
  unfold Zb8
  rw[Zco s1,Zco e1]
  rfl
 ·rcases a1 p hp with h | ⟨ls,h1,h2⟩
  ·simp at h
  ·obtain⟨o1,o2⟩:=Zg6 [] ls 0 (hu ls h1) (by simp)
   exact⟨ls,h1,o2,by rw[o1]; exact h2⟩
 ·obtain⟨o1,o2⟩:=Zg6 [] ls 0 (hu ls hls) (by simp)
  rw[o1]; exact a3 ls hls
 ·rcases a5 p hp with h | ⟨i,ls,h1,h2⟩
  ·simp at h
  ·obtain⟨o1,o2⟩:=Zg6 [] ls 0 (hu ls (Xk h1)) (by simp)
   exact⟨i,ls,h1,o2,by rw[o1,h2]; simp⟩
nonrec def hd0:List Int->Int
 | []=>0
 | l::_=>l
theorem act {b:Int} {t:Bool} {ls:List Int} (hb:0<=b) :
  (hd0 ls = -(if t=true then b+1 else -(b+1))->Zk9 b t ls=false/\Zfx b ls=ls.drop 1) /\
  (hd0 ls ≠ -(if t=true then b+1 else -(b+1))->hd0 ls≠(if t=true then b+1 else -(b+1))->Zk9 b t ls=false/\Zfx b ls=ls) /\
  (hd0 ls ≠ -(if t=true then b+1 else -(b+1))->hd0 ls=(if t=true then b+1 else -(b+1))->Zk9 b t ls=true):=by
 cases ls with
 | nil =>
  refine⟨fun h=>?_,fun _ _=>⟨rfl,rfl⟩,fun _ h=>?_⟩
  ·simp only[hd0] at h; split at h<;>omega
  ·simp only[hd0] at h; split at h<;>omega
 | cons l r =>
  simp only[hd0,Zk9,Zfx,List.drop_one,List.tail_cons]
  cases t with
  | true =>
   simp only[if_true]
   refine⟨fun h=>?_,fun h1 h2=>?_,fun h1 h2=>?_⟩
   ·have e:Zau l=b+1:=by unfold Zau; split<;>omega
    have g:decide (0<l)=false:=decide_eq_false (by omega)
    rw[g,if_pos e]; simp
   ·have e:Zau l≠b+1:=by unfold Zau; split<;>omega
    rw[if_neg e,decide_eq_false e]; simp
   ·have e:Zau l=b+1:=by unfold Zau; split<;>omega
    have g:decide (0<l)=true:=decide_eq_true (by omega)
    rw[g,decide_eq_true e]; rfl
  | false =>
   simp only[Wao,if_false]
   refine⟨fun h=>?_,fun h1 h2=>?_,fun h1 h2=>?_⟩
   ·have e:Zau l=b+1:=by unfold Zau; split<;>omega
    have g:decide (0<l)=true:=decide_eq_true (by omega)
    rw[g,if_pos e]; simp
   ·have e:Zau l≠b+1:=by unfold Zau; split<;>omega
    rw[if_neg e,decide_eq_false e]; simp
   ·have e:Zau l=b+1:=by unfold Zau; split<;>omega
    have g:decide (0<l)=false:=decide_eq_false (by omega)
    rw[g,decide_eq_true e]; rfl
nonrec abbrev bb:SF:=(Zag (Zbm 6 (eIf (Zgv (Zac 5)) (eOp ixD (Zac 5) (eC (.int 0))) (eC (.int 0))))
 (Zag (sIf (tOf (eOp eqD (Zac 6) (eUn Zln (Zac 3)))) (Zag (Zc0 (eDM Zlc (Zac 4) (Zab (eSl (Zac 5) (Zij (eC (.int 1))) Zjc) (Zab (eOp Zgy (Zac 0) (Zac 5)) Zaf))))
 Zaj) (Zag (sIf (tOf (eOp neD (Zac 6) (Zac 3))) (Zag (Zc0 (eDM Zlc (Zac 4) (Zab (Zac 5) (Zab (eOp Zgy (Zac 0) (Zac 5)) Zaf))))
 Zaj) Zaj)
 Zaj))
 Zaj))
theorem un {g:D->HD->Option (D×HD)} {f:EF} {σ:SD} {H H1:HD} {d:D} {r:Option (D×HD)} (h1:f σ H=some (d,H1)) (h2:g d H1=r):eUn g f σ H=r:=by
 unfold eUn; rw[h1]; exact h2
theorem bb_ok {p q:Nat} {kvs acc:List (D×D)} {b:Int} {t:Bool} {a1 a2 z6:Option D} {ls:List Int} {H:HD} (hb:0<=b) (hp:H[p]? = some (.dic kvs true)) (hq:H[q]? = some (.dic acc false)) (hl:acc.length<=100000) (hk:(Zbi kvs ls).isSome=true) :
  ∃ (v:D) (z6':Option D),Zbi kvs ls=some v/\bb [some (.ref p),a1,a2,some (.int (if t=true then b+1 else -(b+1))),some (.ref q),some (Zaz ls),z6] H=some (.nx,[some (.ref p),a1,a2,some (.int (if t=true then b+1 else -(b+1))),some (.ref q),some (Zaz ls),z6'],H.set q (.dic (if Zk9 b t ls=true then acc else Ziw acc (Zfx b ls) v) false)):=by
 let R:Int:=if t=true then b+1 else -(b+1)
 obtain⟨v,ev⟩:=Wak.mp hk
 have self:H.set q (.dic acc false)=H:=by
  obtain⟨h1,h2⟩:=Xc.mp hq
  rw[<- h2,Wcn h1]
 have s1:Zbm 6 (eIf (Zgv (Zac 5)) (eOp ixD (Zac 5) (eC (.int 0))) (eC (.int 0))) [some (.ref p),a1,a2,some (.int R),some (.ref q),some (Zaz ls),z6] H=some (.nx,[some (.ref p),a1,a2,some (.int R),some (.ref q),some (Zaz ls),some (.int (hd0 ls))],H):=by
  refine Zod (d:=.int (hd0 ls)) ?_
  have tv:Zgv (Zac 5) [some (.ref p),a1,a2,some (.int R),some (.ref q),some (Zaz ls),z6] H=some (!ls.isEmpty,H):=by
   unfold Zgv; rw[vr (d:=Zaz ls) rfl]; simp[Zaz,Zwx]
  unfold eIf
  rw[tv]
  cases ls with
  | nil=>rfl
  | cons l r =>
   have:atI ((l::r).map D.int) 0=some (.int l):=Zbn (j:=0) rfl
   show eOp ixD (Zac 5) (eC (.int 0)) [some (.ref p),a1,a2,some (.int R),some (.ref q),some (Zaz (l::r)),z6] H=some (.int l,H)
   exact op (vr rfl) rfl (ixT this)
 let σ:SD:=[some (.ref p),a1,a2,some (.int R),some (.ref q),some (Zaz ls),some (.int (hd0 ls))]
 have dg:eOp Zgy (Zac 0) (Zac 5) σ H=some (v,H):=by
  refine op (vr rfl) (vr rfl) ?_
  simp[Zgy,Zyr,hp,Ze2,ev]
 have t1:tOf (eOp eqD (Zac 6) (eUn Zln (Zac 3))) σ H=some (hd0 ls == -R,H):=tof (op (vr rfl) (un (vr rfl) rfl) (Zxp _ _ _))
 have t2:tOf (eOp neD (Zac 6) (Zac 3)) σ H=some (!(hd0 ls==R),H):=tof (op (vr rfl) (vr rfl) (Ygb _ _ _))
 have id1:Zqb (.ref q) H=true:=by simp[Zqb,hq]
 obtain⟨A1,A2,A3⟩:=act (b:=b) (t:=t) (ls:=ls) hb
 refine⟨v,some (.int (hd0 ls)),ev,?_⟩
 show bb [some (.ref p),a1,a2,some (.int R),some (.ref q),some (Zaz ls),z6] H=some (.nx,σ,_)
 unfold bb
 rw[Zco s1]
 by_cases c1:hd0 ls = -R
 ·obtain⟨h1,h2⟩:=A1 c1
  have sd:slD (Zaz ls) (some 1) none H=some (Zaz (ls.drop 1),H):=by
   have:=sllo (xs:=ls.map D.int) (k:=1) (H:=H)
   rw[<- Wfn] at this
   exact this
  obtain⟨z,es⟩:=Zqm (k:=ls.drop 1) (v:=v) hq hl
  rw[h1,if_neg (by simp),h2]
  refine(Zco (σ1:=σ) (H1:=H.set q (.dic (Ziw acc (ls.drop 1) v) false)) ?_).trans rfl
  rw[Zpx t1,if_pos (by simpa using c1)]
  exact(Zco (ex (dm (vr rfl) id1 (ac (sl (vr rfl) (os rfl) on sd) (ac dg an)) es))).trans rfl
 ·by_cases c2:hd0 ls=R
  ·rw[A3 c1 c2,if_pos rfl,self]
   refine(Zco (σ1:=σ) (H1:=H) ?_).trans rfl
   rw[Zpx t1,if_neg (by simpa using c1)]
   refine(Zco (σ1:=σ) (H1:=H) ?_).trans rfl
   rw[Zpx t2,if_neg (by simpa using c2)]
   rfl
  ·obtain⟨h1,h2⟩:=A2 c1 c2
   obtain⟨z,es⟩:=Zqm (k:=ls) (v:=v) hq hl
   rw[h1,if_neg (by simp),h2]
   refine(Zco (σ1:=σ) (H1:=H.set q (.dic (Ziw acc ls v) false)) ?_).trans rfl
   rw[Zpx t1,if_neg (by simpa using c1)]
   refine(Zco (σ1:=σ) (H1:=H.set q (.dic (Ziw acc ls v) false)) ?_).trans rfl
   rw[Zpx t2,if_pos (by simpa using c2)]
   exact(Zco (ex (dm (vr rfl) id1 (ac (vr rfl) (ac dg an)) es))).trans rfl
theorem Zvz {p q:Nat} {kvs:List (D×D)} {b:Int} {t:Bool} {a1 a2:Option D} (hb:0<=b) (hpq:p≠q):∀ (qs:List (List Int)) (acc:List (D×D)) (H:HD) (z5 z6:Option D),H[p]? = some (.dic kvs true)->H[q]? = some (.dic acc false)->acc.length+qs.length<=100000->(∀ ls∈qs,(Zbi kvs ls).isSome=true) ->
  ∃ (acc':List (D×D)) (z5' z6':Option D),Zhk [(p,.dic kvs true)] (gNm 5) bb (qs.map Zaz) [some (.ref p),a1,a2,some (.int (if t=true then b+1 else -(b+1))),some (.ref q),z5,z6] H=some (.nx,[some (.ref p),a1,a2,some (.int (if t=true then b+1 else -(b+1))),some (.ref q),z5',z6'],H.set q (.dic acc' false)) /\
   (∀ x∈acc',x∈acc\/∃ ls∈qs,Zk9 b t ls=false/\x.1=Zaz (Zfx b ls))/\(∀ k,(Zbi acc k).isSome=true->(Zbi acc' k).isSome=true)/\(∀ ls∈qs,Zk9 b t ls=false->(Zbi acc' (Zfx b ls)).isSome=true)/\acc'.length<=acc.length+qs.length/\(∀ x∈acc',x∈acc\/∃ ls∈qs,Zk9 b t ls=false/\x.1=Zaz (Zfx b ls)/\Zbi kvs ls=some x.2)
 | [],acc,H,z5,z6,hp,hq,_,_=>by
  obtain⟨h1,h2⟩:=Xc.mp hq
  refine⟨acc,z5,z6,?_,fun p hp=>.inl hp,fun _ h=>h,by simp,by simp,fun p hp=>.inl hp⟩
  rw[Wdl,Zhk,if_pos (by intro x hx; simp at hx; subst hx; exact hp),<- h2,Wcn h1]
 | ls::qs,acc,H,z5,z6,hp,hq,hl,hk=>by
  have lt:=(Xc.mp hq).1
  rw[Xn,Zhk,if_pos (by intro x hx; simp at hx; subst hx; exact hp)]
  simp only[gNm,Wfm,Zb]
  obtain⟨v,z6',ev,e1⟩:=bb_ok (t:=t) (a1:=a1) (a2:=a2) (z6:=z6) (ls:=ls) hb hp hq (by omega) (hk ls (by simp))
  rw[e1]
  simp only[Zb]
  let acc1:=if Zk9 b t ls=true then acc else Ziw acc (Zfx b ls) v
  have al:acc1.length<=acc.length+1:=by
   show (if Zk9 b t ls=true then acc else Ziw acc (Zfx b ls) v).length<=_
   split
   ·omega
   ·exact Zx0 _ _ _
  obtain⟨acc',z5',z6'',e,a1',a2',a3',a4',a5'⟩:=Zvz (p:=p) (q:=q) (kvs:=kvs) (t:=t) (a1:=a1) (a2:=a2) hb hpq qs acc1 (H.set q (.dic acc1 false)) (some (Zaz ls)) z6' (by rw[Wal (Ul hpq)]; exact hp) (by rw[War lt]) (by simp at hl ⊢; omega) (fun l hl=>hk l (by simp[hl]))
  have mono:∀ k,(Zbi acc k).isSome=true->(Zbi acc1 k).isSome=true:=fun k hk=>by
   show (Zbi (if Zk9 b t ls=true then acc else Ziw acc (Zfx b ls) v) k).isSome=true
   split
   ·exact hk
   ·rw[Zjk,hk]; rfl
  have lenF:acc'.length<=acc.length+(ls::qs).length:=by
   have e8:(ls::qs).length=qs.length+1:=rfl
   have e9:acc'.length<=acc1.length+qs.length:=a4'
   omega
  refine⟨acc',z5',z6'',by rw[e,Wgd],fun x hx=>?_,fun k hk=>a2' k (mono k hk),fun l hl' hh=>?_,lenF,fun x hx=>?_⟩
  ·rcases a1' x hx with h | ⟨l,h1,h2⟩
   ·cases hc:Zk9 b t ls with
    | true =>
     have:acc1=acc:=if_pos hc
     rw[this] at h; exact .inl h
    | false =>
     have:acc1=Ziw acc (Zfx b ls) v:=if_neg (by rw[hc]; simp)
     rw[this] at h
     rcases Zxg h with h | h
     ·exact .inl h
     ·exact .inr ⟨ls,by simp,hc,h⟩
   ·exact .inr ⟨l,by simp[h1],h2⟩
  ·rcases Xi.mp hl' with rfl | hl'
   ·refine a2' _ ?_
    have:acc1=Ziw acc (Zfx b l) v:=if_neg (by rw[hh]; simp)
    rw[this,Zjk]; simp
   ·exact a3' l hl' hh
  ·rcases a5' x hx with h | ⟨l,h1,h2⟩
   ·cases hc:Zk9 b t ls with
    | true =>
     have:acc1=acc:=if_pos hc
     rw[this] at h; exact .inl h
    | false =>
     have:acc1=Ziw acc (Zfx b ls) v:=if_neg (by rw[hc]; simp)
     rw[this] at h
     rcases Zr9 h with h | h
     ·exact .inl h
     ·exact .inr ⟨ls,by simp,hc,by rw[h],by rw[h]; exact ev⟩
   ·exact .inr ⟨l,by simp[h1],h2⟩
theorem Zkz {kvs:List (D×D)} {k:List Int} (h:(Zbi kvs k).isSome=true):∃ p∈kvs,nk p.1=some k:=by
 unfold Zbi at h
 rw[Wfv] at h
 obtain⟨p,e⟩:=Wak.mp h
 exact⟨p,Wej e,by have:=Wgp e; simpa using this⟩
theorem Zp3 {kvs:List (D×D)} {k:List Int} {p:D×D} (hp:p∈kvs) (h:nk p.1=some k):(Zbi kvs k).isSome=true:=by
 unfold Zbi
 rw[Wfv,List.find?_isSome]
 exact⟨p,hp,by simp[h]⟩
theorem Zr8 {kvs:List (D×D)} {k:List Int} {v:D} (h:Zbi kvs k=some v):∃ p∈kvs,nk p.1=some k/\p.2=v:=by
 unfold Zbi at h
 obtain⟨p,e,rfl⟩:=Zm h
 exact⟨p,Wej e,by have:=Wgp e; simpa using this,rfl⟩
theorem Zwk {rss:List (List Int)} {bs:List Bool}:∀ {kvs:List (D×D)},(∀ p∈kvs,∃ ls∈rss,kept bs ls=false/\p.1=Zaz (rest bs ls))->∃ qs:List (List Int),kvs.map (·.1)=qs.map Zaz/\∀ q∈qs,∃ ls∈rss,kept bs ls=false/\q=rest bs ls
 | [],_=>⟨[],rfl,by simp⟩
 | p::kvs,h=>by
  obtain⟨ls,h1,h2,h3⟩:=h p (by simp)
  obtain⟨qs,e,g⟩:=Zwk (kvs:=kvs) fun x hx=>h x (by simp[hx])
  refine⟨rest bs ls::qs,by rw[Xn,Xn,e,h3],fun q hq=>?_⟩
  rcases Xi.mp hq with rfl | hq
  ·exact⟨ls,h1,h2,rfl⟩
  ·exact g q hq
theorem Yef {a b:List Int} (h:Zaz a=Zaz b):a=b:=by
 have:=Ze2 a
 rw[h,Ze2] at this
 exact(Xx.inj this).symm
theorem Zku {rss:List (List Int)} {m:Int} {bs:List Bool} {t:Bool} {kvs:List (D×D)} {fz:Bool} {p:Nat} {H:HD} (hu:∀ ls∈rss,Up m 0 ls) (hl:rss.length<=1000) (hp:H[p]? = some (.dic kvs fz)) (dr:DR rss bs kvs) :
  ∃ (kvs':List (D×D)) (H':HD) (q:Nat),Za9 [.ref p,.int ((bs.length:Int)+1),.bl t] H=some (.ref q,H')/\H'[q]? = some (.dic kvs' false)/\DR rss (bs++[t]) kvs'/\Fz H H':=by
 obtain⟨qs,eq,gq⟩:=Zwk dr.key
 let b:Int:=bs.length
 have hb:0<=b:=by show (0:Int)<=bs.length; omega
 let R:Int:=if t=true then b+1 else -(b+1)
 have ltp:=(Xc.mp hp).1
 have s1:Zbm 3 (eIf (Zgv (Zac 2)) (Zac 1) (eUn Zln (Zac 1))) [some (.ref p),some (.int (b+1)),some (.bl t),none,none,none,none] H=some (.nx,[some (.ref p),some (.int (b+1)),some (.bl t),some (.int R),none,none,none],H):=by
  refine Zod (d:=.int R) ?_
  cases t<;>rfl
 have s2:Zbm 4 eDN [some (.ref p),some (.int (b+1)),some (.bl t),some (.int R),none,none,none] H=some (.nx,[some (.ref p),some (.int (b+1)),some (.bl t),some (.int R),some (.ref H.length),none,none],H++[.dic [] false]):=rfl
 let H1:HD:=(H++[DO.dic [] false]).set p (DO.dic kvs true)
 have hp0:(H++[DO.dic [] false])[p]? = some (.dic kvs fz):=by rw[Xg ltp]; exact hp
 have hp1:H1[p]? = some (.dic kvs true):=by rw[War (by simp; omega)]
 have hq1:H1[H.length]? = some (.dic [] false):=by rw[Wal (by omega)]; simp
 have lq:qs.length=kvs.length:=by have:=congrArg Wbn eq; simpa using this.symm
 have kk:∀ ls∈qs,(Zbi kvs ls).isSome=true:=fun ls hls=>by
  have:Zaz ls∈kvs.map (·.1):=by rw[eq]; exact Wfh hls
  obtain⟨x,hx,ex⟩:=Xz.mp this
  exact Zp3 hx (by rw[ex,Ze2])
 have dl:=dr.len
 obtain⟨acc,z5,z6,e,a1,a2,a3,a4,a5⟩:=Zvz (p:=p) (q:=H.length) (kvs:=kvs) (b:=b) (t:=t) (a1:=some (.int (b+1))) (a2:=some (.bl t)) hb (by omega) qs [] H1 none none hp1 hq1 (by simp; omega) kk
 have e1:Zfb (Yec (Zac 0)) (gNm 5) bb [some (.ref p),some (.int (b+1)),some (.bl t),some (.int R),some (.ref H.length),none,none] (H++[.dic [] false])=some (.nx,[some (.ref p),some (.int (b+1)),some (.bl t),some (.int R),some (.ref H.length),z5,z6],H1.set H.length (.dic acc false)):=by
  unfold Zfb Yec
  rw[vr (d:=.ref p) rfl]
  simp only[Zb,hp0]
  rw[eq]
  exact e
 have lt1:H.length<H1.length:=(Xc.mp hq1).1
 refine⟨acc,H1.set H.length (.dic acc false),H.length,?_,by rw[War lt1],⟨fun x hx=>?_,fun ls hls hk=>?_,?_,fun x hx=>?_⟩,⟨fun mm o ho=>?_,by simp[H1]⟩⟩
 ·show ((Zcs [some (.ref p),some (.int (b+1)),some (.bl t),none,none,none,none] H).bind _)=_
  unfold Zcs
  rw[Zco s1,Zco s2,Zco e1]
  rfl
 ·rcases a1 x hx with h | ⟨q,h1,h2,h3⟩
  ·simp at h
  ·obtain⟨ls,g1,g2,rfl⟩:=gq q h1
   obtain⟨n1,n2⟩:=Zhl bs t ls 0 (Wcv _) (hu ls g1)
   refine⟨ls,g1,?_,by rw[n1]; exact h3⟩
   rw[n2,g2]; exact h2
 ·obtain⟨n1,n2⟩:=Zhl bs t ls 0 (Wcv _) (hu ls hls)
  rw[n2,Bool.or_eq_false_iff] at hk
  obtain⟨x,hx,ex⟩:=Zkz (dr.all ls hls hk.1)
  have hm:x.1∈qs.map Zaz:=by rw[<- eq]; exact Wfh hx
  obtain⟨q,hq,eqq⟩:=Xz.mp hm
  have:q=rest bs ls:=by rw[<- eqq,Ze2] at ex; exact Xx.inj ex
  subst this
  rw[n1]
  exact a3 _ hq hk.2
 ·simp at a4; omega
 ·rcases a5 x hx with h | ⟨q,h1,h2,h3,h4⟩
  ·simp at h
  ·obtain⟨y,y1,y2,y3⟩:=Zr8 h4
   obtain⟨i,ls,g1,g2,rfl⟩:=dr.val y y1
   have:q=rest bs ls:=by rw[Ze2] at y2; exact(Xx.inj y2).symm
   subst this
   obtain⟨n1,n2⟩:=Zhl bs t ls 0 (Wcv _) (hu ls (Xk g1))
   exact⟨i,ls,g1,by rw[n2,g2]; exact h2,Prod.ext (by rw[n1]; exact h3) y3.symm⟩
 ·have lm:mm<H.length:=(Xc.mp ho).1
  rw[Wal (by omega)]
  by_cases c:p=mm
  ·subst c
   rw[hp] at ho
   cases ho
   cases fz with
   | true=>exact .inl hp1
   | false=>exact .inr ⟨kvs,rfl,hp1⟩
  ·refine .inl ?_
   show ((H++[DO.dic [] false]).set p (.dic kvs true))[mm]? = some o
   rw[Wal c,Xg lm]; exact ho
theorem Zo3 {rss:List (List Int)} {m:Int} {r pl:D} (hu:∀ ls∈rss,Up m 0 ls) (hl:rss.length<=1000):∀ (ts bs:List Bool) (kvs:List (D×D)) (p:Nat) (fz:Bool) (H:HD) (z3 z4:Option D),H[p]? = some (.dic kvs fz)->DR rss bs kvs ->
  ∃ (kvs':List (D×D)) (H':HD) (q:Nat) (fz':Bool) (z3' z4':Option D),Zhk [] (gTp 2 (gCn (gNm 3) (gCn (gNm 4) gNl))) (Zag (Zbm 2 (Zak 3 Za9 (Zab (Zac 2) (Zab (Zac 3) (Zab (Zac 4) Zaf))))) Zaj) (Zdy ((bs.length:Int)+1) (ts.map .bl)) [some r,some pl,some (.ref p),z3,z4] H=some (.nx,[some r,some pl,some (.ref q),z3',z4'],H')/\H'[q]? = some (.dic kvs' fz')/\DR rss (bs++ts) kvs'/\Fz H H'
 | [],bs,kvs,p,fz,H,z3,z4,hp,dr=>⟨kvs,H,p,fz,z3,z4,by rw[Wdl,Zdy,Zhk,if_pos Zi0],hp,by rw[Wad]; exact dr,Fz.refl⟩
 | t::ts,bs,kvs,p,fz,H,z3,z4,hp,dr=>by
  rw[Xn,Zdy,Zhk,if_pos Zi0]
  simp only[gTp,Wbc,Wcm,gCn,gNm,gNl,Wfm,Zb,if_true,Nat.zero_add,Nat.reduceAdd]
  obtain⟨k1,H1,q1,e1,g1,d1,x1⟩:=Zku (t:=t) hu hl hp dr
  have st:(Zag (Zbm 2 (Zak 3 Za9 (Zab (Zac 2) (Zab (Zac 3) (Zab (Zac 4) Zaf))))) Zaj) [some r,some pl,some (.ref p),some (.int ((bs.length:Int)+1)),some (.bl t)] H=some (.nx,[some r,some pl,some (.ref q1),some (.int ((bs.length:Int)+1)),some (.bl t)],H1) :=
   (Zco (Zod (ca (ac (vr rfl) (ac (vr rfl) (ac (vr rfl) an))) rfl e1))).trans rfl
  rw[st]
  simp only[Zb]
  obtain⟨k2,H2,q2,fz2,z3',z4',e2,g2,d2,x2⟩:=Zo3 (r:=r) (pl:=pl) hu hl ts (bs++[t]) k1 q1 false H1 (some (.int ((bs.length:Int)+1))) (some (.bl t)) g1 d1
  have ec:(((bs++[t]).length:Nat):Int)+1=(bs.length:Int)+1+1:=by simp
  rw[ec] at e2
  refine⟨k2,H2,q2,fz2,z3',z4',e2,g2,?_,x1.trans x2⟩
  rw[Wab] at d2
  exact d2
theorem Zlb {rss:List (List Int)} {m:Int} {bs:List Bool} (hu:∀ ls∈rss,Up m 0 ls) (hl:rss.length<=1000) (H:HD) :
  ∃ (kvs:List (D×D)) (H':HD) (q:Nat) (fz:Bool),Zb2 [.tup (rss.map Zaz),.tup (bs.map .bl)] H=some (.ref q,H')/\H'[q]? = some (.dic kvs fz)/\DR rss bs kvs/\Fz H H':=by
 obtain⟨k1,H1,q1,e1,g1,d1,x1⟩:=Zr1 hu hl H
 have s1:Zbm 2 (Zak 1 Zbp (Zab (Zac 0) Zaf)) [some (.tup (rss.map Zaz)),some (.tup (bs.map .bl)),none,none,none] H=some (.nx,[some (.tup (rss.map Zaz)),some (.tup (bs.map .bl)),some (.ref q1),none,none],H1):=Zod (ca (ac (vr rfl) an) rfl e1)
 obtain⟨k2,H2,q2,fz2,z3',z4',e2,g2,d2,x2⟩:=Zo3 (r:=.tup (rss.map Zaz)) (pl:=.tup (bs.map .bl)) hu hl bs [] k1 q1 false H1 none none g1 d1
 have e3:Zfb (Zsh (Zab (Zac 1) Zaf)) (gTp 2 (gCn (gNm 3) (gCn (gNm 4) gNl))) (Zag (Zbm 2 (Zak 3 Za9 (Zab (Zac 2) (Zab (Zac 3) (Zab (Zac 4) Zaf))))) Zaj) [some (.tup (rss.map Zaz)),some (.tup (bs.map .bl)),some (.ref q1),none,none] H1=some (.nx,[some (.tup (rss.map Zaz)),some (.tup (bs.map .bl)),some (.ref q2),z3',z4'],H2):=by
  unfold Zfb Zsh
  rw[ac (vr rfl) an]
  exact e2
 refine⟨k2,H2,q2,fz2,?_,g2,d2,x1.trans x2⟩
 show ((Zbk [some (.tup (rss.map Zaz)),some (.tup (bs.map .bl)),none,none,none] H).bind _)=_
 unfold Zbk
 rw[Zco s1,Zco e3]
 rfl
nonrec def kS (d:D):Bool:=match d with
 | .str s=>s == "some"
 | _=>false
nonrec def Zam (b:Bool):D:=if b then .str "some" else .str "all"
theorem Zo9 {d:D} (h:Zcx d):d=Zam (kS d):=by
 rcases h with rfl | rfl
 ·have:kS (.str "all")=false:=by decide
  rw[this]; rfl
 ·have:kS (.str "some")=true:=by decide
  rw[this]; rfl
nonrec def W (ks:List D) (rss:List (List Int)):Nat->List Bool->Bool
 | 0,bs=>rss.all (kept bs)
 | j+1,bs =>
  let who:=kS (ks.getD bs.length .non)
  if W ks rss j (bs++[false])==who||W ks rss j (bs++[true])==who then who else !who
theorem Zpa {bs:List Bool} {t:Bool} {ls:List Int} {m:Int} (hu:Up m 0 ls) (h:kept bs ls=true):kept (bs++[t]) ls=true:=by
 rw[(Zhl bs t ls 0 (Wcv _) hu).2,h]; rfl
theorem Zsw {ks:List D} {rss:List (List Int)} {m:Int} (hu:∀ ls∈rss,Up m 0 ls):∀ (j:Nat) (bs:List Bool),(∀ ls∈rss,kept bs ls=true)->W ks rss j bs=true
 | 0,bs,h=>by unfold W; rw[Xu]; exact h
 | j+1,bs,h=>by
  have a:=Zsw (ks:=ks) hu j (bs++[false]) fun ls hl=>Zpa (hu ls hl) (h ls hl)
  have b:=Zsw (ks:=ks) hu j (bs++[true]) fun ls hl=>Zpa (hu ls hl) (h ls hl)
  unfold W
  rw[a,b]
  cases kS (ks.getD bs.length .non)<;>rfl
theorem Zn7 {bs:List Bool} {t:Bool} {ls:List Int} {m:Int} (hu:Up m 0 ls) (h:kept bs ls=false/\rest bs ls=[]):kept (bs++[t]) ls=false/\rest (bs++[t]) ls=[]:=by
 obtain⟨n1,n2⟩:=Zhl bs t ls 0 (Wcv _) hu
 rw[n1,n2,h.1,h.2]; exact⟨rfl,rfl⟩
theorem Zzx {ks:List D} {rss:List (List Int)} {m:Int} {ls:List Int} (hl:ls∈rss) (hu:Up m 0 ls):∀ (j:Nat) (bs:List Bool),kept bs ls=false/\rest bs ls=[]->W ks rss j bs=false
 | 0,bs,h=>by
  unfold W
  cases e:rss.all (kept bs) with
  | false=>rfl
  | true=>rw[Xu.mp e ls hl] at h; cases h.1
 | j+1,bs,h=>by
  have a:=Zzx (ks:=ks) hl hu j (bs++[false]) (Zn7 hu h)
  have b:=Zzx (ks:=ks) hl hu j (bs++[true]) (Zn7 hu h)
  unfold W
  rw[a,b]
  cases kS (ks.getD bs.length .non)<;>rfl
theorem Zrf {m:Int} (bs:List Bool) (h:m<=bs.length):∀ (ls:List Int) (last:Int),Up m last ls->rest bs ls=[]
 | [],_,_=>rfl
 | l::r,last,u=>by
  have o:opn bs l=false:=decide_eq_false (by have:=u.2.1; omega)
  unfold rest
  rw[Waw (by rw[o]; simp)]
  exact Zrf bs h r (Zau l) u.2.2
theorem Zsp (b:Bool) (H:HD):Zbr [Zam b] H=some (Zam (!b),H):=by
 cases b
 ·have:((("all" : Str))==("some" : Str))=false:=by decide
  simp[Zbr,Zdj,Za4,Zam,Zag,Zbc,eIf,tOf,eOp,eqD,Zs8,Zac,eC,blD,this]
 ·simp[Zbr,Zdj,Za4,Zam,Zag,Zbc,eIf,tOf,eOp,eqD,Zs8,Zac,eC,blD]
theorem Zwi (a b:Bool) (H:HD):eqD (Zam a) (Zam b) H=some (.bl (a==b),H):=by
 have e1:((("all" : Str))==("some" : Str))=false:=by decide
 have e2:((("some" : Str))==("all" : Str))=false:=by decide
 cases a<;>cases b<;>simp[eqD,Zs8,Zam,e1,e2]
nonrec def Zar (bs:List Bool):D:=.tup (bs.map .bl)
nonrec abbrev wb (F:FF):SF:=(Zag (sIf (tOf (eOp eqD (Zak 3 F (Zab (Zac 0) (Zab (Zak 3 Za9 (Zab (Zac 1) (Zab (eOp Zcq (Zac 2) (eC (.int 1))) (Zab (Zac 4) Zaf)))) (Zab (eOp Zcq (Zac 2) (eC (.int 1))) Zaf)))) (Zac 3))) (Zag (Zbc (Zac 3))
 Zaj) Zaj)
 Zaj)
theorem Zxn {ks:List D} {rss:List (List Int)} (hk:∀ d∈ks,Zcx d) (hu:∀ ls∈rss,Up ks.length 0 ls) (hl:rss.length<=1000):∀ (j f:Nat) (bs:List Bool) (kvs:List (D×D)) (p:Nat) (fz:Bool) (H:HD),j<f->bs.length+j=ks.length->H[p]? = some (.dic kvs fz)->DR rss bs kvs ->
  ∃ H',Ycl 3 5 Za8 f [.tup ks,.ref p,.int bs.length] H=some (Zam (W ks rss j bs),H')/\Fz H H'
 | j,0,bs,kvs,p,fz,H,hf,_,_,_=>by omega
 | j,f+1,bs,kvs,p,fz,H,hf,hj,hp,dr=>by
  show ∃ H',((Za8 (Ycl 3 5 Za8 f) [some (.tup ks),some (.ref p),some (.int bs.length),none,none] H).bind _)=_/\_
  generalize hF:Ycl 3 5 Za8 f=F
  let σ0:SD:=[some (.tup ks),some (.ref p),some (.int bs.length),none,none]
  have t1:tOf (eOp dinD (Zd1 Zaf) (Zac 1)) σ0 H=some ((Zbi kvs []).isSome,H):=by
   refine tof (op (tp (ds:=[]) an (by simp)) (vr rfl) ?_)
   simp[dinD,Zyr,hp,nk,Znc]
  have t2:tOf (eOp eqD (eCB Zmt (Zab (Zac 1) Zaf)) (eC (.int 0))) σ0 H=some ((kvs.length:Int)==0,H):=by
   refine tof (op (cb (ac (vr rfl) an) (r:=some (.int kvs.length,H)) ?_) rfl (Zxp _ _ _))
   simp[Zmt,Zyr,hp]
  cases c1:(Zbi kvs []).isSome with
  | true =>
   rw[c1] at t1
   obtain⟨x,hx,ex⟩:=Zkz c1
   obtain⟨ls,g1,g2,g3⟩:=dr.key x hx
   have r0:rest bs ls=[]:=by rw[g3,Ze2] at ex; exact Xx.inj ex
   refine⟨H,?_,Fz.refl⟩
   unfold Za8
   rw[hit (σ1:=σ0) t1 (rt rfl),Zzx g1 (hu ls g1) j bs ⟨g2,r0⟩]
   rfl
  | false =>
   rw[c1] at t1
   by_cases c2:kvs=[]
   ·subst c2
    have al:∀ ls∈rss,kept bs ls=true:=fun ls h=>by
     cases e:kept bs ls with
     | true=>rfl
     | false=>have:=dr.all ls h e; simp[Zbi] at this
    refine⟨H,?_,Fz.refl⟩
    unfold Za8
    rw[skip t1,hit (σ1:=σ0) t2 (rt rfl),Zsw hu j bs al]
    rfl
   ·have t2':tOf (eOp eqD (eCB Zmt (Zab (Zac 1) Zaf)) (eC (.int 0))) σ0 H=some (false,H):=by
     rw[t2]
     have:((kvs.length:Int)==0)=false:=by
      have:=List.length_pos_iff.mpr c2
      simp; exact c2
     rw[this]
    -- a name is left
    match j,hj,hf with
    | 0,hj,hf =>
     exfalso
     obtain⟨x,kr,e⟩:=Wec c2
     obtain⟨ls,g1,g2,g3⟩:=dr.key x (by rw[e]; simp)
     have r0:=Zrf bs (m:=ks.length) (by omega) ls 0 (hu ls g1)
     have:=dr.all ls g1 g2
     rw[r0,c1] at this; cases this
    | j+1,hj,hf =>
     have lt:bs.length<ks.length:=by omega
     let who:Bool:=kS (ks.getD bs.length .non)
     have gw:ks[bs.length]? = some (Zam who):=by
      have e0:ks.getD bs.length .non=ks[bs.length]:=by simp[List.getD,lt]
      have:=Zo9 (hk ks[bs.length] (Wac lt))
      rw[Xm lt,this]
      show some (Zam (kS ks[bs.length]))=some (Zam (kS (ks.getD bs.length .non)))
      rw[e0]
     have s3:Zbm 3 (eOp ixD (Zac 0) (Zac 2)) σ0 H=some (.nx,[some (.tup ks),some (.ref p),some (.int bs.length),some (Zam who),none],H):=Zod (op (vr rfl) (vr rfl) (ixT (Zbn gw)))
     -- one pick
     have one:∀ (t:Bool) (z4:Option D) (H0:HD) (fz0:Bool),H0[p]? = some (.dic kvs fz0)->∃ H1,tOf (eOp eqD (Zak 3 F (Zab (Zac 0) (Zab (Zak 3 Za9 (Zab (Zac 1) (Zab (eOp Zcq (Zac 2) (eC (.int 1))) (Zab (Zac 4) Zaf)))) (Zab (eOp Zcq (Zac 2) (eC (.int 1))) Zaf)))) (Zac 3)) [some (.tup ks),some (.ref p),some (.int bs.length),some (Zam who),some (.bl t)] H0=some (W ks rss j (bs++[t])==who,H1)/\Fz H0 H1:=by
      intro t z4 H0 fz0 h0
      obtain⟨k1,H1,q1,e1,g1,d1,x1⟩:=Zku (t:=t) hu hl h0 dr
      obtain⟨H2,e2,x2⟩:=Zxn hk hu hl j f (bs++[t]) k1 q1 false H1 (by omega) (by simp; omega) g1 d1
      have el:(((bs++[t]).length:Nat):Int)=(bs.length:Int)+1:=by simp
      rw[el,hF] at e2
      refine⟨H2,tof (op (ca (ac (vr rfl) (ac (ca (ac (vr rfl) (ac (op (vr rfl) rfl (adI _ _ _)) (ac (vr rfl) an))) rfl e1) (ac (op (vr rfl) rfl (adI _ _ _)) an))) rfl e2) (vr rfl) (Zwi _ _ _)),x1.trans x2⟩
     obtain⟨H1,o1,x1⟩:=one false none H fz hp
     obtain⟨fz1,h1⟩:=x1.dic hp
     obtain⟨H2,o2,x2⟩:=one true none H1 fz1 h1
     have Wd:W ks rss (j+1) bs=(if W ks rss j (bs++[false])==who||W ks rss j (bs++[true])==who then who else !who):=by
      conv=>lhs; unfold W
     have it:∀ Hx,iSq (eC k_TRUTHS) [some (.tup ks),some (.ref p),some (.int bs.length),some (Zam who),none] Hx=some (([.bl false,.bl true],[]),Hx):=fun _=>rfl
     have st:∀ (t b:Bool) (Ha Hb:HD),tOf (eOp eqD (Zak 3 F (Zab (Zac 0) (Zab (Zak 3 Za9 (Zab (Zac 1) (Zab (eOp Zcq (Zac 2) (eC (.int 1))) (Zab (Zac 4) Zaf)))) (Zab (eOp Zcq (Zac 2) (eC (.int 1))) Zaf)))) (Zac 3)) [some (.tup ks),some (.ref p),some (.int bs.length),some (Zam who),some (.bl t)] Ha=some (b,Hb) ->
       wb F [some (.tup ks),some (.ref p),some (.int bs.length),some (Zam who),some (.bl t)] Ha=some (if b=true then .rt (Zam who) else .nx,[some (.tup ks),some (.ref p),some (.int bs.length),some (Zam who),some (.bl t)],Hb):=by
      intro t b Ha Hb h
      cases b with
      | true=>exact hit h (rt (vr rfl))
      | false=>exact(skip h).trans rfl
     unfold Za8
     rw[skip t1,skip t2',Zco s3]
     cases w1:(W ks rss j (bs++[false])==who) with
     | true =>
      rw[w1] at o1
      refine⟨H1,?_,x1⟩
      have lp:Zfb (iSq (eC k_TRUTHS)) (gNm 4) (wb F) [some (.tup ks),some (.ref p),some (.int bs.length),some (Zam who),none] H=some (.rt (Zam who),[some (.tup ks),some (.ref p),some (.int bs.length),some (Zam who),some (.bl false)],H1):=by
       unfold Zfb
       rw[it]
       simp only[Zb]
       rw[Zhk,if_pos Zi0]
       simp only[gNm,Wfm,Zb]
       rw[st _ _ _ _ o1]
       rfl
      rw[Zlt lp,Wd,w1]
      rfl
     | false =>
      rw[w1] at o1
      have lp:Zfb (iSq (eC k_TRUTHS)) (gNm 4) (wb F) [some (.tup ks),some (.ref p),some (.int bs.length),some (Zam who),none] H=some (if (W ks rss j (bs++[true])==who)=true then .rt (Zam who) else .nx,[some (.tup ks),some (.ref p),some (.int bs.length),some (Zam who),some (.bl true)],H2):=by
       unfold Zfb
       rw[it]
       simp only[Zb]
       rw[Zhk,if_pos Zi0]
       simp only[gNm,Wfm,Zb]
       rw[st _ _ _ _ o1]
       simp only[Zb,Wao,if_false]
       rw[Zhk,if_pos Zi0]
       simp only[gNm,Wfm,Zb]
       rw[st _ _ _ _ o2]
       cases (W ks rss j (bs++[true])==who) with
       | true=>rfl
       | false =>
        simp only[Zb,Wao,if_false]
        rw[Zhk,if_pos Zi0]
      refine⟨H2,?_,x1.trans x2⟩
      cases w2:(W ks rss j (bs++[true])==who) with
      | true =>
       rw[w2,if_pos rfl] at lp
       rw[Zlt lp,Wd,w1,w2]
       rfl
      | false =>
       rw[w2,if_neg (by simp)] at lp
       have eo:Zak 1 Zbr (Zab (Zac 3) Zaf) [some (.tup ks),some (.ref p),some (.int bs.length),some (Zam who),some (.bl true)] H2=some (Zam (!who),H2):=ca (ac (vr rfl) an) rfl (Zsp who H2)
       rw[Zco lp,Zlt (rt eo),Wd,w1,w2]
       rfl
theorem Zug {ks:List D} {rss:List (List Int)} {bs:List Bool} {j:Nat} (hk:∀ d∈ks,Zcx d) (hu:∀ ls∈rss,Up ks.length 0 ls) (hl:rss.length<=1000) (h8:ks.length<=8) (hj:bs.length+j=ks.length) (H:HD) :
  ∃ H',Zgs [.tup [.tup ks,.tup (rss.map Zaz)],.tup (bs.map .bl)] H=some (Zam (W ks rss j bs),H')/\Fz H H':=by
 obtain⟨kvs,H1,q,fz,e1,g1,d1,x1⟩:=Zlb (bs:=bs) hu hl H
 obtain⟨H2,e2,x2⟩:=Zxn hk hu hl j 10 bs kvs q fz H1 (by omega) hj g1 d1
 refine⟨H2,?_,x1.trans x2⟩
 have at0:atI [D.tup ks,D.tup (rss.map Zaz)] 0=some (.tup ks):=Zbn (j:=0) rfl
 have at1:atI [D.tup ks,D.tup (rss.map Zaz)] 1=some (.tup (rss.map Zaz)):=Zbn (j:=1) rfl
 show ((Zhz [some (.tup [.tup ks,.tup (rss.map Zaz)]),some (.tup (bs.map .bl))] H).bind _)=_
 unfold Zhz
 have e2':Zcu [.tup ks,.ref q,.int bs.length] H1=some (Zam (W ks rss j bs),H2):=e2
 have ec:Zak 3 Zcu (Zab (eOp ixD (Zac 0) (eC (.int 0))) (Zab (Zak 2 Zb2 (Zab (eOp ixD (Zac 0) (eC (.int 1))) (Zab (Zac 1) Zaf))) (Zab (eCB Zcz (Zab (Zac 1) Zaf)) Zaf))) [some (.tup [.tup ks,.tup (rss.map Zaz)]),some (.tup (bs.map .bl))] H=some (Zam (W ks rss j bs),H2) :=
  ca (ac (op (vr rfl) rfl (ixT at0)) (ac (ca (ac (op (vr rfl) rfl (ixT at1)) (ac (vr rfl) an)) rfl e1) (ac (cb (ac (vr rfl) an) (lenB bs _)) an))) rfl e2'
 rw[Zlt (rt ec)]
 rfl
end K08
namespace K08
open PySem L2 DL LH WP
theorem at0 (a b:D):atI [a,b] 0=some a:=Zbn (j:=0) rfl
theorem at1 (a b:D):atI [a,b] 1=some b:=Zbn (j:=1) rfl
theorem Fz.fm {H H':HD} (x:Fz H H'):Fm [] H H':=⟨fun m o _ h=>x.old m o h,x.len⟩
structure Cl (ks:List D) (rss:List (List Int)):Prop where
 hk:∀ d∈ks,Zcx d
 hu:∀ ls∈rss,Up ks.length 0 ls
 hl:rss.length<=1000
 h8:ks.length<=8
nonrec def Zan (ks:List D) (rss:List (List Int)):D:=.tup [.tup ks,.tup (rss.map Zaz)]
variable {H:HD} {Q:D->HD->Prop}
theorem w_cl0 {ks:List D} {rss:List (List Int)} (q:Q (.tup ks) H):wE (ixD (Zan ks rss) (.int 0) H) Q:=⟨_,_,ixT (at0 _ _),q⟩
theorem w_cl1 {ks:List D} {rss:List (List Int)} (q:Q (.tup (rss.map Zaz)) H):wE (ixD (Zan ks rss) (.int 1) H) Q:=⟨_,_,ixT (at1 _ _),q⟩
nonrec def FW (ks:List D) (rss:List (List Int)) (bs:List Bool):D:=Zam (W ks rss (ks.length - bs.length) bs)
theorem Yg1 {bs:List Bool} {H:HD} {Q:D->HD->Prop} (q:Q (.int bs.length) H):wE (Zcz [Zar bs] H) Q:=⟨_,_,lenB bs H,q⟩
theorem Ygc {bs:List Bool} {t:Bool} {H:HD} {Q:D->HD->Prop} (h:bs.length<=1000) (q:Q (Zar (bs++[t])) H):wE (Zcq (Zar bs) (.tup [.bl t]) H) Q :=
 ⟨Zar (bs++[t]),H,by unfold Zar; rw[adT (by simp; omega),Wap]; rfl,q⟩
theorem Zfz {ks:List D} (hk:∀ d∈ks,Zcx d) {i:Nat} (h:i<ks.length):ks[i]? = some (Zam (kS (ks.getD i .non))):=by
 have e0:ks.getD i .non=ks[i]:=by simp[List.getD,h]
 have:=Zo9 (hk ks[i] (Wac h))
 rw[Xm h,e0]
 exact congrArg some this
theorem Zcl {a b:Bool} (q:Q (.bl (a==b)) H):wE (eqD (Zam a) (Zam b) H) Q:=⟨_,_,Zwi _ _ _,q⟩
theorem Zsf {ks:List D} {rss:List (List Int)} {bs:List Bool} {t:Bool} {kvs:List (D×D)} {p:Nat} {fz:Bool} (c:Cl ks rss) (g:H[p]? = some (.dic kvs fz)) (dr:DR rss bs kvs)
  (q:∀ kvs' r H',H'[r]? = some (.dic kvs' false)->DR rss (bs++[t]) kvs'->Fm [] H H'->Q (.ref r) H'):wE (Za9 [.ref p,.int ((bs.length:Int)+1),.bl t] H) Q:=by
 obtain⟨kvs',H',r,e,g',d',x⟩:=Zku (t:=t) c.hu c.hl g dr
 exact⟨_,_,e,q kvs' r H' g' d' x.fm⟩
theorem Yde {ks:List D} {rss:List (List Int)} (c:Cl ks rss) (q:∀ kvs r H',H'[r]? = some (.dic kvs false)->DR rss [] kvs->Fm [] H H'->Q (.ref r) H'):wE (Zbp [.tup (rss.map Zaz)] H) Q:=by
 obtain⟨kvs',H',r,e,g',d',x⟩:=Zr1 c.hu c.hl H
 exact⟨_,_,e,q kvs' r H' g' d' x.fm⟩
local macro_rules | `(tactic| fail $s:str)=>do
 if s.getString == "g" then `(tactic| (repeat fail "go")) else if s.getString == "i" then `(tactic| ((repeat fail "go"); (refine WP.w_if ?_; (repeat fail "go")))) else Lean.Macro.throwUnsupported
local macro_rules | `(tactic| fail $s:str)=>do
 if s.getString == "lk" then `(tactic| first | assumption | with_reducible exact WP.last | (with_reducible refine WP.appL ?_; fail "lk"))
 else if s.getString == "go" then do
  let a0 <- `(by with_unfolding_all rfl)
  let a1 <- `(?_)
  let a2 <- `(by first | (simp; done) | (simp; omega) | omega)
  let a3 <- `(by decide)
  let a4 <- `(by with_unfolding_all first | exact(rfl:_=true) | exact(rfl:_=false))
  let a5 <- `(by fail "lk")
  let a6 <- `(by with_unfolding_all exact rfl)
  let t<-([`WP.w_var].map (·,[a0,a1])++[`WP.w_c,`WP.w_seq,`WP.w_kn,`WP.w_set,`WP.w_op,`WP.w_acons,`WP.w_anil,`WP.w_call,`WP.w_cb,`WP.w_tof,`WP.w_bl,`WP.w_bt,`WP.w_bf,`WP.w_bnt,`WP.w_bnf,`WP.w_ret,`WP.w_fr,`WP.w_kr,`WP.w_snil,`WP.w_expr,`WP.w_for,`WP.w_or,`WP.w_an,`WP.w_no,`WP.w_ttru,`WP.w_eif,`WP.w_eno,`WP.w_ean,`WP.w_eorr,`WP.w_un,`WP.w_ch,`WP.w_int,`WP.w_tup,`WP.w_lst,`WP.w_lm,`WP.w_tm,`WP.w_dm,`WP.w_dn,`WP.w_on,`WP.w_os,`WP.w_sl,`WP.w_rv,`WP.w_lc,`WP.w_asg,`WP.w_gnm,`WP.w_gsb,`WP.w_gcn,`WP.w_gnl].map (·,[a1])++[`WP.w_n,`WP.w_gtp,`WP.w_ixT,`WP.w_isN,`WP.w_isnN,`WP.w_isBl,`WP.w_isnBl].map (·,[a0,a1])++[`WP.w_sz,`WP.w_addT].map (·,[a2,a1])++[`WP.w_mod].map (·,[a3,a1])++[`WP.w_fdiv,`WP.w_mulL,`WP.w_mulR].map (·,[a3,a3,a1])++[`WP.w_eqI',`WP.w_neI',`WP.w_eqS',`WP.w_neS'].map (·,[a4,a1])++[`WP.w_lenR,`WP.w_tupR,`WP.w_itR].map (·,[a5,a1])++[`WP.w_ixR].map (·,[a5,a0,a1])++[`WP.w_isi'].map (·,[a0,a0,a4,a1])++[`WP.w_addI,`WP.w_subI,`WP.w_lt,`WP.w_le,`WP.w_gt,`WP.w_ge,`WP.w_slhi,`WP.w_sllo,`WP.w_sllo1,`WP.w_neg,`WP.w_eqI,`WP.w_neI,`WP.w_eqS,`WP.w_neS,`WP.w_lenT,`WP.w_lenF,`WP.w_abs,`WP.w_intI,`WP.w_intB,`WP.w_max,`WP.w_min,`WP.w_truB,`WP.w_truT,`WP.w_truN,`WP.w_isq,`WP.w_itT,`WP.w_itF,`WP.w_ir1,`WP.w_ir2,`WP.w_ir3,`WP.w_idic,`WP.w_enum,`WP.w_enum1,`WP.w_zip,`WP.w_yes,`WP.w_retn,`WP.w_fn,`WP.w_agn,`WP.w_agr,`WP.w_kb,`WP.w_kc,`WP.w_agb,`WP.w_agc,`WP.w_brk,`WP.w_cnt].map (·,[a1])++[`WP.w_bT,`WP.w_bF].map (·,[a6,a1]):List (Lean.Name×List Lean.Term)).foldrM (fun p (r:Lean.TSyntax `tactic) => `(tactic| first | with_reducible refine $(Lean.Syntax.mkApp (Lean.mkIdent p.1) p.2.toArray) | $r:tactic)) (<- `(tactic| fail "no"))
  return t
 else Lean.Macro.throwUnsupported
local macro_rules | `(tactic| fail $s:str)=>do
 if s.getString == "go" then `(tactic| first | with_reducible refine Yg1 ?_ | with_reducible refine Ygc (by omega) ?_ | with_reducible refine w_cl0 ?_ | with_reducible refine w_cl1 ?_)
 else Lean.Macro.throwUnsupported
variable {H:HD} {Q:D->HD->Prop}
nonrec def Zi7 (ks:List D) (ls:List Int):Bool:=ls.all fun l => !kS (ks.getD (Zau l - 1).toNat .non)
theorem Zs1 {ks:List D} {b:Int} {ls:List Int} (h:Zi7 ks ls=true):Zi7 ks (Zfx b ls)=true:=by
 cases ls with
 | nil=>exact h
 | cons l r =>
  show Zi7 ks (if Zau l=b+1 then r else l::r)=true
  split
  ·unfold Zi7 at h ⊢; rw[Wdd,Wai] at h; exact h.2
  ·exact h
theorem Ybz {ks:List D} {rss:List (List Int)} {ls:List Int} (hl:ls∈rss) (hu:Up ks.length 0 ls):∀ (j:Nat) (bs:List Bool),bs.length+j=ks.length->kept bs ls=false->Zi7 ks (rest bs ls)=true->W ks rss j bs=false
 | 0,bs,hb,hk,ha=>Zzx hl hu 0 bs ⟨hk,Zrf bs (by omega) ls 0 hu⟩
 | j+1,bs,hb,hk,ha=>by
  have nx:=fun t=>Zhl bs t ls 0 (Wcv _) hu
  have go:∀ t,Zk9 bs.length t (rest bs ls)=false->W ks rss j (bs++[t])=false:=fun t ht =>
   Ybz hl hu j (bs++[t]) (by simp; omega) (by rw[(nx t).2,hk,ht]; rfl) (by rw[(nx t).1]; exact Zs1 ha)
  unfold W
  cases hw:kS (ks.getD bs.length .non) with
  | false =>
   have:∃ t,Zk9 bs.length t (rest bs ls)=false:=by
    cases rest bs ls with
    | nil=>exact⟨false,rfl⟩
    | cons l r =>
     refine⟨!decide (0<l),?_⟩
     show (decide (Zau l=(bs.length:Int)+1)&&((!decide (0<l))==decide (0<l)))=false
     cases decide (0<l)<;>cases decide (Zau l=(bs.length:Int)+1)<;>rfl
   obtain⟨t,ht⟩:=this
   have:=go t ht
   cases t
   ·simp[this]
   ·simp[this]
  | true =>
   have nh:∀ t,Zk9 bs.length t (rest bs ls)=false:=by
    intro t
    cases e:rest bs ls with
    | nil=>rfl
    | cons l r =>
     unfold Zk9
     rw[e] at ha
     unfold Zi7 at ha
     rw[Wdd,Wai] at ha
     have:¬ Zau l=(bs.length:Int)+1:=fun z=>by
      have h2:(Zau l - 1).toNat=bs.length:=by omega
      rw[h2,hw] at ha
      cases ha.1
     simp[this]
   simp[go _ (nh false),go _ (nh true)]
inductive PlanD (ks:List D) (rss:List (List Int)) (side:Bool):List Bool->D->Prop
 | kept {bs:List Bool}:side=true->(∀ ls∈rss,kept bs ls=true)->PlanD ks rss side bs (.tup [.str "kept"])
 | lost {bs:List Bool} {i:Nat} {ls:List Int}:side=false->rss[i]? = some ls->K08.kept bs ls=false->Zi7 ks (rest bs ls)=true->PlanD ks rss side bs (.tup [.str "lost",.int i])
 | pick {bs:List Bool} {t:Bool} {x:D}:bs.length<ks.length->kS (ks.getD bs.length .non)=side->PlanD ks rss side (bs++[t]) x->PlanD ks rss side bs (.tup [.str "pick",.bl t,x])
 | each {bs:List Bool} {x y:D}:bs.length<ks.length->kS (ks.getD bs.length .non) = !side->PlanD ks rss side (bs++[false]) x->PlanD ks rss side (bs++[true]) y->PlanD ks rss side bs (.tup [.str "each",x,y])
theorem w_all {p:Nat} {bs:List Bool} (g:H[p]? = some (.lst (bs.map .bl))) (q:Q (.bl (bs.all id)) H):wE (Yaw [.ref p] H) Q:=⟨_,_,Yaz g,q⟩
theorem Yd6 {ks:List D} {ls:List Int} (hk:∀ d∈ks,Zcx d) (h:∀ l∈ls,0<Zau l/\Zau l<=ks.length) (hl:ls.length<=1000) (q:∀ H',Fm [] H H'->Q (.bl (Zi7 ks ls)) H'):wE (Zfw [.tup ks,Zaz ls] H) Q:=by
 refine Za7 rfl ?_
 show wS (Zdi [some (.tup ks),some (Zaz ls)] H) _
 unfold Zdi Zaz
 fail "g"
 refine Zrm (fun d=>match d with | .int l=>.bl (!kS (ks.getD (Zau l - 1).toNat .non)) | _=>.non) (fun H'=>H'=H) (fun _ _=>Zg4) _ (fun x hx H1 j=>?_) _ rfl fun H1 j=>?_
 ·obtain⟨l,hl,rfl⟩:=Xz.mp hx
  have:=h l hl
  subst j
  fail "g"
  refine w_ixT (Zh0 (by omega) (Zfz hk (by omega))) ?_
  fail "g"
  refine Zcl (b:=false) ?_
  exact⟨by simp,rfl⟩
 ·subst j
  refine⟨by simp; omega,?_⟩
  fail "g"
  have e:((ls.map D.int).map fun d=>match d with | .int l=>D.bl (!kS (ks.getD (Zau l - 1).toNat .non)) | _=>.non)=(ls.map fun l => !kS (ks.getD (Zau l - 1).toNat .non)).map .bl:=by
   rw[Wat,Wat]; rfl
  rw[e]
  refine w_all last ?_
  fail "g"
  have:=q (H1++[.lst ((ls.map fun l => !kS (ks.getD (Zau l - 1).toNat .non)).map .bl)]) (Fm.app _)
  rw[List.all_map]
  exact this
theorem Ya4 {m:Int}:∀ (ls:List Int) (last:Int),Up m last ls->ls.length<=(m - last).toNat
 | [],_,_=>Wbd _
 | x::r,last,u=>by
  obtain⟨u1,u2,u3⟩:=u
  have:=Ya4 r _ u3
  simp only[Wbc]
  omega
theorem Ya5 {m:Int}:∀ (ls:List Int) (last:Int),0<=last->Up m last ls->∀ l∈ls,last<Zau l/\Zau l<=m
 | [],_,_,_,_,h=>by cases h
 | l::r,last,h0,u,x,h=>by
  obtain⟨u1,u2,u3⟩:=u
  rcases Xi.mp h with rfl | h
  ·exact⟨u1,u2⟩
  ·have:=Ya5 r (Zau l) (by omega) u3 x h; omega
theorem Zr4 {bs:List Bool} {ls:List Int} {l:Int} (h:l∈rest bs ls):l∈ls:=(Wag.mp h).1
theorem Zvy {ks:List D} {rss:List (List Int)} {bs:List Bool} {kvs:List (D×D)} {p:Nat} {fz:Bool} (c:Cl ks rss) (g:H[p]? = some (.dic kvs fz)) (dr:DR rss bs kvs)
  (q1:∀ (i:Nat) (ls:List Int) H',Fm [] H H'->rss[i]? = some ls->kept bs ls=false->Zi7 ks (rest bs ls)=true->Q (.int i) H') (q2:∀ H',Fm [] H H'->(∀ ls∈rss,kept bs ls=false->Zi7 ks (rest bs ls)=false)->Q .non H') :
  wE (Zdq [.tup ks,.ref p] H) Q:=by
 refine Za7 rfl ?_
 show wS (Zbz [some (.tup ks),some (.ref p),none] H) _
 unfold Zbz
 fail "g"
 refine⟨p,kvs,fz,rfl,g,?_⟩
 have lt:=(Xc.mp g).1
 have x0:Fm [] H (H.set p (.dic kvs true)):=⟨fun m o _ h=>by
  by_cases e:p=m
  ·subst e
   rw[g] at h; cases h
   cases fz
   ·exact .inr ⟨kvs,rfl,Zlm g⟩
   ·exact .inl (Zlm g)
  ·exact .inl (Zud e h),by simp⟩
 refine Zcn (fun d t σ H'=>d++t=kvs.map (·.1)/\(∀ ls,Zaz ls∈d->Zi7 ks ls=false)/\Fm [] H H'/\H'[p]? = some (.dic kvs true)/\∃ b,σ=[some (.tup ks),some (.ref p),b]) (fun _ _ _ _ j=>Yet j.2.2.2.1) (fun d x t σ H1 ⟨i1,i2,i3,i4,b,i5⟩=>?_) (fun d σ H1 ⟨i1,i2,i3,i4,b,i5⟩=>?_) _ [] _ _ ⟨rfl,by simp,x0,Zlm g,_,rfl⟩
 ·subst i5
  have hm:x∈kvs.map (·.1):=by rw[<- i1]; simp
  obtain⟨y,hy,rfl⟩:=Xz.mp hm
  obtain⟨i,ls,v1,v2,v3⟩:=dr.val y hy
  have hu:=c.hu ls (Xk v1)
  have hb:=Ya5 ls 0 (Wcv _) hu
  have ek:y.1=Zaz (rest bs ls):=by rw[v3]
  rw[ek]
  have ll:(rest bs ls).length<=1000:=by
   refine Waa (Wan _ _) ?_
   have l9:=Ya4 ls 0 hu
   have:=c.h8
   omega
  fail "i"
  refine Yd6 c.hk (fun l hl=>⟨(hb l (Zr4 hl)).1,(hb l (Zr4 hl)).2⟩) ll fun H2 x2=>?_
  refine⟨_,rfl,?_,?_⟩
  ·intro ha
   fail "g"
   obtain⟨v,ev⟩:=Wak.mp (Zp3 hy (k:=rest bs ls) (by rw[ek]; exact Ze2 _))
   obtain⟨z,z1,z2,z3⟩:=Zr8 ev
   obtain⟨i',ls',u1,u2,u3⟩:=dr.val z z1
   have er:rest bs ls'=rest bs ls:=by rw[u3,Ze2] at z2; exact Xx.inj z2
   refine Yav (x2.fr (by simp) i4) (Ze2 _) ev ?_
   fail "g"
   rw[<- z3,u3]
   exact q1 i' ls' H2 (i3.trans x2) u1 u2 (by rw[er]; exact ha)
  ·intro ha
   fail "g"
   refine⟨by rw[<- i1,ek]; simp,fun l hl=>?_,i3.trans x2,x2.fr (by simp) i4,_,rfl⟩
   rcases Xy.mp hl with hl | hl
   ·exact i2 l hl
   ·simp at hl; rw[Yef hl]; exact ha
 ·subst i5
  fail "g"
  refine q2 H1 i3 fun ls hl hk=>?_
  obtain⟨y,hy,ey⟩:=Zkz (dr.all ls hl hk)
  obtain⟨i',ls',u1,u2,u3⟩:=dr.val y hy
  have er:rest bs ls'=rest bs ls:=by rw[u3,Ze2] at ey; exact Xx.inj ey
  refine i2 _ ?_
  rw[Wad] at i1
  rw[i1,<- er]
  exact Xz.mpr ⟨y,hy,by rw[u3]⟩
theorem Ydj {b:Bool} (q:Q (Zam (!b)) H):wE (Zbr [Zam b] H) Q:=⟨_,_,Zsp b H,q⟩
theorem Yej {ks:List D} {rss:List (List Int)} (c:Cl ks rss):∀ f:Nat,
  (∀ (j:Nat) (bs:List Bool) (kvs:List (D×D)) (p:Nat) (fz:Bool) (H:HD) (Q:D->HD->Prop),2*j+1<=f->bs.length+j=ks.length->H[p]? = some (.dic kvs fz)->DR rss bs kvs ->
   (∀ t H',PlanD ks rss (W ks rss j bs) bs t->Fm [] H H'->Q (.tup [Zam (W ks rss j bs),t]) H')->wE ((Zee 3 4 3 7 Za2 Zat f).1 [.tup ks,.ref p,.int bs.length] H) Q) /\
  (∀ (j:Nat) (bs:List Bool) (kvs:List (D×D)) (p:Nat) (fz:Bool) (H:HD) (Q:D->HD->Prop),2*(j+1)<=f->bs.length+(j+1)=ks.length->H[p]? = some (.dic kvs fz)->DR rss bs kvs ->
   (∀ t H',PlanD ks rss (W ks rss (j+1) bs) bs t->Fm [] H H'->Q (.tup [Zam (W ks rss (j+1) bs),t]) H')->wE ((Zee 3 4 3 7 Za2 Zat f).2 [.tup ks,.ref p,.int bs.length] H) Q):=by
 intro f
 induction f with
 | zero=>exact⟨fun j _ _ _ _ _ _ h=>by omega,fun j _ _ _ _ _ _ h=>by omega⟩
 | succ f ih =>
  obtain⟨ih1,ih2⟩:=ih
  refine⟨?_,?_⟩
  ·intro j bs kvs p fz H Q hf hj g dr q
   rw[Zee]
   dsimp only
   generalize hF1:(Zee 3 4 3 7 Za2 Zat f).1=F1 at *
   generalize hF2:(Zee 3 4 3 7 Za2 Zat f).2=F2 at *
   refine Za7 rfl ?_
   show wS (Za2 _ _ [some (.tup ks),some (.ref p),some (.int bs.length),none] H) _
   unfold Za2
   fail "i"
   refine Yhv g ?_
   fail "g"
   refine⟨fun h=>?_,fun h=>?_⟩
   ·have e0:kvs=[]:=Wcg.mp (by simp at h; simpa using h)
    subst e0
    have al:∀ ls∈rss,kept bs ls=true:=fun ls h=>by
     cases e:kept bs ls with
     | true=>rfl
     | false=>have:=dr.all ls h e; simp[Zbi] at this
    have ew:=Zsw (ks:=ks) c.hu j bs al
    fail "g"
    have:=q (.tup [.str "kept"]) H (.kept ew al) Fm.refl
    rw[ew] at this; exact this
   ·fail "g"
    refine Zvy c g dr (fun i ls H1 x1 e1 e2 e3=>?_) (fun H1 x1 hn=>?_)
    ·fail "i"
     have ew:=Ybz (Xk e1) (c.hu ls (Xk e1)) j bs hj e2 e3
     have:=q (.tup [.str "lost",.int i]) H1 (.lost ew e1 e2 e3) x1
     rw[ew] at this; exact this
    ·fail "i"
     obtain⟨fz1,g1⟩:=x1.dic (by simp) g
     match j,hj,hf,q with
     | 0,hj,_,_ =>
      exfalso
      have hne:kvs≠[]:=fun z=>by subst z; simp at h
      obtain⟨y,kr,e⟩:=Wec hne
      obtain⟨i,ls,v1,v2,v3⟩:=dr.val y (by rw[e]; simp)
      have:=hn ls (Xk v1) v2
      rw[Zrf bs (m:=ks.length) (by omega) ls 0 (c.hu ls (Xk v1))] at this
      cases this
     | j+1,hj,hf,q =>
      refine ih2 j bs kvs p fz1 H1 _ (by omega) hj g1 dr fun t H2 pt x2=>?_
      fail "g"
      exact q t H2 pt (x1.trans x2)
  ·intro j bs kvs p fz H Q hf hj g dr q
   rw[Zee]
   dsimp only
   generalize hF1:(Zee 3 4 3 7 Za2 Zat f).1=F1 at *
   generalize hF2:(Zee 3 4 3 7 Za2 Zat f).2=F2 at *
   refine Za7 rfl ?_
   show wS (Zat _ _ [some (.tup ks),some (.ref p),some (.int bs.length),none,none,none,none] H) _
   unfold Zat
   have lb:∀ t:Bool,(((bs++[t]).length:Nat):Int)=(bs.length:Int)+1:=fun t=>by simp
   have Wd:W ks rss (j+1) bs=(if W ks rss j (bs++[false])==kS (ks.getD bs.length .non)||W ks rss j (bs++[true])==kS (ks.getD bs.length .non) then kS (ks.getD bs.length .non) else !kS (ks.getD bs.length .non)):=by
    conv=>lhs; unfold W
   fail "g"
   refine w_ixT (Zbn (Zfz c.hk (by omega))) ?_
   fail "g"
   rw[k_TRUTHS]
   fail "g"
   generalize hw:kS (ks.getD bs.length .non)=who at *
   refine Zgi Zg4 ?_
   fail "g"
   refine Zsf c (appL g) dr fun kvs1 r1 H1 g1 d1 x1=>?_
   fail "g"
   rw[<- lb false]
   refine ih1 j (bs++[false]) kvs1 r1 false H1 _ (by omega) (by simp; omega) g1 d1 fun t2 H2 p2 x2=>?_
   have T2:=x2.lst (by simp) (x1.lst (by simp) last)
   fail "i"
   refine Zcl ?_
   fail "g"
   refine⟨fun h=>?_,fun h=>?_⟩
   ·fail "g"
    have ew:W ks rss (j+1) bs=who:=by rw[Wd,h]; rfl
    have e2:W ks rss j (bs++[false])=who:=by simpa using h
    rw[e2] at p2
    have:=q (.tup [.str "pick",.bl false,t2]) H2 (by rw[ew]; exact .pick (by omega) hw p2) (((Fm.app _).trans x1).trans x2)
    rw[ew] at this; exact this
   ·fail "g"
    refine⟨isl T2,?_⟩
    fail "g"
    refine Zlj T2 (by simp) ?_
    fail "g"
    refine Zgi Zg4 ?_
    fail "g"
    obtain⟨fz3,g3⟩:=(((Fm.app _).trans x1).trans x2).dic (by simp) g
    have nq:H.length≠p:=by have:=(Xc.mp g).1; omega
    refine Zsf c (Zud nq g3) dr fun kvs4 r4 H4 g4 d4 x4=>?_
    fail "g"
    rw[<- lb true]
    refine ih1 j (bs++[true]) kvs4 r4 false H4 _ (by omega) (by simp; omega) g4 d4 fun t5 H5 p5 x5=>?_
    have T5:=x5.lst (by simp) (x4.lst (by simp) (Zlm T2))
    have X5:Fm [] H H5:=(((Fm.app (S:=[]) [DO.lst []]).trans x1).trans x2).new (((Fm.set (S:=[H.length]) (by simp)).trans (x4.sub (by simp))).trans (x5.sub (by simp))) (by simp)
    fail "i"
    refine Zcl ?_
    fail "g"
    refine⟨fun h'=>?_,fun h'=>?_⟩
    ·fail "g"
     have ew:W ks rss (j+1) bs=who:=by rw[Wd,h,h']; rfl
     have e2:W ks rss j (bs++[true])=who:=by simpa using h'
     rw[e2] at p5
     have:=q (.tup [.str "pick",.bl true,t5]) H5 (by rw[ew]; exact .pick (by omega) hw p5) X5
     rw[ew] at this; exact this
    ·fail "g"
     refine⟨isl T5,?_⟩
     fail "g"
     refine Zlj T5 (by simp) ?_
     fail "g"
     refine Zn3 Zg4 ?_
     fail "g"
     refine Ydj ?_
     have T6:=Zlm (o:=.lst ([]++[t2]++[t5])) T5
     fail "g"
     have ew:W ks rss (j+1) bs = !who:=by rw[Wd,h,h']; rfl
     have e2:W ks rss j (bs++[false]) = !who:=by cases who<;>cases hh:W ks rss j (bs++[false])<;>simp_all
     have e5:W ks rss j (bs++[true]) = !who:=by cases who<;>cases hh:W ks rss j (bs++[true])<;>simp_all
     rw[e2] at p2
     rw[e5] at p5
     have:=q (.tup [.str "each",t2,t5]) _ (by rw[ew]; exact .each (by omega) (by rw[hw]; simp) p2 p5) (X5.new (Fm.set (p:=H.length) (o:=.lst ([]++[t2]++[t5])) (S:=[H.length]) (by simp)) (by simp))
     rw[ew] at this; exact this
theorem Yfu {ks:List D} {rss:List (List Int)} (c:Cl ks rss) (q:∀ t H',PlanD ks rss (W ks rss ks.length []) [] t->Fm [] H H'->Q (.tup [Zam (W ks rss ks.length []),t]) H'):wE (Zuv [Zan ks rss] H) Q:=by
 have h8:=c.h8
 refine Za7 rfl ?_
 show wS (Zo4 [some (Zan ks rss)] H) _
 unfold Zo4
 fail "g"
 refine Yde c fun kvs r H1 g1 d1 x1=>?_
 fail "g"
 refine(Yej c 22).1 ks.length [] kvs r false H1 _ (by omega) (by simp) g1 d1 fun t H2 pt x2=>?_
 fail "g"
 exact q t H2 pt (x1.trans x2)
theorem Yg6 {t:TF} {f g:SF} {σ:SD} {R:FD->SD->HD->Prop} (B:Bool) (h:wT (t σ H) fun b H'=>H'=H/\b=B) (ht:B=true->wS (f σ H) R) (hf:B=false->wS (g σ H) R):wS (sIf t f g σ H) R:=by
 obtain⟨b,H1,e,rfl,rfl⟩:=h
 exact w_if ⟨_,_,e,ht,hf⟩
theorem w_mix {cell k:Int} (h0:0<=k) (h1:k<=100) (q:∀ r H',0<=r->r<2147483648->Fm [] H H'->Q (.int r) H'):wE (Zko [.int cell,.int k] H) Q:=by
 refine Za7 rfl ?_
 show wS (Zfv [some (.int cell),some (.int k),none,none] H) _
 unfold Zfv
 obtain⟨P,hP,hP2,eP⟩:∃ P:Int,0<P/\P<2147483648/\atI [D.int 2147483647,.int 2147483629,.int 2147483587,.int 2147483579,.int 2147483563,.int 2147483549,.int 2147483543] (k % 7)=some (.int P):=by
  rcases(show k % 7=0\/k % 7=1\/k % 7=2\/k % 7=3\/k % 7=4\/k % 7=5\/k % 7=6 by omega) with h | h | h | h | h | h | h<;>rw[h]
  ·exact⟨2147483647,by omega,by omega,rfl⟩
  ·exact⟨2147483629,by omega,by omega,rfl⟩
  ·exact⟨2147483587,by omega,by omega,rfl⟩
  ·exact⟨2147483579,by omega,by omega,rfl⟩
  ·exact⟨2147483563,by omega,by omega,rfl⟩
  ·exact⟨2147483549,by omega,by omega,rfl⟩
  ·exact⟨2147483543,by omega,by omega,rfl⟩
 fail "g"
 refine w_ixR last eP ?_
 fail "g"
 have c0:=Wbw cell (show (998244353:Int)≠0 by decide)
 have c1:=Wbi cell (show (0:Int)<998244353 by decide)
 generalize cell % 998244353=c at *
 refine w_mulL (by omega) (by omega) ?_
 fail "g"
 refine w_mulL (by omega) (by omega) ?_
 fail "g"
 refine w_mod hP ?_
 have a0:=Wbw ((c+104729*(k+1))*(k*k+7*k+13)) (show P≠0 by omega)
 have a1:=Wbi ((c+104729*(k+1))*(k*k+7*k+13)) hP
 generalize (c+104729*(k+1))*(k*k+7*k+13) % P=a at *
 fail "g"
 refine Yce (by decide) (by decide) (by omega) ?_
 fail "g"
 have b0:=Wbw (a ^ (5:Int).toNat) (show (1000000007:Int)≠0 by decide)
 have b1:=Wbi (a ^ (5:Int).toNat) (show (0:Int)<1000000007 by decide)
 generalize a ^ (5:Int).toNat % 1000000007=b at *
 refine w_mod hP ?_
 have d0:=Wbw (b*48271+31*k+5) (show P≠0 by omega)
 have d1:=Wbi (b*48271+31*k+5) hP
 generalize (b*48271+31*k+5) % P=d at *
 fail "g"
 refine Yce (by decide) (by decide) (by omega) ?_
 fail "g"
 have e0:=Wbw (d ^ (3:Int).toNat) (show (998244353:Int)≠0 by decide)
 have e1:=Wbi (d ^ (3:Int).toNat) (show (0:Int)<998244353 by decide)
 generalize d ^ (3:Int).toNat % 998244353=e at *
 exact q _ _ (by omega) (by omega) (Fm.app _)
def Ybt (ds:List Int):Prop:=∀ d∈ds,0<=d/\d<2147483648
theorem Zjh {cell:Int} {many:Nat} (h1:many<=100) (q:∀ (ds:List Int) p H',ds.length=many->Ybt ds->H'[p]? = some (.lst (ds.map .int))->H.length<=p->Fm [] H H'->Q (.ref p) H'):wE (Zcm [.int cell,.int many] H) Q:=by
 refine Za7 rfl ?_
 show wS (Zdf [some (.int cell),some (.int many),none,none,none,none] H) _
 unfold Zdf
 fail "g"
 refine Yce (by decide) (by decide) (by decide) ?_
 fail "g"
 generalize decide ((10:Int) ^ (18:Int).toNat<=Zau cell)=wide
 refine⟨_,rfl,⟨by omega,by omega⟩,?_⟩
 rw[show ((many:Int)).toNat=many by omega]
 refine Zcn (fun d t σ H'=>d++t=Zbj 0 many/\∃ (ds:List Int) (L:Int) (z5:Option D),ds.length=d.length/\Ybt ds/\H'[H.length]? = some (.lst (ds.map .int))/\Fm [H.length] (H++[.lst []]) H'/\0<=L/\σ=[some (.int cell),some (.int many),some (.ref H.length),some (.int L),some (.bl wide),z5]) (fun _ _ _ _ _=>Zg4) (fun d x t σ H1 ⟨e0,ds,L,z5,e1,e2,e3,x1,hL,e5⟩=>?_) (fun d σ H1 ⟨e0,ds,L,z5,e1,e2,e3,x1,hL,e5⟩=>?_) _ [] _ _ ⟨rfl,[],Zau cell,_,rfl,(by intro d h; cases h),last,Fm.refl,(by unfold Zau; split<;>omega),rfl⟩
 ·subst e5
  have hx:x∈Zbj 0 many:=by rw[<- e0]; simp
  simp only[Zbj,Xz,Wcr] at hx
  obtain⟨i,hi,rfl⟩:=hx
  have hd:d.length<=100:=by
   have:=congrArg Wbn e0
   simp[Zbj] at this
   omega
  fail "g"
  refine Yg6 (wide&&decide (0<L)) ?_ (fun h=>?_) (fun h=>?_)
  ·fail "g"
   cases wide
   ·exact⟨(fun z=>nomatch z),fun _=>⟨rfl,rfl⟩⟩
   ·refine⟨fun _=>?_,(fun z=>nomatch z)⟩
    fail "g"
    exact⟨rfl,by simp⟩
  ·fail "g"
   refine⟨isl e3,?_⟩
   fail "g"
   refine Zlj e3 (by simp; omega) ?_
   fail "g"
   have m0:=Wbw L (show (10007:Int)≠0 by decide)
   have m1:=Wbi L (show (0:Int)<10007 by decide)
   refine⟨by rw[<- e0]; simp,ds++[L % 10007],L / 10007,_,by simp[e1],?_,?_,x1.trans (Fm.set (by simp)),Int.ediv_nonneg hL (by decide),rfl⟩
   ·intro y hy
    rcases Xy.mp hy with h | h
    ·exact e2 y h
    ·simp at h; subst h; exact⟨m0,by omega⟩
   ·rw[Wap]; exact Zlm e3
  ·fail "g"
   refine⟨isl e3,?_⟩
   fail "g"
   refine w_mix (by omega) (by omega) fun r H2 r0 r1 x2=>?_
   fail "g"
   have e3':=x2.lst (by simp) e3
   refine Zlj e3' (by simp; omega) ?_
   fail "g"
   refine⟨by rw[<- e0]; simp,ds++[r],L,_,by simp[e1],?_,?_,(x1.trans (x2.sub (by simp))).trans (Fm.set (by simp)),hL,rfl⟩
   ·intro y hy
    rcases Xy.mp hy with h | h
    ·exact e2 y h
    ·simp at h; subst h; exact⟨r0,r1⟩
   ·rw[Wap]; exact Zlm e3'
 ·subst e5
  have hd:d.length=many:=by
   have:=congrArg Wbn e0
   simpa [Zbj] using this
  fail "g"
  exact q ds _ H1 (by omega) e2 e3 (Xe _) ((Fm.app (S:=[]) _).new x1 (by intro m hm _; simp at hm; omega))
theorem Ze7 {p:Nat} {ds:List Int} {i:Int} (g:H[p]? = some (.lst (ds.map .int))) (hd:Ybt ds) (h0:0<=i) (h1:i<ds.length) (q:∀ r,0<=r->r<2147483648->Q (.int r) H):wE (ixD (.ref p) (.int i) H) Q:=by
 have lt:i.toNat<ds.length:=by omega
 have hm:=hd _ (Wac lt)
 exact w_ixR g (Zh0 h0 (d:=.int ds[i.toNat]) (by rw[Xp,Xm lt]; rfl)) (q _ hm.1 hm.2)
theorem Ybg {r:Int} (h0:0<=r) (h1:r<2):∃ k,Zcx k/\atI [D.str "all",.str "some"] r=some k:=by
 rcases(show r=0\/r=1 by omega) with rfl | rfl
 ·exact⟨_,.inl rfl,rfl⟩
 ·exact⟨_,.inr rfl,rfl⟩
theorem Yg7 {r:Int} (h0:0<=r) (h1:r<2):∃ k,Zcx k/\atI [D.str "some",.str "all"] r=some k:=by
 rcases(show r=0\/r=1 by omega) with rfl | rfl
 ·exact⟨_,.inr rfl,rfl⟩
 ·exact⟨_,.inl rfl,rfl⟩
theorem mod2 (r:Int):0<=r % 2/\r % 2<2:=by omega
theorem Yd4 {p:Nat} {ds:List Int} {many:Nat} (g:H[p]? = some (.lst (ds.map .int))) (hd:Ybt ds) (hl:many+1<=ds.length) (h100:many<=100) (q:∀ ks H',(∀ d∈ks,Zcx d)->ks.length=many->Fm [] H H'->Q (.tup ks) H'):wE (Zg7 [.ref p,.int many] H) Q:=by
 refine Za7 rfl ?_
 show wS (Zd7 [some (.ref p),some (.int many),none,none,none] H) _
 unfold Zd7
 fail "g"
 have hp:p<H.length:=(Xc.mp g).1
 refine⟨_,rfl,⟨by omega,by omega⟩,?_⟩
 rw[show ((many:Int)).toNat=many by omega]
 refine Zcn (fun d t σ H'=>d++t=Zbj 0 many/\∃ (ks:List D) (z3 z4:Option D),ks.length=d.length/\(∀ d∈ks,Zcx d)/\H'[H.length]? = some (.lst ks)/\Fm [H.length] (H++[.lst []]) H'/\σ=[some (.ref p),some (.int many),some (.ref H.length),z3,z4]) (fun _ _ _ _ _=>Zg4) (fun d x t σ H1 ⟨e0,ks,z3,z4,e1,e2,e3,x1,e5⟩=>?_) (fun d σ H1 ⟨e0,ks,z3,z4,e1,e2,e3,x1,e5⟩=>?_) _ [] _ _ ⟨rfl,[],_,_,rfl,(by intro d h; cases h),last,Fm.refl,rfl⟩
 ·subst e5
  have hx:x∈Zbj 0 many:=by rw[<- e0]; simp
  simp only[Zbj,Xz,Wcr] at hx
  obtain⟨i,hi,rfl⟩:=hx
  have hdl:d.length<=100:=by
   have:=congrArg Wbn e0
   simp[Zbj] at this
   omega
  have gp:H1[p]? = some (.lst (ds.map .int)):=x1.lst (by simp; omega) (appL g)
  have Jn:∀ (L:List D) {H2:HD},Fm [H.length] (H++[.lst []]) H2->H2[p]? = some (.lst (ds.map .int))->H2[H.length]? = some (.lst ks)->Fm [H.length] (H++[.lst []]) (H2++[.lst L])/\(H2++[.lst L])[p]? = some (.lst (ds.map .int))/\(H2++[.lst L])[H.length]? = some (.lst ks):=fun L H2 a b c=>⟨a.trans (Fm.app _),appL b,appL c⟩
  refine w_gnm (w_seq ?_)
  refine Zu6 (fun σ H2=>(Fm [H.length] (H++[.lst []]) H2/\H2[p]? = some (.lst (ds.map .int))/\H2[H.length]? = some (.lst ks))/\∃ k,Zcx k/\σ=[some (.ref p),some (.int many),some (.ref H.length),some (.int (0+i)),some k]) ?_ ?_
  ·fail "g"
   refine Ze7 (appL gp) hd (by omega) (by omega) fun r r0 r1=>?_
   fail "g"
   obtain⟨k,hk,ek⟩:=Ybg (mod2 r).1 (mod2 r).2
   refine w_ixR last ek ?_
   exact⟨rfl,Jn _ x1 gp e3,k,hk,rfl⟩
  rintro _ H2 ⟨⟨x2,g2,e4⟩,k,hk,rfl⟩
  refine w_seq (Zu6 (fun σ H2=>(Fm [H.length] (H++[.lst []]) H2/\H2[p]? = some (.lst (ds.map .int))/\H2[H.length]? = some (.lst ks))/\∃ k,Zcx k/\σ=[some (.ref p),some (.int many),some (.ref H.length),some (.int (0+i)),some k]) ?_ ?_)
  ·(refine WP.w_if ?_; fail "g")
   refine Ze7 g2 hd (by omega) (by omega) fun r r0 r1=>?_
   fail "g"
   refine⟨fun h=>?_,fun h=>?_⟩
   ·fail "g"
    refine Ze7 (appL g2) hd (by omega) (by omega) fun r' r0' r1'=>?_
    fail "g"
    obtain⟨k2,hk2,ek2⟩:=Yg7 (mod2 (0+(i:Int)+r')).1 (mod2 _).2
    refine w_ixR last ek2 ?_
    fail "g"
    exact⟨rfl,Jn _ x2 g2 e4,k2,hk2,rfl⟩
   ·fail "g"
    exact⟨rfl,⟨x2,g2,e4⟩,k,hk,rfl⟩
  rintro _ H3 ⟨⟨x3,g3,e6⟩,k,hk,rfl⟩
  refine w_seq (Zu6 (fun σ H2=>(Fm [H.length] (H++[.lst []]) H2/\H2[p]? = some (.lst (ds.map .int))/\H2[H.length]? = some (.lst ks))/\∃ k,Zcx k/\σ=[some (.ref p),some (.int many),some (.ref H.length),some (.int (0+i)),some k]) ?_ ?_)
  ·(refine WP.w_if ?_; fail "g")
   refine Ze7 g3 hd (by omega) (by omega) fun r r0 r1=>?_
   fail "g"
   refine⟨fun h=>?_,fun h=>?_⟩
   ·fail "g"
    refine Ze7 (appL g3) hd (by omega) (by omega) fun r' r0' r1'=>?_
    fail "g"
    obtain⟨k2,hk2,ek2⟩:=Ybg (r:=if decide (0<r' % 3)=true then 1 else 0) (by split<;>omega) (by split<;>omega)
    refine w_ixR last ek2 ?_
    fail "g"
    exact⟨rfl,Jn _ x3 g3 e6,k2,hk2,rfl⟩
   ·fail "g"
    exact⟨rfl,⟨x3,g3,e6⟩,k,hk,rfl⟩
  rintro _ H4 ⟨⟨x4,g4,e7⟩,k,hk,rfl⟩
  fail "g"
  refine⟨isl e7,?_⟩
  fail "g"
  refine Zlj e7 (by omega) ?_
  fail "g"
  refine⟨by rw[<- e0]; simp,ks++[k],_,_,by simp[e1],?_,Zlm e7,x4.trans (Fm.set (by simp)),rfl⟩
  intro y hy
  rcases Xy.mp hy with h | h
  ·exact e2 y h
  ·simp at h; subst h; exact hk
 ·subst e5
  have hdl:d.length=many:=by
   have:=congrArg Wbn e0
   simpa [Zbj] using this
  fail "g"
  exact q ks H1 e2 (by omega) ((Fm.app (S:=[]) _).new x1 (by intro m hm _; simp at hm; omega))
theorem Zyh {m:Int}:∀ (ls:List Int) (last l:Int),Up m last ls->(∀ x∈ls,Zau x<Zau l)->last<Zau l->Zau l<=m->Up m last (ls++[l])
 | [],last,l,_,_,h1,h2=>⟨h1,h2,trivial⟩
 | x::r,last,l,u,h,h1,h2=>by
  obtain⟨u1,u2,u3⟩:=u
  exact⟨u1,u2,Zyh r (Zau x) l u3 (fun y hy=>h y (by simp[hy])) (h x (by simp)) h2⟩
theorem Zoq (lo:Int) (m:Nat):Zbj lo (m+1)=.int lo::Zbj (lo+1) m:=by
 unfold Zbj
 rw[Wet,Xn,Wat]
 have e0:D.int (lo+((0:Nat):Int))=.int lo:=by simp
 rw[e0]
 refine congrArg (Wbo _) (Wcw fun a _=>?_)
 show D.int _=D.int _
 congr 1
 omega
theorem Ycp {cell:Int} {M:Nat} {wide:Int} (hM:M<=8) (q:∀ ls H',Up M 0 ls->Fm [] H H'->Q (Zaz ls) H'):wE (Zkh [.int cell,.int M,.int wide] H) Q:=by
 refine Za7 rfl ?_
 show wS (Zfy [some (.int cell),some (.int M),some (.int wide),none,none,none] H) _
 unfold Zfy
 fail "g"
 rw[show (M:Int)+1=((M+1:Nat):Int) by omega]
 refine Zjh (by omega) fun ds p H1 l1 d1 g1 n1 x1=>?_
 fail "g"
 refine⟨_,rfl,⟨by omega,by omega⟩,?_⟩
 rw[Wah]
 refine Zcn (fun d t σ H'=>∃ ls:List Int,t=Zbj (d.length:Int) (M - d.length)/\H'[p]? = some (.lst (ds.map .int))/\H'[H1.length]? = some (.lst (ls.map .int))/\ls.length<=d.length/\d.length<=M/\Up M 0 ls/\(∀ x∈ls,Zau x<=d.length)/\Fm [] H H'/\∃ z,σ=[some (.int cell),some (.int M),some (.int wide),some (.ref p),some (.ref H1.length),z]) (fun _ _ _ _ _=>Zg4) (fun d x t σ H2 ⟨ls,i1,i2,i3,i4,i5,i6,i7,i8,z,i9⟩=>?_) (fun d σ H2 ⟨ls,i1,i2,i3,i4,i5,i6,i7,i8,z,i9⟩=>?_) _ [] _ _ ⟨[],by simp,appL g1,last,by simp,by simp,trivial,by simp,x1.trans (Fm.app _),none,rfl⟩
 ·subst i9
  obtain⟨k,hk⟩:∃ k,M - d.length=k+1:=by
   cases h:M - d.length with
   | zero=>rw[h] at i1; simp[Zbj] at i1
   | succ k=>exact⟨k,rfl⟩
  rw[hk,Zoq] at i1
  obtain⟨rfl,rfl⟩:=Wbo.inj i1
  have tl:Zbj ((d.length:Int)+1) k=Zbj (((d++[D.int (d.length:Int)]).length:Nat):Int) (M - (d++[D.int (d.length:Int)]).length):=by
   simp only[Xq,Wbc,Wcm]
   congr 1
   omega
  fail "i"
  refine Ze7 i2 d1 (by omega) (by omega) fun r r0 r1=>?_
  fail "g"
  refine w_mod (by omega) ?_
  fail "g"
  refine Ze7 i2 d1 (by omega) (by omega) fun r' r0' r1'=>?_
  fail "g"
  refine⟨fun h=>?_,fun h=>?_⟩
  ·fail "g"
   refine⟨isl i3,?_⟩
   fail "g"
   refine Ze7 (appL i2) d1 (by omega) (by omega) fun r2 r20 r21=>?_
   fail "g"
   refine w_fdiv (by omega) (by omega) ?_
   fail "g"
   have m2:r2 / ((M:Int)+1) % 2=0\/r2 / ((M:Int)+1) % 2=1:=by omega
   obtain⟨l,hl,el⟩:∃ l:Int,Zau l=(d.length:Int)+1/\atI [D.int ((d.length:Int)+1),.int (0 - (d.length:Int) - 1)] (r2 / ((M:Int)+1) % 2)=some (.int l):=by
    rcases m2 with z | z<;>rw[z]
    ·exact⟨_,by unfold Zau; split<;>omega,rfl⟩
    ·exact⟨_,by unfold Zau; split<;>omega,rfl⟩
   refine w_ixR last el ?_
   fail "g"
   refine Zlj (appL i3) (by simp; omega) ?_
   fail "g"
   have np:H1.length≠p:=by have:=(Xc.mp g1).1; omega
   refine⟨ls++[l],tl,Zud np (appL i2),by rw[Zlm (appL i3)]; simp,by simp; omega,by simp; omega,Zyh ls 0 l i6 (fun x hx=>by have:=i7 x hx; omega) (by omega) (by omega),fun x hx=>?_,?_,_,rfl⟩
   ·rcases Xy.mp hx with z | z
    ·have:=i7 x z; simp; omega
    ·simp at z; subst z; simp; omega
   ·exact(i8.trans (Fm.app _)).new (Fm.set (S:=[H1.length]) (by simp)) (fun q hq _=>by simp at hq; subst hq; exact x1.len)
  ·fail "g"
   exact⟨ls,tl,i2,i3,by simp; omega,by simp; omega,i6,fun x hx=>by have:=i7 x hx; simp; omega,i8,_,rfl⟩
 ·subst i9
  fail "g"
  exact q ls H2 i6 i8
section
variable {s:Bool}
nonrec def Zib (s:Bool) (ks:List D) (x:Int):Bool:=kS (ks.getD ((Zau x).toNat - 1) .non)==s
nonrec def Zbo (s:Bool) (ks:List D):List Int->List Int
 | []=>[]
 | l::r=>if (l::r).all (Zib s ks)=true then [] else l::Zbo s ks r
theorem Zvu (ks:List D):∀ b:List Int,(∀ x∈b,Zib s ks x=true)->Zbo s ks b=[]
 | [],_=>rfl
 | x::r,h=>by rw[Zbo,if_pos (Xu.mpr h)]
theorem Zk6 (ks:List D):∀ (a b:List Int),(∀ x∈b,Zib s ks x=true)->(∀ x,a.getLast? = some x->Zib s ks x=false)->Zbo s ks (a++b)=a
 | [],b,hb,_=>Zvu ks b hb
 | l::a,b,hb,ha=>by
  have hx:=ha _ Weg
  have hm:a.getLast?.getD l∈l::a:=Wdt (Weg (a:=l) (l:=a))
  have hn:¬ ((l::(a++b)).all (Zib s ks)=true):=fun z=>by
   have:=Xu.mp z _ (by rw[<- Wdq]; exact Wax _ hm)
   rw[hx] at this; cases this
  rw[Wdq,Zbo,if_neg hn,Zk6 ks a b hb fun x h=>ha x (by rw[Weg,h]; rfl)]
theorem Zhu (ks:List D):∀ a:List Int,(Zbo s ks a).Sublist a
 | []=>.slnil
 | l::r=>by
  rw[Zbo]
  split
  ·exact List.nil_sublist _
  ·exact(Zhu ks r).cons₂ l
structure R (M:Nat) (ls:List Int):Prop where
 nd:(ls.map Zau).Nodup
 rg:∀ x∈ls,1<=Zau x/\Zau x<=M
theorem R.sub {M:Nat} {a b:List Int} (h:R M b) (s:a.Sublist b):R M a:=⟨(s.map Zau).nodup h.nd,fun x hx=>h.rg x (s.subset hx)⟩
theorem R.perm {M:Nat} {a b:List Int} (h:R M b) (s:a.Perm b):R M a:=⟨(s.map Zau).nodup_iff.mpr h.nd,fun x hx=>h.rg x (s.mem_iff.mp hx)⟩
theorem Ya2:∀ (M:Nat) (l:List Int),l.Nodup->(∀ x∈l,1<=x/\x<=(M:Int))->l.length<=M
 | 0,[],_,_=>Xe _
 | 0,x::r,_,h=>by have:=h x (by simp); omega
 | M+1,l,nd,h=>by
  have:=Ya2 M (l.erase ((M:Int)+1)) (nd.erase _) fun x hx=>by
   have h1:=h x (List.mem_of_mem_erase hx)
   have h2:x≠(M:Int)+1:=fun z=>by subst z; exact(List.Nodup.not_mem_erase nd) hx
   omega
  have h3:=List.length_erase (a:=(M:Int)+1) (l:=l)
  split at h3<;>omega
theorem R.len {M:Nat} {ls:List Int} (h:R M ls):ls.length<=M:=by
 have:=Ya2 M (ls.map Zau) h.nd fun x hx=>by
  obtain⟨y,hy,rfl⟩:=Xz.mp hx
  exact h.rg y hy
 simpa using this
theorem R.inj {M:Nat} {ls:List Int} (h:R M ls) {x y:Int} (hx:x∈ls) (hy:y∈ls) (e:Zau x=Zau y):x=y:=by
 obtain⟨i,hi,rfl⟩:=Wdu.mp hx
 obtain⟨j,hj,rfl⟩:=Wdu.mp hy
 have:=(Wgg (xs:=ls.map Zau) (i:=i) (j:=j) (h₀:=by simpa using hi) (h₁:=by simpa using hj) h.nd).mp (by simpa using e)
 subst this; rfl
theorem Zk8 {M:Nat}:∀ {ls:List Int} {last:Int},0<=last->Up M last ls->R M ls/\∀ x∈ls,last<Zau x
 | [],_,_,_=>⟨⟨.nil,by simp⟩,by simp⟩
 | l::r,last,h0,u=>by
  obtain⟨u1,u2,u3⟩:=u
  obtain⟨h1,h2⟩:=Zk8 (by omega) u3
  refine⟨⟨?_,fun x hx=>?_⟩,fun x hx=>?_⟩
  ·rw[Xn,Wbg]
   refine⟨fun z=>?_,h1.nd⟩
   obtain⟨y,hy,e⟩:=Xz.mp z
   have:=h2 y hy
   omega
  ·rcases Xi.mp hx with rfl | hx
   ·omega
   ·exact h1.rg x hx
  ·rcases Xi.mp hx with rfl | hx
   ·exact u1
   ·have:=h2 x hx; omega
theorem Znp (x:Int):Zau (-x)=Zau x:=by unfold Zau; split<;>split<;>omega
theorem Zxk {x y:Int} (h:Zau x=Zau y):x=y\/x = -y:=by unfold Zau at h; split at h<;>split at h<;>omega
nonrec def Zlh (a b:List Int) (n:Int):Option (List Int) :=
 if n∉a \/ -n∉b then none
 else if (b.filter fun x=>decide (x ≠ -n)).any (fun x=>decide (-x∈a.filter fun x=>decide (x≠n)))=true then none
 else some (Zd0 ((a.filter fun x=>decide (x≠n))++(b.filter fun x=>decide (x ≠ -n)).filter fun x=>decide (x∉a.filter fun x=>decide (x≠n))))
theorem R.join0 {M:Nat} {a b:List Int} (ha:R M a) (hb:R M b) (h:b.any (fun x=>decide (-x∈a))=false):R M (a++b.filter fun x=>decide (x∉a)):=by
 have hb':=hb.sub (Wbl (p:=fun x=>decide (x∉a)) (l:=b))
 refine⟨?_,fun x hx=>?_⟩
 ·rw[Wap,Wbf]
  refine⟨ha.nd,hb'.nd,fun x hx y hy e=>?_⟩
  obtain⟨u,hu,rfl⟩:=Xz.mp hx
  obtain⟨v,hv,rfl⟩:=Xz.mp hy
  obtain⟨hv1,hv2⟩:=Wag.mp hv
  rcases Zxk e with z | z
  ·rw[z] at hu
   exact(of_decide_eq_true hv2) hu
  ·have:=Wbu.mp h v hv1
   rw[z] at hu
   exact this (decide_eq_true hu)
 ·rcases Xy.mp hx with z | z
  ·exact ha.rg x z
  ·exact hb'.rg x z
theorem Zrx:∀ l:List Int,l.Pairwise (· <= ·)->l.Nodup->l.Pairwise (· < ·)
 | [],_,_=>.nil
 | x::r,p,nd=>by
  rw[Wee] at p ⊢
  rw[Wbg] at nd
  refine⟨fun y hy=>?_,Zrx r p.2 nd.2⟩
  have:=p.1 y hy
  have:x≠y:=fun z=>nd.1 (z ▸ hy)
  omega
theorem Zm7 {M:Nat} {fs:List Int} (h:R M fs):Up M 0 (Zd0 fs):=by
 have h2:=h.perm (Zcp fs)
 refine Yfa _ 0 (Zrx _ ?_ h2.nd) fun x hx=>?_
 ·have:=Zrd fs
  rw[Wen]
  exact this
 ·obtain⟨y,hy,rfl⟩:=Xz.mp hx
  have:=h2.rg y hy
  omega
theorem Zc6 (ks:List D):∀ ls:List Int,∃ tl,ls=Zbo s ks ls++tl/\∀ x∈tl,Zib s ks x=true
 | []=>⟨[],rfl,by simp⟩
 | l::r=>by
  rw[Zbo]
  split
  ·rename_i h; exact⟨l::r,rfl,Xu.mp h⟩
  ·obtain⟨tl,e,h⟩:=Zc6 ks r
   exact⟨tl,by rw[Wdq,<- e],h⟩
theorem Zsb {m:Int}:∀ {a b:List Int} {last:Int},Up m last (a++b)->Up m last a
 | [],_,_,_=>trivial
 | x::a,b,last,h=>⟨h.1,h.2.1,Zsb h.2.2⟩
theorem Yhn {m:Int}:∀ {a:List Int} {last:Int},Up m last a->∀ x∈a,last<Zau x
 | [],_,_,x,hx=>by cases hx
 | y::a,last,h,x,hx=>by
  obtain⟨h1,h2,h3⟩:=h
  rcases Xi.mp hx with rfl | hx
  ·exact h1
  ·have:=Yhn h3 x hx; omega
theorem Zxb {m:Int}:∀ {a b:List Int} {last:Int},Up m last (a++b)->∀ x∈a,∀ y∈b,Zau x<Zau y
 | [],_,_,_,x,hx,_,_=>by cases hx
 | z::a,b,last,h,x,hx,y,hy=>by
  obtain⟨h1,h2,h3⟩:=h
  rcases Xi.mp hx with rfl | hx
  ·exact Yhn h3 y (Xv _ hy)
  ·exact Zxb h3 x hx y hy
theorem Zqw {bs:List Bool} {l:Int} (h:1<=Zau l/\Zau l<=bs.length):rig bs (-l) = !rig bs l:=by
 unfold rig
 rw[Znp,Xm (by omega)]
 simp only
 have:decide (0 < -l) = !decide (0<l):=by
  by_cases z:0<l
  ·rw[decide_eq_true z,decide_eq_false (by omega)]; rfl
  ·rw[decide_eq_false z,decide_eq_true (by unfold Zau at h; split at h<;>omega)]; rfl
 rw[this]
 cases bs[(Zau l - 1).toNat]<;>cases decide (0<l)<;>rfl
theorem Zns {bs:List Bool} {l:Int} {k:Nat} (h:Zau l<=k) (h1:1<=Zau l):rig (bs.take k) l=rig bs l:=by
 unfold rig
 rw[Wcx (by omega)]
theorem Zye (ks:List D):∀ r:List Int,Zbo s ks r=[]->∀ x∈r,Zib s ks x=true
 | [],_,x,hx=>by cases hx
 | l::r,h,x,hx=>by
  rw[Zbo] at h
  split at h
  ·rename_i z; exact Xu.mp z x hx
  ·cases h
theorem Zgu (ks:List D):∀ (r:List Int) (x:Int),(Zbo s ks r).getLast? = some x->Zib s ks x=false
 | [],x,h=>by cases h
 | l::r,x,h=>by
  rw[Zbo] at h
  split at h
  ·cases h
  ·rename_i z
   cases e:Zbo s ks r with
   | nil =>
    rw[e] at h
    cases h
    have al:=Zye ks r e
    show Zib s ks l=false
    cases o:Zib s ks l with
    | false=>rfl
    | true =>
     exact absurd (Xu.mpr fun y hy=>by
      rcases Xi.mp hy with rfl | hy
      ·exact o
      ·exact al y hy) z
   | cons a b =>
    refine Zgu ks r x ?_
    rw[e] at h ⊢
    rw[List.getLast?_cons_cons] at h
    exact h
theorem Zt9 (ks:List D) (r:List Int):Zbo s ks (Zbo s ks r)=Zbo s ks r:=by
 have:=Zk6 ks (Zbo s ks r) [] (by simp) (Zgu ks r)
 simpa using this
theorem Zu1 {m:Int} {r:List Int} {l:Int} (u:Up m 0 r) (h:l∈r):∃ z,r.getLast? = some z/\z∈r/\Zau l<=Zau z:=by
 rcases Wdn r with rfl | ⟨a,z,e⟩
 ·cases h
 ·rw[Wdo] at e
  subst e
  refine⟨z,by simp,by simp,?_⟩
  rcases Xy.mp h with h | h
  ·exact Int.le_of_lt (Zxb u l h z (by simp))
  ·rw[Wbh.mp h]; exact Wcv _
end
nonrec def bnS (s:Bool):Str:=if s then "term" else "row"
def Bf (s:Bool) (ks:List D) (rss:List (List Int)) (v:D) (x:List Int):Prop:=match s with
 | false=>∃ (i:Nat) (h:i<rss.length),v=.int i/\x=rss[i]
 | true=>v=Zaz x/\Up ks.length 0 x/\∀ row∈rss,∃ l∈row,l∈x
inductive St (s:Bool) (ks:List D) (rss made:List (List Int)):D->List Int->Prop
 | less (i:Nat) (h:i<made.length):St s ks rss made (.tup [.str "less",.int i]) (Zbo s ks made[i])
 | base (v:D) (x:List Int) (h:Bf s ks rss v x):St s ks rss made (.tup [.str (bnS s),v]) x
 | joined (i j:Nat) (n:Int) (x:List Int) (hi:i<made.length) (hj:j<made.length) (hn:1<=n/\n<=ks.length) (ho:Zib s ks n=false) (e:Zlh made[i] made[j] n=some x):St s ks rss made (.tup [.str "joined",.int i,.int j,.int n]) x
inductive Rt (s:Bool) (ks:List D) (rss:List (List Int)):List (D×List Int)->Prop
 | nil:Rt s ks rss []
 | snoc {L:List (D×List Int)} {d:D} {x:List Int}:Rt s ks rss L->St s ks rss (L.map (·.2)) d x->Rt s ks rss (L++[(d,x)])
section
variable {s:Bool} {ks:List D} {rss:List (List Int)} {L:List (D×List Int)}
theorem Bf.up (hu:∀ ls∈rss,Up ks.length 0 ls) {v:D} {x:List Int} (h:Bf s ks rss v x):Up ks.length 0 x:=by
 cases s with
 | false=>obtain⟨i,hi,_,rfl⟩:=h; exact hu _ (Wac hi)
 | true=>exact h.2.1
theorem St.up {made:List (List Int)} {d:D} {x:List Int} (hu:∀ ls∈rss,Up ks.length 0 ls) (hm:∀ ls∈made,Up ks.length 0 ls) (h:St s ks rss made d x):Up ks.length 0 x:=by
 cases h with
 | less i hi =>
  obtain⟨tl,e,_⟩:=Zc6 (s:=s) ks made[i]
  have:=hm _ (Wac hi)
  rw[e] at this
  exact Zsb this
 | base v x h=>exact h.up hu
 | joined i j n x hi hj hn ho e =>
  have ha:=(Zk8 (by omega) (hm _ (Wac hi))).1
  have hb:=(Zk8 (by omega) (hm _ (Wac hj))).1
  unfold Zlh at e
  split at e
  ·cases e
  ·split at e
   ·cases e
   ·rename_i h2
    cases e
    exact Zm7 (R.join0 (ha.sub Wbl) (hb.sub Wbl) (by simpa using h2))
theorem Rt.up (hu:∀ ls∈rss,Up ks.length 0 ls) (h:Rt s ks rss L):∀ e∈L,Up ks.length 0 e.2:=by
 induction h with
 | nil=>simp
 | snoc _ st ih =>
  intro e he
  rcases Xy.mp he with z | z
  ·exact ih e z
  ·rw[Wbh.mp z]
   refine st.up hu fun ls h=>?_
   obtain⟨y,hy,rfl⟩:=Xz.mp h
   exact ih y hy
theorem Rt.at (h:Rt s ks rss L):∀ {k:Nat} {e:D×List Int},L[k]? = some e->St s ks rss ((L.take k).map (·.2)) e.1 e.2:=by
 induction h with
 | nil=>intro k e h; simp at h
 | @snoc L d x _ st ih =>
  intro k e he
  by_cases z:k<L.length
  ·rw[Xg z] at he
   rw[Wcj (by omega)]
   exact ih he
  ·have hk:=(Xc.mp he).1
   simp at hk
   have e1:k=L.length:=by omega
   subst e1
   rw[Wco] at he
   cases he
   rw[Wdk]
   exact st
nonrec def Zc4 (s:Bool) (bs:List Bool) (ls:List Int):Bool:=ls.all fun l=>decide (Zau l<=bs.length)&&(rig bs l==s)
nonrec def Zek (s:Bool) (n:Int) (t:Bool):Int:=if (t==s)=true then n else -n
nonrec def pk1 (s:Bool) (made:List (List Int)) (bs:List Bool) (d:D) (row:List Int):Option Bool:=match d with
 | .tup [.str n,.int i]=>if n = "less" /\ Zc4 s bs row=true then
   (if Zek s ((bs.length:Int)+1) false∈made.getD i.toNat [] then some false else if Zek s ((bs.length:Int)+1) true∈made.getD i.toNat [] then some true else none)
  else none
 | _=>none
nonrec def Znm (s:Bool) (made:List (List Int)) (bs:List Bool):List (D×List Int)->Bool
 | []=>false
 | e::r=>(pk1 s made bs e.1 e.2).getD (Znm s made bs r)
theorem Zvw {made:List (List Int)} {bs:List Bool} {d:D} {row:List Int} (h:Zc4 s bs row=false):pk1 s made bs d row=none:=by
 unfold pk1
 split
 ·rw[if_neg (fun z=>by rw[h] at z; cases z.2)]
 ·rfl
theorem Zoe {made:List (List Int)} {bs:List Bool}:∀ (a b:List (D×List Int)),(∀ e∈a,Zc4 s bs e.2=false)->Znm s made bs (a++b)=Znm s made bs b
 | [],_,_=>rfl
 | e::a,b,h=>by
  rw[Wdq,Znm,Zvw (h e (by simp))]
  exact Zoe a b fun e he=>h e (by simp[he])
theorem Zw9 {bs:List Bool} {ls:List Int} {k:Nat} (hr:∀ x∈ls,1<=Zau x) (h:Zc4 s (bs.take k) ls=true):Zc4 s bs ls=true:=by
 unfold Zc4 at h ⊢
 rw[Xu] at h ⊢
 intro x hx
 have:=h x hx
 rw[Wai,decide_eq_true_iff] at this ⊢
 rw[Wbj] at this
 rw[Zns (by omega) (hr x hx)] at this
 exact⟨by omega,this.2⟩
theorem Zyu {p:List Bool} (hm:∃ (m:Nat) (e:D×List Int),L[m]? = some e/\Zc4 s p e.2=true):∃ (m:Nat) (e:D×List Int),L[m]? = some e/\Zc4 s p e.2=true/\∀ (j:Nat) (e':D×List Int),j<m->L[j]? = some e'->Zc4 s p e'.2=false:=by
 obtain⟨m,h1⟩:=hm
 induction m using Nat.strongRecOn with
 | _ m ih =>
  obtain⟨e,h1,h2⟩:=h1
  by_cases z:∃ j,j<m/\∃ e':D×List Int,L[j]? = some e'/\Zc4 s p e'.2=true
  ·obtain⟨j,hj,y⟩:=z
   exact ih j hj y
  ·refine⟨m,e,h1,h2,fun j e' hj he=>?_⟩
   cases y:Zc4 s p e'.2 with
   | false=>rfl
   | true=>exact absurd ⟨j,hj,e',he,y⟩ z
theorem Zm9 {p:List Bool} {r:List Int} (u:Up ks.length 0 r) (lp:p.length=ks.length) (h:Zc4 s p r=false):∃ y∈r,rig p y = !s:=by
 cases z:r.all (fun y=>rig p y==s) with
 | false =>
  obtain⟨y,h1,h2⟩:=Wfw.mp z
  refine⟨y,h1,?_⟩
  cases s<;>cases e:rig p y<;>rw[e] at h2<;>first | rfl | exact absurd rfl h2
 | true =>
  have:Zc4 s p r=true:=Xu.mpr fun y hy=>by
   have:=(Zk8 (by omega) u).1.rg y hy
   rw[Wai,decide_eq_true_iff]
   exact⟨by omega,Xu.mp z y hy⟩
  rw[h] at this; cases this
theorem Zr3 {p:List Bool} {r:List Int} (h:Zc4 s p r=true):∀ y∈r,Zau y<=p.length/\rig p y=s:=fun y hy=>by
 have:=Xu.mp h y hy
 rw[Wai,decide_eq_true_iff] at this
 exact⟨this.1,by simpa using this.2⟩
theorem Zjj (s:Bool):s ≠ !s:=by cases s<;>decide
theorem strat {p:List Bool} {e0:D} (hu:∀ ls∈rss,Up ks.length 0 ls) (rt:Rt s ks rss L) (hlast:L.getLast? = some (e0,[])) (lp:p.length=ks.length)
  (hs:∀ k:Nat,k<p.length->Zib s ks ((k:Int)+1)=true->p[k]? = some (Znm s (L.map (·.2)) (p.take k) L)):∃ v x,Bf s ks rss v x/\Zc4 s p x=true:=by
 have ups:=rt.up hu
 obtain⟨m,e,hm,lost,first⟩:=Zyu (L:=L) (s:=s) (p:=p) ⟨L.length - 1,(e0,[]),by rw[<- hlast,List.getLast?_eq_getElem?],rfl⟩
 have st:=rt.at hm
 have hml:=(Xc.mp hm).1
 obtain⟨d,x⟩:=e
 have lt:((L.take m).map (·.2)).length=m:=by rw[Xr,Wbj]; omega
 have get:∀ {i:Nat} (hi:i<((L.take m).map (·.2)).length),∃ dd,L[i]? = some (dd,((L.take m).map (·.2))[i])/\i<m:=fun {i} hi=>by
  have hi':i<m:=by omega
  refine⟨(L[i]'(by omega)).1,?_,hi'⟩
  rw[Wdr,Wfx,Xm (by omega)]
 have all:=Zr3 lost
 cases st with
 | base v x h=>exact⟨v,x,h,lost⟩
 | less i hi =>
  exfalso
  obtain⟨dd,e1,e2⟩:=get hi
  have er:(L.map (·.2)).getD i []=((L.take m).map (·.2))[i]:=by
   rw[Wbk,Xp,e1]; rfl
  have nl:=first i _ e2 e1
  have u:=ups _ (Xk e1)
  generalize ((L.take m).map (·.2))[i]=r at *
  dsimp only at nl u all lost
  obtain⟨tl,ex,ow⟩:=Zc6 (s:=s) ks r
  have rr:=(Zk8 (by omega) u).1
  obtain⟨y,hy,ry⟩:=Zm9 u lp nl
  have hyt:y∈tl:=by
   have hy':=hy
   rw[ex] at hy'
   rcases Xy.mp hy' with z | z
   ·exact absurd ((all y z).2.symm.trans ry) (Zjj s)
   ·exact z
  have ry1:=rr.rg y hy
  obtain⟨k,hk⟩:∃ k:Nat,Zau y=(k:Int)+1:=⟨(Zau y - 1).toNat,by omega⟩
  have hkp:k<p.length:=by omega
  have abk:Zau ((k:Int)+1)=(k:Int)+1:=by unfold Zau; split<;>omega
  have own:Zib s ks ((k:Int)+1)=true:=by
   have:=ow y hyt
   unfold Zib at this ⊢
   rw[hk] at this
   rw[abk]
   exact this
  have pk:=hs k hkp own
  have lk:(p.take k).length=k:=by rw[Wbj]; omega
  have lostk:Zc4 s (p.take k) (Zbo s ks r)=true:=by
   refine Xu.mpr fun z hz=>?_
   have h1:Zau z<=k:=by
    have u':=u
    rw[ex] at u'
    have:=Zxb u' z hz y hyt
    omega
   have h2:=rr.rg z (by rw[ex]; exact Wax _ hz)
   rw[Wai,decide_eq_true_iff,lk,Zns h1 h2.1,(all z hz).2]
   exact⟨h1,by simp⟩
  have ez:L=L.take m++(.tup [.str "less",.int i],Zbo s ks r)::L.drop (m+1):=by
   have:L[m]=(.tup [.str "less",.int i],Zbo s ks r):=by
    rw[Xm hml] at hm; exact Xx.inj hm
   rw[<- this,<- Waq hml,Wfc]
  have pk2:p[k]? = some ((pk1 s (L.map (·.2)) (p.take k) (.tup [.str "less",.int i]) (Zbo s ks r)).getD (Znm s (L.map (·.2)) (p.take k) (L.drop (m+1)))):=by
   rw[pk]
   congr 1
   refine(congrArg (Znm s (L.map (·.2)) (p.take k)) ez).trans ?_
   rw[Zoe]
   ·rfl
   ·intro ee hee
    obtain⟨j,hj,rfl⟩:=Wdu.mp hee
    rw[Wbj] at hj
    rw[Wfx]
    have hj':L[j]? = some (L[j]'(by omega)):=Xm (by omega)
    cases w:Zc4 s (p.take k) (L[j]'(by omega)).2 with
    | false=>rfl
    | true =>
     have:=Zw9 (fun x hx=>((Zk8 (by omega) (ups _ (Xk hj'))).1.rg x hx).1) w
     rw[first j _ (by omega) hj'] at this
     cases this
  have pv:pk1 s (L.map (·.2)) (p.take k) (.tup [.str "less",.int i]) (Zbo s ks r)=some (if 0<y then s else !s):=by
   simp only[pk1]
   rw[if_pos ⟨trivial,lostk⟩,Wah,er,lk]
   have ypos:y=(k:Int)+1\/y = -((k:Int)+1):=by unfold Zau at hk; split at hk<;>omega
   have no : -y∉r:=fun z=>by
    have:=rr.inj z hy (Znp y)
    omega
   rcases ypos with e | e
   ·rw[if_pos (show 0<y by omega),<- e]
    cases s
    ·rw[show Zek false y false=y from rfl,if_pos hy]
    ·rw[show Zek true y false = -y from rfl,if_neg no,show Zek true y true=y from rfl,if_pos hy]
   ·rw[if_neg (show ¬ 0<y by omega)]
    have e':(k:Int)+1 = -y:=by omega
    have e2 : - -y=y:=Int.neg_neg y
    rw[e']
    cases s
    ·rw[show Zek false (-y) false = -y from rfl,if_neg no,show Zek false (-y) true = - -y from rfl,e2,if_pos hy]; rfl
    ·rw[show Zek true (-y) false = - -y from rfl,e2,if_pos hy]; rfl
  rw[pv] at pk2
  unfold rig at ry
  rw[show (Zau y - 1).toNat=k by omega,pk2] at ry
  dsimp only[Wgl] at ry
  by_cases z:0<y
  ·rw[if_pos z,decide_eq_true z] at ry
   cases s<;>cases ry
  ·rw[if_neg z,decide_eq_false z] at ry
   cases s<;>cases ry
 | joined i j n x hi hj hn ho e =>
  exfalso
  obtain⟨da,a1,a2⟩:=get hi
  obtain⟨db,b1,b2⟩:=get hj
  have na:=first i _ a2 a1
  have nb:=first j _ b2 b1
  have ua:=ups _ (Xk a1)
  have ub:=ups _ (Xk b1)
  generalize ((L.take m).map (·.2))[i]=a at *
  generalize ((L.take m).map (·.2))[j]=b at *
  dsimp only at na nb ua ub all
  obtain⟨la,ma,ra⟩:=Zm9 ua lp na
  obtain⟨lb,mb,rb⟩:=Zm9 ub lp nb
  unfold Zlh at e
  split at e
  ·cases e
  ·split at e
   ·cases e
   ·cases e
    have inx:∀ {z:Int},z∈(a.filter fun x=>decide (x≠n))++(b.filter fun x=>decide (x ≠ -n)).filter (fun x=>decide (x∉a.filter fun x=>decide (x≠n)))->rig p z=s:=fun hz=>(all _ ((Zcp _).mem_iff.mpr hz)).2
    have e1:la=n:=Uv fun z=>Zjj s ((inx (Wax _ (Wag.mpr ⟨ma,by simpa using z⟩))).symm.trans ra)
    have e2:lb = -n:=Uv fun z=>by
     by_cases w:lb∈a.filter fun x=>decide (x≠n)
     ·exact Zjj s ((inx (Wax _ w)).symm.trans rb)
     ·exact Zjj s ((inx (Xv _ (Wag.mpr ⟨Wag.mpr ⟨mb,by simpa using z⟩,decide_eq_true w⟩))).symm.trans rb)
    rw[e1] at ra
    rw[e2,Zqw ⟨by unfold Zau; split<;>omega,by unfold Zau; split<;>omega⟩,ra] at rb
    cases s<;>cases rb
def Zqg (s:Bool) (ks:List D) (S:List Bool->Bool) (p:List Bool):Prop:=∀ k:Nat,k<p.length->Zib s ks ((k:Int)+1)=true->p[k]? = some (S (p.take k))
theorem Zqg.nil {S:List Bool->Bool}:Zqg s ks S []:=fun k h=>absurd h (Wgn _)
theorem Zqg.snoc {S:List Bool->Bool} {p:List Bool} {b:Bool} (h:Zqg s ks S p) (hb:Zib s ks ((p.length:Int)+1)=true->b=S p):Zqg s ks S (p++[b]):=by
 intro k hk ho
 rw[Xq,Wbm] at hk
 by_cases e:k<p.length
 ·rw[Xg e,Wcj (by omega)]
  exact h k e ho
 ·have e:k=p.length:=by omega
  subst e
  rw[Wco,Wdk,hb ho]
theorem Zul {n:Nat}:Zib s ks ((n:Int)+1)=(kS (ks.getD n .non)==s):=by
 unfold Zib
 rw[show Zau ((n:Int)+1)=(n:Int)+1 by unfold Zau; split<;>omega]
 congr 3
theorem Znn {S:List Bool->Bool} (h:∀ p:List Bool,p.length=ks.length->Zqg s ks S p->rss.all (kept p)=s):∀ (j:Nat) (bs:List Bool),bs.length+j=ks.length->Zqg s ks S bs->W ks rss j bs=s
 | 0,bs,hj,hf=>by unfold W; exact h bs (by omega) hf
 | j+1,bs,hj,hf=>by
  unfold W
  have ow:=Zul (s:=s) (ks:=ks) (n:=bs.length)
  generalize kS (ks.getD bs.length .non)=w at ow ⊢
  cases hk:(w==s) with
  | false =>
   rw[hk] at ow
   have n:∀ b:Bool,Zib s ks ((bs.length:Int)+1)=true->b=S bs:=fun b z=>by rw[ow] at z; cases z
   rw[Znn h j (bs++[false]) (by simp; omega) (hf.snoc (n _)),Znn h j (bs++[true]) (by simp; omega) (hf.snoc (n _))]
   cases w<;>cases s<;>first | rfl | cases hk
  | true =>
   have:=Znn h j (bs++[S bs]) (by simp; omega) (hf.snoc fun _=>rfl)
   have e:w=s:=by simpa using hk
   subst e
   cases e:S bs with
   | false=>rw[e] at this; rw[this]; cases w<;>rfl
   | true=>rw[e] at this; rw[this]; cases w<;>simp
theorem Zt1 {p:List Bool} {e0:D} (hu:∀ ls∈rss,Up ks.length 0 ls) (rt:Rt s ks rss L) (hlast:L.getLast? = some (e0,[])) (lp:p.length=ks.length) (hs:Zqg s ks (fun bs=>Znm s (L.map (·.2)) bs L) p):rss.all (kept p)=s:=by
 obtain⟨v,x,hb,hl⟩:=strat hu rt hlast lp hs
 have all:=Zr3 hl
 cases s with
 | false =>
  obtain⟨i,hi,_,rfl⟩:=hb
  cases e:rss.all (kept p) with
  | false=>rfl
  | true =>
   obtain⟨l,h1,h2⟩:=Wau.mp (Xu.mp e _ (Wac hi))
   rw[(all l h1).2] at h2
   cases h2
 | true =>
  refine Xu.mpr fun row hr=>?_
  obtain⟨l,h1,h2⟩:=hb.2.2 row hr
  exact Wau.mpr ⟨l,h1,(all l h2).2⟩
end
variable {σ:SD} {H:HD} {Q:D->HD->Prop}
theorem Ycv {ns:List Int} (H:HD) (k:Int) (Q:D->HD->Prop) (h0:0<=k) (h1:k<=1000) (q:∀ c,Q (.int c) H):wE (Zfg [.fl (ns.map .int),.int k] H) Q:=by
 refine Za7 rfl ?_
 show wS (Zhy [some (.fl (ns.map .int)),some (.int k)] H) _
 unfold Zhy
 fail "i"
 refine⟨fun h=>?_,fun h=>?_⟩
 ·have lt:k.toNat<ns.length:=by have:=of_decide_eq_true h; simp at this; omega
  fail "g"
  refine w_ixF (Zh0 h0 (d:=.int ns[k.toNat]) (by rw[Xp,Xm lt]; rfl)) ?_
  fail "g"
  exact q _
 ·fail "g"
  exact q _
theorem Ye3 {p:Nat} {xs:List D} {k:Nat} (g:H[p]? = some (.lst xs)) (q:Q (.ref H.length) (H++[.lst (xs.drop k)])):wE (slD (.ref p) (some (k:Int)) none H) Q :=
 ⟨_,_,by rw[<- Ybj]; simp only[slD,g],q⟩
theorem Ybt.drop {ds:List Int} (h:Ybt ds) (k:Nat):Ybt (ds.drop k):=fun d hd=>h d (List.mem_of_mem_drop hd)
theorem Zem (ls:List Int):Fines (ls.map .int) (ls.map .int) 0:=by
 induction ls with
 | nil=>exact .nil
 | cons l r ih=>exact .cons (.int l) ih
theorem Zwn {i n:Nat} {x:String} {F:FF} {f:AF} (h:σ[i]? = some (some (.ty x))) (q:wE (Zak n F f σ H) Q):wE (Zlu i n x F f σ H) Q:=by
 unfold Zlu; rw[h]; simpa using q
theorem Ybv {xs:List D} {i:Nat} {d:D} (h:xs[i]? = some d):atI xs (i:Int)=some d:=Zbn h
theorem Zx8 {ks:List D} {x:Int} (hk:∀ d∈ks,Zcx d) (h:1<=Zau x/\Zau x<=ks.length):atI ks (Zau x - 1)=some (Zam (kS (ks.getD ((Zau x).toNat - 1) .non))):=by
 have e:Zau x - 1=(((Zau x).toNat - 1:Nat):Int):=by omega
 rw[e]
 exact Zbn (Zfz hk (by omega))
theorem Zfa {a b:Bool} (q:Q (.bl (!(a==b))) H):wE (neD (Zam a) (Zam b) H) Q:=by
 have e1:(("some" : Str)==("all" : Str))=false:=by decide
 have e2:(("all" : Str)==("some" : Str))=false:=by decide
 cases a<;>cases b
 ·exact w_neS' (by simp) q
 ·exact w_neS' e2 q
 ·exact w_neS' e1 q
 ·exact w_neS' (by simp) q
theorem Zlw {s:Bool} {ks:List D} {ls:List Int} (hk:∀ d∈ks,Zcx d) (h8:ks.length<=8) (h:R ks.length ls) (q:Q (Zaz (Zbo s ks ls)) H):wE (Zgr [.tup ks,Zam s,Zaz ls] H) Q:=by
 have hl:=h.len
 refine Za7 rfl ?_
 show wS (Zeq [some (.tup ks),some (Zam s),some (.tup (ls.map .int)),none] H) _
 unfold Zeq
 fail "g"
 rw[Xr]
 refine Znl (fun m σ H'=>m<=ls.length/\H'=H/\(∀ x∈ls.drop m,Zib s ks x=true)/\σ=[some (.tup ks),some (Zam s),some (.tup (ls.map .int)),some (.int (m:Int))]) (fun m σ H' ⟨i1,i2,i3,i4⟩=>?_) 20 ls.length _ _ (by omega) ⟨Xe _,rfl,by simp,rfl⟩
 subst i2 i4
 have fi:∀ m:Nat,(∀ x∈ls.drop m,Zib s ks x=true)->(∀ x,(ls.take m).getLast? = some x->Zib s ks x=false)->Zbo s ks ls=ls.take m:=fun m h1 h2=>by
  have:=Zk6 (s:=s) ks (ls.take m) (ls.drop m) h1 h2
  rwa [Wfc] at this
 have done:Zbo s ks ls=ls.take m->Yfg (fun σ1 H1=>wS (Zag (Zbc (eSl (Zac 2) Zjc (Zij (Zac 3)))) Zaj σ1 H1) (fin Q)) (fin Q) .nx [some (.tup ks),some (Zam s),some (.tup (ls.map .int)),some (.int (m:Int))] H':=fun e=>by
  fail "g"
  rw[<- List.map_take,<- e]
  exact q
 fail "g"
 refine⟨fun z=>?_,fun z=>?_⟩
 ·have z:=of_decide_eq_true z
  obtain⟨m',rfl⟩:∃ m',m=m'+1:=⟨m - 1,by omega⟩
  have hm:m'<ls.length:=by omega
  have hr:=h.rg _ (Wac hm)
  fail "g"
  rw[show ((m'+1:Nat):Int) - 1=(m':Int) by omega]
  refine w_ixT (Ybv (d:=.int ls[m']) (by simp[hm])) ?_
  fail "g"
  refine w_ixT (Zx8 hk hr) ?_
  fail "g"
  refine Zcl ?_
  fail "g"
  refine⟨fun y=>⟨m',rfl,?_⟩,fun y=>?_⟩
  ·refine w_seq (wS_of (by with_unfolding_all rfl) ?_)
   fail "g"
   refine⟨by omega,rfl,fun x hx=>?_,?_⟩
   ·rw[Waq hm] at hx
    rcases Xi.mp hx with rfl | hx
    ·exact y
    ·exact i3 x hx
   ·show [some (D.tup ks),some (Zam s),some (D.tup (ls.map D.int)),some (D.int (((m'+1:Nat):Int) - 1))]=_
    rw[show ((m'+1:Nat):Int) - 1=(m':Int) by omega]
  ·refine done (fi _ i3 fun x hx=>?_)
   rw[List.take_succ_eq_append_getElem hm,Wdv] at hx
   simp at hx
   rw[<- hx]; exact y
 ·have z:=of_decide_eq_false z
  obtain rfl:m=0:=by omega
  fail "g"
  rw[<- List.map_take,<- fi 0 i3 (by simp)]
  exact q
nonrec def Ygp:Option (List Int)->D
 | none=>.non
 | some ls=>Zaz ls
theorem Zv9 (ls:List Int) (x:Int):((ls.map PyData.int).any fun z=>Ub z (.int x))=decide (x∈ls):=by
 rw[Wfa,Wau,decide_eq_true_iff]
 constructor
 ·rintro⟨z,hz,e⟩
  obtain⟨y,hy,rfl⟩:=Xz.mp hz
  have:y=x:=by simpa [Ub] using e
  subst this; exact hy
 ·intro h
  exact⟨.int x,Xz.mpr ⟨x,h,rfl⟩,by simp[Ub]⟩
theorem Yc6 {x:Int} {ls:List Int} (q:Q (.bl (decide (x∈ls))) H):wE (inD (.int x) (.tup (ls.map .int)) H) Q:=Ygv (.int x) (Zem ls) (by omega) (by omega) (by rw[Zv9]; exact q)
theorem Zvv {x:Int} {ls:List Int} (q:Q (.bl (!decide (x∈ls))) H):wE (niD (.int x) (.tup (ls.map .int)) H) Q:=w_niT (.int x) (Zem ls) (by omega) (by omega) (by rw[Zv9]; exact q)
theorem Yb6 {xs:List D} (q:Q (.ref H.length) (H++[.lst xs])):wE (Zz7 [.tup xs] H) Q:=⟨_,_,rfl,q⟩
theorem Ydy {p:Nat} {zs:List Int} (g:H[p]? = some (.lst (zs.map .int))) (hl:zs.length<=60) (nd:(zs.map Zau).Nodup) (q:Q (.ref H.length) (H++[.lst ((Zd0 zs).map .int)])):wE (Zo6 [.ref p] H) Q:=by
 refine⟨_,_,?_,q⟩
 unfold Zo6
 simp only[Zp1,g,Zb]
 have e:Zit (zs.map .int)=some zs:=by
  clear g nd hl q
  induction zs with
  | nil=>rfl
  | cons z r ih=>simp[Zit,ih]
 rw[e]
 simp only[Zb]
 exact if_pos ⟨by omega,nd⟩
theorem Zyx {p:Nat} {zs:List Int} (g:H[p]? = some (.dci (zs.map fun x=>(x,.bl true)))) (hl:zs.length<=60) (nd:(zs.map Zau).Nodup) (q:Q (.ref H.length) (H++[.lst ((Zd0 zs).map .int)])):wE (Zkj [.ref p] H) Q:=by
 refine⟨_,_,?_,q⟩
 unfold Zkj
 simp only[g]
 have e:(zs.map fun x=>(x,D.bl true)).map (·.1)=zs:=by rw[Wat]; exact List.map_id' zs
 rw[e]
 exact if_pos ⟨by simp; omega,nd⟩
nonrec def Zqh (a b:List Int):Option (List Int):=if b.any (fun x=>decide (-x∈a))=true then none else some (Zd0 (a++b.filter fun x=>decide (x∉a)))
theorem Zta (a b:List Int) (n:Int) (h:n∈a /\ -n∈b):Zlh a b n=Zqh (a.filter fun x=>decide (x≠n)) (b.filter fun x=>decide (x ≠ -n)):=by
 unfold Zlh Zqh
 rw[if_neg (by simp[h.1,h.2])]
theorem Zpo {a:List Int} {n:Int} (hl:a.length<=1000) (q:∀ H',Fm [] H H'->Q (Zaz (a.filter fun x=>decide (x≠n))) H'):wE (Zh5 [Zaz a,.int n] H) Q:=by
 refine Za7 rfl ?_
 show wS (Zf9 [some (.tup (a.map .int)),some (.int n)] H) _
 unfold Zf9
 fail "g"
 refine Zdw (fun d=>match d with | .int x=>decide (x≠n) | _=>true) (fun H'=>H'=H) (fun _ j=>Zg4) _ (fun y hy H2 j=>?_) _ rfl fun H2 j=>?_
 ·obtain⟨z,hz,rfl⟩:=Xz.mp hy
  subst j
  fail "g"
  refine⟨?_,rfl⟩
  by_cases e:z=n<;>simp[e]
 ·subst j
  have ef:((a.map D.int).filter fun d=>match d with | .int x=>decide (x≠n) | _=>true)=(a.filter fun x=>decide (x≠n)).map .int:=by
   rw[Wcp]
   rfl
  rw[ef]
  refine⟨by have:=Wan (fun x=>decide (x≠n)) a; simp at this ⊢; omega,?_⟩
  fail "g"
  exact q _ (Fm.app _)
theorem Ygn {M:Nat} {a b:List Int} (ha:R M a) (hb:R M b) (hM:M<=8) (q:∀ H',Fm [] H H'->Q (Ygp (Zqh a b)) H'):wE (Zwq [Zaz a,Zaz b] H) Q:=by
 have la:=ha.len
 have lb:=hb.len
 refine Za7 rfl ?_
 show wS (Zn5 [some (.tup (a.map .int)),some (.tup (b.map .int)),none,none] H) _
 unfold Zn5
 fail "g"
 refine Yb6 ?_
 fail "g"
 refine Zcn (fun d t σ H'=>∃ (pre r:List Int) (z3:Option D),b=pre++r/\t=r.map .int/\pre.any (fun x=>decide (-x∈a))=false/\H'[H.length]? = some (.lst ((a++pre.filter fun x=>decide (x∉a)).map .int))/\Fm [] H H'/\σ=[some (.tup (a.map .int)),some (.tup (b.map .int)),some (.ref H.length),z3]) (fun _ _ _ _ _=>Zg4) (fun d x t σ H1 ⟨pre,r,z3,i1,i2,i3,i4,i5,i6⟩=>?_) (fun d σ H1 ⟨pre,r,z3,i1,i2,i3,i4,i5,i6⟩=>?_) _ [] _ _ ⟨[],b,_,rfl,rfl,rfl,by simp,Fm.app _,rfl⟩
 ·subst i6
  cases r with
  | nil=>cases i2
  | cons l r =>
   obtain⟨rfl,rfl⟩:=Wbo.inj i2
   fail "i"
   refine Yc6 ?_
   fail "g"
   refine⟨fun z=>?_,fun z=>?_⟩
   ·fail "g"
    have:Ygp (Zqh a b)=.non:=by
     unfold Zqh
     rw[if_pos (by rw[i1]; simp at z; simp[z])]; rfl
    rw[<- this]
    exact q _ i5
   ·fail "i"
    refine Zvv ?_
    fail "g"
    have an:(pre++[l]).any (fun x=>decide (-x∈a))=false:=by rw[List.any_append,i3]; simp at z ⊢; exact z
    have lp:pre.length<=8:=by rw[i1] at lb; simp at lb; omega
    refine⟨fun y=>?_,fun y=>?_⟩
    ·fail "g"
     refine⟨isl i4,?_⟩
     fail "g"
     refine Zlj i4 (by have:=Wan (fun x=>decide (x∉a)) pre; simp at this ⊢; omega) ?_
     fail "g"
     refine⟨pre++[l],r,_,by rw[i1]; simp,rfl,an,?_,i5.new (Fm.set (S:=[H.length]) (by simp)) (fun q hq _=>by simp at hq; subst hq; exact Xe _),rfl⟩
     rw[Zlm i4]
     have y:l∉a:=by simpa using y
     simp[Wfo,y]
    ·fail "g"
     refine⟨pre++[l],r,_,by rw[i1]; simp,rfl,an,?_,i5,rfl⟩
     rw[i4]
     have y:l∈a:=by simpa using y
     simp[Wfo,y]
 ·subst i6
  cases r with
  | cons l r=>cases i2
  | nil =>
   rw[Wad] at i1
   subst i1
   fail "g"
   have hj:=R.join0 ha hb i3
   refine Ydy i4 (by have:=hj.len; omega) hj.nd ?_
   fail "g"
   have:Ygp (Zqh a b)=.tup ((Zd0 (a++b.filter fun x=>decide (x∉a))).map .int):=by
    unfold Zqh
    rw[if_neg (by rw[i3]; simp)]; rfl
   rw[<- this]
   exact q _ (i5.trans (Fm.app _))
theorem Zrl {M:Nat} {a b:List Int} {n:Int} (ha:R M a) (hb:R M b) (hM:M<=8) (q:∀ H',Fm [] H H'->Q (Ygp (Zlh a b n)) H'):wE (Zjl [Zaz a,Zaz b,.int n] H) Q:=by
 have la:=ha.len
 have lb:=hb.len
 refine Za7 rfl ?_
 show wS (Zh1 [some (.tup (a.map .int)),some (.tup (b.map .int)),some (.int n)] H) _
 unfold Zh1
 have no:(n∉a \/ -n∉b)->Q .non H:=fun h=>by
  have e:Ygp (Zlh a b n)=.non:=by unfold Zlh; rw[if_pos h]; rfl
  rw[<- e]; exact q _ Fm.refl
 fail "i"
 refine Zvv ?_
 fail "g"
 refine⟨fun z=>?_,fun z=>?_⟩
 ·fail "g"
  exact no (.inl (by simpa using z))
 ·fail "g"
  refine Zvv ?_
  fail "g"
  refine⟨fun y=>?_,fun y=>?_⟩
  ·fail "g"
   exact no (.inr (by simpa using y))
  ·fail "g"
   have h:n∈a /\ -n∈b:=⟨by simpa using z,by simpa using y⟩
   refine Zpo (a:=a) (by omega) fun H1 x1=>?_
   fail "g"
   refine Zpo (a:=b) (by omega) fun H2 x2=>?_
   fail "g"
   refine Ygn (ha.sub Wbl) (hb.sub Wbl) hM fun H3 x3=>?_
   rw[<- Zta a b n h]
   fail "g"
   exact q _ ((x1.trans x2).trans x3)
nonrec def kvT (x:Int):Int×D:=(x,.bl true)
theorem Zun (k:Int):∀ zs:List Int,(Zgx (zs.map kvT) k).isSome=decide (k∈zs)
 | []=>rfl
 | z::r=>by
  have ih:=Zun k r
  unfold Zgx at ih ⊢
  rw[Xn]
  by_cases e:z=k
  ·subst e
   rw[Wdh (by simp[kvT])]
   simp
  ·rw[Wbx (by simp[kvT,e]),ih]
   have:¬ k=z:=fun w=>e w.symm
   simp[this]
theorem Yfs (k:Int) (zs:List Int):Znu (zs.map kvT) k (.bl true)=(if k∈zs then zs else zs++[k]).map kvT:=by
 unfold Znu
 by_cases h:k∈zs
 ·rw[if_pos (by rw[Wge,Wau]; exact⟨k,h,by simp[kvT]⟩),if_pos h,Wat]
  refine Wcw fun x _=>?_
  show (if x=k then (x,D.bl true) else kvT x)=kvT x
  split<;>rfl
 ·have hn:¬ ((zs.map kvT).any (fun p=>decide (p.1=k))=true):=by
   rw[Wge,Wau]
   rintro⟨x,hx,e⟩
   have e:x=k:=of_decide_eq_true e
   subst e
   exact h hx
  rw[if_neg hn,if_neg h,Wap]
  rfl
theorem w_iin {n:Nat} {kvs:List (Int×D)} {k:Int} (g:H[n]? = some (.dci kvs)) (q:Q (.bl (Zgx kvs k).isSome) H):wE (iinD (.int k) (.ref n) H) Q:=⟨_,_,by simp[iinD,Yey,g],q⟩
theorem Zxd {n:Nat} {kvs:List (Int×D)} {k:Int} {v:D} {Z:HD->Prop} (g:H[n]? = some (.dci kvs)) (h:kvs.length<=1000) (q:Z (H.set n (.dci (Znu kvs k v)))):wH (Zts (.ref n) (.int k) v H) Z:=by
 refine⟨_,?_,q⟩
 have sz:=Uba
 simp only[Zts,g]
 exact if_pos (by omega)
theorem Ygu (q:Q (.ref H.length) (H++[.dci []])):wE (eDI σ H) Q:=⟨_,_,rfl,q⟩
variable {σ:SD} {H:HD} {Q:D->HD->Prop}
nonrec def fnS (s:Bool):String:=if s then "told_term" else "claims_row"
structure CR (ks:List D) (rss:List (List Int)):Prop where
 hk:∀ d∈ks,Zcx d
 h8:ks.length<=8
 hr:∀ ls∈rss,R ks.length ls
 hl:rss.length<=1000
theorem Ybo {f g:EF} (h:wE (f σ H) Q):wE (Yba f g σ H) Q:=by
 obtain⟨d,H',e,q⟩:=h
 exact⟨d,H',by unfold Yba; rw[e],q⟩
theorem Ybu {f g:EF} (e:f σ H=none) (h:wE (g σ H) Q):wE (Yba f g σ H) Q:=by
 obtain⟨d,H',e2,q⟩:=h
 exact⟨d,H',by unfold Yba; rw[e]; exact e2,q⟩
theorem Zki {made:List (List Int)} {i:Nat} (h:i<made.length):atI (made.map Zaz) (i:Int)=some (Zaz made[i]):=Zbn (by simp[h])
theorem Zr6 {i:Int} (q:Q (.bl true) H):wE (Zgp [.int i] H) Q:=by
 refine Za7 rfl ?_
 show wS (Ze0 [some (.int i)] H) _
 unfold Ze0
 fail "g"
 exact q
theorem Zng {i m:Nat} (h:i<m) (q:Q (.bl true) H):wE (Zb0 [.int i,.int m] H) Q:=by
 refine Za7 rfl ?_
 show wS (Zcj [some (.int i),some (.int m)] H) _
 unfold Zcj
 fail "g"
 refine Zr6 ?_
 fail "g"
 rw[decide_eq_true (by omega)]
 exact q
theorem Zq0 {s:Bool} {n:Int} {ks:List D} (hk:∀ d∈ks,Zcx d) (hn:1<=n/\n<=ks.length) (ho:Zib s ks n=false) (q:Q (.bl true) H):wE (Zct [.tup ks,Zam s,.int n] H) Q:=by
 have ea:Zau n=n:=by unfold Zau; split<;>omega
 refine Za7 rfl ?_
 show wS (Zbl [some (.tup ks),some (Zam s),some (.int n)] H) _
 unfold Zbl
 fail "g"
 refine Zr6 ?_
 fail "g"
 refine⟨fun z=>?_,fun z=>absurd hn.1 (by simpa using z)⟩
 fail "g"
 refine⟨fun y=>?_,fun y=>absurd hn.2 (by simpa using y)⟩
 fail "g"
 rw[<- ea]
 refine w_ixT (Zx8 hk (by omega)) ?_
 fail "g"
 refine Zfa ?_
 rw[show (kS (ks.getD ((Zau n).toNat - 1) .non)==s)=false from ho]
 fail "g"
 exact q
theorem Zzq {s:Bool} {pm:Nat} {ks:List D} {rss made:List (List Int)} {d:D} {x:List Int} (hk:∀ d∈ks,Zcx d) (h8:ks.length<=8) (hm:∀ ls∈made,R ks.length ls) (g:H[pm]? = some (.lst (made.map Zaz))) (h:St s ks rss made d x)
  (q:∀ H',Fm [] H H'->Q (Zaz x) H'):wE (Zh6 [Zan ks rss,Zam s,.ty (fnS s),.ref pm,d] H) Q:=by
 refine Za7 rfl ?_
 show wS (Zcf [some (Zan ks rss),some (Zam s),some (.ty (fnS s)),some (.ref pm),some d] H) _
 cases h with
 | less i hi =>
  unfold Zcf
  fail "i"
  (refine WP.w_if ?_; fail "g")
  fail "g"
  refine Za7 rfl ?_
  show wS (Zch [some (.tup ks),some (Zam s),some (.ref pm),some (.tup [.str "less",.int i])] H) _
  unfold Zch
  fail "i"
  fail "g"
  rw[Xr]
  refine Zng hi ?_
  fail "g"
  refine w_ixR g (Zki hi) ?_
  fail "g"
  refine Zlw hk h8 (hm _ (Wac hi)) ?_
  fail "g"
  exact q H Fm.refl
 | base v x hb =>
  cases s with
  | false =>
   obtain⟨i,hi,rfl,rfl⟩:=hb
   show wS (Zcf [some (Zan ks rss),some (.str "all"),some (.ty "claims_row"),some (.ref pm),some (.tup [.str "row",.int i])] H) _
   unfold Zcf
   fail "i"
   (refine WP.w_if ?_; fail "g")
   fail "i"
   fail "g"
   refine Ybo (Zwn rfl ?_)
   fail "g"
   refine Za7 rfl ?_
   show wS (Zc8 [some (Zan ks rss),some (.tup [.str "row",.int i])] H) _
   unfold Zc8
   fail "i"
   fail "g"
   rw[Xr]
   refine Zng hi ?_
   fail "g"
   refine w_ixT (Zki hi) ?_
   fail "g"
   exact q H Fm.refl
  | true =>
   obtain⟨rfl,_,_⟩:=hb
   show wS (Zcf [some (Zan ks rss),some (.str "some"),some (.ty "told_term"),some (.ref pm),some (.tup [.str "term",Zaz x])] H) _
   unfold Zcf
   fail "i"
   (refine WP.w_if ?_; fail "g")
   fail "i"
   fail "g"
   refine Ybu rfl (Zwn rfl ?_)
   fail "g"
   refine Za7 rfl ?_
   show wS (Zd5 [some (Zan ks rss),some (.tup [.str "term",Zaz x])] H) _
   unfold Zd5
   fail "g"
   exact q H Fm.refl
 | joined i j n x hi hj hn ho e =>
  unfold Zcf
  fail "i"
  (refine WP.w_if ?_; fail "g")
  fail "i"
  fail "g"
  refine Za7 rfl ?_
  show wS (Zbv [some (.tup ks),some (Zam s),some (.ref pm),some (.tup [.str "joined",.int i,.int j,.int n])] H) _
  unfold Zbv
  fail "i"
  fail "g"
  rw[Xr]
  refine Zng hi ?_
  fail "g"
  rw[Xr]
  refine Zng hj ?_
  fail "i"
  refine Zq0 hk hn ho ?_
  fail "g"
  refine w_ixR g (Zki hi) ?_
  fail "g"
  refine w_ixR g (Zki hj) ?_
  fail "g"
  refine Zrl (hm _ (Wac hi)) (hm _ (Wac hj)) h8 fun H1 x1=>?_
  fail "g"
  rw[e]
  exact q _ x1
theorem Yed {f:AF} {I:List D->Zh4->HD->Prop} (h:wA (f σ H) fun ds H1=>∃ n xs,ds=[.ref n]/\H1[n]? = some (.lst xs)/\I (Zdy 0 xs) [(n,.lst xs)] H1):wI (Zrk f σ H) I:=by
 obtain⟨ds,H1,e,n,xs,rfl,g,q⟩:=h
 exact⟨_,_,_,by unfold Zrk; rw[e]; simp only[Zb]; rw[g],q⟩
nonrec abbrev amB:SF:=(Zag (Zbm 7 (Zak 5 Zh6 (Zab (Zac 0) (Zab (Zac 1) (Zab (Zac 2) (Zab (Zac 4) (Zab (Zac 6) Zaf)))))))
 (Zag (sIf (tOf (eOp isD (Zac 7) (eC .non))) (Zag Yd5 Zaj) Zaj) (Zag (Zc0 (eLM Zcw (Zac 4) (Zab (Zac 7) Zaf))) Zaj)))
nonrec abbrev amG:GF:=gTp 2 (gCn (gNm 5) (gCn (gNm 6) gNl))
section
variable {s:Bool} {pm ps:Nat} {ks:List D} {rss made:List (List Int)} {d sd:D} {x:List Int} {n:Int} {z5 z6 z7:Option D} {L:List (D×List Int)}
theorem Yg0 {K:SD->HD->Prop} {Z:FD->SD->HD->Prop} (c:CR ks rss) (hm:∀ ls∈made,R ks.length ls) (hl:made.length<=1000) (g:H[pm]? = some (.lst (made.map Zaz))) (e:St s ks rss made d x)
  (q:∀ H2,Fm [pm] H H2->H2[pm]? = some (.lst ((made++[x]).map Zaz))->K [some (Zan ks rss),some (Zam s),some (.ty (fnS s)),some sd,some (.ref pm),some (.int n),some d,some (Zaz x)] H2) :
  wG (amG (.tup [.int n,d]) [some (Zan ks rss),some (Zam s),some (.ty (fnS s)),some sd,some (.ref pm),z5,z6,z7] H) fun σ1 H1=>wS (amB σ1 H1) (again K Z):=by
 fail "g"
 refine Zzq c.hk c.h8 hm g e fun H1 x1=>?_
 show wS _ _
 fail "i"
 refine⟨isl (x1.lst (by simp) g),?_⟩
 fail "g"
 refine Zlj (x1.lst (by simp) g) (by simp; omega) ?_
 fail "g"
 refine q _ ((x1.sub (by simp)).trans (Fm.set (by simp))) ?_
 rw[Zlm (x1.lst (by simp) g)]
 simp
theorem Zpe (c:Nat) (d:D) (r:List D):Zdy (c:Int) (d::r)=.tup [.int c,d]::Zdy ((c+1:Nat):Int) r:=by
 rw[Zdy]
 simp
theorem Zxw (c:CR ks rss) (hu:∀ ls∈rss,Up ks.length 0 ls) (g:H[ps]? = some (.lst (L.map (·.1)))) (hl:L.length<=1000) (rt:Rt s ks rss L)
  (q:∀ p H',H'[p]? = some (.lst ((L.map (·.2)).map Zaz))->H.length<=p->Fm [] H H'->Q (.ref p) H'):wE (Ziu [Zan ks rss,Zam s,.ty (fnS s),.ref ps] H) Q:=by
 have ups:=rt.up hu
 refine Za7 rfl ?_
 show wS (Zez [some (Zan ks rss),some (Zam s),some (.ty (fnS s)),some (.ref ps),none,none,none,none] H) _
 unfold Zez
 fail "g"
 refine Yed ?_
 fail "g"
 refine⟨_,_,rfl,appL g,?_⟩
 have np:H.length≠ps:=by have:=(Xc.mp g).1; omega
 refine Zcn (g:=amG) (b:=amB) (fun d t σ H'=>∃ (pre r:List (D×List Int)) (z5 z6 z7:Option D),L=pre++r/\t=Zdy (pre.length:Int) (r.map (·.1))/\H'[H.length]? = some (.lst ((pre.map (·.2)).map Zaz))/\Fm [] H H'/\σ=[some (Zan ks rss),some (Zam s),some (.ty (fnS s)),some (.ref ps),some (.ref H.length),z5,z6,z7]) (fun d t σ H' ⟨pre,r,z5,z6,z7,i1,i2,i4,i5,i6⟩=>Yet (i5.lst (by simp) g)) (fun d x tt σ H1 ⟨pre,r,z5,z6,z7,i1,i2,i4,i5,i6⟩=>?_) (fun d σ H1 ⟨pre,r,z5,z6,z7,i1,i2,i4,i5,i6⟩=>?_) _ [] _ _ ⟨[],L,_,_,_,rfl,rfl,last,Fm.app _,rfl⟩
 ·subst i6
  cases r with
  | nil=>cases i2
  | cons e r =>
   rw[Xn,Zpe] at i2
   obtain⟨rfl,rfl⟩:=Wbo.inj i2
   have ld:pre.length<L.length:=by rw[i1]; simp
   have st:=rt.at (k:=pre.length) (e:=e) (by rw[i1]; simp)
   have tk:L.take pre.length=pre:=by rw[i1,Wdk]
   rw[tk] at st
   refine Yg0 c (fun ls h=>?_) (by simp; omega) i4 st fun H2 x2 g2=>?_
   ·obtain⟨y,hy,rfl⟩:=Xz.mp h
    exact(Zk8 (by omega) (ups y (by rw[i1]; simp[hy]))).1
   ·exact⟨pre++[e],r,_,_,_,by rw[i1]; simp,by simp,by rw[Wap]; exact g2,i5.new x2 (fun q hq _=>by simp at hq; subst hq; exact Xe _),rfl⟩
 ·subst i6
  cases r with
  | cons e r=>rw[Xn,Zpe] at i2; cases i2
  | nil =>
   rw[Wad] at i1
   subst i1
   fail "g"
   exact q _ _ i4 (Xe _) i5
end
variable {σ:SD} {H:HD} {Q:D->HD->Prop}
theorem Zzs {a b:Bool} (q:Q (.bl (a==b)) H):wE (eqD (.bl a) (.bl b) H) Q:=Ycr (.bl a) (.bl b) (by omega) (by omega) (by simpa [Ub] using q)
theorem Zv2 {bs:List Bool} {l:Int} (q:Q (.bl (opn bs l)) H):wE (Zgh [.int l,Zar bs] H) Q:=by
 refine Za7 rfl ?_
 show wS (Zgm [some (.int l),some (Zar bs)] H) _
 unfold Zgm
 fail "g"
 exact q
theorem Zm4 {bs:List Bool} {l:Int} (h0:0<Zau l) (q:Q (.bl (rig bs l)) H):wE (Zc1 [.int l,Zar bs] H) Q:=by
 refine Za7 rfl ?_
 show wS (Zex [some (.int l),some (Zar bs)] H) _
 unfold Zex
 fail "g"
 refine Zv2 ?_
 fail "g"
 cases ho:opn bs l with
 | true =>
  have e:rig bs l=false:=by
   unfold rig
   have:=of_decide_eq_true ho
   rw[Wbz (by omega)]
  rw[e] at q
  fail "g"
  exact q
 | false =>
  have hh:=of_decide_eq_false ho
  have lt:(Zau l - 1).toNat<bs.length:=by omega
  fail "g"
  unfold Zar
  refine w_ixT (Zh0 (by omega) (d:=.bl (bs[(Zau l - 1).toNat])) (by rw[Xp,Xm lt]; rfl)) ?_
  fail "g"
  refine Zzs ?_
  have e:rig bs l=(bs[(Zau l - 1).toNat]==decide (0<l)):=by
   unfold rig
   rw[Xm lt]
  rw[e] at q
  exact q
theorem Yel {bs:List Bool} {ls:List Int} (h:∀ l∈ls,1<=Zau l) (q:Q (.bl (Zc4 false bs ls)) H):wE (Zkm [Zaz ls,Zar bs] H) Q:=by
 refine Za7 rfl ?_
 show wS (Zgj [some (.tup (ls.map .int)),some (Zar bs),none] H) _
 unfold Zgj
 fail "g"
 refine Zcn (fun d t σ H'=>∃ (r:List Int) (z:Option D),(∀ l∈r,1<=Zau l)/\t=r.map .int/\Zc4 false bs ls=Zc4 false bs r/\H'=H/\σ=[some (.tup (ls.map .int)),some (Zar bs),z]) (fun _ _ _ _ _=>Zg4) (fun d x t σ H1 ⟨r,z,i1,i2,i3,i4,i5⟩=>?_) (fun d σ H1 ⟨r,z,i1,i2,i3,i4,i5⟩=>?_) _ [] _ _ ⟨ls,_,h,rfl,rfl,rfl,rfl⟩
 ·subst i4 i5
  cases r with
  | nil=>cases i2
  | cons l r =>
   obtain⟨rfl,rfl⟩:=Wbo.inj (show x::t=.int l::r.map .int from i2)
   have h1:=i1 l (by simp)
   have e:Zc4 false bs (l::r)=((decide (Zau l<=bs.length)&&(rig bs l==false))&&Zc4 false bs r):=rfl
   fail "i"
   refine Zv2 ?_
   fail "g"
   cases ho:opn bs l with
   | true =>
    have:=of_decide_eq_true ho
    fail "g"
    rw[i3,e,decide_eq_false (by omega)] at q
    exact q
   | false =>
    have:=of_decide_eq_false ho
    fail "g"
    refine Zm4 (by omega) ?_
    fail "g"
    rw[decide_eq_true (by omega),Bool.true_and] at e
    cases hr:rig bs l with
    | true =>
     fail "g"
     rw[i3,e,hr] at q
     exact q
    | false =>
     fail "g"
     rw[hr] at e
     exact⟨r,_,fun y hy=>i1 y (by simp[hy]),rfl,i3.trans e,rfl,rfl⟩
 ·subst i4 i5
  cases r with
  | cons l r=>cases i2
  | nil=>fail "g"; rw[i3] at q; exact q
theorem Yge {p:Nat} {bs:List Bool} (g:H[p]? = some (.lst (bs.map .bl))) (q:Q (.bl (bs.all id)) H):wE (Yaw [.ref p] H) Q:=by
 exact⟨_,_,Yaz g,by simpa using q⟩
nonrec def Ybh:D->Int
 | .int i=>i
 | _=>0
theorem Zrn {bs:List Bool}:∀ {ls:List Int},(∀ l∈ls,1<=Zau l)->(ls.map (rig bs)).all id=Zc4 true bs ls
 | [],_=>rfl
 | l::r,h=>by
  have ih:=Zrn (bs:=bs) (ls:=r) fun x hx=>h x (by simp[hx])
  have e:Zc4 true bs (l::r)=((decide (Zau l<=bs.length)&&(rig bs l==true))&&Zc4 true bs r):=rfl
  rw[e,Xn,Wdd,ih]
  cases hr:rig bs l with
  | false=>simp
  | true =>
   have h1:=h l (by simp)
   have:Zau l<=bs.length:=by
    unfold rig at hr
    by_cases z:(Zau l - 1).toNat<bs.length
    ·omega
    ·rw[Wbz (by omega)] at hr; cases hr
   rw[decide_eq_true this]
   rfl
theorem Zzv {s:Bool} {bs:List Bool} {ls:List Int} (h:∀ l∈ls,1<=Zau l) (hl:ls.length<=1000) (q:∀ H',Fm [] H H'->Q (.bl (Zc4 s bs ls)) H'):wE (Zf2 [Zam s,Zaz ls,Zar bs] H) Q:=by
 cases s with
 | false =>
  refine Za7 rfl ?_
  show wS (Zb7 [some (.str "all"),some (Zaz ls),some (Zar bs)] H) _
  unfold Zb7
  fail "i"
  fail "g"
  refine Yel h ?_
  fail "g"
  exact q _ Fm.refl
 | true =>
  refine Za7 rfl ?_
  show wS (Zb7 [some (.str "some"),some (.tup (ls.map .int)),some (Zar bs)] H) _
  unfold Zb7
  fail "i"
  fail "g"
  refine Zrm (fun d=>.bl (rig bs (Ybh d))) (fun H'=>H'=H) (fun _ _=>Zg4) _ (fun y hy H2 j=>?_) _ rfl fun H2 j=>?_
  ·obtain⟨z,hz,rfl⟩:=Xz.mp hy
   subst j
   show wE (Zak 2 Zc1 (Zab (Zac 0) (Zab (Zac 1) Zaf)) (some (.int z)::[some (Zar bs)]) _) _
   fail "g"
   refine Zm4 (by have:=h z hz; omega) ?_
   exact⟨rfl,rfl⟩
  subst j
  refine⟨by simp; omega,?_⟩
  rw[show (ls.map D.int).map (fun d=>D.bl (rig bs (Ybh d)))=(ls.map (rig bs)).map D.bl by rw[Wat,Wat]; rfl]
  fail "g"
  refine Yge last ?_
  rw[Zrn h]
  fail "g"
  exact q _ (Fm.app _)
theorem Ybs {s t:Bool} {n:Int} (q:Q (.int (Zek s n t)) H):wE (Zei [Zam s,.int n,.bl t] H) Q:=by
 refine Za7 rfl ?_
 show wS (Zcg [some (Zam s),some (.int n),some (.bl t)] H) _
 unfold Zcg
 fail "g"
 refine Zcl (b:=true) ?_
 fail "g"
 refine Zzs ?_
 fail "g"
 cases s<;>cases t<;>fail "g" <;> exact q
section
variable {s:Bool} {ps:Nat} {ks:List D} {rss:List (List Int)} {L:List (D×List Int)} {bs:List Bool}
theorem Zww {p:Nat} {xs:List D} (g:H[p]? = some (.lst xs)):Zym (.ref p) H=some (xs,[(p,.lst xs)]):=by simp[Zym,g]
theorem Ybc:∀ L:List (D×List Int),Zsg (L.map (·.1)) ((L.map (·.2)).map Zaz)=L.map fun e=>.tup [e.1,Zaz e.2]
 | []=>rfl
 | e::L=>by
  show .tup [e.1,Zaz e.2]::Zsg (L.map (·.1)) ((L.map (·.2)).map Zaz)=_
  rw[Ybc L]
  rfl
theorem Zoi (c:CR ks rss) (hu:∀ ls∈rss,Up ks.length 0 ls) (g:H[ps]? = some (.lst (L.map (·.1)))) (hl:L.length<=1000) (h8:bs.length<=8) (rt:Rt s ks rss L)
  (q:∀ H',Fm [] H H'->Q (.bl (Znm s (L.map (·.2)) bs L)) H'):wE (Zgq [Zan ks rss,Zam s,.ty (fnS s),.ref ps,Zar bs] H) Q:=by
 refine Za7 rfl ?_
 show wS (Zeo [some (Zan ks rss),some (Zam s),some (.ty (fnS s)),some (.ref ps),some (Zar bs),none,none,none,none,none] H) _
 unfold Zeo
 fail "g"
 refine Zxw c hu g hl rt fun p H1 g1 l1 x1=>?_
 have gs:=x1.lst (by simp) g
 fail "g"
 refine⟨_,_,_,_,rfl,Zww gs,Zww g1,?_⟩
 rw[Ybc]
 have ups:=rt.up hu
 refine Zcn (fun d t σ H'=>∃ (pre r:List (D×List Int)) (z7 z8 z9:Option D),L=pre++r/\t=r.map (fun e=>.tup [e.1,Zaz e.2])/\Znm s (L.map (·.2)) bs L=Znm s (L.map (·.2)) bs r/\Fm [] H1 H'/\σ=[some (Zan ks rss),some (Zam s),some (.ty (fnS s)),some (.ref ps),some (Zar bs),some (.ref p),some (.int ((bs.length:Int)+1)),z7,z8,z9])
  (fun d t σ H' ⟨pre,r,z7,z8,z9,i1,i2,i3,i4,i5⟩=>by rintro pp hp; rcases Xy.mp hp with hp | hp<;>rw[Wbh.mp hp]; exact i4.lst (by simp) gs; exact i4.lst (by simp) g1) (fun d x t σ H2 ⟨pre,r,z7,z8,z9,i1,i2,i3,i4,i5⟩=>?_) (fun d σ H2 ⟨pre,r,z7,z8,z9,i1,i2,i3,i4,i5⟩=>?_) _ [] _ _ ⟨[],L,_,_,_,rfl,rfl,rfl,Fm.refl,rfl⟩
 ·subst i5
  cases r with
  | nil=>cases i2
  | cons e r =>
   obtain⟨rfl,rfl⟩:=Wbo.inj (show x::t=.tup [e.1,Zaz e.2]::r.map _ from i2)
   have st:=rt.at (k:=pre.length) (e:=e) (by rw[i1]; simp)
   have ue:=ups e (by rw[i1]; simp)
   have tk:L.take pre.length=pre:=by rw[i1,Wdk]
   rw[tk] at st
   obtain⟨dd,row⟩:=e
   dsimp only at st ue
   have i1':L=(pre++[(dd,row)])++r:=by rw[i1]; simp
   have again:pk1 s (L.map (·.2)) bs dd row=none->Znm s (L.map (·.2)) bs L=Znm s (L.map (·.2)) bs r:=fun h=>by
    rw[i3,Znm]
    simp only[h]
    rfl
   cases st with
   | less i hi =>
    rw[Xr] at hi
    have lr:=(Zk8 (by omega) ue).1
    have ll:=lr.len
    have hc:=c.h8
    fail "i"
    refine Zzv (fun l hl=>(lr.rg l hl).1) (Waa lr.len (by omega)) fun H3 x3=>?_
    have g13:=(i4.trans x3).lst (by simp) g1
    fail "g"
    have hi':i<(L.map (·.2)).length:=by rw[i1]; simp; omega
    have er:(L.map (·.2))[i]=(pre.map (·.2))[i]'(by simpa using hi):=by
     rw[Wdr,Wdr]
     congr 1
     simp only[i1]
     exact List.getElem_append_left hi
    have eg:(L.map (·.2)).getD i []=(L.map (·.2))[i]:=by rw[Wbk,Xm hi']; rfl
    cases lost:Zc4 s bs (Zbo s ks ((pre.map (·.2))[i]'(by simpa using hi))) with
    | false =>
     fail "g"
     exact⟨_,r,_,_,_,i1',rfl,again (Zvw lost),i4.trans x3,rfl⟩
    | true =>
     fail "g"
     refine⟨_,_,rfl,?_⟩
     refine Zgi Zg4 ?_
     fail "i"
     refine Ybs ?_
     fail "g"
     refine w_ixR g13 (Zki hi') ?_
     fail "g"
     refine Yc6 ?_
     cases y1:decide (Zek s ((bs.length:Int)+1) false∈(L.map (·.2))[i]) with
     | true =>
      fail "g"
      have:Znm s (L.map (·.2)) bs L=false:=by
       rw[i3,Znm]
       simp only[pk1]
       rw[if_pos ⟨trivial,lost⟩,Wah,eg,if_pos (of_decide_eq_true y1)]
       rfl
      have q:=q H3 ((x1.trans i4).trans x3)
      rw[this] at q
      exact q
     | false =>
      fail "g"
      refine Zgi Zg4 ?_
      fail "i"
      refine Ybs ?_
      fail "g"
      refine w_ixR g13 (Zki hi') ?_
      fail "g"
      refine Yc6 ?_
      cases y2:decide (Zek s ((bs.length:Int)+1) true∈(L.map (·.2))[i]) with
      | true =>
       fail "g"
       have:Znm s (L.map (·.2)) bs L=true:=by
        rw[i3,Znm]
        simp only[pk1]
        rw[if_pos ⟨trivial,lost⟩,Wah,eg,if_neg (of_decide_eq_false y1),if_pos (of_decide_eq_true y2)]
        rfl
       have q:=q H3 ((x1.trans i4).trans x3)
       rw[this] at q
       exact q
      | false =>
       fail "g"
       refine Zn3 Zg4 ?_
       fail "g"
       refine⟨_,r,_,_,_,i1',rfl,again ?_,i4.trans x3,rfl⟩
       simp only[pk1]
       rw[if_pos ⟨trivial,lost⟩,Wah,eg,if_neg (of_decide_eq_false y1),if_neg (of_decide_eq_false y2)]
   | base v x h =>
    cases s with
    | false =>
     obtain⟨i,hi,rfl,rfl⟩:=h
     show wG _ _
     unfold bnS
     fail "i"
     exact⟨_,r,_,_,_,i1',rfl,again (by unfold pk1; exact if_neg (fun z=>absurd z.1 (show ¬ ("row" : Str) = "less" by decide))),i4,rfl⟩
    | true =>
     obtain⟨rfl,_,_⟩:=h
     unfold bnS
     fail "i"
     exact⟨_,r,_,_,_,i1',rfl,again rfl,i4,rfl⟩
   | joined i j n x hi hj hn ho e =>
    fail "i"
    exact⟨_,r,_,_,_,i1',rfl,again rfl,i4,rfl⟩
 ·subst i5
  cases r with
  | cons e r=>cases i2
  | nil =>
   have q:=q H2 (x1.trans i4)
   rw[i3] at q
   fail "g"
   exact q
end
variable {σ:SD} {H:HD} {Q:D->HD->Prop}
nonrec def two (bs:List Bool):List (List Bool):=[bs++[false],bs++[true]]
nonrec def lev:Nat->List (List Bool)
 | 0=>[[]]
 | k+1=>(lev k).flatMap two
theorem Zgl:∀ (k:Nat),∀ bs∈lev k,bs.length=k
 | 0,bs,h=>by simp[lev] at h; subst h; rfl
 | k+1,bs,h=>by
  obtain⟨x,hx,h⟩:=Wds.mp h
  have:=Zgl k x hx
  simp only[two,Xi,Wci,or_false] at h
  rcases h with rfl | rfl<;>simp[this]
theorem Zv5 (xs:List (List Bool)):(xs.flatMap two).length=2*xs.length:=by
 induction xs with
 | nil=>rfl
 | cons x r ih=>rw[Wfy,Xq,ih]; simp[two]; omega
theorem Zsr:∀ k:Nat,(lev k).length=2 ^ k
 | 0=>rfl
 | k+1=>by
  show ((lev k).flatMap two).length=_
  rw[Zv5,Zsr k,Wfd]; omega
theorem Zju {k:Nat} (h:k<=8):(lev k).length<=256:=by
 rw[Zsr]
 exact Waa (Wdw (by omega) h) (by decide)
theorem Zzm {k:Nat} {bs:List Bool} (t:Bool) (h:bs∈lev k):bs++[t]∈lev (k+1):=by
 refine Wds.mpr ⟨bs,h,?_⟩
 cases t<;>simp[two]
theorem Zkd:∀ k:Nat,(lev k).Nodup
 | 0=>by simp[lev]
 | k+1=>by
  have:∀ xs:List (List Bool),xs.Nodup->(xs.flatMap two).Nodup:=fun xs=>by
   induction xs with
   | nil=>intro _; simp
   | cons x r ih =>
    intro h
    obtain⟨h1,h2⟩:=Wbg.mp h
    rw[Wfy]
    refine Wbf.mpr ⟨by simp[two],ih h2,?_⟩
    intro a ha b hb e
    subst e
    obtain⟨y,hy,hb⟩:=Wds.mp hb
    simp only[two,Xi,Wci,or_false] at ha hb
    have:x=y:=by
     rcases ha with ha | ha<;>rcases hb with hb | hb<;>rw[ha] at hb<;>exact(List.append_inj' hb rfl).1
    exact h1 (this ▸ hy)
  exact this _ (Zkd k)
theorem Yfc {p q:Nat} {xs ys:List D} (h1:H[p]? = some (.lst xs)) (h2:H[q]? = some (.lst ys)) (hl:xs.length+ys.length<=100000) (k:Q (.ref H.length) (H++[.lst (xs++ys)])):wE (Zcq (.ref p) (.ref q) H) Q:=by
 have z:(xs++ys).length<=sizeLine:=Zg9 (by simp; omega)
 exact⟨_,_,by simp only[Zcq,h1,h2]; exact if_pos z,k⟩
theorem Zzw {k q:Nat} {a0 a2 z4:Option D} {R:FD->SD->HD->Prop} {H:HD} (hk:k<=8) (g:H[q]? = some (.lst ((lev k).map Zar)))
  (h:∀ m z H',H'[m]? = some (.lst ((lev (k+1)).map Zar))->ExtS [] H H'->R .nx [a0,some (.ref q),a2,some (.ref m),z] H') :
  wS (Zhk [(q,.lst ((lev k).map Zar))] (gNm 4) (Zag (Zbm 3 (eOp Zcq (Zac 3) (Zgw (Zab (eOp Zcq (Zac 4) (Zd1 (Zab (eC (.bl false)) Zaf))) (Zab (eOp Zcq (Zac 4) (Zd1 (Zab (eC (.bl true)) Zaf))) Zaf))))) Zaj) ((lev k).map Zar) [a0,some (.ref q),a2,some (.ref H.length),z4] (H++[.lst []])) R:=by
 have l256:=Zju hk
 refine Zcn (fun d t σ H'=>∃ (dn td:List (List Bool)) (m:Nat) (z:Option D),d=dn.map Zar/\t=td.map Zar/\lev k=dn++td/\H'[m]? = some (.lst ((dn.flatMap two).map Zar))/\H'[q]? = some (.lst ((lev k).map Zar))/\ExtS [] H H'/\σ=[a0,some (.ref q),a2,some (.ref m),z]) (fun d t σ H' ⟨dn,td,m,z,i1,i2,i3,i4,i5,i6,i7⟩=>Yet i5) (fun d x t σ H' ⟨dn,td,m,z,i1,i2,i3,i4,i5,i6,i7⟩=>?_) (fun d σ H' ⟨dn,td,m,z,i1,i2,i3,i4,i5,i6,i7⟩=>?_) _ [] _ _ ⟨[],lev k,H.length,z4,rfl,rfl,rfl,last,appL g,ExtS.app _,rfl⟩
 ·subst i7 i1
  obtain⟨b,tr,rfl,rfl,rfl⟩:∃ b tr,td=b::tr/\x=Zar b/\t=tr.map Zar:=by
   cases td with
   | nil=>cases i2
   | cons b tr=>obtain⟨e1,e2⟩:=Wbo.inj i2; exact⟨b,tr,rfl,e1,e2⟩
  have lb:b.length=k:=Zgl k b (by rw[i3]; simp)
  have ln:dn.length<=256:=by have:=congrArg Wbn i3; simp at this; omega
  fail "g"
  refine Yfc (appL i4) last (by rw[Xr,Zv5]; simp; omega) ?_
  fail "g"
  refine⟨dn++[b],tr,_,_,by simp,rfl,by rw[i3]; simp,?_,appL (appL i5),(i6.trans (ExtS.app _)).trans (ExtS.app _),rfl⟩
  rw[last]
  simp[two]
 ·subst i7
  cases td with
  | cons b tr=>cases i2
  | nil =>
   rw[Wad] at i3
   subst i3
   exact h m z H' i4 i6
theorem Zov {n:Nat} (hn:n<=8) (q:∀ p H',H'[p]? = some (.lst ((lev n).map Zar))->ExtS [] H H'->Q (.ref p) H'):wE (Ze6 [.int n] H) Q:=by
 refine Za7 rfl ?_
 show wS (Zdv [some (.int n),none,none,none,none] H) _
 unfold Zdv
 fail "g"
 refine⟨_,rfl,⟨by omega,by omega⟩,?_⟩
 rw[Wah]
 refine Zcn (fun d t σ H'=>∃ (m:Nat) (z2 z3 z4:Option D),d.length+t.length=n/\H'[m]? = some (.lst ((lev d.length).map Zar))/\ExtS [] H H'/\σ=[some (.int n),some (.ref m),z2,z3,z4]) (fun _ _ _ _ _=>Zg4) (fun d x t σ H' ⟨m,z2,z3,z4,i1,i2,i3,i4⟩=>?_) (fun d σ H' ⟨m,z2,z3,z4,i1,i2,i3,i4⟩=>?_) _ [] _ _ ⟨H.length,none,none,none,by simp[Zbj],last,ExtS.app _,rfl⟩
 ·subst i4
  fail "g"
  refine Zzw (k:=d.length) (by simp at i1; omega) i2 fun m' z H2 g2 x2=>?_
  fail "g"
  refine⟨m',_,_,_,by simp at i1 ⊢; omega,by rw[g2]; simp,i3.trans x2,rfl⟩
 ·subst i4
  simp only[Wcm,Wgc] at i1
  subst i1
  fail "g"
  exact q m H' i2 i3
nonrec def enc (bs:List Bool):List Int:=bs.map fun b=>if b then 1 else 0
theorem Zjm (bs:List Bool):nk (Zar bs)=some (enc bs):=by
 show Znc (bs.map D.bl)=_
 induction bs with
 | nil=>rfl
 | cons b r ih =>
  rw[Xn,Znc,ih]
  cases b<;>rfl
theorem Zq5:∀ a b:List Bool,enc a=enc b->a=b
 | [],[],_=>rfl
 | [],_::_,h=>by simp[enc] at h
 | _::_,[],h=>by simp[enc] at h
 | x::a,y::b,h=>by
  have h1:(if x then (1:Int) else 0)=(if y then 1 else 0):=(Wbo.inj h).1
  have h2:enc a=enc b:=(Wbo.inj h).2
  rw[Zq5 a b h2]
  cases x<;>cases y<;>simp at h1<;>rfl
nonrec def kvD (v:List Bool->D) (bs:List Bool):D×D:=(Zar bs,v bs)
theorem Zsj {v:List Bool->D} {bs:List Bool}:∀ done:List (List Bool),bs∈done->Zbi (done.map (kvD v)) (enc bs)=some (v bs)
 | [],h=>by simp at h
 | x::r,h=>by
  unfold Zbi
  rw[Xn,Wce]
  by_cases c:x=bs
  ·subst c
   have:(nk (kvD v x).1==some (enc x))=true:=by simp[kvD,Zjm]
   rw[this]; rfl
  ·have:(nk (kvD v x).1==some (enc bs))=false:=by
    simp only[kvD,Zjm]
    exact beq_eq_false_iff_ne.mpr fun z=>c (Zq5 x bs (Xx.inj z))
   rw[this]
   rcases Xi.mp h with h | h
   ·exact absurd h.symm c
   ·exact Zsj r h
theorem Zpr {v:List Bool->D} {bs:List Bool}:∀ done:List (List Bool),bs∉done->Zbi (done.map (kvD v)) (enc bs)=none
 | [],h=>rfl
 | x::r,h=>by
  unfold Zbi
  rw[Xn,Wce]
  have c:x≠bs:=fun z=>h (by simp[z])
  have:(nk (kvD v x).1==some (enc bs))=false:=by
   simp only[kvD,Zjm]
   exact beq_eq_false_iff_ne.mpr fun z=>c (Zq5 x bs (Xx.inj z))
  rw[this]
  exact Zpr r fun z=>h (by simp[z])
theorem putV {v:List Bool->D} {bs:List Bool} {done:List (List Bool)} (hn:bs∉done):Zp6 (done.map (kvD v)) (Zar bs) (enc bs) (v bs)=(done++[bs]).map (kvD v):=by
 unfold Zp6; rw[Zpr done hn]; simp[kvD]
theorem Yf5 {v:List Bool->D} {d:D} {done:List (List Bool)} {p:Nat} {bs:List Bool} {Q:HD->Prop} (g:H[p]? = some (.dic (done.map (kvD v)) false)) (ed:d=v bs) (hn:bs∉done) (hl:done.length<=10000) (q:Q (H.set p (.dic ((done++[bs]).map (kvD v)) false))):wH (Zpb (.ref p) (Zar bs) d H) Q:=by
 subst ed
 have sz:(done.map (kvD v)).length<sizeLine:=by rw[Ux,Xr]; omega
 refine⟨_,?_,q⟩
 unfold Zpb
 simp only[g,Zjm,Zb,if_pos sz,putV hn]
theorem Zxo {v:List Bool->D} {done:List (List Bool)} {p:Nat} {fz:Bool} {bs:List Bool} (g:H[p]? = some (.dic (done.map (kvD v)) fz)) (hm:bs∈done) (q:Q (v bs) H):wE (Zgy (.ref p) (Zar bs) H) Q:=Yav g (Zjm bs) (Zsj done hm) q
theorem w_irb {σ:SD} {f:AF} {I:List D->Zh4->HD->Prop} (h:wA (f σ H) fun ds H1=>∃ i j c,ds=[.int i,.int j,.int c]/\Zlp i j c/\I (Zhd i c (Zid i j)) [] H1):wI (iRB f σ H) I:=by
 obtain⟨ds,H1,e,i,j,c,rfl,s1,q⟩:=h
 exact⟨_,_,H1,by unfold iRB; rw[e]; exact if_pos s1,q⟩
nonrec def Zy0:Nat->List D
 | 0=>[]
 | m+1=>.int m::Zy0 m
theorem Zwh:∀ n:Nat,Zhd ((n:Int) - 1) (-1) n=Zy0 n
 | 0=>rfl
 | n+1=>by
  have ih:=Zwh n
  unfold Zhd at ih ⊢
  rw[Wet,Xn,Wat,Zy0,<- ih]
  congr 1
  ·congr 1; omega
  ·refine Wcw fun k _=>?_
   show D.int _=D.int _
   congr 1
   show (↑(n+1):Int) - 1+((k+1:Nat):Int) * -1=_
   omega
variable {σ:SD} {H:HD} {Q:D->HD->Prop}
theorem Yc0 {p r:Nat} {ds:List D} {xs:List Uah} {h:Nat} (f:Fines ds xs h) (hh:h<30) (g1:H[p]? = some (.lst ds)) (g2:H[r]? = some (.lst [])) (q:Q (.bl ds.isEmpty) H):wE (eqD (.ref p) (.ref r) H) Q:=by
 refine⟨_,_,Zx4 (f.dat hh g1) ((Fines.nil (h:=0)).dat (by omega) g2),?_⟩
 have e:Ub (.list xs) (.list [])=ds.isEmpty:=by
  have l:=f.len
  cases ds with
  | nil=>cases xs with
   | nil=>rfl
   | cons a b=>simp at l
  | cons d r=>cases xs with
   | nil=>simp at l
   | cons a b=>simp[Ub,Uo]
 rw[e]; exact q
theorem Zve {bs:List Bool} {l:Int} (h:1<=Zau l/\Zau l<=bs.length) (q:Q (.bl (rig bs l)) H):wE (Zfc [.int l,Zar bs] H) Q:=by
 refine Za7 rfl ?_
 show wS (Zd4 [some (.int l),some (.tup (bs.map .bl))] H) _
 unfold Zd4
 have li:(Zau l - 1).toNat<bs.length:=by omega
 fail "g"
 rw[show Zau l - 1=(((Zau l - 1).toNat:Nat):Int) by omega]
 refine w_ixT (Ybv (d:=.bl bs[(Zau l - 1).toNat]) (by simp[li])) ?_
 fail "g"
 refine Zzs ?_
 have e:rig bs l=(bs[(Zau l - 1).toNat]==decide (0<l)):=by
  unfold rig
  rw[Xm li]
 fail "g"
 rw[e] at q
 exact q
nonrec def keeps (rss:List (List Int)) (bs:List Bool):Bool:=rss.all fun row=>row.any (rig bs)
section
variable {ks:List D} {rss:List (List Int)} {bs:List Bool}
theorem Yho {row:List Int} {s:List D} {H:HD} {Q:List D->HD->Prop} (hr:R ks.length row) (hb:bs.length=ks.length) (q:Q ((row.filter (rig bs)).map .int) H) :
  wA (Zfq [] [some (Zar bs)] (Zgv (Zak 2 Zfc (Zab (Zac 0) (Zab (Zac 1) Zaf)))) (Zac 0) (row.map .int) H) Q:=by
 refine Zdw (fun d=>rig bs (Ybh d)) (fun H'=>H'=H) (fun _ j=>Zg4) _ (fun y hy H3 j=>?_) _ rfl fun H3 j=>?_
 ·obtain⟨z,hz,rfl⟩:=Xz.mp hy
  subst j
  fail "g"
  refine Zve (by rw[hb]; exact hr.rg z hz) ?_
  fail "g"
  exact⟨rfl,rfl⟩
 ·subst j
  have ef:(row.map D.int).filter (fun d=>rig bs (Ybh d))=(row.filter (rig bs)).map .int:=by
   rw[Wcp]
   rfl
  rw[ef]
  exact q
theorem Zxh (h8:ks.length<=8) (hr:∀ ls∈rss,R ks.length ls) (hb:bs.length=ks.length) (q:∀ H',ExtS [] H H'->Q (.bl (!keeps rss bs)) H'):wE (Zeu [.tup (rss.map Zaz),Zar bs] H) Q:=by
 refine Za7 rfl ?_
 show wS (Zey [some (.tup (rss.map Zaz)),some (Zar bs),none] H) _
 unfold Zey
 fail "g"
 refine Zcn (fun d t σ H'=>∃ (pre rs:List (List Int)) (z2:Option D),rss=pre++rs/\t=rs.map Zaz/\keeps pre bs=true/\ExtS [] H H'/\σ=[some (.tup (rss.map Zaz)),some (Zar bs),z2]) (fun _ _ _ _ _=>Zg4) (fun d x t σ H2 ⟨pre,rs,z2,i1,i2,i3,i4,i5⟩=>?_) (fun d σ H2 ⟨pre,rs,z2,i1,i2,i3,i4,i5⟩=>?_) _ [] _ _ ⟨[],rss,_,rfl,rfl,rfl,ExtS.refl,rfl⟩
 ·subst i5
  cases rs with
  | nil=>cases i2
  | cons row rs =>
   obtain⟨rfl,rfl⟩:=Wbo.inj i2
   have rr:=hr row (by rw[i1]; simp)
   have lr:=rr.len
   fail "i"
   refine⟨row.map .int,[],rfl,?_⟩
   refine Yho (s:=[]) rr hb ?_
   refine⟨by have:=Wan (rig bs) row; simp at this ⊢; omega,?_⟩
   fail "g"
   refine Yc0 (Zem (row.filter (rig bs))) (by omega) (appL last) last ?_
   have ee:((row.filter (rig bs)).map D.int).isEmpty = !row.any (rig bs):=by
    cases v:row.any (rig bs) with
    | true =>
     obtain⟨l,h1,h2⟩:=Wau.mp v
     cases w:row.filter (rig bs) with
     | nil=>exact absurd (Wag.mpr ⟨h1,h2⟩) (by rw[w]; simp)
     | cons a b=>rfl
    | false =>
     have:row.filter (rig bs)=[]:=Wdi.mpr fun l hl=>Wbu.mp v l hl
     rw[this]; rfl
   rw[ee]
   have X3:=(i4.trans (ExtS.app (S:=[]) [DO.lst ((row.filter (rig bs)).map D.int)])).trans (ExtS.app (S:=[]) [DO.lst []])
   fail "g"
   cases v:row.any (rig bs) with
   | false =>
    have e:keeps rss bs=false:=by
     unfold keeps
     rw[i1,Wgq,Wdd,v]
     simp
    have q:=q _ X3
    rw[e] at q
    fail "g"
    exact q
   | true =>
    fail "g"
    refine⟨pre++[row],rs,_,by rw[i1]; simp,rfl,?_,X3,rfl⟩
    unfold keeps at i3 ⊢
    rw[Wgq,i3,Wdd,v]
    rfl
 ·subst i5
  cases rs with
  | cons row rs=>cases i2
  | nil =>
   rw[Wad] at i1
   subst i1
   have q:=q H2 i4
   rw[i3] at q
   fail "g"
   exact q
end
theorem Ybk:∀ (k:Nat) (bs:List Bool),bs.length=k->bs∈lev k:=by
 intro k
 induction k with
 | zero=>intro bs h; rw[Wcg.mp h]; simp[lev]
 | succ k ih =>
  intro bs h
  have hn:bs≠[]:=fun z=>by rw[z] at h; cases h
  have e:=List.dropLast_concat_getLast hn
  rw[lev,Wds]
  refine⟨bs.dropLast,ih _ (by simp; omega),?_⟩
  generalize bs.dropLast=cs at e
  generalize bs.getLast hn=t at e
  subst e
  cases t<;>simp[two]
nonrec def Zyn (b:Bool):Str:=if b then "some" else "all"
theorem Zri (b:Bool):Zam b=.str (Zyn b):=by cases b<;>rfl
theorem Yax (b:Bool):Tco (Zyn b)=true:=by cases b<;>exact Zto (by decide)
theorem Yht (a b:Bool):(Zyn a==Zyn b)=(a==b):=by
 have e1:(("some" : Str)==("all" : Str))=false:=by decide
 have e2:(("all" : Str)==("some" : Str))=false:=by decide
 cases a<;>cases b<;>simp[Zyn,e1,e2]
theorem Yg9 {H:HD} {q:Nat} {a b w:Bool} (h:H[q]? = some (.lst [Zam a,Zam b])):inD (Zam w) (.ref q) H=some (.bl (a==w||b==w),H):=by
 have e1:dat (Zam w) H=some (.str (Zyn w)):=by
  unfold dat
  rw[Zri,Zmi]
  simp only[Zb]
  rw[if_pos]
  simp[okP,Tae,Taq,Yax]
 have e2:dat (.ref q) H=some (.list [.str (Zyn a),.str (Zyn b)]):=by
  unfold dat
  rw[toP]
  simp only[h,Zri,Zux,Zmi,Zb,Wey]
  rw[if_pos]
  simp[okP,Tae,Tal,Taq,Tcb,Yax]
 unfold inD
 rw[e1]
 simp only[Zb]
 rw[e2]
 simp only[Zb,Zog,Wey]
 have:∀ x y:Bool,Ub (.str (Zyn x)) (.str (Zyn y))=(x==y):=fun x y=>by
  rw[<- Yht]; simp[Ub]
 simp[this]
theorem Zy8 {ks:List D} {rss:List (List Int)} {bs:List Bool} (h:bs.length=ks.length):Zam (keeps rss bs)=FW ks rss bs:=by
 unfold FW
 rw[h,Wgf]
 rfl
theorem Zzo {ks:List D} {rss:List (List Int)} {bs:List Bool} {w a b:Bool} (h:bs.length<ks.length) (ew:kS (ks.getD bs.length .non)=w) (ea:W ks rss (ks.length - (bs++[false]).length) (bs++[false])=a) (eb:W ks rss (ks.length - (bs++[true]).length) (bs++[true])=b):FW ks rss bs=if (a==w||b==w)=true then Zam w else Zam (!w):=by
 have l:∀ t:Bool,(bs++[t]).length=bs.length+1:=fun t=>by simp
 have e:ks.length - bs.length=(ks.length - (bs.length+1))+1:=by omega
 rw[l] at ea eb
 unfold FW
 rw[e,W]
 simp only[ea,eb,ew]
 cases a<;>cases b<;>cases w<;>rfl
nonrec abbrev wb1:SF:=(Zag (Zyp (eOp ixD (Zgw (Zab (eC (.str "some")) (Zab (eC (.str "all")) Zaf))) (eCB Zyo (Zab (Zak 2 Zeu (Zab (Zac 5) (Zab (Zac 2) Zaf))) Zaf))) (gSb (Zac 1) (Zac 2) Zpb))
 Zaj)
nonrec abbrev wb2:SF:=(Zag (Zbm 6 (Zgw (Zab (eOp Zgy (Zac 1) (eOp Zcq (Zac 2) (Zd1 (Zab (eC (.bl false)) Zaf)))) (Zab (eOp Zgy (Zac 1) (eOp Zcq (Zac 2) (Zd1 (Zab (eC (.bl true)) Zaf)))) Zaf))))
 (Zag (Zbm 7 (eOp ixD (Zgw (Zab (eC (.str "all")) (Zab (eC (.str "some")) Zaf))) (eCB Zyo (Zab (eOp eqD (eOp ixD (Zac 4) (Zac 3)) (eC (.str "all"))) Zaf))))
 (Zag (Zyp (eOp ixD (Zgw (Zab (Zac 7) (Zab (eOp ixD (Zac 4) (Zac 3)) Zaf))) (eCB Zyo (Zab (eOp inD (eOp ixD (Zac 4) (Zac 3)) (Zac 6)) Zaf))) (gSb (Zac 1) (Zac 2) Zpb))
 Zaj)))
section
variable {ks:List D} {rss:List (List Int)} {bs:List Bool} {dn:List (List Bool)} {f:Nat} {z0 z3 z6 z7:Option D} {R:FD->SD->HD->Prop}
theorem w_wb1 (c:CR ks rss) (hb:bs.length=ks.length) (gf:H[f]? = some (.dic (dn.map (kvD (FW ks rss))) false)) (hn:bs∉dn) (hl:dn.length<=10000)
  (q:∀ H',ExtS [] H H'->R .nx [z0,some (.ref f),some (Zar bs),z3,some (.tup ks),some (.tup (rss.map Zaz)),z6,z7] (H'.set f (.dic ((dn++[bs]).map (kvD (FW ks rss))) false))) :
  wS (wb1 [z0,some (.ref f),some (Zar bs),z3,some (.tup ks),some (.tup (rss.map Zaz)),z6,z7] H) R:=by
 unfold wb1
 fail "g"
 refine Zxh c.h8 c.hr hb fun H2 x2=>?_
 fail "g"
 refine w_ixR (x2.fm.lst (by simp) last) (d:=Zam (keeps rss bs)) (by cases keeps rss bs; exact at1 _ _; exact at0 _ _) ?_
 fail "g"
 refine Yf5 (x2.old _ _ (by simp) (appL gf)) (Zy8 hb) hn hl ?_
 fail "g"
 exact q _ ((ExtS.app _).trans x2)
theorem w_wb2 (c:CR ks rss) (hb:bs.length<ks.length) (gf:H[f]? = some (.dic (dn.map (kvD (FW ks rss))) false)) (h1:∀ t:Bool,bs++[t]∈dn) (hn:bs∉dn) (hl:dn.length<=10000)
  (q:∀ H' a b,ExtS [] H H'->R .nx [z0,some (.ref f),some (Zar bs),some (.int bs.length),some (.tup ks),some (.tup (rss.map Zaz)),a,b] (H'.set f (.dic ((dn++[bs]).map (kvD (FW ks rss))) false))) :
  wS (wb2 [z0,some (.ref f),some (Zar bs),some (.int bs.length),some (.tup ks),some (.tup (rss.map Zaz)),z6,z7] H) R:=by
 have h8:=c.h8
 unfold wb2
 fail "g"
 refine Zxo gf (h1 false) ?_
 fail "g"
 refine Zxo gf (h1 true) ?_
 obtain⟨a,ea,fa⟩:∃ a,W ks rss (ks.length - (bs++[false]).length) (bs++[false])=a/\FW ks rss (bs++[false])=Zam a:=⟨_,rfl,rfl⟩
 obtain⟨b,eb,fb⟩:∃ a,W ks rss (ks.length - (bs++[true]).length) (bs++[true])=a/\FW ks rss (bs++[true])=Zam a:=⟨_,rfl,rfl⟩
 have sk:=Zfz c.hk hb
 have st:=Zzo (rss:=rss) hb rfl ea eb
 generalize kS (ks.getD bs.length .non)=w at sk st
 rw[fa,fb]
 fail "g"
 refine w_ixT (Zbn sk) ?_
 fail "g"
 refine Zcl (b:=false) ?_
 fail "g"
 refine w_ixR last (d:=Zam (!w)) (by cases w; exact at1 _ _; exact at0 _ _) ?_
 fail "g"
 refine w_ixT (Zbn sk) ?_
 fail "g"
 refine w_ixT (Zbn sk) ?_
 fail "g"
 refine⟨_,_,Yg9 (appL (appL last)),?_⟩
 fail "g"
 refine w_ixR last (d:=FW ks rss bs) (by rw[st]; cases (a==w||b==w); exact at0 _ _; exact at1 _ _) ?_
 fail "g"
 refine Yf5 (appL (appL (appL gf))) rfl hn hl ?_
 fail "g"
 exact q _ _ _ (((ExtS.app _).trans (ExtS.app _)).trans (ExtS.app _))
theorem w_wl1 {qp:Nat} {z2:Option D} (c:CR ks rss) (g:H[qp]? = some (.lst ((lev ks.length).map Zar))) (gf:H[f]? = some (.dic [] false)) {H0:HD} (hf:H0.length<=f) (x0:Fm [] H0 H)
  (q:∀ z H',H'[f]? = some (.dic ((lev ks.length).map (kvD (FW ks rss))) false)->Fm [] H0 H'->R .nx [z0,some (.ref f),z,z3,some (.tup ks),some (.tup (rss.map Zaz)),z6,z7] H') :
  wS (Zhk [(qp,.lst ((lev ks.length).map Zar))] (gNm 2) wb1 ((lev ks.length).map Zar) [z0,some (.ref f),z2,z3,some (.tup ks),some (.tup (rss.map Zaz)),z6,z7] H) R:=by
 have l256:=Zju c.h8
 have nf:f≠qp:=fun e=>by rw[e,g] at gf; cases gf
 refine Zcn (fun d t σ H'=>∃ (dn td:List (List Bool)) (z:Option D),t=td.map Zar/\lev ks.length=dn++td/\H'[qp]? = some (.lst ((lev ks.length).map Zar))/\H'[f]? = some (.dic (dn.map (kvD (FW ks rss))) false)/\Fm [] H0 H'/\σ=[z0,some (.ref f),z,z3,some (.tup ks),some (.tup (rss.map Zaz)),z6,z7]) (fun d t σ H' ⟨dn,td,z,i1,i2,i3,i4,i5,i6⟩=>Yet i3) (fun d x t σ H' ⟨dn,td,z,i1,i2,i3,i4,i5,i6⟩=>?_) (fun d σ H' ⟨dn,td,z,i1,i2,i3,i4,i5,i6⟩=>?_) _ [] _ _ ⟨[],lev ks.length,z2,rfl,rfl,g,gf,x0,rfl⟩
 ·subst i6
  cases td with
  | nil=>cases i1
  | cons b tr =>
   obtain⟨rfl,rfl⟩:=Wbo.inj i1
   have nd:=Zkd ks.length
   have lb:=Zgl ks.length b (by rw[i2]; simp)
   rw[i2] at nd
   have hn:b∉dn:=fun z=>(Wbf.mp nd).2.2 b z b (by simp) rfl
   have ln:dn.length<=256:=by have:=congrArg Wbn i2; simp at this; omega
   refine w_gnm ?_
   refine w_wb1 (bs:=b) c lb i4 hn (by omega) fun H2 x2=>?_
   refine w_agn ?_
   exact⟨dn++[b],tr,_,rfl,by rw[i2]; simp,Zud nf (x2.old _ _ (by simp) i3),Zlm (x2.old _ _ (by simp) i4),(i5.trans x2.fm).new (Fm.set (S:=[f]) (by simp)) (fun m hm _=>by simp at hm; omega),rfl⟩
 ·subst i6
  cases td with
  | cons b tr=>cases i1
  | nil =>
   rw[Wad] at i2
   rw[<- i2] at i4
   exact q z H' i4 i5
theorem w_wl2 {m qp:Nat} {z2:Option D} {base:List (List Bool)} (c:CR ks rss) (hm:m<ks.length) (g:H[qp]? = some (.lst ((lev m).map Zar))) (gf:H[f]? = some (.dic (base.map (kvD (FW ks rss))) false)) {H0:HD} (hf:H0.length<=f) (x0:Fm [] H0 H)
  (h1:∀ b∈lev (m+1),b∈base) (h2:∀ b∈base,m<b.length) (h3:base.length<=5000)
  (q:∀ z a b H',H'[f]? = some (.dic ((base++lev m).map (kvD (FW ks rss))) false)->Fm [] H0 H'->R .nx [z0,some (.ref f),z,some (.int m),some (.tup ks),some (.tup (rss.map Zaz)),a,b] H') :
  wS (Zhk [(qp,.lst ((lev m).map Zar))] (gNm 2) wb2 ((lev m).map Zar) [z0,some (.ref f),z2,some (.int m),some (.tup ks),some (.tup (rss.map Zaz)),z6,z7] H) R:=by
 have h8:=c.h8
 have l256:=Zju (k:=m) (by omega)
 have nf:f≠qp:=fun e=>by rw[e,g] at gf; cases gf
 refine Zcn (fun d t σ H'=>∃ (dn td:List (List Bool)) (z a b:Option D),t=td.map Zar/\lev m=dn++td/\H'[qp]? = some (.lst ((lev m).map Zar))/\H'[f]? = some (.dic ((base++dn).map (kvD (FW ks rss))) false)/\Fm [] H0 H'/\σ=[z0,some (.ref f),z,some (.int m),some (.tup ks),some (.tup (rss.map Zaz)),a,b]) (fun d t σ H' ⟨dn,td,z,a,b,i1,i2,i3,i4,i5,i6⟩=>Yet i3) (fun d x t σ H' ⟨dn,td,z,a,b,i1,i2,i3,i4,i5,i6⟩=>?_) (fun d σ H' ⟨dn,td,z,a,b,i1,i2,i3,i4,i5,i6⟩=>?_) _ [] _ _ ⟨[],lev m,z2,z6,z7,rfl,rfl,g,by rw[Wad]; exact gf,x0,rfl⟩
 ·subst i6
  cases td with
  | nil=>cases i1
  | cons y tr =>
   obtain⟨rfl,rfl⟩:=Wbo.inj i1
   have nd:=Zkd m
   have my:y∈lev m:=by rw[i2]; simp
   have ly:=Zgl m y my
   rw[i2] at nd
   have hn:y∉base++dn:=fun z=>by
    rcases Xy.mp z with z | z
    ·have:=h2 y z; omega
    ·exact(Wbf.mp nd).2.2 y z y (by simp) rfl
   have ln:dn.length<=256:=by have:=congrArg Wbn i2; simp at this; omega
   refine w_gnm ?_
   subst ly
   refine w_wb2 c (by omega) i4 (fun t=>Xy.mpr (.inl (h1 _ (Zzm t my)))) hn (by simp; omega) fun H2 a' b' x2=>?_
   refine w_agn ?_
   exact⟨dn++[y],tr,_,a',b',rfl,by rw[i2]; simp,Zud nf (x2.old _ _ (by simp) i3),by rw[Zlm (x2.old _ _ (by simp) i4)]; simp,(i5.trans x2.fm).new (Fm.set (S:=[f]) (by simp)) (fun m hm _=>by simp at hm; omega),rfl⟩
 ·subst i6
  cases td with
  | cons b tr=>cases i1
  | nil =>
   rw[Wad] at i2
   rw[<- i2] at i4
   exact q z a b H' i4 i5
theorem Zxa (c:CR ks rss) (q:∀ (p:Nat) (dn:List (List Bool)) (H':HD),H'[p]? = some (.dic (dn.map (kvD (FW ks rss))) false)->(∀ b:List Bool,b.length<=ks.length->b∈dn)->H.length<=p->Fm [] H H'->Q (.ref p) H'):wE (Zfh [Zan ks rss] H) Q:=by
 have h8:=c.h8
 have l256:=Zju c.h8
 refine Za7 rfl ?_
 show wS (Zcv [some (.tup [.tup ks,.tup (rss.map Zaz)]),none,none,none,none,none,none,none] H) _
 unfold Zcv
 fail "g"
 refine Zov h8 fun qp H1 g1 x1=>?_
 fail "g"
 have hne:H1[H.length]? = some (.dic [] false):=x1.old _ _ (by simp) last
 have X1:Fm [] H H1:=(Fm.app _).trans x1.fm
 refine w_wl1 (f:=H.length) c g1 hne (Xe _) X1 fun z H2 g2 x2=>?_
 fail "g"
 refine w_irb ?_
 fail "g"
 refine⟨_,_,_,rfl,⟨by omega,by omega,by omega,by omega,rfl⟩,?_⟩
 rw[show Zid ((ks.length:Int) - 1) (-1)=ks.length by unfold Zid; omega,Zwh]
 refine Zcn (fun d t σ H'=>∃ (m:Nat) (dn:List (List Bool)) (z a b e:Option D),t=Zy0 m/\m<=ks.length/\H'[H.length]? = some (.dic (dn.map (kvD (FW ks rss))) false)/\(∀ b:List Bool,m<=b.length->b.length<=ks.length->b∈dn)/\(∀ b∈dn,m<=b.length)/\dn.length+256*m<=256*9/\Fm [] H H'/\σ=[some (.tup [.tup ks,.tup (rss.map Zaz)]),some (.ref H.length),z,e,some (.tup ks),some (.tup (rss.map Zaz)),a,b]) (fun _ _ _ _ _=>Zg4) (fun d x t σ H' ⟨m,dn,z,a,b,e,i1,i2,i3,i4,i5,i6,i7,i8⟩=>?_) (fun d σ H' ⟨m,dn,z,a,b,e,i1,i2,i3,i4,i5,i6,i7,i8⟩=>?_) _ [] _ _ ⟨ks.length,lev ks.length,z,none,none,none,rfl,Xe _,g2,fun b h h'=>Ybk _ b (by omega),fun b h=>Wga (Zgl _ b h).symm,by omega,x2,rfl⟩
 ·subst i8
  cases m with
  | zero=>cases i1
  | succ m =>
   obtain⟨rfl,rfl⟩:=Wbo.inj i1
   fail "g"
   refine Zov (by omega) fun qp H2 g2 x2=>?_
   fail "g"
   refine w_wl2 (H0:=H) c (by omega) g2 (x2.old _ _ (by simp) i3) (Xe _) (i7.trans x2.fm) (fun b h=>i4 b (by have:=Zgl _ b h; omega) (by have:=Zgl _ b h; omega)) (fun b h=>i5 b h) (by omega) fun z' a' b' H3 g3 x3=>?_
   fail "g"
   refine⟨m,dn++lev m,_,_,_,_,rfl,by omega,g3,fun b h h'=>?_,fun b h=>?_,?_,x3,rfl⟩
   ·by_cases e:b.length=m
    ·exact Xv _ (Ybk _ b e)
    ·exact Wax _ (i4 b (by omega) h')
   ·rcases Xy.mp h with h | h
    ·have:=i5 b h; omega
    ·have:=Zgl m b h; omega
   ·have:=Zju (k:=m) (by omega)
    rw[Xq]; omega
 ·subst i8
  cases m with
  | succ m=>cases i1
  | zero =>
   fail "g"
   exact q _ dn H' i3 (fun b h=>i4 b (Wbd _) h) (Xe _) i7
end
structure Lt (s:Bool) (ks:List D) (bs:List Bool) (r:List Int):Prop where
 up:Up ks.length 0 r
 ls:Zbo s ks r=r
 wr:∀ l∈r,Zau l<=bs.length/\rig bs l=s
section
variable {s:Bool} {ks:List D} {rss:List (List Int)} {bs:List Bool} {r x:List Int} {t:Bool}
theorem Lt.of (u:Up ks.length 0 x) (h:∀ l∈Zbo s ks x,Zau l<=bs.length/\rig bs l=s):Lt s ks bs (Zbo s ks x):=by
 refine⟨?_,Zt9 (s:=s) ks x,h⟩
 obtain⟨tl,e,_⟩:=Zc6 (s:=s) ks x
 rw[e] at u
 exact Zsb u
theorem Lt.last (h:Lt s ks bs r) {z:Int} (e:r.getLast? = some z):Zib s ks z=false:=by
 rw[<- h.ls] at e
 exact Zgu (s:=s) ks r z e
theorem Zus {z:Int}:Zib s ks z=(kS (ks.getD (Zau z - 1).toNat .non)==s):=by
 unfold Zib
 rw[show (Zau z).toNat - 1=(Zau z - 1).toNat by omega]
theorem Lt.leafA (u:Up ks.length 0 x) (hk:kept bs x=false) (ha:Zi7 ks (rest bs x)=true):Lt false ks bs (Zbo false ks x):=by
 refine Lt.of u fun l hl=>?_
 have sub:=(Zhu (s:=false) ks x).subset
 refine⟨?_,?_⟩
 ·refine Int.not_lt.mp fun g=>?_
  have u2:Up ks.length 0 (Zbo false ks x):=by
   obtain⟨tl,e,_⟩:=Zc6 (s:=false) ks x
   rw[e] at u
   exact Zsb u
  obtain⟨z,e,hz,le⟩:=Zu1 u2 hl
  have o:=Zgu (s:=false) ks x z e
  have hr:z∈rest bs x:=Wag.mpr ⟨sub hz,decide_eq_true (by omega)⟩
  have:=Xu.mp ha z hr
  rw[Zus] at o
  cases w:kS (ks.getD (Zau z - 1).toNat .non) with
  | false=>rw[w] at o; cases o
  | true=>rw[w] at this; cases this
 ·have:=Wbu.mp hk l (sub hl)
  simpa using this
theorem Lt.leafS (u:Up ks.length 0 x) (h:∀ l∈x,Zau l<=bs.length/\rig bs l=s):Lt s ks bs (Zbo s ks x):=Lt.of u fun l hl=>h l ((Zhu (s:=s) ks x).subset hl)
theorem Zwr {l:Int} (h1:1<=Zau l) (h2:Zau l<=bs.length):rig (bs++[t]) l=rig bs l:=by
 have:=Zns (bs:=bs++[t]) (k:=bs.length) h2 h1
 rw[Wdk] at this
 exact this.symm
theorem Lt.skip (h:Lt s ks (bs++[t]) r) (hn:∀ l∈r,Zau l≠(bs.length:Int)+1):Lt s ks bs r:=by
 refine⟨h.up,h.ls,fun l hl=>?_⟩
 obtain⟨h1,h2⟩:=h.wr l hl
 have h3:=hn l hl
 have h4:=(Zk8 (by omega) h.up).1.rg l hl
 rw[Xq,Wbm] at h1
 have h5:Zau l<=bs.length:=by omega
 rw[Zwr h4.1 h5] at h2
 exact⟨h5,h2⟩
theorem Lt.at (h:Lt s ks (bs++[t]) r) {l:Int} (hl:l∈r) (e:Zau l=(bs.length:Int)+1):r.getLast? = some l/\l=Zek s ((bs.length:Int)+1) t:=by
 obtain⟨z,e1,hz,le⟩:=Zu1 h.up hl
 have h1:=(h.wr z hz).1
 rw[Xq,Wbm] at h1
 have ez:z=l:=(Zk8 (by omega) h.up).1.inj hz hl (by omega)
 refine⟨by rw[e1,ez],?_⟩
 have h2:=(h.wr l hl).2
 unfold rig at h2
 rw[show (Zau l - 1).toNat=bs.length by omega,Wco] at h2
 have ab:l=(bs.length:Int)+1\/l = -((bs.length:Int)+1):=by unfold Zau at e; split at e<;>omega
 unfold Zek
 rcases ab with y | y
 ·rw[decide_eq_true (by omega)] at h2
  rw[if_pos (by cases t<;>cases s<;>first | rfl | cases h2)]
  exact y
 ·rw[decide_eq_false (by omega)] at h2
  rw[if_neg (by cases t<;>cases s<;>first | (cases h2; done) | decide)]
  exact y
theorem Lt.pick (h:Lt s ks (bs++[t]) r) (ho:kS (ks.getD bs.length .non)=s):Lt s ks bs r:=by
 refine h.skip fun l hl e=>?_
 have:=h.last (h.at hl e).1
 rw[Zus,show (Zau l - 1).toNat=bs.length by omega,ho] at this
 simp at this
theorem Zh2 (n:Nat):Zau ((n:Int)+1)=(n:Int)+1:=by unfold Zau; split<;>omega
theorem Lt.some (h:Lt s ks (bs++[t]) r) (hn:(bs.length:Int)+1∈r \/ -((bs.length:Int)+1)∈r):r.getLast? = .some (Zek s ((bs.length:Int)+1) t):=by
 rcases hn with e | e
 ·obtain⟨h1,h2⟩:=h.at e (Zh2 _)
  rw[h1]; exact congrArg _ h2
 ·obtain⟨h1,h2⟩:=h.at e (by rw[Znp,Zh2])
  rw[h1]; exact congrArg _ h2
theorem Lt.none (h:Lt s ks (bs++[t]) r) (h1:(bs.length:Int)+1∉r) (h2 : -((bs.length:Int)+1)∉r):Lt s ks bs r:=by
 refine h.skip fun l hl e=>?_
 have ab:l=(bs.length:Int)+1\/l = -((bs.length:Int)+1):=by unfold Zau at e; split at e<;>omega
 rcases ab with y | y
 ·exact h1 (y ▸ hl)
 ·exact h2 (y ▸ hl)
theorem Lt.rest (h:Lt s ks (bs++[t]) r) {n:Int} (e:r.getLast? = .some n) (hn:Zau n=(bs.length:Int)+1) {l:Int} (hl:l∈r) (hne:l≠n):1<=Zau l/\Zau l<=bs.length/\rig bs l=s:=by
 obtain⟨h1,h2⟩:=h.wr l hl
 have h4:=(Zk8 (by omega) h.up).1.rg l hl
 rw[Xq,Wbm] at h1
 have h3:Zau l≠(bs.length:Int)+1:=fun z=>by
  have:=(h.at hl z).1
  rw[e] at this
  cases this
  exact hne rfl
 have h5:Zau l<=bs.length:=by omega
 rw[Zwr h4.1 h5] at h2
 exact⟨h4.1,h5,h2⟩
theorem Lt.join {a b:List Int} (ha:Lt s ks (bs++[s]) a) (hb:Lt s ks (bs++[!s]) b) (ea:a.getLast? = .some ((bs.length:Int)+1)) (eb:b.getLast? = .some (-((bs.length:Int)+1))) :
  ∃ x,Zlh a b ((bs.length:Int)+1)=.some x/\Up ks.length 0 x/\∀ l∈x,Zau l<=bs.length/\rig bs l=s:=by
 have ra:=(Zk8 (by omega) ha.up).1
 have rb:=(Zk8 (by omega) hb.up).1
 have ma:∀ {l:Int},l∈a.filter (fun x=>decide (x≠(bs.length:Int)+1))->1<=Zau l/\Zau l<=bs.length/\rig bs l=s:=fun {l} h=>by
  obtain⟨h1,h2⟩:=Wag.mp h
  exact ha.rest ea (Zh2 _) h1 (of_decide_eq_true h2)
 have mb:∀ {l:Int},l∈b.filter (fun x=>decide (x ≠ -((bs.length:Int)+1)))->1<=Zau l/\Zau l<=bs.length/\rig bs l=s:=fun {l} h=>by
  obtain⟨h1,h2⟩:=Wag.mp h
  exact hb.rest eb (by rw[Znp,Zh2]) h1 (of_decide_eq_true h2)
 have no:(b.filter fun x=>decide (x ≠ -((bs.length:Int)+1))).any (fun x=>decide (-x∈a.filter fun x=>decide (x≠(bs.length:Int)+1)))=false:=by
  rw[Wbu]
  intro l hl z
  obtain⟨b1,b2,b3⟩:=mb hl
  obtain⟨_,_,a3⟩:=ma (of_decide_eq_true z)
  rw[Zqw ⟨b1,b2⟩,b3] at a3
  cases s<;>cases a3
 unfold Zlh
 rw[if_neg (fun z=>z.elim (fun z=>z (Wdt ea)) fun z=>z (Wdt eb)),if_neg (by rw[no]; simp)]
 refine⟨_,rfl,Zm7 (R.join0 (ra.sub Wbl) (rb.sub Wbl) no),fun l hl=>?_⟩
 rcases Xy.mp ((Zcp _).mem_iff.mp hl) with z | z
 ·exact(ma z).2
 ·exact(mb (Wag.mp z).1).2
end
nonrec def eS (s:Bool) (ks:List D):Nat:=if ks.all (fun d=>kS d != s)=true then 1 else 2
nonrec def nS (s:Bool) (ks:List D) (i:Nat):Nat:=((ks.drop i).filter fun d=>kS d != s).length
theorem Ygf {s:Bool} {ks:List D} {i:Nat} (h:i<ks.length) (ho:kS (ks.getD i .non)=s):nS s ks i=nS s ks (i+1):=by
 unfold nS
 rw[Wbk,Xm h] at ho
 rw[Waq h,Waw]
 rw[show kS ks[i]=s from ho]
 simp
theorem Ydw {s:Bool} {ks:List D} {i:Nat} (h:i<ks.length) (ho:kS (ks.getD i .non) = !s):nS s ks i=nS s ks (i+1)+1:=by
 unfold nS
 rw[Wbk,Xm h] at ho
 rw[Waq h,Wbq]
 ·rfl
 ·rw[show kS ks[i] = !s from ho]
  cases s<;>rfl
theorem Ycb {s:Bool} {ks:List D} {x:List Int} (r:R ks.length x) (h:Zbo s ks x≠x):eS s ks=2:=by
 obtain⟨tl,e,ho⟩:=Zc6 (s:=s) ks x
 unfold eS
 refine if_neg fun z=>?_
 cases tl with
 | nil=>rw[Wad] at e; exact h e.symm
 | cons l tl =>
  have hl:l∈x:=by rw[e]; simp
  have o:=ho l (by simp)
  obtain⟨r1,r2⟩:=r.rg l hl
  have hi:(Zau l - 1).toNat<ks.length:=by omega
  rw[Zus,Wbk,Xm hi] at o
  have:=Xu.mp z _ (Wac hi)
  simp only[Wgl] at o
  rw[bne,o] at this
  cases this
theorem Ya1 (s:Bool) (ks:List D):1<=eS s ks/\eS s ks<=2:=by unfold eS; split<;>omega
nonrec def prD (e:D×List Int):D:=.tup [e.1,Zaz e.2]
theorem _root_.WP.Fm.keep {S:List Nat} {H H':HD} (x:Fm S H H') {m:Nat} {o:DO} (hm:m∉S) (h:H[m]? = some o) (hd:∀ kvs,o≠.dic kvs false):H'[m]? = some o:=by
 rcases x.old m _ hm h with h1 | ⟨k2,e,_⟩
 ·exact h1
 ·exact absurd e (hd k2)
theorem _root_.WP.Fm.dci {S:List Nat} {H H':HD} (x:Fm S H H') {m:Nat} {kvs:List (Int×D)} (hm:m∉S) (h:H[m]? = some (.dci kvs)):H'[m]? = some (.dci kvs):=x.keep hm h fun _ e=>by cases e
variable {σ:SD} {H:HD} {Q:D->HD->Prop}
theorem Zj3:∀ a b:List Int,Uo (a.map .int) (b.map .int)=decide (a=b)
 | [],[]=>by simp[Uo]
 | [],_::_=>by simp[Uo]
 | _::_,[]=>by simp[Uo]
 | x::a,y::b=>by
  rw[Xn,Xn,Uo,Zj3 a b]
  have:Ub (.int x) (.int y)=decide (x=y):=by simp[Ub]; rfl
  rw[this]
  by_cases h:x=y<;>by_cases k:a=b<;>simp[h,k]
theorem Ydf {a b:List Int} (q:Q (.bl (!decide (a=b))) H):wE (neD (Zaz a) (Zaz b) H) Q:=Zxz (Fine.tup (Zem a)) (Fine.tup (Zem b)) (by omega) (by omega) (by rw[Ub,Zj3]; exact q)
theorem Ybe {n:Nat} {kvs:List (Int×D)} {k:Int} {v:D} (g:H[n]? = some (.dci kvs)) (h:Zgx kvs k=some v) (q:Q v H):wE (Zvb (.ref n) (.int k) H) Q:=⟨_,_,by simp[Zvb,Yey,g,h],q⟩
section
variable {s:Bool} {ks:List D} {rss:List (List Int)} {L:List (D×List Int)} {pp pc:Nat} {bs:List Bool}
theorem Zjt {d:D} {x:List Int} (c:CR ks rss) (g:H[pp]? = some (.lst (L.map prD))) (hl:L.length<=5000) (rt:Rt s ks rss L) (st:St s ks rss (L.map (·.2)) d x) (hx:R ks.length x)
  (q:∀ M e H',H'[pp]? = some (.lst ((L++M).map prD))->Rt s ks rss (L++M)->M.getLast? = some (e,Zbo s ks x)->M.length<=eS s ks->Fm [pp] H H'->Q .non H'):wE (Zgt [.tup ks,Zam s,.ref pp,d,Zaz x] H) Q:=by
 have e12:=Ya1 s ks
 have rt1:=rt.snoc st
 refine Za7 rfl ?_
 show wS (Ze5 [some (.tup ks),some (Zam s),some (.ref pp),some d,some (Zaz x),none] H) _
 unfold Ze5
 fail "g"
 refine⟨isl g,?_⟩
 fail "g"
 refine Zlj g (by simp; omega) ?_
 fail "g"
 refine Zlw c.hk c.h8 hx ?_
 have g1:(H.set pp (.lst (L.map prD++[.tup [d,Zaz x]])))[pp]? = some (.lst ((L++[(d,x)]).map prD)):=by rw[Zlm g,Wap]; rfl
 have x1:Fm [pp] H (H.set pp (.lst (L.map prD++[.tup [d,Zaz x]]))):=Fm.set (by simp)
 fail "i"
 refine Ydf ?_
 fail "g"
 refine⟨fun z=>?_,fun z=>?_⟩
 ·have z:Zbo s ks x≠x:=by simpa using z
  have e2:=Ycb hx z
  fail "g"
  refine⟨isl g1,?_⟩
  fail "g"
  rw[show ((List.map prD (L++[(d,x)])).length:Int) - 1=(L.length:Int) by simp]
  refine Zlj g1 (by simp; omega) ?_
  fail "g"
  have s2:St s ks rss ((L++[(d,x)]).map (·.2)) (.tup [.str "less",.int (L.length:Nat)]) (Zbo s ks x):=by
   have:=St.less (s:=s) (ks:=ks) (rss:=rss) (made:=(L++[(d,x)]).map (·.2)) L.length (by simp)
   have e:((L++[(d,x)]).map (·.2))[L.length]'(by simp)=x:=by simp
   rw[e] at this
   exact this
  refine q [(d,x),(.tup [.str "less",.int (L.length:Nat)],Zbo s ks x)] _ _ ?_ ?_ rfl (by rw[e2]; simp) (x1.trans (Fm.set (by simp)))
  ·rw[Zlm g1]
   simp[prD]
  ·have:=rt1.snoc s2
   rw[Wab] at this
   exact this
 ·have z:Zbo s ks x=x:=by simpa using z
  fail "g"
  exact q [(d,x)] d _ g1 rt1 (by rw[z]; rfl) (by simp; omega) x1
theorem Zvx {i m:Nat} {n:String} {x:Str} {F:D->FF} {f:AF} {j:Nat} {d:D} (h:σ[i]? = some (some (.ref j))) (g:H[j]? = some (.clo n x d)) (q:wA (f σ H) fun ds H1=>wN m (F d) ds H1 Q):wE (Zjr i m n x F f σ H) Q:=by
 obtain⟨ds,H1,e,l,dd,H2,e2,q⟩:=q
 refine⟨dd,H2,?_,q⟩
 unfold Zjr
 rw[h]
 simp only[g]
 rw[if_pos (by simp),e]
 simp only[Zb]
 rw[if_pos l]
 exact e2
theorem Ybi {n N:Nat} {b:SF} {d:D} {ds:List D} (hl:ds.length=n) (h:wS (b ((ds++[d]).map some++Xl (N - (n+1)) none) H) (fin Q)):wE (Ybl n N b d ds H) Q:=by
 obtain⟨x,s,H1,e,q⟩:=h
 unfold Ybl
 rw[if_pos hl,e]
 simp only[Zb]
 cases x with
 | nx=>exact⟨_,_,rfl,q⟩
 | rt d=>exact⟨_,_,rfl,q⟩
 | bk=>exact q.elim
 | ct=>exact q.elim
nonrec def comB (row ls:List Int):Bool:=row.any fun l=>decide (l∈ls)
theorem Yg8 {p:Nat} {bs:List Bool} (g:H[p]? = some (.lst (bs.map .bl))) (q:Q (.bl (bs.any id)) H):wE (Ye8 [.ref p] H) Q:=⟨_,_,by simp only[Ye8,g]; rw[Zst]; rfl,q⟩
theorem Zxi {row zs:List Int} {n:Nat} (g:H[n]? = some (.dci (zs.map kvT))) (hl:row.length<=1000) (q:∀ H',Fm [] H H'->Q (.bl (comB row zs)) H'):wE (Zcc [Zaz row,.ref n] H) Q:=by
 refine Za7 rfl ?_
 show wS (Zbg [some (.tup (row.map .int)),some (.ref n)] H) _
 unfold Zbg
 fail "g"
 refine Zrm (fun d=>.bl (decide (Ybh d∈zs))) (fun H'=>H'=H) (fun _ _=>Zg4) _ (fun y hy H2 j=>?_) _ rfl fun H2 j=>?_
 ·obtain⟨z,hz,rfl⟩:=Xz.mp hy
  subst j
  fail "g"
  refine w_iin g ?_
  rw[Zun]
  exact⟨rfl,rfl⟩
 ·subst j
  refine⟨by simp; omega,?_⟩
  rw[show (row.map D.int).map (fun d=>D.bl (decide (Ybh d∈zs)))=(row.map fun l=>decide (l∈zs)).map D.bl by rw[Wat,Wat]; rfl]
  fail "g"
  refine Yg8 last ?_
  rw[Wge]
  fail "g"
  exact q _ (Fm.app _)
theorem R.snocR {M:Nat} {zs:List Int} {l:Int} (h:R M zs) (hr:∀ x∈zs,rig bs x=true) (h1:1<=Zau l/\Zau l<=bs.length) (h2:Zau l<=M) (hl:rig bs l=true) (hn:l∉zs):R M (zs++[l]):=by
 refine⟨?_,fun y hy=>?_⟩
 ·rw[Wap,Wbf]
  refine⟨h.nd,by simp,fun u hu v hv e=>?_⟩
  obtain⟨y,hy,rfl⟩:=Xz.mp hu
  simp at hv
  subst hv
  rcases Zxk e with z | z
  ·exact hn (z ▸ hy)
  ·have:=hr y hy
   rw[z,Zqw h1,hl] at this
   cases this
 ·rcases Xy.mp hy with z | z
  ·exact h.rg y z
  ·simp at z; subst z; exact⟨h1.1,h2⟩
theorem Zy9 (h8:ks.length<=8) (hr:∀ ls∈rss,R ks.length ls) (hb:bs.length<=ks.length) (hk:∀ ls∈rss,kept bs ls=true)
  (q:∀ ls H',Up ks.length 0 ls->(∀ row∈rss,∃ l∈row,l∈ls)->(∀ l∈ls,Zau l<=bs.length/\rig bs l=true)->Fm [] H H'->Q (Zaz ls) H'):wE (Zej [.tup (rss.map Zaz),Zar bs] H) Q:=by
 refine Za7 rfl ?_
 show wS (Zce [some (.tup (rss.map Zaz)),some (Zar bs),none,none,none] H) _
 unfold Zce
 fail "g"
 refine Ygu ?_
 fail "g"
 refine Zcn (fun d t σ H'=>∃ (dn td:List (List Int)) (zs:List Int) (z3 z4:Option D),rss=dn++td/\t=td.map Zaz/\R ks.length zs/\(∀ l∈zs,Zau l<=bs.length/\rig bs l=true)/\(∀ row∈dn,∃ l∈row,l∈zs)/\H'[H.length]? = some (.dci (zs.map kvT))/\Fm [] H H'/\σ=[some (.tup (rss.map Zaz)),some (Zar bs),some (.ref H.length),z3,z4]) (fun _ _ _ _ _=>Zg4) (fun d x t σ H1 ⟨dn,td,zs,z3,z4,i1,i2,i3,i4,i5,i6,i7,i8⟩=>?_) (fun d σ H1 ⟨dn,td,zs,z3,z4,i1,i2,i3,i4,i5,i6,i7,i8⟩=>?_) _ [] _ _ ⟨[],rss,[],_,_,rfl,rfl,⟨.nil,by simp⟩,by simp,by simp,last,Fm.app _,rfl⟩
 ·subst i8
  cases td with
  | nil=>cases i2
  | cons row td =>
   obtain⟨rfl,rfl⟩:=Wbo.inj i2
   have hm:row∈rss:=by rw[i1]; simp
   have rr:=hr row hm
   have lr:=rr.len
   have lz:=i3.len
   have i1':rss=(dn++[row])++td:=by rw[i1]; simp
   fail "i"
   refine Zxi i6 (by omega) fun H2 x2=>?_
   have g2:=x2.dci (by simp) i6
   fail "g"
   cases hc:comB row zs with
   | true =>
    fail "g"
    refine⟨dn++[row],td,zs,_,_,i1',rfl,i3,i4,fun r h=>?_,g2,i7.trans x2,rfl⟩
    rcases Xy.mp h with h | h
    ·exact i5 r h
    ·rw[Wbh.mp h]
     obtain⟨l,h1,h2⟩:=Wau.mp hc
     exact⟨l,h1,of_decide_eq_true h2⟩
   | false =>
    fail "g"
    refine⟨row.map .int,[],rfl,?_⟩
    refine Zdw (fun d=>rig bs (Ybh d)) (fun H'=>H'=H2) (fun _ j=>Zg4) _ (fun y hy H3 j=>?_) _ rfl fun H3 j=>?_
    ·obtain⟨z,hz,rfl⟩:=Xz.mp hy
     subst j
     fail "g"
     refine Zm4 (by have:=(rr.rg z hz).1; omega) ?_
     fail "g"
     exact⟨rfl,rfl⟩
    subst j
    have ef:(row.map D.int).filter (fun d=>rig bs (Ybh d))=(row.filter (rig bs)).map .int:=by
     rw[Wcp]
     rfl
    rw[ef]
    refine⟨by have:=Wan (rig bs) row; simp at this ⊢; omega,?_⟩
    obtain⟨l0,hl0,hr0⟩:=Wau.mp (hk row hm)
    cases er:row.filter (rig bs) with
    | nil=>exact absurd (Wag.mpr ⟨hl0,hr0⟩) (by rw[er]; simp)
    | cons l ls' =>
     obtain⟨ml,hl⟩:=Wag.mp (show l∈row.filter (rig bs) by rw[er]; simp)
     have al:Zau l<=bs.length:=by
      refine Int.not_lt.mp fun z=>?_
      unfold rig at hl
      rw[Wbz (by omega)] at hl
      cases hl
     have nz:l∉zs:=fun z=>by
      have:=Wbu.mp hc l ml
      exact this (decide_eq_true z)
     have rl:=rr.rg l ml
     fail "g"
     refine w_ixR last (d:=.int l) (Zbn (j:=0) rfl) ?_
     fail "g"
     refine Zxd (appL g2) (by simp; omega) ?_
     rw[Yfs,if_neg nz]
     fail "g"
     refine⟨dn++[row],td,zs++[l],_,_,i1',rfl,i3.snocR (fun x hx=>(i4 x hx).2) ⟨rl.1,al⟩ rl.2 hl nz,fun y hy=>?_,fun r h=>?_,Zlm (appL g2),((i7.trans x2).trans (Fm.app _)).new (Fm.set (S:=[H.length]) (by simp)) (fun q hq _=>by simp at hq; subst hq; exact Xe _),rfl⟩
     ·rcases Xy.mp hy with hy | hy
      ·exact i4 y hy
      ·rw[Wbh.mp hy]; exact⟨al,hl⟩
     ·rcases Xy.mp h with h | h
      ·obtain⟨y,y1,y2⟩:=i5 r h
       exact⟨y,y1,Wax _ y2⟩
      ·rw[Wbh.mp h]
       exact⟨l,ml,by simp⟩
 ·subst i8
  cases td with
  | cons row td=>cases i2
  | nil =>
   rw[Wad] at i1
   subst i1
   have lz:=i3.len
   fail "g"
   refine Zyx i6 (by omega) i3.nd ?_
   fail "g"
   have mem:∀ {l:Int},l∈Zd0 zs ↔ l∈zs:=(Zcp zs).mem_iff
   exact q _ _ (Zm7 i3) (fun row h=>by
    obtain⟨l,h1,h2⟩:=i5 row h
    exact⟨l,h1,mem.mpr h2⟩) (fun l h=>i4 l (mem.mp h)) (i7.trans (Fm.app _))
theorem Yh9 {i:Nat} (hi:i<rss.length) (q:Q (.tup [.tup [.str "row",.int i],Zaz rss[i]]) H):wE (Zdx (Zan ks rss) [.tup [.str "lost",.int i],Zar bs] H) Q:=by
 refine Ybi rfl ?_
 show wS (Zb9 [some (.tup [.str "lost",.int i]),some (Zar bs),some (Zan ks rss)] H) _
 unfold Zb9
 fail "g"
 refine w_ixT (Zki hi) ?_
 fail "g"
 exact q
theorem Yia (h8:ks.length<=8) (hr:∀ ls∈rss,R ks.length ls) (hb:bs.length<=ks.length) (hk:∀ ls∈rss,kept bs ls=true)
  (q:∀ ls H',Up ks.length 0 ls->(∀ row∈rss,∃ l∈row,l∈ls)->(∀ l∈ls,Zau l<=bs.length/\rig bs l=true)->Fm [] H H'->Q (.tup [.tup [.str "term",Zaz ls],Zaz ls]) H'):wE (Zdr (Zan ks rss) [.tup [.str "kept"],Zar bs] H) Q:=by
 refine Ybi rfl ?_
 show wS (Zbw [some (.tup [.str "kept"]),some (Zar bs),some (Zan ks rss),none] H) _
 unfold Zbw
 fail "g"
 refine Zy9 h8 hr hb hk fun ls H1 u h1 h2 x1=>?_
 fail "g"
 exact q ls H1 u h1 h2 x1
end
variable {σ:SD} {H:HD} {Q:D->HD->Prop}
section
variable {s:Bool} {ks:List D} {rss:List (List Int)} {L:List (D×List Int)} {pp pc:Nat} {bs:List Bool}
nonrec def pnS (s:Bool):String:=if s then "term_paper" else "row_paper"
def Put (s:Bool) (ks:List D) (rss:List (List Int)) (pp pc:Nat) (bs:List Bool) (n:Nat) (F:HD->Option (D×HD)):Prop :=
 ∀ (L:List (D×List Int)) (H:HD) (Q:D->HD->Prop),H[pp]? = some (.lst (L.map prD))->H[pc]? = some (.clo (pnS s) "claim" (Zan ks rss))->L.length+eS s ks*2 ^ (n+1)<=5000->Rt s ks rss L ->
  (∀ (M:List (D×List Int)) (e:D) (r:List Int) (H':HD),H'[pp]? = some (.lst ((L++M).map prD))->Rt s ks rss (L++M)->M.getLast? = some (e,r)->Lt s ks bs r->M.length+eS s ks<=eS s ks*2 ^ (n+1)->Fm [pp] H H'->Q .non H')->wE (F H) Q
theorem Zr5 {M:List (D×List Int)} {e:D} {r:List Int} (h:M.getLast? = some (e,r)):atI ((L++M).map prD) (-1)=some (.tup [e,Zaz r]):=by
 obtain⟨a,rfl⟩:=Wbb.mp h
 rw[<- Wab,Wap]
 exact Zm0 _ _
theorem Ybn {M N:List (D×List Int)} {e:D} {r:List Int} (h:M.getLast? = some (e,r)):atI ((L++M++N).map prD) (((L++M).length - 1:Nat):Int)=some (.tup [e,Zaz r]):=by
 obtain⟨a,rfl⟩:=Wbb.mp h
 have e1:(L++(a++[(e,r)])).length - 1=(L++a).length:=by simp
 rw[e1]
 refine Zbn ?_
 rw[<- Wab,Wab _ _ N,Xp,Xs (Xe _),Wgf]
 rfl
theorem Zw8 {M:List (D×List Int)} {e:D} {r:List Int} (h:M.getLast? = some (e,r)):(((L++M).map prD).length:Int) - 1=(((L++M).length - 1:Nat):Int):=by
 obtain⟨a,rfl⟩:=Wbb.mp h
 simp
 omega
theorem Zur {n:Int} {r:List Int} {P:Bool->HD->Prop} (h6:(σ[6]?).join=some (.int n)) (h12:(σ[12]?).join=some (Zaz r)) (q:P (decide (n∉r /\ -n∉r)) H):wT (tAn (tOf (eOp niD (Zac 6) (Zac 12))) (tOf (eOp niD (eUn Zln (Zac 6)) (Zac 12))) σ H) P:=by
 refine w_an (w_tof (w_op (w_var h6 (w_var h12 (Zvv (w_bl ?_))))))
 by_cases z:n∈r
 ·rw[decide_eq_true z]
  rw[decide_eq_false (fun y=>y.1 z)] at q
  exact w_bf q
 ·rw[decide_eq_false z]
  refine w_bt (w_tof (w_op (w_un (w_var h6 (w_neg (w_var h12 (Zvv (w_bl ?_))))))))
  by_cases y : -n∈r
  ·rw[decide_eq_true y]
   rw[decide_eq_false (fun v=>v.2 y)] at q
   exact q
  ·rw[decide_eq_false y]
   rw[decide_eq_true ⟨z,y⟩] at q
   exact q
theorem Ybm {M N:List (D×List Int)} {e:D} {r:List Int} (h:M.getLast? = some (e,r)):∃ hi:(L++M).length - 1<((L++M++N).map (·.2)).length,((L++M++N).map (·.2))[(L++M).length - 1]=r:=by
 obtain⟨a,rfl⟩:=Wbb.mp h
 refine⟨by simp,?_⟩
 have e1:((L++(a++[(e,r)])).length) - 1=(L++a).length:=by simp
 rw[Wdr]
 refine congrArg Prod.snd (?_:_=(e,r))
 rw[List.getElem_eq_iff,e1,<- Wab,Wab _ _ N,Xs (Xe _),Wgf]
 rfl
theorem Zxl {F1 F2:FF} {x y:D} (c:CR ks rss) (hpc:pp≠pc) (h0:bs.length<ks.length) (h1:kS (ks.getD bs.length .non) = !s)
  (k1:Put s ks rss pp pc (bs++[false]) (nS s ks (bs.length+1)) (F1 [.tup ks,Zam s,.ref pc,.ref pp,x,Zar (bs++[false])]))
  (k2:Put s ks rss pp pc (bs++[true]) (nS s ks (bs.length+1)) (F1 [.tup ks,Zam s,.ref pc,.ref pp,y,Zar (bs++[true])])) :
  Put s ks rss pp pc bs (nS s ks bs.length) (Za4 6 13 (Zax F1 F2) [.tup ks,Zam s,.ref pc,.ref pp,.tup [.str "each",x,y],Zar bs]):=by
 intro L H Q g gc hl rt q
 have h8:=c.h8
 have en:=Ydw h0 h1
 rw[en,Wfd] at hl q
 generalize hP:eS s ks*2 ^ (nS s ks (bs.length+1)+1)=P at *
 rw[<- Nat.mul_assoc,hP] at hl q
 refine Za7 rfl ?_
 show wS (Zax F1 F2 [some (.tup ks),some (Zam s),some (.ref pc),some (.ref pp),some (.tup [.str "each",x,y]),some (Zar bs),none,none,none,none,none,none,none] H) _
 unfold Zax
 fail "g"
 refine Ygu ?_
 rw[k_TRUTHS]
 fail "g"
 refine w_sllo (k:=1) ?_
 fail "g"
 refine⟨_,_,_,_,rfl,rfl,rfl,?_⟩
 have lp:=(Xc.mp g).1
 have lc:=(Xc.mp gc).1
 have ea:Zau ((bs.length:Int)+1)=(bs.length:Int)+1:=Zh2 _
 have X0:Fm [pp] H (H++[.dci []]):=Fm.app _
 refine Zgi Zg4 ?_
 fail "g"
 refine k1 L _ _ (appL g) (appL gc) (by omega) rt fun M1 e1 r1 H1 g1 rt1 la1 lt1 lm1 x1=>?_
 rw[hP] at lm1
 have gc1:=x1.keep (by simp; omega) (appL gc) (fun _ e=>by cases e)
 have gd1:=x1.dci (m:=H.length) (by simp; omega) last
 have X1:=X0.trans x1
 fail "g"
 refine w_ixR g1 (Zr5 la1) ?_
 fail "g"
 refine w_if (Zur rfl rfl ?_)
 by_cases m1:(bs.length:Int)+1∉r1 /\ -((bs.length:Int)+1)∉r1
 ·rw[decide_eq_true m1]
  fail "g"
  exact q M1 e1 r1 H1 g1 rt1 la1 (lt1.none m1.1 m1.2) (by omega) X1
 rw[decide_eq_false m1]
 have m1':(bs.length:Int)+1∈r1 \/ -((bs.length:Int)+1)∈r1:=by
  by_cases z:(bs.length:Int)+1∈r1
  ·exact .inl z
  ·exact .inr (Uv fun y=>m1 ⟨z,y⟩)
 have l1:=lt1.some m1'
 have at1':atI (r1.map D.int) (-1)=some (.int (Zek s ((bs.length:Int)+1) false)):=by
  obtain⟨a,rfl⟩:=Wbb.mp l1
  rw[Wap]; exact Zm0 _ _
 fail "g"
 rw[Zw8 la1]
 refine w_ixT at1' ?_
 fail "g"
 refine Zxd gd1 (by simp) ?_
 fail "g"
 have g1':=Zud (u:=DO.dci (Znu [] (Zek s ((bs.length:Int)+1) false) (.int (((L++M1).length - 1:Nat):Int)))) (show H.length≠pp by omega) g1
 have gc1':=Zud (u:=DO.dci (Znu [] (Zek s ((bs.length:Int)+1) false) (.int (((L++M1).length - 1:Nat):Int)))) (show H.length≠pc by omega) gc1
 have gd1':=Zlm (o:=DO.dci (Znu [] (Zek s ((bs.length:Int)+1) false) (.int (((L++M1).length - 1:Nat):Int)))) gd1
 have X1':Fm [pp] H (H1.set H.length (DO.dci (Znu [] (Zek s ((bs.length:Int)+1) false) (.int (((L++M1).length - 1:Nat):Int))))):=X1.new (Fm.set (S:=[H.length]) (by simp)) (fun q hq _=>by simp at hq; omega)
 generalize H1.set H.length (DO.dci (Znu [] (Zek s ((bs.length:Int)+1) false) (.int (((L++M1).length - 1:Nat):Int))))=H2 at g1' gc1' gd1' X1' ⊢
 refine Zgi Zg4 ?_
 fail "g"
 refine k2 (L++M1) _ _ g1' gc1' (by rw[Xq]; omega) rt1 fun M2 e2 r2 H3 g3 rt3 la2 lt2 lm2 x3=>?_
 rw[hP] at lm2
 rw[Wab] at rt3
 have gd3:=x3.dci (by simp; omega) gd1'
 have gc3:=x3.keep (by simp; omega) gc1' (fun _ e=>by cases e)
 have X3:=X1'.trans x3
 fail "g"
 refine w_ixR g3 (Zr5 la2) ?_
 fail "g"
 refine w_if (Zur rfl rfl ?_)
 by_cases m2:(bs.length:Int)+1∉r2 /\ -((bs.length:Int)+1)∉r2
 ·rw[decide_eq_true m2]
  fail "g"
  exact q (M1++M2) e2 r2 H3 (by rw[<- Wab]; exact g3) rt3 (by rw[Wdv,la2]; rfl) (lt2.none m2.1 m2.2) (by rw[Xq]; omega) X3
 rw[decide_eq_false m2]
 have m2':(bs.length:Int)+1∈r2 \/ -((bs.length:Int)+1)∈r2:=by
  by_cases z:(bs.length:Int)+1∈r2
  ·exact .inl z
  ·exact .inr (Uv fun y=>m2 ⟨z,y⟩)
 have l2:=lt2.some m2'
 have at2':atI (r2.map D.int) (-1)=some (.int (Zek s ((bs.length:Int)+1) true)):=by
  obtain⟨a,rfl⟩:=Wbb.mp l2
  rw[Wap]; exact Zm0 _ _
 fail "g"
 rw[Zw8 la2]
 refine w_ixT at2' ?_
 fail "g"
 refine Zxd gd3 (by simp[Znu]) ?_
 have nn:¬ (Zek s ((bs.length:Int)+1) false=Zek s ((bs.length:Int)+1) true):=by
  cases s
  ·show ¬ ((bs.length:Int)+1 = -((bs.length:Int)+1)); omega
  ·show ¬ (-((bs.length:Int)+1)=(bs.length:Int)+1); omega
 have ip:Znu (Znu [] (Zek s ((bs.length:Int)+1) false) (.int (((L++M1).length - 1:Nat):Int))) (Zek s ((bs.length:Int)+1) true) (.int (((L++M1++M2).length - 1:Nat):Int))=[(Zek s ((bs.length:Int)+1) false,.int (((L++M1).length - 1:Nat):Int)),(Zek s ((bs.length:Int)+1) true,.int (((L++M1++M2).length - 1:Nat):Int))]:=by
  unfold Znu
  simp[nn]
 rw[ip]
 have g4:=Zud (u:=DO.dci [(Zek s ((bs.length:Int)+1) false,.int (((L++M1).length - 1:Nat):Int)),(Zek s ((bs.length:Int)+1) true,.int (((L++M1++M2).length - 1:Nat):Int))]) (show H.length≠pp by omega) g3
 have gd4:=Zlm (o:=DO.dci [(Zek s ((bs.length:Int)+1) false,.int (((L++M1).length - 1:Nat):Int)),(Zek s ((bs.length:Int)+1) true,.int (((L++M1++M2).length - 1:Nat):Int))]) gd3
 have X4:Fm [pp] H (H3.set H.length (DO.dci [(Zek s ((bs.length:Int)+1) false,.int (((L++M1).length - 1:Nat):Int)),(Zek s ((bs.length:Int)+1) true,.int (((L++M1++M2).length - 1:Nat):Int))])):=X3.new (Fm.set (S:=[H.length]) (by simp)) (fun q hq _=>by simp at hq; omega)
 generalize H3.set H.length (DO.dci [(Zek s ((bs.length:Int)+1) false,.int (((L++M1).length - 1:Nat):Int)),(Zek s ((bs.length:Int)+1) true,.int (((L++M1++M2).length - 1:Nat):Int))])=H4 at g4 gd4 X4 ⊢
 have p1:=Ybn (L:=L) (M:=M1) (N:=M2) la1
 have p2:=Ybn (L:=L++M1) (M:=M2) (N:=[]) la2
 obtain⟨b1,w1⟩:=Ybm (L:=L) (M:=M1) (N:=M2) la1
 obtain⟨b2,w2⟩:=Ybm (L:=L++M1) (M:=M2) (N:=[]) la2
 rw[Wad] at p2
 simp only[Wad] at b2 w2
 obtain⟨ia,ib,ra,rb,ea,eb,ka,kb,pa,pb,⟨ba,wa⟩,⟨bb,wb⟩,lta,ltb,la',lb'⟩:∃ (ia ib:Nat) (ra rb:List Int) (ea eb:D),Zgx [(Zek s ((bs.length:Int)+1) false,.int (((L++M1).length - 1:Nat):Int)),(Zek s ((bs.length:Int)+1) true,.int (((L++M1++M2).length - 1:Nat):Int))] ((bs.length:Int)+1)=some (.int ia)/\Zgx [(Zek s ((bs.length:Int)+1) false,.int (((L++M1).length - 1:Nat):Int)),(Zek s ((bs.length:Int)+1) true,.int (((L++M1++M2).length - 1:Nat):Int))] (-((bs.length:Int)+1))=some (.int ib)/\atI ((L++M1++M2).map prD) (ia:Int)=some (.tup [ea,Zaz ra])/\atI ((L++M1++M2).map prD) (ib:Int)=some (.tup [eb,Zaz rb])/\(∃ h:ia<((L++M1++M2).map (·.2)).length,((L++M1++M2).map (·.2))[ia]=ra)/\(∃ h:ib<((L++M1++M2).map (·.2)).length,((L++M1++M2).map (·.2))[ib]=rb)/\Lt s ks (bs++[s]) ra/\Lt s ks (bs++[!s]) rb/\ra.getLast? = some ((bs.length:Int)+1)/\rb.getLast? = some (-((bs.length:Int)+1)):=by
  have n1:¬ ((bs.length:Int)+1 = -((bs.length:Int)+1)):=by omega
  have n2:¬ (-((bs.length:Int)+1)=(bs.length:Int)+1):=by omega
  cases s with
  | false =>
   refine⟨_,_,r1,r2,e1,e2,?_,?_,p1,p2,⟨b1,w1⟩,⟨b2,w2⟩,lt1,lt2,l1,l2⟩
   ·simp[Zgx,Zek]
   ·unfold Zgx Zek; rw[Wbx (by simpa using n1)]; simp
  | true =>
   refine⟨_,_,r2,r1,e2,e1,?_,?_,p2,p1,⟨b2,w2⟩,⟨b1,w1⟩,lt2,lt1,l2,l1⟩
   ·unfold Zgx Zek; rw[Wbx (by simpa using n2)]; simp
   ·simp[Zgx,Zek]
 fail "g"
 refine Zn3 Zg4 ?_
 fail "g"
 refine Ybe gd4 ka ?_
 fail "g"
 refine Ybe gd4 kb ?_
 fail "g"
 refine w_ixR g4 pa ?_
 fail "g"
 refine w_ixR g4 pb ?_
 fail "g"
 obtain⟨x',ej,ux,wx⟩:=Lt.join lta ltb la' lb'
 refine Zrl (Zk8 (by omega) lta.up).1 (Zk8 (by omega) ltb.up).1 h8 fun H5 x5=>?_
 rw[ej]
 fail "g"
 have own:Zib s ks ((bs.length:Int)+1)=false:=by rw[Zul,h1]; cases s<;>rfl
 rw[<- Wab] at rt3
 refine Zjt c (x5.lst (by simp) g4) (by simp only[Xq]; omega) rt3 (.joined ia ib _ x' ba bb ⟨by omega,by omega⟩ own (by rw[wa,wb]; exact ej)) (Zk8 (by omega) ux).1 fun M3 e3 H6 g6 rt6 la6 lm6 x6=>?_
 fail "g"
 refine q (M1++M2++M3) e3 (Zbo s ks x') H6 (by rw[<- Wab,<- Wab]; exact g6) (by rw[<- Wab,<- Wab]; exact rt6) (by rw[Wdv,la6]; rfl) (Lt.of ux fun l hl=>wx l ((Zhu (s:=s) ks x').subset hl)) (by simp only[Xq]; omega) ((X4.trans (x5.sub (by simp))).trans x6)
theorem Yfh (c:CR ks rss) (hu:∀ ls∈rss,Up ks.length 0 ls) (hpc:pp≠pc) {bs:List Bool} {t:D} (pl:PlanD ks rss s bs t):∀ (f:Nat),2*(ks.length - bs.length)+1<=f->bs.length<=ks.length->Put s ks rss pp pc bs (nS s ks bs.length) ((Zee 6 7 6 13 Zaq Zax f).1 [.tup ks,Zam s,.ref pc,.ref pp,t,Zar bs]):=by
 have h8:=c.h8
 have e12:=Ya1 s ks
 induction pl with
 | @kept bs h0 h1 =>
  intro f hf hb L H Q g gc hl rt q
  have p2:2<=2 ^ (nS s ks bs.length+1):=by rw[Wfd]; have:=Wfp (n:=nS s ks bs.length); omega
  have p3:eS s ks*2<=eS s ks*2 ^ (nS s ks bs.length+1):=Wfi _ p2
  obtain⟨f,rfl⟩:∃ f',f=f'+1:=⟨f - 1,by omega⟩
  rw[Zee]
  dsimp only
  generalize (Zee 6 7 6 13 Zaq Zax f).1=F1
  generalize (Zee 6 7 6 13 Zaq Zax f).2=F2
  refine Za7 rfl ?_
  subst h0
  show wS (Zaq _ _ [some (.tup ks),some (.str "some"),some (.ref pc),some (.ref pp),some (.tup [.str "kept"]),some (Zar bs),none] H) _
  unfold Zaq
  fail "i"
  (refine WP.w_if ?_; fail "g")
  refine Ybu (by unfold Zjr; simp[gc,pnS]) (Zvx rfl gc ?_)
  fail "g"
  refine Yia h8 c.hr hb h1 fun ls H1 u com rg x1=>?_
  fail "g"
  refine Zjt (s:=true) c (x1.lst (by simp) g) (by omega) rt (.base (Zaz ls) ls ⟨rfl,u,com⟩) (Zk8 (by omega) u).1 fun M e H2 g2 r1 la lm x2=>?_
  fail "g"
  exact q M e _ H2 g2 r1 la (Lt.leafS u rg) (by omega) ((x1.sub (by simp)).trans x2)
 | @lost bs i ls h0 h1 h2 h3 =>
  intro f hf hb L H Q g gc hl rt q
  have p2:2<=2 ^ (nS s ks bs.length+1):=by rw[Wfd]; have:=Wfp (n:=nS s ks bs.length); omega
  have p3:eS s ks*2<=eS s ks*2 ^ (nS s ks bs.length+1):=Wfi _ p2
  obtain⟨f,rfl⟩:∃ f',f=f'+1:=⟨f - 1,by omega⟩
  rw[Zee]
  dsimp only
  generalize (Zee 6 7 6 13 Zaq Zax f).1=F1
  generalize (Zee 6 7 6 13 Zaq Zax f).2=F2
  refine Za7 rfl ?_
  subst h0
  obtain⟨hi,ei⟩:=Xc.mp h1
  have uls:=hu ls (Xk h1)
  show wS (Zaq _ _ [some (.tup ks),some (.str "all"),some (.ref pc),some (.ref pp),some (.tup [.str "lost",.int i]),some (Zar bs),none] H) _
  unfold Zaq
  fail "i"
  (refine WP.w_if ?_; fail "g")
  refine Ybo (Zvx rfl gc ?_)
  fail "g"
  refine Yh9 (ks:=ks) hi ?_
  fail "g"
  refine Zjt (s:=false) c g (by omega) rt (.base (.int i) rss[i] ⟨i,hi,rfl,rfl⟩) (c.hr _ (Wac hi)) fun M e H1 g1 r1 la lm x1=>?_
  fail "g"
  rw[ei] at la
  exact q M e _ H1 g1 r1 la (Lt.leafA uls h2 h3) (by omega) x1
 | @pick bs t x h0 h1 h2 ih =>
  intro f hf hb L H Q g gc hl rt q
  have en:=Ygf h0 h1
  obtain⟨f,rfl⟩:∃ f',f=f'+1:=⟨f - 1,by omega⟩
  have lb:(bs++[t]).length=bs.length+1:=by simp
  have k:=ih f (by rw[lb]; omega) (by omega)
  rw[Zee]
  dsimp only
  generalize (Zee 6 7 6 13 Zaq Zax f).1=F1 at k ⊢
  generalize (Zee 6 7 6 13 Zaq Zax f).2=F2
  refine Za7 rfl ?_
  show wS (Zaq _ _ [some (.tup ks),some (Zam s),some (.ref pc),some (.ref pp),some (.tup [.str "pick",.bl t,x]),some (Zar bs),none] H) _
  unfold Zaq
  fail "i"
  refine k L H _ g gc (by rw[lb,<- en]; exact hl) rt fun M e r H1 g1 r1 la lt lm x1=>?_
  fail "g"
  rw[lb,<- en] at lm
  exact q M e r H1 g1 r1 la (lt.pick h1) lm x1
 | @each bs x y h0 h1 h2 h3 ih1 ih2 =>
  intro f hf hb L H Q g gc hl rt q
  have lb:∀ t:Bool,(bs++[t]).length=bs.length+1:=fun t=>by simp
  obtain⟨f,rfl⟩:∃ f',f=f'+2:=⟨f - 2,by omega⟩
  have k1:=ih1 f (by rw[lb]; omega) (by rw[lb]; omega)
  have k2:=ih2 f (by rw[lb]; omega) (by rw[lb]; omega)
  rw[lb] at k1 k2
  have k3:=Zxl (F2:=(Zee 6 7 6 13 Zaq Zax f).2) c hpc h0 h1 k1 k2
  have e3:(Zee 6 7 6 13 Zaq Zax (f+1)).2=Za4 6 13 (Zax (Zee 6 7 6 13 Zaq Zax f).1 (Zee 6 7 6 13 Zaq Zax f).2):=by rw[Zee]
  rw[<- e3] at k3
  rw[Zee]
  dsimp only
  generalize (Zee 6 7 6 13 Zaq Zax (f+1)).1=F1
  generalize (Zee 6 7 6 13 Zaq Zax (f+1)).2=F2 at k3 ⊢
  refine Za7 rfl ?_
  show wS (Zaq _ _ [some (.tup ks),some (Zam s),some (.ref pc),some (.ref pp),some (.tup [.str "each",x,y]),some (Zar bs),none] H) _
  unfold Zaq
  fail "i"
  (refine WP.w_if ?_; fail "g")
  refine k3 L H _ g gc hl rt fun M e r H1 g1 r1 la lt lm x1=>?_
  fail "g"
  exact q M e r H1 g1 r1 la lt lm x1
theorem Zuq {own:Zh4} (ho:Zci own H):∀ (L:List (D×List Int)) {R:List D->HD->Prop},R (L.map (·.1)) H->wA (Zev own [] Zyv (Zac 0) (L.map prD) H) R
 | [],R,q=>⟨_,_,by rw[Wdl,Zev,if_pos ho]; rfl,q⟩
 | d::L,R,q=>by
  obtain⟨ds,H1,e,q⟩:=Zuq ho L (R:=fun ds H1=>R (d.1::ds) H1) q
  refine⟨d.1::ds,H1,?_,q⟩
  rw[Xn,Zev]
  simp only[prD,two2,Zb]
  rw[if_pos ho]
  show (Option.bind (some (true,H)) _)=_
  simp only[Zb,if_pos]
  show (Option.bind (some (d.1,H)) _)=_
  simp only[Zb]
  rw[e]
  rfl
theorem w_lc2 {it:ItF} {ci:List Nat} {tt:TF} {te:EF} {σ:SD} (h:wI (it σ H) fun xs own H1=>wA (Zev own (Zyj ci σ) tt te xs H1) fun ds H2=>ds.length<=1000000/\Q (.ref H2.length) (H2++[.lst ds])):wE (Yf8 it ci tt te σ H) Q:=by
 obtain⟨xs,own,H1,e1,ds,H2,e2,hl,q⟩:=h
 refine⟨_,_,?_,q⟩
 unfold Yf8
 rw[e1]
 simp only[Zb]
 rw[e2]
 simp only[Zb,mkL]
 rw[if_pos (Zg9 hl)]
theorem Zz6 (h8:ks.length<=8):eS s ks*2 ^ (nS s ks 0+1)<=512:=by
 unfold eS nS
 rw[List.drop_zero]
 have l1:=Wan (fun d=>kS d != s) ks
 split
 ·rw[Nat.one_mul]
  exact Waa (Wdw (by omega) (show _<=9 by omega)) (by decide)
 ·rename_i z
  have:(ks.filter fun d=>kS d != s).length≠ks.length:=fun e=>z (Xu.mpr fun x hx=>(List.length_filter_eq_length_iff.mp e) x hx)
  have:=Wdw (show 0<2 by omega) (show (ks.filter fun d=>kS d != s).length+1<=8 by omega)
  omega
theorem Zpq (c:CR ks rss) (hu:∀ ls∈rss,Up ks.length 0 ls) (hw:W ks rss ks.length []=s) (gc:H[pc]? = some (.clo (pnS s) "claim" (Zan ks rss)))
  (q:∀ (L:List (D×List Int)) (e:D) (p:Nat) (H':HD),Rt s ks rss L->L.getLast? = some (e,[])->L.length<=512->H'[p]? = some (.lst (L.map (·.1)))->H.length<=p->Fm [] H H'->Q (.ref p) H'):wE (Znx [Zan ks rss,Zam s,.ref pc] H) Q:=by
 have h8:=c.h8
 refine Za7 rfl ?_
 show wS (Zj2 [some (Zan ks rss),some (Zam s),some (.ref pc),none,none] H) _
 unfold Zj2
 fail "g"
 refine Yfu ⟨c.hk,hu,c.hl,c.h8⟩ fun t H1 pt x1=>?_
 rw[hw] at pt ⊢
 have gc1:=x1.keep (by simp) gc (fun _ e=>by cases e)
 have lc:=(Xc.mp gc1).1
 fail "i"
 refine Zfa ?_
 rw[show (!(s==s))=false by cases s<;>rfl]
 fail "g"
 have bd:=Zz6 (s:=s) h8
 refine Yfh c hu (by omega) pt 22 (by simp; omega) (by simp) [] _ _ last (appL gc1) (by simp; omega) .nil fun M e r H2 g2 r2 la lt lm x2=>?_
 rw[Wdc] at g2 r2
 have er:r=[]:=by
  cases r with
  | nil=>rfl
  | cons l r =>
   have h1:=(lt.wr l (by simp)).1
   have h2:=(Zk8 (by omega) lt.up).1.rg l (by simp)
   simp at h1
   omega
 subst er
 fail "g"
 refine w_lc2 ?_
 fail "g"
 refine Zuq (Yet g2) M ?_
 have lm':M.length+eS s ks<=eS s ks*2 ^ (nS s ks 0+1):=lm
 refine⟨by rw[Xr]; omega,?_⟩
 fail "g"
 refine q M e _ _ r2 la (by omega) last ?_ ?_
 ·have a2:=x2.len; have a1:=x1.len; rw[Xq] at a2; omega
 ·exact((x1.trans (Fm.app _)).new x2 (fun q hq _=>by simp at hq; have:=x1.len; omega)).trans (Fm.app _)
theorem Zl2 {b:Bool} {nm:String} {k:Nat} {FF:FF} (hF:(s=false/\k=0/\FF=Zhj)\/(s=true/\k=1/\FF=Zgb)) (hn:nm=pnS s) (c:CR ks rss) (hu:∀ ls∈rss,Up ks.length 0 ls) (hw:W ks rss ks.length []=s) (g0:H[k]? = some (.tab nm b))
  (q:∀ (L:List (D×List Int)) (e:D) (p:Nat) (H':HD),Rt s ks rss L->L.getLast? = some (e,[])->L.length<=512->H'[p]? = some (.lst (L.map (·.1)))->H.length<=p->Fm [k] H H'->Q (.ref p) H'):wE (FF [Zan ks rss] H) Q:=by
 subst hn
 have gc:(H.set k (.tab (pnS s) true)++[.clo (pnS s) "claim" (Zan ks rss)])[H.length]? = some (.clo (pnS s) "claim" (Zan ks rss)):=by
  have:=last (H:=H.set k (.tab (pnS s) true)) (o:=.clo (pnS s) "claim" (Zan ks rss))
  rw[List.length_set] at this
  exact this
 have X:Fm [k] H (H.set k (.tab (pnS s) true)++[.clo (pnS s) "claim" (Zan ks rss)]):=(Fm.set (by simp)).trans (Fm.app _)
 have fin':∀ (L:List (D×List Int)) (e:D) (p:Nat) (H1:HD),Rt s ks rss L->L.getLast? = some (e,[])->L.length<=512->H1[p]? = some (.lst (L.map (·.1)))->(H.set k (.tab (pnS s) true)++[DO.clo (pnS s) "claim" (Zan ks rss)]).length<=p->Fm [] (H.set k (.tab (pnS s) true)++[DO.clo (pnS s) "claim" (Zan ks rss)]) H1->Q (.ref p) H1:=fun L e p H1 rt la ln g1 l1 x1=>q L e p H1 rt la ln g1 (by have:=X.len; omega) (X.trans (x1.sub (by simp)))
 rcases hF with ⟨rfl,rfl,rfl⟩ | ⟨rfl,rfl,rfl⟩
 ·refine Za7 rfl ?_
  show wS (Zd3 [some (Zan ks rss),none] H) _
  unfold Zd3
  refine w_seq ⟨.nx,[some (Zan ks rss),some (.ref H.length)],H.set 0 (.tab (pnS false) true)++[.clo (pnS false) "claim" (Zan ks rss)],?_,?_⟩
  ·unfold Yew
   simp[g0,pnS]
  fail "g"
  refine Zpq (s:=false) c hu hw gc fun L e p H1 rt la ln g1 l1 x1=>?_
  fail "g"
  exact fin' L e p H1 rt la ln g1 l1 x1
 ·refine Za7 rfl ?_
  show wS (Zdk [some (Zan ks rss),none] H) _
  unfold Zdk
  refine w_seq ⟨.nx,[some (Zan ks rss),some (.ref H.length)],H.set 1 (.tab (pnS true) true)++[.clo (pnS true) "claim" (Zan ks rss)],?_,?_⟩
  ·unfold Yew
   simp[g0,pnS]
  fail "g"
  refine Zpq (s:=true) c hu hw gc fun L e p H1 rt la ln g1 l1 x1=>?_
  fail "g"
  exact fin' L e p H1 rt la ln g1 l1 x1
end
variable {σ:SD} {H:HD} {Q:D->HD->Prop}
theorem Zu5 {sd:D} {most:Nat} (at':∀ (H:HD) (k:Int) (Q:D->HD->Prop),0<=k->k<=1000->(∀ c,Q (.int c) H)->wE (Zfg [sd,.int k] H) Q) (hm:2<=most/\most<=8) (q:∀ ks rss H',Cl ks rss->ks.length<=most->rss.length<=20->Fm [] H H'->Q (Zan ks rss) H'):wE (Zhe [sd,.int most] H) Q:=by
 refine Za7 rfl ?_
 show wS (Zdz [some sd,some (.int most),none,none,none,none,none] H) _
 unfold Zdz
 fail "g"
 refine at' _ _ _ (by omega) (by omega) fun c=>?_
 fail "g"
 refine Zjh (many:=14) (by omega) fun ds pd H1 l1 d1 g1 n1 x1=>?_
 fail "g"
 refine Ze7 g1 d1 (by omega) (by omega) fun a a0 a1=>?_
 fail "g"
 refine w_mod (by omega) ?_
 fail "g"
 refine Ze7 g1 d1 (by omega) (by omega) fun a' a0' a1'=>?_
 fail "g"
 refine Ze7 (appL g1) d1 (by omega) (by omega) fun b b0 b1=>?_
 fail "g"
 have m3:b % 3=0\/b % 3=1\/b % 3=2:=by omega
 obtain⟨N,hN,eN⟩:∃ N:Nat,N<=most/\atI [D.int (a % ((most:Int)+1)),.int ((most:Int) - a' % 3),.int (most:Int)] (b % 3)=some (.int N):=by
  have e1:=Wbw a (show (most:Int)+1≠0 by omega)
  have e2:=Wbi a (show 0<(most:Int)+1 by omega)
  rcases m3 with z | z | z<;>rw[z]
  ·refine⟨(a % ((most:Int)+1)).toNat,by omega,?_⟩
   rw[Wch e1]; rfl
  ·refine⟨((most:Int) - a' % 3).toNat,by omega,?_⟩
   rw[Wch (by omega)]; rfl
  ·exact⟨most,Xe _,rfl⟩
 refine w_ixR last eN ?_
 fail "g"
 refine Ye3 (k:=2) (appL g1) ?_
 fail "g"
 rw[show (if (N:Int) > 0 then (N:Int) else 0)=(N:Int) by split<;>omega]
 rw[<- Wfn]
 refine Yd4 (many:=N) last (d1.drop 2) (by simp; omega) (by omega) fun ks H2 hk lk x2=>?_
 have X2:Fm [] H H2:=((x1.trans (Fm.app _)).trans (Fm.app _)).trans x2
 have g2:=x2.lst (by simp) (appL (u:=DO.lst ((ds.drop 2).map D.int)) (appL (u:=DO.lst [D.int (a % ((most:Int)+1)),.int ((most:Int) - a' % 3),.int (most:Int)]) g1))
 fail "g"
 refine Ze7 g2 d1 (by omega) (by omega) fun u0 u1 u2=>?_
 fail "g"
 refine Ze7 g2 d1 (by omega) (by omega) fun v0 v1 v2=>?_
 fail "g"
 refine Ze7 g2 d1 (by omega) (by omega) fun y0 y1 y2=>?_
 fail "g"
 refine Ze7 (appL g2) d1 (by omega) (by omega) fun e e0 e1=>?_
 fail "g"
 have m3':e % 3=0\/e % 3=1\/e % 3=2:=by omega
 obtain⟨Z,hZ,eZ⟩:∃ Z:Nat,Z<=20/\atI [D.int (u0 % 5),.int (v0 % 11),.int (5+y0 % 16)] (e % 3)=some (.int Z):=by
  rcases m3' with z | z | z<;>rw[z]
  ·refine⟨(u0 % 5).toNat,by omega,?_⟩
   rw[Wch (by omega)]; rfl
  ·refine⟨(v0 % 11).toNat,by omega,?_⟩
   rw[Wch (by omega)]; rfl
  ·refine⟨(5+y0 % 16).toNat,by omega,?_⟩
   rw[Wch (by omega)]; rfl
 refine w_ixR last eZ ?_
 fail "g"
 refine⟨_,rfl,⟨by omega,by omega⟩,?_⟩
 rw[Wah]
 have Y:Fm [] H (H2++[DO.lst [D.int (u0 % 5),.int (v0 % 11),.int (5+y0 % 16)]]):=X2.trans (Fm.app _)
 refine Zu3 (fun d t o H'=>∃ rss:List (List Int),o=rss.map Zaz/\rss.length=d.length/\d.length+t.length=Z/\(∀ ls∈rss,Up N 0 ls)/\(∀ x∈t,∃ i:Nat,x=.int i/\i<=100)/\True/\H'[pd]? = some (.lst (ds.map .int))/\Fm [] H H') (fun _ _ _ _ _=>Zg4) (fun d x t o H3 ⟨rss,i1,i2,i3,i4,i5,i6,i7,i8⟩=>?_) _ [] [] _ ⟨[],rfl,rfl,by simp[Zbj],by simp,fun x hx=>?_,trivial,appL g2,Y⟩ (fun d o H3 ⟨rss,i1,i2,i3,i4,i5,i6,i7,i8⟩=>?_)
 ·obtain⟨i,rfl,hi⟩:=i5 x (by simp)
  fail "g"
  refine at' _ _ _ (by omega) (by omega) fun cell=>?_
  fail "g"
  rw[lk]
  refine Ycp (by omega) fun ls H4 u x4=>?_
  refine⟨rss++[ls],by rw[i1]; simp,by simp[i2],by simp at i3 ⊢; omega,fun y hy=>?_,fun y hy=>i5 y (by simp[hy]),trivial,x4.lst (by simp) i7,i8.trans x4⟩
  rcases Xy.mp hy with z | z
  ·exact i4 y z
  ·simp at z; subst z; exact u
 ·simp only[Zbj,Xz,Wcr] at hx
  obtain⟨k,hk,rfl⟩:=hx
  exact⟨k,by simp,by omega⟩
 rw[Wdc] at i1
 simp only[Wcm,Wgc] at i3
 subst i1
 refine⟨by simp; omega,?_⟩
 show wS (Zag _ _ [some sd,some (.int most),some (.ref pd),some (.int N),some (.tup ks),some (.int Z),some (.ref H3.length)] (H3++[.lst (rss.map Zaz)])) _
 refine w_seq (Zu6 (fun σ H'=>∃ (rs:List (List Int)) (pr:Nat),H'[pr]? = some (.lst (rs.map Zaz))/\rs.length<=20/\(∀ ls∈rs,Up N 0 ls)/\Fm [] H H'/\σ=[some sd,some (.int most),some (.ref pd),some (.int N),some (.tup ks),some (.int Z),some (.ref pr)]) ?_ ?_)
 ·(refine WP.w_if ?_; fail "g")
  refine Ze7 (appL i7) d1 (by omega) (by omega) fun r r0 r1=>?_
  fail "g"
  refine⟨fun h=>?_,fun h=>?_⟩
  ·fail "g"
   refine Zdw (fun d=>match d with | .tup xs => !xs.isEmpty | _=>true) (fun H'=>H'=H3++[.lst (rss.map Zaz)]) (fun _ j=>by rw[j]; exact Yet last) _ (fun x hx H4 j=>?_) _ rfl fun H4 j=>?_
   ·obtain⟨ls,hls,rfl⟩:=Xz.mp hx
    subst j
    fail "g"
    refine Zxz (Fine.tup (Zem ls)) (Fine.tup (h:=0) Fines.nil) (by omega) (by omega) ?_
    refine⟨_,rfl,?_,rfl⟩
    cases ls<;>simp[Ub,Uo,Zaz]
   ·subst j
    have ef:(rss.map Zaz).filter (fun d=>match d with | .tup xs => !xs.isEmpty | _=>true)=(rss.filter fun ls => !ls.isEmpty).map Zaz:=by
     rw[Wcp]
     congr 1
     exact List.filter_congr fun ls _=>by cases ls<;>rfl
    rw[ef]
    have lf:=Wan (fun ls:List Int => !ls.isEmpty) rss
    refine⟨by simp; omega,?_⟩
    fail "g"
    exact⟨rfl,_,_,last,by omega,fun ls h=>i4 ls (Wag.mp h).1,(i8.trans (Fm.app _)).trans (Fm.app _),rfl⟩
  ·fail "g"
   exact⟨rfl,rss,_,last,by omega,i4,i8.trans (Fm.app _),rfl⟩
 rintro _ H4 ⟨rs,pr,g4,l4,u4,X4,rfl⟩
 fail "g"
 refine q ks rs H4 ⟨hk,fun ls h=>by rw[lk]; exact u4 ls h,by omega,by omega⟩ (by omega) l4 X4
variable {σ:SD} {H:HD} {Q:D->HD->Prop}
theorem CR.of {ks':List D} {rss':List (List Int)} (hk:∀ d∈ks',Zcx d) (h8:ks'.length<=8) (hu:∀ ls∈rss',Up ks'.length 0 ls) (hl:rss'.length<=1000):CR ks' rss':=⟨hk,h8,fun ls h=>(Zk8 (by omega) (hu ls h)).1,hl⟩
section
variable {s:Bool} {ks:List D} {rss:List (List Int)} {L:List (D×List Int)} {bs:List Bool} {ps:Nat}
theorem Yh4 (c:Cl ks rss) {j:Nat} (hj:bs.length+j=ks.length) (q:∀ H',Fm [] H H'->Q (Zam (W ks rss j bs)) H'):wE (Zgs [Zan ks rss,Zar bs] H) Q:=by
 obtain⟨H',e,x⟩:=Zug (bs:=bs) (j:=j) c.hk c.hu c.hl c.h8 hj H
 exact⟨_,_,e,q _ x.fm⟩
theorem w_niB {t:Bool} {p:Nat} {ts:List Bool} (g:H[p]? = some (.lst (ts.map .bl))) (h:t∈ts) (q:Q (.bl false) H):wE (niD (.bl t) (.ref p) H) Q:=by
 have f:Fines (ts.map D.bl) (ts.map Tcr) 0:=by
  clear g q h
  induction ts with
  | nil=>exact .nil
  | cons b r ih=>exact .cons (.bl b) ih
 refine w_niL (.bl t) f (by omega) (by omega) g ?_
 have:((ts.map Tcr).any fun z=>Ub z (.bool t))=true:=Wau.mpr ⟨.bool t,Xz.mpr ⟨t,h,rfl⟩,by simp[Ub]⟩
 rw[this]
 exact q
nonrec def tB:D->Bool
 | .bl b=>b
 | _=>false
theorem Yf2 {j:Nat} (c:Cl ks rss) (hj:bs.length+(j+1)=ks.length)
  (q:∀ p H',H'[p]? = some (.lst (([false,true].filter fun t=>W ks rss j (bs++[t])==kS (ks.getD bs.length .non)).map .bl))->Fm [] H H'->Q (.ref p) H'):wE (Zgk [Zan ks rss,Zar bs] H) Q:=by
 have h8:=c.h8
 have sk:=Zfz c.hk (show bs.length<ks.length by omega)
 refine Za7 rfl ?_
 show wS (Zdh [some (Zan ks rss),some (Zar bs),none] H) _
 unfold Zdh
 fail "i"
 refine w_bF (by simp; omega) ?_
 fail "g"
 refine w_ixT (Zbn sk) ?_
 rw[k_TRUTHS]
 fail "g"
 refine Zdw (fun d=>W ks rss j (bs++[tB d])==kS (ks.getD bs.length .non)) (fun H'=>Fm [] H H') (fun _ _=>Zg4) _ (fun x hx H1 i=>?_) _ Fm.refl fun H1 i=>?_
 ·obtain⟨t,rfl⟩:∃ t,x=.bl t:=by
   rcases Xi.mp hx with rfl | hx
   ·exact⟨_,rfl⟩
   ·rw[Wbh.mp hx]; exact⟨_,rfl⟩
  show wT (tOf (eOp eqD (Zak 2 Zgs (Zab (Zac 1) (Zab (eOp Zcq (Zac 2) (Zd1 (Zab (Zac 0) Zaf))) Zaf))) (Zac 3)) (some (.bl t)::[some (Zan ks rss),some (Zar bs),some (Zam (kS (ks.getD bs.length .non)))]) H1) _
  fail "g"
  refine Yh4 c (j:=j) (by simp; omega) fun H2 x2=>?_
  fail "g"
  refine Zcl ?_
  exact⟨_,rfl,rfl,i.trans x2⟩
 ·refine⟨by have:=Wan (fun d=>W ks rss j (bs++[tB d])==kS (ks.getD bs.length .non)) [D.bl false,.bl true]; simp at this ⊢; omega,?_⟩
  fail "g"
  refine q _ _ ?_ (i.trans (Fm.app _))
  rw[last]
  congr 2
  show _=List.map D.bl _
  simp only[List.filter_cons,List.filter_nil,tB]
  split<;>split<;>rfl
end
nonrec def ren (n l:Int):Int:=if 0<l then l - n else l+n
nonrec def Zyl (bs:List Bool) (ls:List Int):List Int:=(rest bs ls).map (ren bs.length)
nonrec def Zo2 (bs:List Bool) (rss:List (List Int)):List (List Int):=(rss.filter fun ls => !kept bs ls).map (Zyl bs)
nonrec def Zmc:D->List Int
 | .tup ds=>ds.filterMap fun
  | .int i=>some i
  | _=>none
 | _=>[]
theorem Zji (ls:List Int):Zmc (Zaz ls)=ls:=by
 show (ls.map D.int).filterMap _=ls
 induction ls with
 | nil=>rfl
 | cons l r ih=>rw[Xn,Wcu]; simp only[]; rw[ih]
theorem Yct {bs:List Bool} {ls:List Int} (h:∀ l∈ls,0<Zau l) (q:Q (.bl (kept bs ls)) H):wE (Zky [Zaz ls,Zar bs] H) Q:=by
 refine Za7 rfl ?_
 show wS (Zga [some (.tup (ls.map .int)),some (Zar bs),none] H) _
 unfold Zga
 fail "g"
 refine Zcn (fun d t σ H'=>∃ r:List Int,t=r.map .int/\(∀ l∈r,0<Zau l)/\kept bs r=kept bs ls/\H'=H/\∃ z,σ=[some (.tup (ls.map .int)),some (Zar bs),z]) (fun _ _ _ _ _=>Zg4) (fun d x t σ H1 ⟨r,e1,e2,e3,e4,z,e5⟩=>?_) (fun d σ H1 ⟨r,e1,e2,e3,e4,z,e5⟩=>?_) _ [] _ _ ⟨ls,rfl,h,rfl,rfl,_,rfl⟩
 ·cases r with
  | nil=>cases e1
  | cons l r =>
   obtain⟨rfl,rfl⟩:=Wbo.inj e1
   subst e4; subst e5
   fail "i"
   refine Zm4 (e2 l (by simp)) ?_
   fail "g"
   have e6:kept bs (l::r)=(rig bs l||kept bs r):=by unfold kept; rw[Wcq]
   rw[e6] at e3
   refine⟨fun hh=>?_,fun hh=>?_⟩
   ·fail "g"
    rw[hh] at e3
    rw[<- e3] at q; exact q
   ·fail "g"
    rw[hh] at e3
    exact⟨r,rfl,fun y hy=>e2 y (by simp[hy]),e3,rfl,_,rfl⟩
 ·have:r=[]:=by cases r with | nil=>rfl | cons _ _=>cases e1
  subst this; subst e4; subst e5
  fail "g"
  rw[<- e3] at q; exact q
theorem w_ren {l n:Int} (q:Q (.int (ren n l)) H):wE (Zf6 [.int l,.int n] H) Q:=by
 refine Za7 rfl ?_
 show wS (Zdn [some (.int l),some (.int n)] H) _
 unfold Zdn
 unfold ren at q
 fail "g"
 refine⟨fun h=>?_,fun h=>?_⟩
 ·fail "g"
  rw[if_pos (by simpa using h)] at q; exact q
 ·fail "g"
  rw[if_neg (by simpa using h)] at q; exact q
theorem Zwv {bs:List Bool} {ls:List Int} (hl:ls.length<=1000) (q:∀ H',Fm [] H H'->Q (Zaz (Zyl bs ls)) H'):wE (Ziq [Zaz ls,Zar bs] H) Q:=by
 refine Za7 rfl ?_
 show wS (Zep [some (.tup (ls.map .int)),some (Zar bs)] H) _
 unfold Zep
 fail "g"
 refine Zy1 (fun d=>match d with | .int l=>opn bs l | _=>false) (fun d=>match d with | .int l=>.int (ren bs.length l) | _=>.non) (fun H'=>H'=H) (fun _ _=>Zg4) _ (fun x hx H1 j=>?_) (fun x hx _ H1 j=>?_) _ rfl fun H1 j=>?_
 ·obtain⟨l,hl,rfl⟩:=Xz.mp hx
  subst j
  fail "g"
  refine Zv2 ?_
  fail "g"
  exact⟨rfl,rfl⟩
 ·obtain⟨l,hl,rfl⟩:=Xz.mp hx
  subst j
  fail "g"
  refine w_ren ?_
  exact⟨rfl,rfl⟩
 ·have e1:((ls.map D.int).filter fun d=>match d with | .int l=>opn bs l | _=>false).map (fun d=>match d with | .int l=>D.int (ren bs.length l) | _=>.non)=(Zyl bs ls).map .int:=by
   unfold Zyl rest
   rw[Wcp,Wat,Wat]; rfl
  rw[e1]
  subst j
  have lr:(Zyl bs ls).length<=1000:=by unfold Zyl rest; rw[Xr]; exact Waa (Wan _ _) hl
  fail "g"
  exact q _ (Fm.app _)
theorem Yh0 {ks:List D} {rss:List (List Int)} {bs:List Bool} (c:Cl ks rss) (q:∀ H',Fm [] H H'->Q (Zan (ks.drop bs.length) (Zo2 bs rss)) H'):wE (Zvm [Zan ks rss,Zar bs] H) Q:=by
 have hl:=c.hl
 refine Za7 rfl ?_
 show wS (Zpt [some (Zan ks rss),some (Zar bs),none] H) _
 unfold Zpt
 fail "g"
 refine Zy1 (fun d => !kept bs (Zmc d)) (fun d=>Zaz (Zyl bs (Zmc d))) (fun H'=>Fm [] H H') (fun _ _=>Zg4) _ (fun x hx H1 j=>?_) (fun x hx _ H1 j=>?_) _ Fm.refl fun H1 j=>?_
 ·obtain⟨ls,hl,rfl⟩:=Xz.mp hx
  fail "g"
  refine Yct (fun y hy=>by have:=((Zk8 (by omega) (c.hu ls hl)).1.rg y hy).1; omega) ?_
  fail "g"
  exact⟨by rw[Zji],j⟩
 ·obtain⟨ls,hl,rfl⟩:=Xz.mp hx
  fail "g"
  refine Zwv (by have:=(Zk8 (by omega) (c.hu ls hl)).1.len; have:=c.h8; omega) fun H2 x2=>?_
  exact⟨by rw[Zji],j.trans x2⟩
 ·have e1:((rss.map Zaz).filter fun d => !kept bs (Zmc d)).map (fun d=>Zaz (Zyl bs (Zmc d)))=(Zo2 bs rss).map Zaz:=by
   unfold Zo2
   rw[Wcp,Wat,Wat]
   have:((fun d => !kept bs (Zmc d)) ∘ Zaz)=fun ls => !kept bs ls:=by funext ls; simp[Zji]
   rw[this]
   exact Wcw fun x _=>by simp[Zji]
  rw[e1]
  have lr:(Zo2 bs rss).length<=1000:=by unfold Zo2; rw[Xr]; exact Waa (Wan _ _) hl
  fail "g"
  exact q _ (j.trans (Fm.app _))
section
variable {ks:List D} {rss:List (List Int)} {bs:List Bool} {n:Nat}
nonrec def Zcb (ks:List D) (rss:List (List Int)) (bs:List Bool):DO:=.obj "Match" [("begun",Zan ks rss),("picked",Zar bs)]
theorem Ycc (g:H[n]? = some (.obj "Match" [])) (q:Q .non (H.set n (Zcb ks rss []))):wE (Zgc [.ref n,Zan ks rss] H) Q:=by
 have ln:n<H.length:=(Xc.mp g).1
 refine Za7 rfl ?_
 show wS (Zde [some (.ref n),some (Zan ks rss)] H) _
 unfold Zde
 refine w_seq (Zrw (w_var rfl (w_var rfl ⟨n,_,rfl,g,by simp,?_⟩)))
 refine w_kn (w_seq (Zrw (w_tup (w_anil (w_sz (by simp) (w_var rfl ⟨n,_,rfl,War ln,by simp[Ycg],?_⟩))))))
 fail "g"
 rw[Wgd]
 exact q
theorem Ych (g:H[n]? = some (Zcb ks rss bs)) (q:Q (Zar bs) H):wE (Za6 [.ref n] H) Q:=by
 refine Za7 rfl ?_
 show wS (Zdm [some (.ref n)] H) _
 unfold Zdm
 refine w_seq (w_ret (Zgz (w_var rfl ⟨n,_,rfl,g,_,rfl,?_⟩)))
 fail "g"
 exact q
theorem Zvf (c:Cl ks rss) {j:Nat} (hb:bs.length+j=ks.length) (g:H[n]? = some (Zcb ks rss bs)) (q:∀ H',Fm [] H H'->Q (Zam (W ks rss j bs)) H'):wE (Zd8 [.ref n] H) Q:=by
 refine Za7 rfl ?_
 show wS (Zd9 [some (.ref n)] H) _
 unfold Zd9
 refine w_seq (w_ret (w_call (w_acons (Zgz (w_var rfl ⟨n,_,rfl,g,_,rfl,w_acons (Zgz (w_var rfl ⟨n,_,rfl,g,_,rfl,?_⟩))⟩)))))
 fail "g"
 refine Yh4 c hb fun H1 x1=>?_
 fail "g"
 exact q _ x1
theorem Ydl (c:Cl ks rss) {j:Nat} (hb:bs.length+(j+1)=ks.length) (g:H[n]? = some (Zcb ks rss bs)) (q:∀ p H',H'[p]? = some (.lst (([false,true].filter fun t=>W ks rss j (bs++[t])==kS (ks.getD bs.length .non)).map .bl))->Fm [] H H'->Q (.ref p) H'):wE (Zft [.ref n] H) Q:=by
 refine Za7 rfl ?_
 show wS (Zdp [some (.ref n)] H) _
 unfold Zdp
 refine w_seq (w_ret (w_call (w_acons (Zgz (w_var rfl ⟨n,_,rfl,g,_,rfl,w_acons (Zgz (w_var rfl ⟨n,_,rfl,g,_,rfl,?_⟩))⟩)))))
 fail "g"
 refine Yf2 c hb fun p H1 g1 x1=>?_
 fail "g"
 exact q _ _ g1 x1
theorem Zv8 (c:Cl ks rss) (g:H[n]? = some (Zcb ks rss bs)) (q:∀ H',Fm [] H H'->Q (Zan (ks.drop bs.length) (Zo2 bs rss)) H'):wE (Zea [.ref n] H) Q:=by
 refine Za7 rfl ?_
 show wS (Zdb [some (.ref n)] H) _
 unfold Zdb
 refine w_seq (w_ret (w_call (w_acons (Zgz (w_var rfl ⟨n,_,rfl,g,_,rfl,w_acons (Zgz (w_var rfl ⟨n,_,rfl,g,_,rfl,?_⟩))⟩)))))
 fail "g"
 refine Yh0 c fun H1 x1=>?_
 fail "g"
 exact q _ x1
nonrec def trnD (ks:List D) (bs:List Bool):D:=if bs.length=ks.length then .non else Zam (kS (ks.getD bs.length .non))
theorem Zxu (c:Cl ks rss) (hb:bs.length<=ks.length) (g:H[n]? = some (Zcb ks rss bs)) (q:Q (trnD ks bs) H):wE (Zed [.ref n] H) Q:=by
 refine Za7 rfl ?_
 show wS (Zc7 [some (.ref n)] H) _
 unfold Zc7
 refine w_seq (w_if (w_tof (w_op (w_cb (w_acons (Zgz (w_var rfl ⟨n,_,rfl,g,_,rfl,?_⟩)))))))
 fail "g"
 refine Zgz (w_var rfl ⟨n,_,rfl,g,_,rfl,?_⟩)
 fail "g"
 unfold trnD at q
 refine⟨fun h=>?_,fun h=>?_⟩
 ·have h':bs.length=ks.length:=by simp at h; omega
  rw[if_pos h'] at q
  fail "g"
  exact q
 ·have h':bs.length≠ks.length:=by simp at h; omega
  rw[if_neg h'] at q
  refine w_snil (w_kn (w_seq (w_ret (w_op (w_op (Zgz (w_var rfl ⟨n,_,rfl,g,_,rfl,?_⟩)))))))
  fail "g"
  refine Zgz (w_var rfl ⟨n,_,rfl,g,_,rfl,?_⟩)
  fail "g"
  refine w_ixT (Zbn (Zfz c.hk (by omega))) ?_
  fail "g"
  exact q
theorem Zz2 {t:Bool} (q:Q (.bl true) H):wE (Zig [.bl t] H) Q:=by
 refine Za7 rfl ?_
 show wS (Zer [some (.bl t)] H) _
 unfold Zer
 cases t with
 | true=>fail "g"; exact q
 | false=>fail "g"; exact q
theorem Yca {t:Bool} (c:Cl ks rss) (hb:bs.length<ks.length) (g:H[n]? = some (Zcb ks rss bs)) (q:Q .non (H.set n (Zcb ks rss (bs++[t])))):wE (Zec [.ref n,.bl t] H) Q:=by
 have h8:=c.h8
 refine Za7 rfl ?_
 show wS (Zdg [some (.ref n),some (.bl t)] H) _
 unfold Zdg
 refine w_seq (w_if ?_)
 fail "g"
 refine Zz2 ?_
 fail "g"
 refine w_if (w_tof (w_op (w_cb (w_acons (Zgz (w_var rfl ⟨n,_,rfl,g,_,rfl,?_⟩))))))
 fail "g"
 refine Zgz (w_var rfl ⟨n,_,rfl,g,_,rfl,?_⟩)
 fail "g"
 refine w_bF (by simp; omega) ?_
 refine w_snil (w_kn (w_seq (Zrw (w_op (Zgz (w_var rfl ⟨n,_,rfl,g,_,rfl,?_⟩))))))
 fail "g"
 refine⟨n,_,rfl,g,by simp,?_⟩
 fail "g"
 exact q
theorem Zx9 (xs:List D) (x:D):slD (.tup (xs++[x])) none (some (-1)) H=some (.tup xs,H):=by
 have e:Znz (xs++[x]) none (some (-1))=xs:=by
  unfold Znz HT.sIx
  simp
  rw[show (-1+((xs.length:Int)+1)).toNat=xs.length by omega]
  simp
 simp only[slD,e]
theorem Yeq {b:List Bool} {t:Bool} (q:Q (Zar b) H):wE (slD (Zar (b++[t])) none (some (-1)) H) Q:=⟨_,_,by unfold Zar; rw[Wap]; exact Zx9 _ _,q⟩
theorem Ydd {t:Bool} (g:H[n]? = some (Zcb ks rss (bs++[t]))) (q:Q .non (H.set n (Zcb ks rss bs))):wE (Zdl [.ref n] H) Q:=by
 refine Za7 rfl ?_
 show wS (Zda [some (.ref n)] H) _
 unfold Zda
 refine w_seq (w_if (w_tof (w_op (w_cb (w_acons (Zgz (w_var rfl ⟨n,_,rfl,g,_,rfl,?_⟩)))))))
 fail "g"
 refine w_bF (by simp; omega) ?_
 refine w_snil (w_kn (w_seq (Zrw (w_sl (Zgz (w_var rfl ⟨n,_,rfl,g,_,rfl,?_⟩))))))
 fail "g"
 refine Yeq ?_
 fail "g"
 refine⟨n,_,rfl,g,by simp,?_⟩
 fail "g"
 exact q
end
variable {σ:SD} {H:HD} {Q:D->HD->Prop}
section
variable {s:Bool} {ks:List D} {rss:List (List Int)} {L:List (D×List Int)} {bs:List Bool} {n ps pe:Nat} {es:List Int}
nonrec abbrev Sp (s:Bool) (L:List (D×List Int)):List Bool->Bool:=fun bs=>Znm s (L.map (·.2)) bs L
structure Ms (s:Bool) (ks:List D) (rss:List (List Int)) (L:List (D×List Int)) (es:List Int) (n ps pe:Nat) (bs:List Bool) (H:HD):Prop where
 g:H[n]? = some (Zcb ks rss bs)
 gs:H[ps]? = some (.lst (L.map (·.1)))
 ge:H[pe]? = some (.lst (es.map .int))
 fo:Zqg s ks (Sp s L) bs
 hb:bs.length<=ks.length
theorem Ms.keep {H':HD} (m:Ms s ks rss L es n ps pe bs H) (x:Fm [] H H'):Ms s ks rss L es n ps pe bs H':=⟨x.obj (by simp) m.g,x.lst (by simp) m.gs,x.lst (by simp) m.ge,m.fo,m.hb⟩
theorem Ms.put {b:List Bool} (m:Ms s ks rss L es n ps pe bs H) (hf:Zqg s ks (Sp s L) b) (hb:b.length<=ks.length):Ms s ks rss L es n ps pe b (H.set n (Zcb ks rss b)):=by
 have n1:n≠ps:=fun e=>by have:=m.g; rw[e,m.gs] at this; cases this
 have n2:n≠pe:=fun e=>by have:=m.g; rw[e,m.ge] at this; cases this
 exact⟨Zlm m.g,Zud n1 m.gs,Zud n2 m.ge,hf,hb⟩
theorem Zqg.take {S:List Bool->Bool} {b:List Bool} {t:Bool} (h:Zqg s ks S (b++[t])):Zqg s ks S b:=fun k hk ho=>by
 have:=h k (by simp; omega) ho
 rw[Xg hk,Wcj (by omega)] at this
 exact this
structure Gv (s:Bool) (ks:List D) (rss:List (List Int)) (L:List (D×List Int)):Prop where
 c:Cl ks rss
 hl:L.length<=1000
 rt:Rt s ks rss L
 la:∃ e,L.getLast? = some (e,[])
theorem Gv.all (v:Gv s ks rss L) {p:List Bool} (lp:p.length=ks.length) (fp:Zqg s ks (Sp s L) p):rss.all (kept p)=s:=by
 obtain⟨e,la⟩:=v.la
 exact Zt1 v.c.hu v.rt la lp fp
theorem Gv.win (v:Gv s ks rss L) {j:Nat} (hj:bs.length+j=ks.length) (fp:Zqg s ks (Sp s L) bs):W ks rss j bs=s:=Znn (rss:=rss) (fun p lp fp=>v.all lp fp) j bs hj fp
theorem Yfp {one:Int} (v:Gv s ks rss L) (m:Ms s ks rss L es n ps pe bs H) (hb:bs.length<ks.length)
  (q:∀ t H',(Zib s ks ((bs.length:Int)+1)=true->t=Sp s L bs)->Fm [] H H'->Q (.bl t) H'):wE (Zim [Zan ks rss,Zam s,.ref ps,Zar bs,.int one] H) Q:=by
 have h8:=v.c.h8
 have cr:=CR.of v.c.hk v.c.h8 v.c.hu v.c.hl
 have ow:=Zul (s:=s) (ks:=ks) (n:=bs.length)
 have sk:=Zfz v.c.hk hb
 refine Za7 rfl ?_
 show wS (Ze3 [some (Zan ks rss),some (Zam s),some (.ref ps),some (Zar bs),some (.int one)] H) _
 unfold Ze3
 fail "i"
 refine w_ixT (Zbn sk) ?_
 fail "g"
 refine Zfa ?_
 fail "g"
 cases hk:(kS (ks.getD bs.length .non)==s) with
 | false =>
  rw[hk] at ow
  fail "g"
  exact q _ _ (fun z=>by rw[ow] at z; cases z) Fm.refl
 | true =>
  fail "i"
  refine Zcl (b:=false) ?_
  fail "g"
  cases s with
  | false =>
   fail "g"
   refine Za7 rfl ?_
   show wS (Zf5 [some (Zan ks rss),some (.ref ps),some (Zar bs)] H) _
   unfold Zf5
   fail "g"
   refine Zoi (s:=false) cr v.c.hu m.gs v.hl (by omega) v.rt fun H1 x1=>?_
   fail "g"
   exact q _ H1 (fun _=>rfl) x1
  | true =>
   fail "g"
   refine Za7 rfl ?_
   show wS (Zes [some (Zan ks rss),some (.ref ps),some (Zar bs)] H) _
   unfold Zes
   fail "g"
   refine Zoi (s:=true) cr v.c.hu m.gs v.hl (by omega) v.rt fun H1 x1=>?_
   fail "g"
   exact q _ H1 (fun _=>rfl) x1
theorem Zls {fo:EF} (h:fo σ H=some (.ref n,H)) (g:H[n]? = some (Zcb ks rss bs)) (q:Q (Zar bs) H):wE (Zcr "Match" "play" 1 Za6 fo Zaf σ H) Q :=
 Zf0 ⟨_,_,h,n,_,rfl,g,rfl,w_anil ⟨rfl,Ych g q⟩⟩
theorem Zyz {a:List Bool} (h:a.length<=20) (q:Q (.bl true) H):wE (eqD (Zar a) (Zar a) H) Q:=by
 have f:Fines (a.map D.bl) (a.map Tcr) 0:=by
  clear q h
  induction a with
  | nil=>exact .nil
  | cons b r ih=>exact .cons (.bl b) ih
 refine Ycr (Fine.tup f) (Fine.tup f) (by omega) (by omega) ?_
 rw[Zse _ (Fine.tup f).lay]
 exact q
theorem Yai {one:Int} (v:Gv s ks rss L) (m:Ms s ks rss L es n ps pe bs H) (hb:bs.length<ks.length)
  (q:∀ t H',Ms s ks rss L es n ps pe (bs++[t]) H'->Fm [n] H H'->Q (.bl true) H'):wE (Zdd [.ref n,Zan ks rss,Zam s,.ref ps,.int one] H) Q:=by
 have h8:=v.c.h8
 have sk:=Zfz v.c.hk hb
 obtain⟨j,hj⟩:∃ j,bs.length+(j+1)=ks.length:=⟨ks.length - bs.length - 1,by omega⟩
 refine Za7 rfl ?_
 show wS (Zc9 [some (.ref n),some (Zan ks rss),some (Zam s),some (.ref ps),some (.int one),none,none] H) _
 unfold Zc9
 refine w_seq (w_set (Zls rfl m.g ?_))
 fail "g"
 refine Yfp v m hb fun t H1 ht x1=>?_
 have m1:=m.keep x1
 have f2:=m.fo.snoc (b:=t) ht
 have w2:=v.win (j:=j) (by simp; omega) f2
 fail "g"
 refine w_if (w_or (w_tof (w_op (Zf0 (w_var rfl ⟨n,_,rfl,m1.g,rfl,w_anil ⟨rfl,?_⟩⟩)))))
 refine Zvf v.c hj m1.g fun H2 x2=>?_
 have m2:=m1.keep x2
 rw[v.win hj m.fo]
 fail "g"
 refine Zfa ?_
 rw[show (!(s==s))=false by cases s<;>rfl]
 fail "g"
 refine Zf0 (w_var rfl ⟨n,_,rfl,m2.g,rfl,w_anil ⟨rfl,?_⟩⟩)
 refine Zxu v.c (by omega) m2.g ?_
 rw[show trnD ks bs=Zam (kS (ks.getD bs.length .non)) from if_neg (by omega)]
 fail "g"
 refine w_ixT (Zbn sk) ?_
 fail "g"
 refine Zfa ?_
 rw[show (!(kS (ks.getD bs.length .non)==kS (ks.getD bs.length .non)))=false by cases kS (ks.getD bs.length .non)<;>rfl]
 have fin':∀ H3,Ms s ks rss L es n ps pe bs H3->Fm [] H H3->wS (Zag (Zbc (eAn (eOp isD (Zcr "Match" "pick" 2 Zec (Zac 0) (Zab (Zac 6) Zaf)) (eC .non)) (eOp eqD (Zcr "Match" "play" 1 Za6 (Zac 0) Zaf) (eOp Zcq (Zac 5) (Zd1 (Zab (Zac 6) Zaf)))))) Zaj [some (.ref n),some (Zan ks rss),some (Zam s),some (.ref ps),some (.int one),some (Zar bs),some (.bl t)] H3) (fin Q):=fun H3 m3 x3=>by
  refine w_seq (w_ret (w_ean (w_op (Zf0 (w_var rfl ⟨n,_,rfl,m3.g,rfl,w_acons (w_var rfl (w_anil ⟨rfl,?_⟩))⟩)))))
  refine Yca v.c hb m3.g ?_
  have m4:=m3.put f2 (by simp; omega)
  fail "g"
  refine Zls rfl m4.g ?_
  fail "g"
  refine Zyz (by simp; omega) ?_
  fail "g"
  exact q t _ m4 ((x3.sub (by simp)).trans (Fm.set (by simp)))
 fail "g"
 refine w_if (w_an ?_)
 fail "g"
 refine w_ixT (Zbn sk) ?_
 fail "g"
 refine Zcl ?_
 fail "g"
 cases hk:(kS (ks.getD bs.length .non)==s) with
 | false =>
  exact w_bf (w_bf (w_snil (w_kn (fin' H2 m2 (x1.trans x2)))))
 | true =>
  refine w_bt ?_
  fail "g"
  refine Zf0 (w_var rfl ⟨n,_,rfl,m2.g,rfl,w_anil ⟨rfl,?_⟩⟩)
  refine Ydl v.c hj m2.g fun pg H3 g3 x3=>?_
  fail "g"
  refine w_niB g3 (Wag.mpr ⟨by cases t<;>simp,?_⟩) ?_
  ·rw[w2,Bool.beq_comm]
   exact hk
  exact⟨_,rfl,w_bf (w_snil (w_kn (fin' H3 (m2.keep x3) ((x1.trans x2).trans x3))))⟩
end
variable {σ:SD} {H:HD} {Q:D->HD->Prop}
nonrec abbrev whT:TF:=tOf (eOp ltD (eCB Zcz (Zab (Zcr "Match" "play" 1 Za6 (Zac 0) Zaf) Zaf)) (Zac 5))
nonrec abbrev whB (eo:EF):SF:=(Zag (sIf (tNo (Zgv (Zak 5 Zdd (Zab (Zac 0) (Zab (Zac 1) (Zab (Zac 2) (Zab (Zac 3) (Zab eo Zaf)))))))) (Zag (Zbc (eC (.bl false)))
 Zaj) Zaj)
 Zaj)
section
variable {s:Bool} {ks:List D} {rss:List (List Int)} {L:List (D×List Int)} {bs:List Bool} {n ps pe:Nat} {es:List Int}
theorem Ya6 {R:FD->SD->HD->Prop} {eo:EF} {z6:Option D} (v:Gv s ks rss L) (m:Ms s ks rss L es n ps pe bs H)
  (heo:∀ (b:List Bool) (H1:HD),Ms s ks rss L es n ps pe b H1->b.length<ks.length->wE (eo [some (.ref n),some (Zan ks rss),some (Zam s),some (.ref ps),some (.ref pe),some (.int ks.length),z6] H1) fun d H2=>(∃ i,d=.int i)/\H2=H1)
  (q:∀ b H',b.length=ks.length->Ms s ks rss L es n ps pe b H'->Fm [n] H H'->R .nx [some (.ref n),some (Zan ks rss),some (Zam s),some (.ref ps),some (.ref pe),some (.int ks.length),z6] H') :
  wS (sWh whT (whB eo) 20 [some (.ref n),some (Zan ks rss),some (Zam s),some (.ref ps),some (.ref pe),some (.int ks.length),z6] H) R:=by
 have h8:=v.c.h8
 have hb:=m.hb
 refine Znl (fun k σ H'=>∃ b,b.length+k=ks.length/\Ms s ks rss L es n ps pe b H'/\Fm [n] H H'/\σ=[some (.ref n),some (Zan ks rss),some (Zam s),some (.ref ps),some (.ref pe),some (.int ks.length),z6]) (fun k σ H1 ⟨b,i1,i2,i3,i4⟩=>?_) 20 (ks.length - bs.length) _ _ (by omega) ⟨bs,by omega,m,Fm.refl,rfl⟩
 subst i4
 refine w_tof (w_op (w_cb (w_acons (Zls rfl i2.g ?_))))
 fail "g"
 refine⟨fun z=>?_,fun z=>?_⟩
 ·have z:b.length<ks.length:=by have:=of_decide_eq_true z; omega
  obtain⟨k',rfl⟩:∃ k',k=k'+1:=⟨k - 1,by omega⟩
  refine⟨k',rfl,?_⟩
  unfold whB
  fail "i"
  obtain⟨d,H2,e,⟨i,rfl⟩,rfl⟩:=heo b H1 i2 z
  refine⟨_,_,e,?_⟩
  fail "g"
  refine Yai v i2 z fun t H3 m3 x3=>?_
  fail "g"
  exact⟨b++[t],by simp; omega,m3,i3.trans x3,rfl⟩
 ·have z:¬ b.length<ks.length:=by have:=of_decide_eq_false z; omega
  exact q b H1 (by omega) i2 i3
theorem Yby {fo:EF} {b:List Bool} {t:Bool} (h:fo σ H=some (.ref n,H)) (g:H[n]? = some (Zcb ks rss (b++[t]))) (q:Q .non (H.set n (Zcb ks rss b))):wE (Zcr "Match" "back" 1 Zdl fo Zaf σ H) Q :=
 Zf0 ⟨_,_,h,n,_,rfl,g,rfl,w_anil ⟨rfl,Ydd g q⟩⟩
theorem Zwb (c:Cl ks rss) (hb:bs.length=ks.length):Zo2 bs rss=Xl (rss.filter fun ls => !kept bs ls).length []:=by
 unfold Zo2
 have:∀ xs:List (List Int),(∀ ls∈xs,ls∈rss)->xs.map (Zyl bs)=Xl xs.length []:=fun xs=>by
  induction xs with
  | nil=>intro _; rfl
  | cons x r ih =>
   intro h
   rw[Xn,ih fun ls hl=>h ls (by simp[hl]),Wbc,Was]
   congr 1
   have:rest bs x=[]:=Wdi.mpr fun l hl=>by
    have:=((Zk8 (by omega) (c.hu x (h x (by simp)))).1.rg l hl).2
    unfold opn
    rw[decide_eq_false (by omega)]
    simp
   unfold Zyl
   rw[this]
   rfl
 exact this _ fun ls h=>(Wag.mp h).1
theorem Ycm {m:Nat} (q:Q (.bl (decide (0<m))) H):wE (inD (.tup []) (.tup ((Xl m ([]:List Int)).map Zaz)) H) Q:=by
 have f':Fines ((Xl m ([]:List Int)).map Zaz) (Xl m (.tuple [])) 1:=by
  clear q
  induction m with
  | zero=>exact .nil
  | succ m ih=>exact .cons (Fine.tup (Fines.nil (h:=0))) ih
 refine Ygv (Fine.tup (Fines.nil (h:=0))) f' (by omega) (by omega) ?_
 have:((Xl m (PyData.tuple [])).any fun z=>Ub z (.tuple []))=decide (0<m):=by
  cases m with
  | zero=>rfl
  | succ m=>rw[Was,Wcq]; simp[Ub,Uo]
 rw[this]
 exact q
theorem Zvr (v:Gv s ks rss L) (m:Ms s ks rss L es n ps pe [] H) (hd:Ybt es) (le:10<=es.length)
  (q:∀ b H',b.length=ks.length->Ms s ks rss L es n ps pe b H'->Fm [n] H H'->Q (.bl true) H'):wE (Zf3 [.ref n,Zan ks rss,Zam s,.ref ps,.ref pe] H) Q:=by
 have h8:=v.c.h8
 refine Za7 rfl ?_
 show wS (Zdo [some (.ref n),some (Zan ks rss),some (Zam s),some (.ref ps),some (.ref pe),none,none] H) _
 unfold Zdo
 have ix:∀ (z6:Option D) (b:List Bool) (H1:HD) (Q':D->HD->Prop),Ms s ks rss L es n ps pe b H1->b.length<ks.length->(∀ i,Q' (.int i) H1)->wE (eOp ixD (Zac 4) (eCB Zcz (Zab (Zcr "Match" "play" 1 Za6 (Zac 0) Zaf) Zaf)) [some (.ref n),some (Zan ks rss),some (Zam s),some (.ref ps),some (.ref pe),some (.int ks.length),z6] H1) Q':=fun z6 b H1 Q' m1 hb q=>by
  refine w_op (w_var rfl (w_cb (w_acons (Zls rfl m1.g ?_))))
  fail "g"
  refine Ze7 (i:=(b.length:Int)) m1.ge hd (by omega) (by omega) fun r _ _=>?_
  exact q r
 fail "g"
 refine Ya6 v m (fun b H1 m1 hb=>ix _ b H1 _ m1 hb fun i=>⟨⟨i,rfl⟩,rfl⟩) fun b H1 lb m1 x1=>?_
 fail "g"
 refine Ze7 m1.ge hd (by omega) (by omega) fun r r0 r1=>?_
 fail "g"
 refine w_mod (by omega) ?_
 obtain⟨k,hk⟩:∃ k:Nat,r % ((ks.length:Int)+1)=k:=⟨(r % ((ks.length:Int)+1)).toNat,by have:=Wbw r (b:=(ks.length:Int)+1) (by omega); omega⟩
 have hk2:=Wbi r (b:=(ks.length:Int)+1) (by omega)
 rw[hk] at hk2 ⊢
 fail "g"
 refine⟨_,rfl,⟨by omega,by omega⟩,?_⟩
 rw[Wah]
 refine Zcn (fun d t σ H'=>∃ (b:List Bool) (z6:Option D),d.length+t.length=k/\b.length+d.length=ks.length/\Ms s ks rss L es n ps pe b H'/\Fm [n] H H'/\σ=[some (.ref n),some (Zan ks rss),some (Zam s),some (.ref ps),some (.ref pe),some (.int ks.length),z6]) (fun _ _ _ _ _=>Zg4) (fun d x t σ H2 ⟨b,z6,i1,i2,i3,i4,i5⟩=>?_) (fun d σ H2 ⟨b,z6,i1,i2,i3,i4,i5⟩=>?_) _ [] _ _ ⟨b,none,by simp[Zbj],by simp[lb],m1,x1,rfl⟩
 ·subst i5
  simp at i1
  obtain⟨b',t',rfl⟩:∃ b' t',b=b'++[t']:=by
   rcases Wdn b with rfl | ⟨a,z,e⟩
   ·simp at i2; omega
   ·exact⟨a,z,by rw[e,Wdo]⟩
  simp at i2
  have f2:=i3.fo.take
  have m2:=i3.put f2 (by omega)
  refine w_gnm (w_seq (w_if (w_or (w_tof (w_op (Yby rfl i3.g ?_))))))
  fail "g"
  refine Zf0 (w_var rfl ⟨n,_,rfl,m2.g,rfl,w_anil ⟨rfl,?_⟩⟩)
  refine Zvf v.c (j:=ks.length - b'.length) (by omega) m2.g fun H3 x3=>?_
  rw[v.win (by omega) f2]
  fail "g"
  refine Zfa ?_
  rw[show (!(s==s))=false by cases s<;>rfl]
  fail "g"
  exact⟨b',_,by simp; omega,by simp; omega,m2.keep x3,(i4.trans (Fm.set (by simp))).trans (x3.sub (by simp)),rfl⟩
 ·subst i5
  fail "g"
  refine Ya6 v i3 (fun b H1 m1 hb=>?_) fun b2 H3 lb3 m3 x3=>?_
  ·refine w_op (ix _ b H1 _ m1 hb fun i=>?_)
   fail "g"
   exact⟨⟨_,rfl⟩,rfl⟩
  have X3:=i4.trans x3
  refine w_kn (w_seq (w_if (w_or (w_tof (w_op (Zf0 (w_var rfl ⟨n,_,rfl,m3.g,rfl,w_anil ⟨rfl,?_⟩⟩)))))))
  refine Zvf v.c (j:=0) (by omega) m3.g fun H4 x4=>?_
  rw[v.win (by omega) m3.fo]
  have m4:=m3.keep x4
  fail "g"
  refine Zfa ?_
  rw[show (!(s==s))=false by cases s<;>rfl]
  refine⟨_,rfl,w_bf ?_⟩
  refine w_or (w_tof (w_op (Zf0 (w_var rfl ⟨n,_,rfl,m4.g,rfl,w_anil ⟨rfl,?_⟩⟩))))
  refine Zxu v.c (by omega) m4.g ?_
  rw[show trnD ks b2=.non from if_pos lb3]
  fail "g"
  refine Zf0 (w_var rfl ⟨n,_,rfl,m4.g,rfl,w_anil ⟨rfl,?_⟩⟩)
  refine Zv8 v.c m4.g fun H5 x5=>?_
  have m5:=m4.keep x5
  rw[lb3,List.drop_length]
  fail "g"
  refine Yb4 (xs:=[]) (Fines.nil (h:=0)) (by omega) ?_
  fail "g"
  refine Zf0 (w_var rfl ⟨n,_,rfl,m5.g,rfl,w_anil ⟨rfl,?_⟩⟩)
  refine Zv8 v.c m5.g fun H6 x6=>?_
  have m6:=m5.keep x6
  rw[Zwb v.c lb3]
  fail "g"
  refine Ycm ?_
  fail "g"
  refine Zcl (b:=false) ?_
  fail "g"
  refine Zzs ?_
  have al:=v.all lb3 m3.fo
  have e:decide (0<(rss.filter fun ls => !kept b2 ls).length) = !s:=by
   rw[<- al]
   cases z:rss.all (kept b2) with
   | true =>
    have:(rss.filter fun ls => !kept b2 ls)=[]:=Wdi.mpr fun ls hl=>by rw[Xu.mp z ls hl]; simp
    rw[this]; rfl
   | false =>
    obtain⟨ls,h1,h2⟩:=Wfw.mp z
    have:ls∈rss.filter fun ls => !kept b2 ls:=Wag.mpr ⟨h1,by simpa using h2⟩
    exact decide_eq_true (List.length_pos_of_mem this)
  rw[e,show ((!s)==(s==false))=true by cases s<;>rfl]
  fail "g"
  exact q b2 H6 lb3 m6 (((X3.trans (x4.sub (by simp))).trans (x5.sub (by simp))).trans (x6.sub (by simp)))
end
variable {σ:SD} {H:HD} {Q:D->HD->Prop}
theorem w_neB {a b:Bool} (q:Q (.bl (!(a==b))) H):wE (neD (.bl a) (.bl b) H) Q:=Zxz (.bl a) (.bl b) (by omega) (by omega) (by simpa [Ub] using q)
theorem pure_law:∀ ns:List Int,ns.length<=63->∃ Hd',Ztq [.fl (ns.map .int)] (Zfp ["row_paper","term_paper"])=some (.bl true,Hd'):=by
 intro ns hns
 suffices h:wE (Ztq [.fl (ns.map .int)] (Zfp ["row_paper","term_paper"])) fun d _=>d=.bl true by
  obtain⟨d,H',e,rfl⟩:=h
  exact⟨H',e⟩
 have g0:(Zfp ["row_paper","term_paper"])[0]? = some (.tab "row_paper" false):=rfl
 have g1:(Zfp ["row_paper","term_paper"])[1]? = some (.tab "term_paper" false):=rfl
 generalize Zfp ["row_paper","term_paper"]=H0 at g0 g1 ⊢
 refine Za7 rfl ?_
 show wS (Zu7 [some (.fl (ns.map .int)),none,none,none,none,none,none,none] H0) _
 unfold Zu7
 fail "g"
 refine Ycv _ _ _ (by omega) (by omega) fun cell=>?_
 fail "g"
 refine Zjh (many:=31) (by omega) fun dg pd H1 l1 d1 gd1 n1 x1=>?_
 fail "g"
 refine Ze7 gd1 d1 (by omega) (by omega) fun r r0 r1=>?_
 fail "g"
 obtain⟨mo,hmo,el⟩:∃ mo:Nat,(2<=mo/\mo<=8)/\atI [D.int 8,.int 6,.int 6,.int 6,.int 6,.int 6,.int 6,.int 6] (r % 8)=some (.int mo):=by
  have:r % 8=0\/r % 8=1\/r % 8=2\/r % 8=3\/r % 8=4\/r % 8=5\/r % 8=6\/r % 8=7:=by omega
  rcases this with z | z | z | z | z | z | z | z<;>rw[z]
  ·exact⟨8,by omega,rfl⟩
  all_goals exact⟨6,by omega,rfl⟩
 refine w_ixR (x1.lst (by simp) last) el ?_
 fail "g"
 refine Zu5 (most:=mo) (fun H k Q h0 h1 q=>Ycv H k Q h0 h1 q) hmo fun ks rss H2 c lk lr x2=>?_
 have cr:CR ks rss:=CR.of c.hk c.h8 c.hu c.hl
 have h8:=c.h8
 fail "g"
 refine Zxa cr fun pw dn H3 g3 hall l3 x3=>?_
 fail "g"
 refine Zxo (bs:=[]) g3 (hall [] (Wbd _)) ?_
 obtain⟨w,hw⟩:∃ w,W ks rss ks.length []=w:=⟨_,rfl⟩
 have eW:FW ks rss []=Zam w:=congrArg Zam hw
 rw[eW]
 have X3:=(((Fm.app (S:=[]) (H:=H0) [DO.lst [D.int 8,.int 6,.int 6,.int 6,.int 6,.int 6,.int 6,.int 6]]).trans x1).trans x2).trans x3
 have t0:=X3.keep (by simp) g0 (fun _ e=>by cases e)
 have t1:=X3.keep (by simp) g1 (fun _ e=>by cases e)
 have b1:=(Xc.mp t1).1
 fail "g"
 refine w_mk (w_acons (w_var rfl (w_anil ⟨rfl,?_⟩)))
 refine Ycc last ⟨rfl,?_⟩
 have gm:((H3++[DO.obj "Match" []]).set H3.length (Zcb ks rss []))[H3.length]? = some (Zcb ks rss []):=Zlm last
 have t0':((H3++[DO.obj "Match" []]).set H3.length (Zcb ks rss []))[0]? = some (.tab "row_paper" false):=Zud (by omega) (appL t0)
 have t1':((H3++[DO.obj "Match" []]).set H3.length (Zcb ks rss []))[1]? = some (.tab "term_paper" false):=Zud (by omega) (appL t1)
 generalize (H3++[DO.obj "Match" []]).set H3.length (Zcb ks rss [])=H4 at gm t0' t1' ⊢
 have hn0:H3.length≠0/\H3.length≠1:=by omega
 generalize H3.length=n at gm hn0 ⊢
 fail "g"
 refine Zu6 (fun σ' H'=>∃ (L:List (D×List Int)) (p:Nat),Gv w ks rss L/\L.length<=512/\H'[p]? = some (.lst (L.map (·.1)))/\H'[n]? = some (Zcb ks rss [])/\σ'=[some (.fl (ns.map .int)),some (Zan ks rss),some (Zam w),some (.ref n),some (.ref p),none,none,none]) ?_ ?_
 ·(refine WP.w_if ?_; fail "g")
  refine Zcl (b:=false) ?_
  fail "g"
  cases w with
  | false =>
   fail "g"
   refine Zl2 (s:=false) (.inl ⟨rfl,rfl,rfl⟩) rfl cr c.hu hw (appL t0') fun L e p H5 rt la ln g5 l5 x5=>?_
   fail "g"
   exact⟨rfl,L,p,⟨c,by omega,rt,⟨e,la⟩⟩,ln,g5,x5.obj (by simp; omega) (appL gm),rfl⟩
  | true =>
   fail "g"
   refine Zl2 (s:=true) (.inr ⟨rfl,rfl,rfl⟩) rfl cr c.hu hw (appL t1') fun L e p H5 rt la ln g5 l5 x5=>?_
   fail "g"
   exact⟨rfl,L,p,⟨c,by omega,rt,⟨e,la⟩⟩,ln,g5,x5.obj (by simp; omega) (appL gm),rfl⟩
 rintro _ H5 ⟨L,p,v,ln,g5,gm5,rfl⟩
 clear gm t0' t1' x3 g3 X3 t0 t1
 fail "g"
 refine⟨_,rfl,⟨by split<;>omega,by split<;>omega⟩,?_⟩
 refine Zxm (fun σ H'=>H'[p]? = some (.lst (L.map (·.1)))/\H'[n]? = some (Zcb ks rss [])/\∃ z5 z6 z7,σ=[some (.fl (ns.map .int)),some (Zan ks rss),some (Zam w),some (.ref n),some (.ref p),z5,z6,z7]) (fun _ _ _=>Zg4) _ (fun d hd0 σ H6 ⟨i1,i2,z5,z6,z7,i3⟩=>?_) _ _ ⟨g5,gm5,_,_,_,rfl⟩ fun σ H6 ⟨i1,i2,z5,z6,z7,i3⟩=>?_
 ·subst i3
  simp only[Zbj,Xz,Wcr] at hd0
  obtain⟨k,hk,rfl⟩:=hd0
  have hk3:k<100:=by split at hk<;>omega
  fail "g"
  refine Ycv _ _ _ (by omega) (by omega) fun cell=>?_
  fail "g"
  refine Zjh (many:=44) (by omega) fun dg pd H7 l7 d7 g7 n7 x7=>?_
  fail "g"
  refine Ye3 (k:=30) g7 ?_
  rw[<- Wfn]
  have X7:=x7.trans (Fm.app (S:=[]) [DO.lst ((dg.drop 30).map .int)])
  have m7:Ms w ks rss L (dg.drop 30) n p H7.length [] (H7++[.lst ((dg.drop 30).map .int)]):=⟨X7.obj (by simp) i2,X7.lst (by simp) i1,last,.nil,Wbd _⟩
  fail "i"
  refine Zvr v m7 (d7.drop 30) (by rw[Weq,l7]; omega) fun b H8 lb m8 x8=>?_
  fail "g"
  (refine WP.w_if ?_; fail "g")
  refine Zls rfl m8.g ?_
  fail "g"
  refine Zxh c.h8 cr.hr lb fun H9 x9=>?_
  have m9:=m8.keep x9.fm
  rw[show keeps rss b=w from v.all lb m8.fo]
  fail "g"
  refine Zcl (b:=false) ?_
  fail "g"
  refine w_neB ?_
  rw[show (!((!w)==(w==false)))=false by cases w<;>rfl]
  fail "g"
  refine⟨_,rfl,⟨by omega,by omega⟩,?_⟩
  rw[Wah]
  refine Zcn (fun d t σ H'=>∃ (b:List Bool) (z7:Option D),d.length+t.length=ks.length/\b.length+d.length=ks.length/\Ms w ks rss L (dg.drop 30) n p H7.length b H'/\σ=[some (.fl (ns.map .int)),some (Zan ks rss),some (Zam w),some (.ref n),some (.ref p),some (.int (0+(k:Int))),some (.ref H7.length),z7]) (fun _ _ _ _ _=>Zg4) (fun d x t σ HA ⟨b,z7,j1,j2,j3,j4⟩=>?_) (fun d σ HA ⟨b,z7,j1,j2,j3,j4⟩=>?_) _ [] _ _ ⟨b,z7,by simp[Zbj],by simp[lb],m9,rfl⟩
  ·subst j4
   simp at j1
   obtain⟨b',t',rfl⟩:∃ b' t',b=b'++[t']:=by
    rcases Wdn b with rfl | ⟨a,z,e⟩
    ·simp at j2; omega
    ·exact⟨a,z,by rw[e,Wdo]⟩
   simp at j2
   refine w_gnm (w_seq (w_expr (Yby rfl j3.g ?_)))
   fail "g"
   exact⟨b',_,by simp; omega,by simp; omega,j3.put j3.fo.take (by omega),rfl⟩
  ·subst j4
   simp at j1
   obtain rfl:b=[]:=Wcg.mp (by omega)
   fail "g"
   exact⟨j3.gs,j3.g,_,_,_,rfl⟩
 ·subst i3
  refine w_seq (w_ret (w_op (Zls rfl i2 ?_)))
  fail "g"
  refine Yc9 (Fines.nil (h:=0)) (by omega) ?_
  fail "g"
  rfl
end K08
set_option maxHeartbeats 8000000
namespace K08
open PySem PySem.Spec PyProof.Rows L2 DL
nonrec def top (i:Nat):Vw:=PySem.Challenge.pw_allsome_k86_whole_matches_by_papers.main.body.getD i (.Pass ⟨0,0,0,0⟩)
nonrec abbrev s2k:Vw:=top 2
local macro_rules | `(tactic| fail $s:str)=>do
 if s.getString != "S" then Lean.Macro.throwUnsupported
 `(tactic| exact ⟨rfl,rfl,rfl,by decide +kernel,rfl,by decide +kernel,by decide +kernel⟩)
theorem Zqe:FnScope ["thing"] ["thing"] (Zad s2k):=by fail "S"
nonrec abbrev s2i:Vw:=top 3
theorem Zqq:FnScope ["thing"] ["thing"] (Zad s2i):=by fail "S"
nonrec abbrev s2g:Vw:=top 4
theorem Zte:FnScope ["literal","play"] ["literal","play"] (Zad s2g):=by fail "S"
nonrec abbrev s2h:Vw:=top 5
theorem Zq6:FnScope ["literal","play"] ["literal","play"] (Zad s2h):=by fail "S"
nonrec abbrev s2c:Vw:=top 6
theorem Zlv:FnScope ["row","play","literal"] ["row","play"] (Zad s2c):=by fail "S"
nonrec abbrev s2d:Vw:=top 7
theorem Zlz:FnScope ["row","play","literal"] ["row","play"] (Zad s2d):=by fail "S"
nonrec abbrev s2P:Vw:=top 8
theorem Znq:FnScope ["literal","many"] ["literal","many"] (Zad s2P):=by fail "S"
nonrec abbrev s2Q:Vw:=top 9
theorem Zqd:FnScope ["row","play"] ["row","play"] (Zad s2Q):=by fail "S"
nonrec abbrev s2A:Vw:=top 10
theorem Zu8:FnScope ["claim","play","rows"] ["claim","play"] (Zad s2A):=by fail "S"
nonrec abbrev s1Z:Vw:=top 19
theorem Zfn:FnScope ["rows","told","number","row"] ["rows"] (Zad s1Z):=by fail "S"
nonrec abbrev s2S:Vw:=top 20
theorem Zg0:FnScope ["rows","name","truth","right","told","row","first"] ["rows","name","truth"] (Zad s2S):=by fail "S"
nonrec abbrev s2T:Vw:=top 21
theorem Zd2:FnScope ["rows","play","told","name","truth"] ["rows","play"] (Zad s2T):=by fail "S"
nonrec abbrev s2H:Vw:=top 22
theorem Zmv:FnScope ["side"] ["side"] (Zad s2H):=by fail "S"
nonrec abbrev s2Y:Vw:=top 23
theorem Zds:FnScope ["kinds","rows","many","who","truth"] ["kinds","rows","many"] (Zad s2Y):=by fail "S"
nonrec abbrev s2X:Vw:=top 24
theorem Zui:FnScope ["claim","play"] ["claim","play"] (Zad s2X):=by fail "S"
nonrec abbrev s2a:Vw:=top 25
theorem Zh7:FnScope ["claim","play","who"] ["claim","play"] (Zad s2a):=by fail "S"
nonrec abbrev s1T:Vw:=top 29
theorem Zmh:FnScope ["kinds","literals"] ["kinds","literals"] (Zad s1T):=by fail "S"
nonrec abbrev s2G:Vw:=top 30
theorem Zel:FnScope ["kinds","rows","row"] ["kinds","rows"] (Zad s2G):=by fail "S"
nonrec abbrev s2f:Vw:=top 35
theorem Zkr:FnScope ["thing","many"] ["thing","many"] (Zad s2f):=by fail "S"
nonrec abbrev s2e:Vw:=top 36
theorem Zg8:FnScope ["kinds","side","thing"] ["kinds","side","thing"] (Zad s2e):=by fail "S"
nonrec abbrev s2B:Vw:=top 37
theorem Zhg:FnScope ["kinds","side","row","stays"] ["kinds","side","row"] (Zad s2B):=by fail "S"
nonrec abbrev s2Z:Vw:=top 38
theorem Ztc:FnScope ["row","literal"] ["row","literal"] (Zad s2Z):=by fail "S"
nonrec abbrev s1U:Vw:=top 39
theorem Zqr:FnScope ["one","other","told","literal"] ["one","other"] (Zad s1U):=by fail "S"
nonrec abbrev s2l:Vw:=top 40
theorem Zyf:FnScope ["one","other","name"] ["one","other","name"] (Zad s2l):=by fail "S"
nonrec abbrev s2F:Vw:=top 41
theorem Zkl:FnScope ["kinds","side","made","step"] ["kinds","side","made","step"] (Zad s2F):=by fail "S"
nonrec abbrev s2E:Vw:=top 42
theorem Zik:FnScope ["kinds","side","made","step"] ["kinds","side","made","step"] (Zad s2E):=by fail "S"
nonrec abbrev s2N:Vw:=top 45
theorem Zkt:FnScope ["kinds","side","pairs","step","row","less"] ["kinds","side","pairs","step","row"] (Zad s2N):=by fail "S"
nonrec abbrev s1Y:Vw:=top 50
theorem Znv:FnScope ["claim","step"] ["claim","step"] (Zad s1Y):=by fail "S"
nonrec abbrev s2j:Vw:=top 53
theorem Zne:FnScope ["side","row","play"] ["side","row","play"] (Zad s2j):=by fail "S"
nonrec abbrev s2C:Vw:=top 54
theorem Zk5:FnScope ["side","name","truth"] ["side","name","truth"] (Zad s2C):=by fail "S"
nonrec abbrev s2W:Vw:=top 55
theorem Zoy:FnScope ["claim","step"] ["claim","step"] (Zad s2W):=by fail "S"
nonrec abbrev s2D:Vw:=top 43
theorem Zs4:FnScope ["claim","side","first","made","step"] ["claim","side","first","made","step"] (Zad s2D):=by fail "S"
nonrec abbrev s1S:Vw:=top 44
theorem Zk4:FnScope ["claim","side","first","steps","made","number","step","row"] ["claim","side","first","steps"] (Zad s1S):=by fail "S"
nonrec abbrev s1V:Vw:=top 56
theorem Zjq:FnScope ["claim","side","first","steps","play","rows","name","step","row","truth"] ["claim","side","first","steps","play"] (Zad s1V):=by fail "S"
nonrec abbrev s1W:Vw:=top 57
theorem Ztr:FnScope ["claim","steps","play"] ["claim","steps","play"] (Zad s1W):=by fail "S"
nonrec abbrev s1X:Vw:=top 58
theorem Zqx:FnScope ["claim","steps","play"] ["claim","steps","play"] (Zad s1X):=by fail "S"
nonrec abbrev s2b:Vw:=top 60
theorem Zfs:FnScope ["one","other"] ["one","other"] (Zad s2b):=by fail "S"
nonrec abbrev s2U:Vw:=top 61
theorem Zf4:FnScope ["rows","play","told","row","right"] ["rows","play"] (Zad s2U):=by fail "S"
nonrec abbrev s2s:Vw:=top 64
theorem Zlk:FnScope ["cell","k","prime","one"] ["cell","k"] (Zad s2s):=by fail "S"
nonrec abbrev s2p:Vw:=top 65
theorem Zhs:FnScope ["cell","many","found","left_over","wide","k"] ["cell","many"] (Zad s2p):=by fail "S"
nonrec abbrev s2n:Vw:=top 66
theorem Zvt:FnScope ["script","k"] ["script","k"] (Zad s2n):=by fail "S"
nonrec abbrev s2q:Vw:=top 67
theorem Ziy:FnScope ["some","many","found","k","kind"] ["some","many"] (Zad s2q):=by fail "S"
nonrec abbrev s2y:Vw:=top 68
theorem Zl0:FnScope ["cell","many","wide","some","found","k"] ["cell","many","wide"] (Zad s2y):=by fail "S"
nonrec abbrev s2o:Vw:=top 69
theorem Zi4:FnScope ["script","most","some","many","kinds","size","rows"] ["script","most"] (Zad s2o):=by fail "S"
nonrec abbrev s2x:Vw:=top 70
theorem Zor:FnScope ["literal","play"] ["literal","play"] (Zad s2x):=by fail "S"
nonrec abbrev s2w:Vw:=top 71
theorem Zi1:FnScope ["many","found","turn","more_plays","one"] ["many"] (Zad s2w):=by fail "S"
nonrec abbrev s2r:Vw:=top 72
theorem Zkb:FnScope ["rows","play","row"] ["rows","play"] (Zad s2r):=by fail "S"
nonrec abbrev s2z:Vw:=top 73
theorem Zg1:FnScope ["claim","found","play","many","kinds","rows","both_v","other"] ["claim"] (Zad s2z):=by fail "S"
nonrec abbrev s2t:Vw:=top 74
theorem Zqy:FnScope ["claim","side","steps","play","one"] ["claim","side","steps","play","one"] (Zad s2t):=by fail "S"
nonrec abbrev s1M:Vw:=(Zgg (top 27)).getD 0 (.Pass ⟨0,0,0,0⟩)
theorem Zm1:FnScope ["self","claim"] ["self","claim"] (Zad s1M):=by fail "S"
nonrec abbrev s1O:Vw:=(Zgg (top 27)).getD 1 (.Pass ⟨0,0,0,0⟩)
theorem Zmw:FnScope ["self","truth"] ["self","truth"] (Zad s1O):=by fail "S"
nonrec abbrev s1K:Vw:=(Zgg (top 27)).getD 2 (.Pass ⟨0,0,0,0⟩)
theorem Zmz:FnScope ["self"] ["self"] (Zad s1K):=by fail "S"
nonrec abbrev s1P:Vw:=(Zgg (top 27)).getD 3 (.Pass ⟨0,0,0,0⟩)
theorem Zmo:FnScope ["self"] ["self"] (Zad s1P):=by fail "S"
nonrec abbrev s1Q:Vw:=(Zgg (top 27)).getD 4 (.Pass ⟨0,0,0,0⟩)
theorem Znr:FnScope ["self"] ["self"] (Zad s1Q):=by fail "S"
nonrec abbrev s1R:Vw:=(Zgg (top 27)).getD 5 (.Pass ⟨0,0,0,0⟩)
theorem Zox:FnScope ["self"] ["self"] (Zad s1R):=by fail "S"
nonrec abbrev s1L:Vw:=(Zgg (top 27)).getD 6 (.Pass ⟨0,0,0,0⟩)
theorem Zna:FnScope ["self"] ["self"] (Zad s1L):=by fail "S"
nonrec abbrev s2u:Vw:=top 75
theorem Ze8:FnScope ["match","claim","side","steps","one","play","truth"] ["match","claim","side","steps","one"] (Zad s2u):=by fail "S"
nonrec abbrev s1N:Vw:=(Zgg (top 27)).getD 7 (.Pass ⟨0,0,0,0⟩)
theorem Zno:FnScope ["self"] ["self"] (Zad s1N):=by fail "S"
nonrec abbrev s2v:Vw:=top 76
theorem Zfe:FnScope ["match","claim","side","steps","some","size","k"] ["match","claim","side","steps","some"] (Zad s2v):=by fail "S"
nonrec abbrev s2K:Vw:=top 31
theorem Zg3:FnScope ["kinds","rows","many","number"] ["kinds","rows","many"] (Zad s2K):=by fail "S"
nonrec abbrev s2L:Vw:=top 32
theorem Zby:FnScope ["kinds","rows","many","who","trees","truth","told"] ["kinds","rows","many"] (Zad s2L):=by fail "S"
nonrec abbrev s2J:Vw:=top 33
theorem Yen:FnScope ["claim"] ["claim"] (Zad s2J):=by fail "S"
nonrec abbrev s2O:Vw:=top 46
theorem Zj6:FnScope ["kinds","side","end","pairs","tree","play","told"] ["kinds","side","end","pairs","tree","play"] (Zad s2O):=by fail "S"
nonrec abbrev s2M:Vw:=top 47
theorem Zb5:FnScope ["kinds","side","end","pairs","tree","play","name","numbers","one","other","truth","branch","row"] ["kinds","side","end","pairs","tree","play"] (Zad s2M):=by fail "S"
nonrec abbrev s2I:Vw:=top 48
theorem Zmq:FnScope ["claim","side","end","told","pairs"] ["claim","side","end"] (Zad s2I):=by fail "S"
nonrec abbrev s2R:Vw:=top 51
theorem Ziv:FnScope ["claim","end"] ["claim"] (Zad s2R):=by fail "S"
nonrec abbrev s2V:Vw:=top 62
theorem Zia:FnScope ["claim","end"] ["claim"] (Zad s2V):=by fail "S"
nonrec abbrev s2m:Vw:=top 77
theorem Ybw:FnScope ["script","claim","side","match","steps","k","some","turn"] ["script"] (Zad s2m):=by fail "S"
nonrec abbrev Zf1:Vw:=(Za1 s2R).getD 0 (.Pass ⟨0,0,0,0⟩)
theorem Zjd:ClScope ["tree","play","claim"] ["tree","play"] "claim" (Zad Zf1):=⟨rfl,rfl,rfl,by decide +kernel,rfl,by decide +kernel,by decide +kernel,rfl,by decide +kernel⟩
nonrec abbrev Zfm:Vw:=(Za1 s2V).getD 0 (.Pass ⟨0,0,0,0⟩)
theorem Ze4:ClScope ["tree","play","claim","term"] ["tree","play"] "claim" (Zad Zfm):=⟨rfl,rfl,rfl,by decide +kernel,rfl,by decide +kernel,by decide +kernel,rfl,by decide +kernel⟩
structure Top (K:Xb) (mg:Str->Option Vb):Prop where
 t0a:Tf K mg "is_whole" K08.s2k
 t0b:Tf K mg "is_truth" K08.s2i
 t0c:Tf K mg "is_open" K08.s2g
 t0d:Tf K mg "is_right" K08.s2h
 t0e:Tf K mg "is_kept" K08.s2c
 t0f:Tf K mg "is_lost" K08.s2d
 t0g:Tf K mg "renumbered" K08.s2P
 t0h:Tf K mg "row_left" K08.s2Q
 t0i:Tf K mg "left" K08.s2A
 t0j:Tf K mg "first_numbers" K08.s1Z
 t0k:Tf K mg "rows_behind" K08.s2S
 t0l:Tf K mg "rows_behind_play" K08.s2T
 t0m:Tf K mg "other_side" K08.s2H
 t0n:Tf K mg "winner_behind" K08.s2Y
 t0o:Tf K mg "winner" K08.s2X
 t0p:Tf K mg "good_picks" K08.s2a
 t0q:Tf K mg "are_of_all" K08.s1T
 t0r:Tf K mg "number_of_lost" K08.s2G
 t0s:Tf K mg "is_number_of" K08.s2f
 t0t:Tf K mg "is_name_of_other" K08.s2e
 t0u:Tf K mg "lessened" K08.s2B
 t0v:Tf K mg "without" K08.s2Z
 t0w:Tf K mg "both" K08.s1U
 t0x:Tf K mg "joined" K08.s2l
 t0y:Tf K mg "made_by_less" K08.s2F
 t0z:Tf K mg "made_by_joined" K08.s2E
 t0A:Tf K mg "put_step" K08.s2N
 t0B:Tf K mg "claims_row" K08.s1Y
 t0C:Tf K mg "is_used_up" K08.s2j
 t0D:Tf K mg "literal_used" K08.s2C
 t0E:Tf K mg "told_term" K08.s2W
 t0F:Tf K mg "made_by" K08.s2D
 t0G:Tf K mg "all_made" K08.s1S
 t0H:Tf K mg "by_paper" K08.s1V
 t0I:Tf K mg "by_rows" K08.s1W
 t0J:Tf K mg "by_terms" K08.s1X
 t0K:Tf K mg "have_one_in_common" K08.s2b
 t0L:Tf K mg "term_of_play" K08.s2U
 t0M:Tf K mg "_law_mix" K08.s2s
 t0N:Tf K mg "_law_digits" K08.s2p
 t0O:Tf K mg "_law_at" K08.s2n
 t0P:Tf K mg "_law_kinds" K08.s2q
 t0Q:Tf K mg "_law_row" K08.s2y
 t0R:Tf K mg "_law_claim" K08.s2o
 t0S:Tf K mg "_law_right" K08.s2x
 t0T:Tf K mg "_law_plays" K08.s2w
 t0U:Tf K mg "_law_lost" K08.s2r
 t0V:Tf K mg "_law_winners" K08.s2z
 t0W:Tf K mg "_law_next" K08.s2t
 t0X:Ti K mg "Match" "Match.__init__" K08.s1M
 t0Y:Tm K "Match" "pick" "Match.pick" K08.s1O
 t0Z:Tm K "Match" "back" "Match.back" K08.s1K
 t1a:Tm K "Match" "play" "Match.play" K08.s1P
 t1b:Tm K "Match" "turn" "Match.turn" K08.s1Q
 t1c:Tm K "Match" "who" "Match.who" K08.s1R
 t1d:Tm K "Match" "good" "Match.good" K08.s1L
 t1e:Tf K mg "_law_picked" K08.s2u
 t1f:Tm K "Match" "left" "Match.left" K08.s1N
 t1g:Tf K mg "_law_played" K08.s2v
 t1h:Tf K mg "plan_behind" K08.s2K
 t1i:Tf K mg "plan_by_picks" K08.s2L
 t1j:Tf K mg "plan" K08.s2J
 t1k:Tf K mg "put_tree" K08.s2O
 t1l:Tf K mg "put_each" K08.s2M
 t1m:Tf K mg "paper" K08.s2I
 t1n:Tn K mg "row_paper" K08.s2R
 t1o:Tn K mg "term_paper" K08.s2V
 t1p:Tf K mg "law" K08.s2m
 t1q:Kl K "Match" ["begun","picked"]
 t1r:mg "left_claims" = mg "left"
 t1s:mg "abs" = none
 t1t:mg "all" = none
 t1u:mg "any" = none
 t1v:mg "bool" = none
 t1w:mg "enumerate" = none
 t1x:mg "int" = none
 t1y:mg "isinstance" = none
 t1z:mg "len" = none
 t1A:mg "list" = none
 t1B:mg "max" = none
 t1C:mg "min" = none
 t1D:mg "range" = none
 t1E:mg "sorted" = none
 t1F:mg "tuple" = none
 t1G:mg "zip" = none
 t1H:Gc K mg "TRUTHS" k_TRUTHS
 t1I:Fv K mg "claims_row"
 t1J:Fv K mg "told_term"
section
variable {P:Vi} {w:Vs} {K:Xb} {mg:Str->Option Vb} {base:Vy}
local macro_rules | `(tactic| fail $s:str)=>do
 if s.getString.take 1 != "~" then Lean.Macro.throwUnsupported
 let mut o:Array (Lean.TSyntax `tactic) := #[]
 let ls:=("a=Q _;b=R Za0 ? ? ?;c=E Za5;d=R Zao ? Zbb;e=R Zao ? ?;g=E nd;h=R Zbu ?;i=E ( Zaa ( pv 0 ) );j=E ( Zaa ( pv 1 ) );k=R Zg5 ? ? Zbb;l=R Zbx Zk1 ? T.t1z Zn4 ?;m=E ( Zaa ( pv 2 ) );n=R Zqv Tak ? ? ? ?;o=I _;p=E ( Zaa ( pv 3 ) );q=E Zae;r=E ( Zaa ( pv 4 ) );u=E Za3 ixf ( Zaa ( pv 0 ) ) Zae @f;v=R Za3 ixf ? ? @f;w=E Zbf;x=R Zav Zeh ? Zae;y=R Zc5 ?;z=R Yem T.t1q ? ( Zaa ( pv 0 ) );A=E Zbu Zix;B=R Zbh @i3 ? ? ? ?;C=R Zqn ?;D=R PWf.pt ?;E=R Zfi ?;G=R Yfe ? ?;H=R Ydg ?;I=E Za3 ixf ( Zaa ( pv 3 ) ) Zae @f;J=R Zbh @i4 ? ? ? ?;K=E ( Zaa ( pv 5 ) );L=E Za3 ixf ( Zaa ( pv 2 ) ) Zae @f;M=R Yc4 ?;N=R Zbh @i2 ? ? ? ?;O=E Zc5 Za5;P=E Zqn Za5;Q=E Zbu Zie;R=E Za3 ixf ( Zaa ( pv 1 ) ) Zae @f;S=R Zca @i2 ? ? ?;T=R Zio Zp8 ? T.t1F Zrp ?;U=R Ztu ? T.t1D ?;V=R Zav Zhh ? Zae;W=E Zgf ( Zaa ( pv 0 ) );X=R Zzh ?;Y=R Ydx ? ?;Z=R Yb7 ?;0=R Zbx Zwt ? T.t1s Zxc ?;1=R Zgf ?;2=R Zca @i3 ? ? ?;3=R Zca @i5 ? ? ?;4=R Zsi Uy Uz Zgo ( Zaa ( pv 2 ) ) ?;5=E ( Zaa ( pv 6 ) );6=R Za3 ixf ? Zae @f;7=E Zb6 ( ok_Match_play T ) ( hr.mono @d ) ( Zaa ( pv 0 ) );8=R Zbt ( Zb3 hr.units ) ? ? ( Zaw _ );9=R Zxf ? ?;aa=R Zh3 ? ?;ab=R Zh3 ? Zsq;ac=R Zbh @i6 ? ? ? ?;ad=R Zap ( Zb3 hr.units ) ? Zae ( Zaw _ );ae=E Zz3;af=R Zbh @i5 ? ? ? ?;ag=E Zao Yc2 Zbb;ah=R Zav Zbd ? ?;ai=E Zav Zbd ( Zaa ( pv 1 ) ) Zae;aj=R Zal ( ok_is_right T ) ( hr.mono @d ) ? ?;ak=R Zca @i4 ? ? ?;al=R Zap ( Zb3 hr.units ) ? ? ( Zaw _ );am=R Zav Zbd ( Zaa ( pv 2 ) ) ?;an=E Zgf ( Zaa ( pv 1 ) );ao=R Za3 ixf ( Zaa ( pv 0 ) ) ? @f;ap=R Zw5 ? ?;aq=R Za3 ixf ( Zaa ( pv 2 ) ) ? @f;ar=R Zal ( ok_is_number_of T ) ( hr.mono @d ) ? ?;as=E Za3 ixf ( Zaa ( pv 4 ) ) Zae @f;at=R Zav Zbd ? Zae;au=R Zio Zv4 ? T.t1x Ybp ?;av=R Zal ( ok_law_digits T ) ( hr.mono @d ) ? ?;aw=R Zal ( ok_law_at T ) ( hr.mono @d ) ? ?;ax=R Zbx Zyb ? T.t1y Zm6 ?;ay=R Zal ( ok_is_open T ) ( hr.mono @d ) ? ?;az=R Za3 ixf ( Zaa ( pv 1 ) ) ? @f;aA=R Zap ( Zfu hr.units ) ? Zae ( Zaw _ );aB=R Zap ( Zb3 hr.units ) ? Zbf ( Zaw _ );aC=E Zav Zkx Zae ( Zaa ( pv 1 ) );aD=E Za3 ixf ( Zaa ( pv 4 ) ) ( Zaa ( pv 3 ) ) @f;aE=R Zuk T.t1q ? ( Zaa ( pv 0 ) ) ?;aF=R Zap ( Zfu hr.units ) ? ( Zaa ( pv 2 ) ) ( Zaw _ );aG=E Zb6 ( ok_Match_who T ) ( hr.mono @d ) ( Zaa ( pv 0 ) );aH=R Zap ( Zfu hr.units ) ? ? ( Zaw _ )" : String).splitOn ";"
 for w in (s.getString.drop 1).toString.splitOn " " do
  if w == "f" then o:=o.push (<- `(tactic| first | exact Tbe rfl | exact Tay rfl)); continue
  if w == "s" then o:=o.push (<- `(tactic| refine Zho ?_ (fun _=>rfl))); continue
  if w == "t" then o:=o.push (<- `(tactic| decide)); continue
  if w == "F" then o:=o.push (<- `(tactic| with_unfolding_all rfl)); continue
  if w == "U1" then o:=o.push (<- `(tactic| (intro _ _ _ _ _ _ us hl; obtain⟨_,e⟩:=us1 hl; subst e; rfl))); continue
  if w == "U2" then o:=o.push (<- `(tactic| (intro _ _ _ _ _ _ us hl; obtain⟨_,_,e⟩:=us2 hl; subst e; rfl))); continue
  if w == "U3" then o:=o.push (<- `(tactic| (intro _ _ _ _ _ _ us hl; obtain⟨_,_,_,e⟩:=us3 hl; subst e; rfl))); continue
  if w == "U4" then o:=o.push (<- `(tactic| (intro _ _ _ _ _ _ us hl; obtain⟨_,_,_,_,e⟩:=us4 hl; subst e; rfl))); continue
  if w == "U5" then o:=o.push (<- `(tactic| (intro _ _ _ _ _ _ us hl; obtain⟨_,_,_,_,_,e⟩:=us5 hl; subst e; rfl))); continue
  let some l:=ls.find? (·.startsWith (w ++ "=")) | Lean.Macro.throwUnsupported
  let ts:=(l.drop (w.length+1)).toString.splitOn " "
  let mut st:Array (Array Lean.Term) := #[#[]]
  for t in ts.drop 1 do
   if t == "(" then st:=st.push #[] else
    let mut x:Lean.Term:=⟨Lean.mkIdent t.toName⟩
    if t == ")" then
     let a:=st.back!
     st:=st.pop
     x <- `(($(Lean.Syntax.mkApp a[0]! (a.extract 1 a.size))))
    else if t == "?" then x <- `(?_)
    else if t == "_" then x <- `(_)
    else if t == "@d" then x <- `(by decide)
    else if t == "@r" then x <- `(by rfl)
    else if t == "@f" then x <- `(fun _ _=>rfl)
    else if t.startsWith "@i" then
     let n <- `(a ($(Lean.mkIdent `i) := $(Lean.Syntax.mkNumLit (t.drop 2).toString)))
     x:=⟨n.raw[1][0]⟩
    else if t.all Char.isDigit then x:=Lean.Syntax.mkNumLit t
    st:=st.push (st.back!.push x)
    st:=(st.extract 0 (st.size - 2)).push st.back!
  let a:=st[0]!
  let e:=Lean.Syntax.mkApp a[0]! (a.extract 1 a.size)
  o:=o.push (<- match ts.head! with
   | "R" => `(tactic| refine $e)
   | "E" => `(tactic| exact $e)
   | "I" => `(tactic| intro _ _ _ _ _ _)
   | "F" => `(tactic| first | exact Or.inl rfl | exact Or.inr rfl)
   | _ => `(tactic| rfl))
 `(tactic| ($[$o]*))
theorem Zjz (T:Top K mg):Fn P w K mg base 1 "is_whole" ["thing"] Zgp:=by
 refine(fun h=>h:_->Fn P w K mg base 1 _ _ (Za4 1 1 Ze0)) (Zba (N:=["thing"]) (k:=0) T.t0a Zqe (by fail "~U1") ?_)
 intro f cdv A outer s H E hr
 unfold Ze0
 fail "~d h Y ax a b i b"
 refine Zx6 ?_ T.t1x Ybp
 fail "~a c a a Z"
 refine Zwf ?_
 fail "~ax a b i b"
 refine Zx6 ?_ T.t1v Yd8
 fail "~a c a a"
theorem Zq4 (T:Top K mg):Fn P w K mg base 1 "is_truth" ["thing"] Zig:=by
 refine(fun h=>h:_->Fn P w K mg base 1 _ _ (Za4 1 1 Zer)) (Zba (N:=["thing"]) (k:=0) T.t0b Zqq (by fail "~U1") ?_)
 intro f cdv A outer s H E hr
 unfold Zer
 fail "~d h"
 refine Ygm ?_ ?_
 exact Zbt Zsu (Zaa (pv 0)) Zix (Zaw _)
 fail "~Z"
 exact Zbt Zsu (Zaa (pv 0)) Zix (Zaw _)
theorem ok_is_open (T:Top K mg):Fn P w K mg base 1 "is_open" ["literal","play"] Zgh:=by
 refine(fun h=>h:_->Fn P w K mg base 1 _ _ (Za4 2 2 Zgm)) (Zba (N:=["literal","play"]) (k:=0) T.t0c Zte (by fail "~U2") ?_)
 intro f cdv A outer s H E hr
 unfold Zgm
 fail "~d h"
 refine Zbt Zi2 ?_ ?_ (Zaw _)
 fail "~0 a b i c a l a b j c a"
theorem ok_is_right (T:Top K mg):Fn P w K mg base 2 "is_right" ["literal","play"] Zc1:=by
 refine(fun h=>h:_->Fn P w K mg base 2 _ _ (Za4 2 2 Zex)) (Zba (N:=["literal","play"]) (k:=1) T.t0d Zq6 (by fail "~U2") ?_)
 intro f cdv A outer s H E hr
 unfold Zex
 fail "~d h Y"
 refine Zwf ?_
 fail "~ay a b i b j c a a Z 8 az V 0 a b i c a"
 exact Zbt Zi2 (Zaa (pv 0)) Zae (Zaw _)
theorem Ztd (T:Top K mg):Fn P w K mg base 3 "is_kept" ["row","play"] Zky:=by
 refine(fun h=>h:_->Fn P w K mg base 3 _ _ (Za4 2 3 Zga)) (Zba (N:=["row","play","literal"]) (k:=2) T.t0e Zlv (by fail "~U2") ?_)
 intro f cdv A outer s H E hr
 unfold Zga
 fail "~e n a W S"
 exact Zlv.nd
 fail "~a f d k s aj a b m b j c a a d A d A"
theorem Zua (T:Top K mg):Fn P w K mg base 3 "is_lost" ["row","play"] Zkm:=by
 refine(fun h=>h:_->Fn P w K mg base 3 _ _ (Za4 2 3 Zgj)) (Zba (N:=["row","play","literal"]) (k:=2) T.t0f Zlz (by fail "~U2") ?_)
 intro f cdv A outer s H E hr
 unfold Zgj
 fail "~e n a W S"
 exact Zlz.nd
 fail "~a f d k D G s ay a b m b j c a a M s aj a b m b j c a a d A d A"
theorem Zmx (T:Top K mg):Fn P w K mg base 1 "renumbered" ["literal","many"] Zf6:=by
 refine(fun h=>h:_->Fn P w K mg base 1 _ _ (Za4 2 2 Zdn)) (Zba (N:=["literal","many"]) (k:=0) T.t0g Znq (by fail "~U2") ?_)
 intro f cdv A outer s H E hr
 unfold Zdn
 fail "~d h"
 refine Zpl ?_ ?_ ?_
 exact Zap Zi2 (Zaa (pv 0)) Zae (Zaw _)
 exact Zav Zhh (Zaa (pv 0)) (Zaa (pv 1))
 exact Zav Zbd (Zaa (pv 0)) (Zaa (pv 1))
theorem Zqi (T:Top K mg):Fn P w K mg base 2 "row_left" ["row","play"] Ziq:=by
 refine(fun h=>h:_->Fn P w K mg base 2 _ _ (Za4 2 2 Zep)) (Zba (N:=["row","play"]) (k:=1) T.t0h Zqd (by fail "~U2") ?_)
 intro f cdv A outer s H E hr
 unfold Zep
 fail "~d h T a b"
 refine Zj5 (cn:=["play"]) ?_ (Zf8 (x := "literal") (cn:=["play"]) (ci:=[1]) (by decide +kernel)) ?_ ?_ ?_
 fail "~a W o X s ay a b i b j c a a o"
 refine Zal (Zmx T) (hr.mono (by decide)) ?_ ?_
 fail "~a b i b l a b j c a c a a c a"
theorem Yda (T:Top K mg):Fn P w K mg base 4 "left" ["claim","play"] Zvm:=by
 refine(fun h=>h:_->Fn P w K mg base 4 _ _ (Za4 2 3 Zpt)) (Zba (N:=["claim","play","rows"]) (k:=3) T.t0i Zu8 (by fail "~U2") ?_)
 intro f cdv A outer s H E hr
 unfold Zpt
 fail "~e"
 refine Zhp (i:=2) (cn:=["play"]) ?_ (Zf8 (x := "row") (cn:=["play"]) (ci:=[1]) (by decide +kernel)) ?_ ?_ ?_ ?_ ?_ ?_
 fail "~a 1 u o X H s"
 refine Zal (Ztd T) (hr.mono (by decide)) ?_ ?_
 fail "~a b i b j c a a o"
 refine Zal (Zqi T) (hr.mono (by decide)) ?_ ?_
 fail "~a b i b j c a a"
 exact Zu8.nd
 fail "~a a d h y b"
 refine Zd6 ?_ ?_ Zfd
 fail "~u"
 refine Ze9 ?_
 fail "~l a b j c a b T a b m c a c a a"
theorem Zfo (T:Top K mg):Fn P w K mg base 1 "first_numbers" ["rows"] Zbp:=by
 refine(fun h=>h:_->Fn P w K mg base 1 _ _ (Za4 1 4 Zb8)) (Zba (N:=["rows","told","number","row"]) (k:=0) T.t0j Zfn (by fail "~U1") ?_)
 intro f cdv A outer s H E hr
 unfold Zb8
 have nd:=Zfn.nd
 fail "~e"
 refine Zbh (i:=1) ?_ ?_ ?_ Zms
 fail "~g a f e n a"
 refine Zz1 ?_ T.t1w ?_
 fail "~a b i c a 9 a aa S g a f ab 2 g a f d E"
 refine Zw7 Ur Tai (Ycw hr.units) (Zaa (pv 1)) ?_
 fail "~b p b m c a a d"
 exact Zbu (Zaa (pv 1))
theorem Zeg (T:Top K mg):Fn P w K mg base 1 "rows_behind" ["rows","name","truth"] Za9:=by
 refine(fun h=>h:_->Fn P w K mg base 1 _ _ (Za4 3 7 Zcs)) (Zba (N:=["rows","name","truth","right","told","row","first"]) (k:=0) T.t0k Zg0 (by fail "~U3") ?_)
 intro f cdv A outer s H E hr
 unfold Zcs
 have nd:=Zg0.nd
 fail "~e B g a f"
 refine Zpl ?_ (Zaa (pv 1)) ?_
 exact Zho (Zaa (pv 2)) (fun _=>rfl)
 exact Zen Zc3 (Zaa (pv 1))
 fail "~e"
 refine Zbh (i:=4) ?_ ?_ ?_ Zms
 fail "~g a f e n a"
 exact Zvq (Zaa (pv 0))
 fail "~3 g a f e ac g a f"
 refine Zpl ?_ ?_ Zae
 exact Zho (Zaa (pv 5)) (fun _=>rfl)
 exact Za3 ixf (Zaa (pv 5)) Zae (fun _ _=>rfl)
 fail "~d"
 refine Zg5 ?_ ?_ ?_
 refine Zap (Zb3 hr.units) (Zaa (pv 6)) ?_ (Zaw _)
 exact Zen Zc3 (Zaa (pv 3))
 fail "~d E"
 refine Zw7 Ur Tai (Ycw hr.units) (Zaa (pv 4)) ?_
 fail "~b"
 refine Zd6 (Zaa (pv 5)) ?_ Zfd
 exact Ze9 Zae
 fail "~b"
 exact Za3 (Zub hr.units) (Zaa (pv 0)) (Zaa (pv 5)) (fun _ _=>rfl)
 fail "~c a a d k"
 exact Zap (Zfu hr.units) (Zaa (pv 6)) (Zaa (pv 3)) (Zaw _)
 fail "~d E"
 refine Zw7 Ur Tai (Ycw hr.units) (Zaa (pv 4)) ?_
 fail "~b K b"
 exact Za3 (Zub hr.units) (Zaa (pv 0)) (Zaa (pv 5)) (fun _ _=>rfl)
 fail "~c a a d"
 exact Zbu (Zaa (pv 4))
theorem Zhm (T:Top K mg):Fn P w K mg base 2 "rows_behind_play" ["rows","play"] Zb2:=by
 refine(fun h=>h:_->Fn P w K mg base 2 _ _ (Za4 2 5 Zbk)) (Zba (N:=["rows","play","told","name","truth"]) (k:=1) T.t0l Zd2 (by fail "~U2") ?_)
 intro f cdv A outer s H E hr
 unfold Zbk
 have nd:=Zd2.nd
 fail "~e N g a f"
 refine Zal (Zfo T) (hr.mono (by decide)) ?_ ?_
 fail "~a b i c a e n a"
 refine Zw2 ?_ T.t1w ?_
 fail "~a b j c a 9 a aa 2 g a f ab ak g a f d N g a f"
 refine Zal (Zeg T) (hr.mono (by decide)) ?_ ?_
 fail "~a b m b p b r c a a a d"
 exact Zbu (Zaa (pv 2))
theorem Zhw (T:Top K mg):Fn P w K mg base 1 "other_side" ["side"] Zbr:=by
 refine(fun h=>h:_->Fn P w K mg base 1 _ _ (Za4 1 1 Zdj)) (Zba (N:=["side"]) (k:=0) T.t0m Zmv (by fail "~U1") ?_)
 intro f cdv A outer s H E hr
 unfold Zdj
 fail "~d h"
 refine Zpl ?_ Zbf Zbf
 exact Zap (Zb3 hr.units) (Zaa (pv 0)) Zbf (Zaw _)
theorem Zi8 (T:Top K mg):Fn P w K mg base 12 "winner_behind" ["kinds","rows","many"] Zcu:=by
 refine(fun h=>h:_->Fn P w K mg base 12 _ _ (Ycl 3 5 Za8 10)) (Ybx (N:=["kinds","rows","many","who","truth"]) (k:=1) T.t0n Zds (by fail "~U3") ?_ 10)
 intro F j G f cdv A outer s H E hr
 unfold Za8
 fail "~e k"
 refine Zap (dinf hr.units) ?_ (Zaa (pv 1)) ?_
 fail "~O F d"
 exact Zbu Zbf
 fail "~e k ad"
 refine Zbx Zlx ?_ T.t1z Zn4 ?_
 fail "~a b j c a d"
 exact Zbu Zbf
 fail "~e B"
 exact Zds.nd
 fail "~a f"
 exact Za3 ixf (Zaa (pv 0)) (Zaa (pv 2)) (fun _ _=>rfl)
 fail "~e n a 1"
 refine Zpk ?_ T.t1H
 fail "~a ak"
 exact Zds.nd
 fail "~a f d k"
 refine Zap (Zb3 hr.units) ?_ (Zaa (pv 3)) (Zaw _)
 refine Zal G (hr.mono (Xe _)) ?_ ?_
 fail "~a b i b"
 refine Zal (Zeg T) (hr.mono (by omega)) ?_ ?_
 fail "~a b j b"
 exact Zav Zbd (Zaa (pv 2)) Zae
 fail "~b r c a a a b"
 exact Zav Zbd (Zaa (pv 2)) Zae
 fail "~c a a a d"
 exact Zbu (Zaa (pv 3))
 fail "~d h"
 refine Zal (Zhw T) (hr.mono (by omega)) ?_ ?_
 fail "~a b p c a"
theorem Zps (T:Top K mg):Fn P w K mg base 13 "winner" ["claim","play"] Zgs:=by
 refine(fun h=>h:_->Fn P w K mg base 13 _ _ (Za4 2 2 Zhz)) (Zba (N:=["claim","play"]) (k:=12) T.t0o Zui (by fail "~U2") ?_)
 intro f cdv A outer s H E hr
 unfold Zhz
 fail "~d h"
 refine Zal (Zi8 T) (hr.mono (by decide)) ?_ ?_
 fail "~a b u b"
 refine Zal (Zhm T) (hr.mono (by decide)) ?_ ?_
 fail "~a b u b j c a a b l a b j c a c a a a"
theorem Zmf (T:Top K mg):Fn P w K mg base 14 "good_picks" ["claim","play"] Zgk:=by
 refine(fun h=>h:_->Fn P w K mg base 14 _ _ (Za4 2 3 Zdh)) (Zba (N:=["claim","play","who"]) (k:=13) T.t0p Zh7 (by fail "~U2") ?_)
 intro f cdv A outer s H E hr
 unfold Zdh
 fail "~e k al l a b j c a l a b u c a d h P e N"
 exact Zh7.nd
 fail "~a f v u l a b j c a d h"
 refine Zj5 (cn:=["claim","play","who"]) ?_ (Zf8 (x := "truth") (cn:=["claim","play","who"]) (ci:=[0,1,2]) (by decide +kernel)) ?_ ?_ ?_
 fail "~a 1"
 refine Zpk ?_ T.t1H
 fail "~a o X"
 refine Zap (Zb3 hr.units) ?_ (Zaa (pv 3)) (Zaw _)
 refine Zal (Zps T) (hr.mono (by decide)) ?_ ?_
 fail "~a b j b am y b i c a c a a o i"
theorem Zm2 (T:Top K mg):Fn P w K mg base 1 "are_of_all" ["kinds","literals"] Zfw:=by
 refine(fun h=>h:_->Fn P w K mg base 1 _ _ (Za4 2 2 Zdi)) (Zba (N:=["kinds","literals"]) (k:=0) T.t0q Zmh (by fail "~U2") ?_)
 intro f cdv A outer s H E hr
 unfold Zdi
 fail "~d h"
 refine Zbx (Zp2 (by rfl)) ?_ T.t1t Ybb ?_
 fail "~a b"
 refine Zj5 (cn:=["kinds"]) ?_ (Zf8 (x := "literal") (cn:=["kinds"]) (ci:=[0]) (by decide +kernel)) ?_ ?_ ?_
 fail "~a an o ae o"
 refine Zbt (Zb3 hr.units) ?_ Zbf (Zaw _)
 fail "~az V 0 a b i c a c a"
theorem Zil (T:Top K mg):Fn P w K mg base 2 "number_of_lost" ["kinds","rows"] Zdq:=by
 refine(fun h=>h:_->Fn P w K mg base 2 _ _ (Za4 2 3 Zbz)) (Zba (N:=["kinds","rows","row"]) (k:=1) T.t0r Zel (by fail "~U2") ?_)
 intro f cdv A outer s H E hr
 unfold Zbz
 fail "~e n a"
 exact Zvq (Zaa (pv 1))
 fail "~S"
 exact Zel.nd
 fail "~a f d k s"
 refine Zal (Zm2 T) (hr.mono (by decide)) ?_ ?_
 fail "~a b i b m c a a d h"
 exact Za3 (Zub hr.units) (Zaa (pv 1)) (Zaa (pv 2)) (fun _ _=>rfl)
 fail "~d Q"
theorem ok_is_number_of (T:Top K mg):Fn P w K mg base 2 "is_number_of" ["thing","many"] Zb0:=by
 refine(fun h=>h:_->Fn P w K mg base 2 _ _ (Za4 2 2 Zcj)) (Zba (N:=["thing","many"]) (k:=1) T.t0s Zkr (by fail "~U2") ?_)
 intro f cdv A outer s H E hr
 unfold Zcj
 fail "~d h Y"
 refine Zal (Zjz T) (hr.mono (by decide)) ?_ ?_
 fail "~a b i c a Z"
 refine Zoj Zx7 Zob Zae (Zaa (pv 0)) (Zaa (pv 1)) ?_
 fail "~F"
theorem Zhb (T:Top K mg):Fn P w K mg base 2 "is_name_of_other" ["kinds","side","thing"] Zct:=by
 refine(fun h=>h:_->Fn P w K mg base 2 _ _ (Za4 3 3 Zbl)) (Zba (N:=["kinds","side","thing"]) (k:=1) T.t0t Zg8 (by fail "~U3") ?_)
 intro f cdv A outer s H E hr
 unfold Zbl
 fail "~d h Y"
 refine Zal (Zjz T) (hr.mono (by decide)) ?_ ?_
 fail "~a b m c a Y"
 refine Zoj Zx7 Zx7 Zae (Zaa (pv 2)) ?_ ?_
 fail "~l a b i c a F Z"
 refine Zbt (Zfu hr.units) ?_ (Zaa (pv 1)) (Zaw _)
 fail "~ao"
 exact Zav Zhh (Zaa (pv 2)) Zae
theorem Zk0 (T:Top K mg):Fn P w K mg base 1 "lessened" ["kinds","side","row"] Zgr:=by
 refine(fun h=>h:_->Fn P w K mg base 1 _ _ (Za4 3 4 Zeq)) (Zba (N:=["kinds","side","row","stays"]) (k:=0) T.t0u Zhg (by fail "~U3") ?_)
 intro f cdv A outer s H E hr
 unfold Zeq
 fail "~e B"
 exact Zhg.nd
 fail "~a f l a b m c a e"
 refine Zkg Tak ?_ ?_
 fail "~D ap"
 exact Zap Zi2 (Zaa (pv 3)) Zae (Zaw _)
 refine Zhx ?_
 refine Zap (Zb3 hr.units) ?_ (Zaa (pv 1)) (Zaw _)
 fail "~ao V 0 a b aq"
 exact Zav Zhh (Zaa (pv 3)) Zae
 fail "~c a d"
 refine Yb9 (i:=3) Yhe ?_ ?_ ?_ Zae
 exact Zhg.nd
 fail "~a f d h"
 refine Zd6 (Zaa (pv 2)) Zfd ?_
 exact Ze9 (Zaa (pv 3))
theorem Zly (T:Top K mg):Fn P w K mg base 1 "without" ["row","literal"] Zh5:=by
 refine(fun h=>h:_->Fn P w K mg base 1 _ _ (Za4 2 2 Zf9)) (Zba (N:=["row","literal"]) (k:=0) T.t0v Ztc (by fail "~U2") ?_)
 intro f cdv A outer s H E hr
 unfold Zf9
 fail "~d h T a b"
 refine Zj5 (cn:=["literal"]) ?_ (Zf8 (x := "other") (cn:=["literal"]) (ci:=[1]) (by decide +kernel)) ?_ ?_ ?_
 fail "~a W o X"
 exact Zap (Zfu hr.units) (Zaa (pv 0)) (Zaa (pv 1)) (Zaw _)
 fail "~o i c a"
theorem Ycu (T:Top K mg):Fn P w K mg base 1 "both" ["one","other"] Zwq:=by
 refine(fun h=>h:_->Fn P w K mg base 1 _ _ (Za4 2 4 Zn5)) (Zba (N:=["one","other","told","literal"]) (k:=0) T.t0w Zqr (by fail "~U2") ?_)
 intro f cdv A outer s H E hr
 unfold Zn5
 fail "~e N"
 exact Zqr.nd
 fail "~a f"
 refine Zio Zs9 ?_ T.t1A Yep ?_
 fail "~a b i c a e n a an 2"
 exact Zqr.nd
 fail "~a f e k"
 refine Zap (Zsv hr.units) ?_ (Zaa (pv 0)) ?_
 exact Zen Zc3 (Zaa (pv 3))
 fail "~F d Q d k"
 refine Zap (Zll hr.units) (Zaa (pv 3)) (Zaa (pv 0)) ?_
 fail "~F d E 4 b p c a d h T a b"
 refine Zxx ?_ T.t1E ?_ T.t1s ?_
 fail "~a a b m c a c a"
theorem Zpv (T:Top K mg):Fn P w K mg base 2 "joined" ["one","other","name"] Zjl:=by
 refine(fun h=>h:_->Fn P w K mg base 2 _ _ (Za4 3 3 Zh1)) (Zba (N:=["one","other","name"]) (k:=1) T.t0x Zyf (by fail "~U3") ?_)
 intro f cdv A outer s H E hr
 unfold Zh1
 fail "~e k D G"
 refine Zap (Zll hr.units) (Zaa (pv 2)) (Zaa (pv 0)) ?_
 fail "~F M"
 refine Zap (Zll hr.units) ?_ (Zaa (pv 1)) ?_
 exact Zen Zc3 (Zaa (pv 2))
 fail "~F d Q d h"
 refine Zal (Ycu T) (hr.mono (by decide)) ?_ ?_
 fail "~a b"
 refine Zal (Zly T) (hr.mono (by decide)) ?_ ?_
 fail "~a b i b m c a a b"
 refine Zal (Zly T) (hr.mono (by decide)) ?_ ?_
 fail "~a b j b"
 exact Zen Zc3 (Zaa (pv 2))
 fail "~c a a c a a"
theorem Zkn (T:Top K mg):Fn P w K mg base 3 "made_by_less" ["kinds","side","made","step"] Zg2:=by
 refine(fun h=>h:_->Fn P w K mg base 3 _ _ (Za4 4 4 Zch)) (Zba (N:=["kinds","side","made","step"]) (k:=2) T.t0y Zkl (by fail "~U4") ?_)
 intro f cdv A outer s H E hr
 unfold Zch
 fail "~e k D G aA l a b p c a M H s ar a b I b l a b m c a c a a d Q d h"
 refine Zal (Zk0 T) (hr.mono (by decide)) ?_ ?_
 fail "~a b i b j b aq I c a a a"
theorem Zii (T:Top K mg):Fn P w K mg base 3 "made_by_joined" ["kinds","side","made","step"] Zfl:=by
 refine(fun h=>h:_->Fn P w K mg base 3 _ _ (Za4 4 4 Zbv)) (Zba (N:=["kinds","side","made","step"]) (k:=2) T.t0z Zik (by fail "~U4") ?_)
 intro f cdv A outer s H E hr
 unfold Zbv
 fail "~e k D G aA l a b p c a G H s ar a b I b l a b m c a c a a M H s ar a b I b l a b m c a c a a d Q e k H s"
 refine Zal (Zhb T) (hr.mono (by decide)) ?_ ?_
 fail "~a b i b j b I c a a a d Q d h"
 refine Zal (Zpv T) (hr.mono (by decide)) ?_ ?_
 fail "~a b aq I b aq I b I c a a a"
theorem Zjw (T:Top K mg):Fn P w K mg base 2 "put_step" ["kinds","side","pairs","step","row"] Zgt:=by
 refine(fun h=>h:_->Fn P w K mg base 2 _ _ (Za4 5 6 Ze5)) (Zba (N:=["kinds","side","pairs","step","row","less"]) (k:=1) T.t0A Zkt (by fail "~U5") ?_)
 intro f cdv A outer s H E hr
 unfold Ze5
 fail "~e E 4 b y b p b r c a a c a e af"
 exact Zkt.nd
 fail "~a f"
 refine Zal (Zk0 T) (hr.mono (by decide)) ?_ ?_
 fail "~a b i b j b r c a a a d k"
 exact Zap (Zfu hr.units) (Zaa (pv 5)) (Zaa (pv 4)) (Zaw _)
 fail "~d E 4 b y b y b w b V l a b m c a c a a b K c a a c a"
theorem Zm3 (T:Top K mg):Fn P w K mg base 3 "claims_row" ["claim","step"] Zi6:=by
 refine(fun h=>h:_->Fn P w K mg base 3 _ _ (Za4 2 2 Zc8)) (Zba (N:=["claim","step"]) (k:=2) T.t0B Znv (by fail "~U2") ?_)
 intro f cdv A outer s H E hr
 unfold Zc8
 fail "~e k D G aA l a b j c a G"
 refine Zap (Zfu hr.units) ?_ Zbf (Zaw _)
 fail "~R M H s ar a b R b l a b u c a c a a d Q d h v u R"
theorem Zmu (T:Top K mg):Fn P w K mg base 4 "is_used_up" ["side","row","play"] Zf2:=by
 refine(fun h=>h:_->Fn P w K mg base 4 _ _ (Za4 3 3 Zb7)) (Zba (N:=["side","row","play"]) (k:=3) T.t0C Zne (by fail "~U3") ?_)
 intro f cdv A outer s H E hr
 unfold Zb7
 fail "~e k"
 exact Zap (Zb3 hr.units) (Zaa (pv 0)) Zbf (Zaw _)
 fail "~d h"
 refine Zal (Zua T) (hr.mono (by decide)) ?_ ?_
 fail "~a b j b m c a a d h"
 refine Zbx (Zp2 (by rfl)) ?_ T.t1t Ybb ?_
 fail "~a b"
 refine Zj5 (cn:=["play"]) ?_ (Zf8 (x := "literal") (cn:=["play"]) (ci:=[2]) (by decide +kernel)) ?_ ?_ ?_
 fail "~a an o ae o aj a b i b j c a a c a"
theorem Zjy (T:Top K mg):Fn P w K mg base 1 "literal_used" ["side","name","truth"] Zei:=by
 refine(fun h=>h:_->Fn P w K mg base 1 _ _ (Za4 3 3 Zcg)) (Zba (N:=["side","name","truth"]) (k:=0) T.t0D Zk5 (by fail "~U3") ?_)
 intro f cdv A outer s H E hr
 unfold Zcg
 fail "~d h"
 refine Zpl ?_ (Zaa (pv 1)) ?_
 refine Zap (Zb3 hr.units) (Zaa (pv 2)) ?_ (Zaw _)
 exact Zbt (Zb3 hr.units) (Zaa (pv 0)) Zbf (Zaw _)
 exact Zen Zc3 (Zaa (pv 1))
theorem Zpz (T:Top K mg):Fn P w K mg base 1 "told_term" ["claim","step"] Zjo:=by
 refine(fun h=>h:_->Fn P w K mg base 1 _ _ (Za4 2 2 Zd5)) (Zba (N:=["claim","step"]) (k:=0) T.t0E Zoy (by fail "~U2") ?_)
 intro f cdv A outer s H E hr
 unfold Zd5
 fail "~d h R"
theorem Zsy (T:Top K mg):Fn P w K mg base 4 "made_by" ["claim","side","first","made","step"] Zh6:=by
 refine(fun h=>h:_->Fn P w K mg base 4 _ _ (Za4 5 5 Zcf)) (Zba (N:=["claim","side","first","made","step"]) (k:=3) T.t0F Zs4 (by fail "~U5") ?_)
 intro f cdv A outer s H E hr
 unfold Zcf
 fail "~e k D G H s ax a b r b"
 refine Zx6 ?_ T.t1F Zrp
 fail "~a c a a M ad l a b r c a d Q e k aB as d h"
 refine Zal (Zkn T) (hr.mono (by decide)) ?_ ?_
 fail "~a b u b j b p b r c a a a a e k aB as d h"
 refine Zal (Zii T) (hr.mono (by decide)) ?_ ?_
 fail "~a b u b j b p b r c a a a a d h"
 refine Zuh ?_ ?_
 refine Zoc (i:=2) (Zm3 T) T.t1I (hr.mono (by decide)) (pv 2) ?_
 fail "~b i b r c a a"
 refine Zoc (i:=2) (Zpz T) T.t1J (hr.mono (by decide)) (pv 2) ?_
 fail "~b i b r c a a"
theorem Zqs (T:Top K mg):Fn P w K mg base 5 "all_made" ["claim","side","first","steps"] Ziu:=by
 refine(fun h=>h:_->Fn P w K mg base 5 _ _ (Za4 4 8 Zez)) (Zba (N:=["claim","side","first","steps","made","number","step","row"]) (k:=4) T.t0G Zk4 (by fail "~U4") ?_)
 intro f cdv A outer s H E hr
 unfold Zez
 have nd:=Zk4.nd
 fail "~e J g a f P e n a"
 refine Zu0 ?_ T.t1w ?_
 fail "~a b p c a 9 a aa 3 g a f ab"
 refine Zca (i:=6) ?_ ?_ ?_
 fail "~g a f e"
 refine Zbh (i:=7) ?_ ?_ ?_ ?_
 fail "~g a f"
 refine Zal (Zsy T) (hr.mono (by decide)) ?_ ?_
 fail "~a b i b j b m b r b 5 c a a a a a e k"
 exact Zap Zsu (Zaa (pv 7)) Zie (Zaw _)
 fail "~ag d E"
 refine Zsi Uy Uz Zgo (Zaa (pv 4)) ?_
 fail "~b"
 exact(Zaa (pv 7))
 fail "~c a d"
 exact Zbu (Zaa (pv 4))
theorem Zkq (T:Top K mg):Fn P w K mg base 6 "by_paper" ["claim","side","first","steps","play"] Zgq:=by
 refine(fun h=>h:_->Fn P w K mg base 6 _ _ (Za4 5 10 Zeo)) (Zba (N:=["claim","side","first","steps","play","rows","name","step","row","truth"]) (k:=5) T.t0H Zjq (by fail "~U5") ?_)
 intro f cdv A outer s H E hr
 unfold Zeo
 have nd:=Zjq.nd
 fail "~e af g a f"
 refine Zal (Zqs T) (hr.mono (by decide)) ?_ ?_
 fail "~a b i b j b m b p c a a a a e ac g a f at l a b r c a e n a"
 refine Zr0 ?_ T.t1G ?_
 fail "~a b p b K c a a 9 a aa"
 refine Zca (i:=7) ?_ ?_ ?_
 fail "~g a f ab"
 refine Zca (i:=8) ?_ ?_ ?_
 fail "~g a f d k D ap aB"
 exact Za3 ixf (Zaa (pv 7)) Zae (fun _ _=>rfl)
 refine Zhx ?_
 fail "~s"
 refine Zal (Zmu T) (hr.mono (by decide)) ?_ ?_
 fail "~a b j b"
 exact(Zaa (pv 8))
 fail "~b r c a a a d n a 1"
 refine Zpk ?_ T.t1H
 fail "~a"
 refine Zca (i:=9) ?_ ?_ ?_
 fail "~g a f d k"
 refine Zap (Zsv hr.units) ?_ ?_ ?_
 refine Zal (Zjy T) (hr.mono (by decide)) ?_ ?_
 fail "~a b j b 5 b"
 exact(Zaa (pv 9))
 fail "~c a a a"
 refine Za3 ixf (Zaa (pv 5)) ?_ (fun _ _=>rfl)
 exact Za3 ixf (Zaa (pv 7)) Zae (fun _ _=>rfl)
 fail "~F d"
 exact Zbu (Zaa (pv 9))
 fail "~d A"
theorem Zs5 (T:Top K mg):Fn P w K mg base 7 "by_rows" ["claim","steps","play"] Zpg:=by
 refine(fun h=>h:_->Fn P w K mg base 7 _ _ (Za4 3 3 Zf5)) (Zba (N:=["claim","steps","play"]) (k:=6) T.t0I Ztr (by fail "~U3") ?_)
 intro f cdv A outer s H E hr
 unfold Zf5
 fail "~d h"
 refine Zal (Zkq T) (hr.mono (by decide)) ?_ ?_
 fail "~a b i b w b"
 exact Ya3 T.t1I
 fail "~b j b m c a a a a a"
theorem Zqz (T:Top K mg):Fn P w K mg base 7 "by_terms" ["claim","steps","play"] Zl9:=by
 refine(fun h=>h:_->Fn P w K mg base 7 _ _ (Za4 3 3 Zes)) (Zba (N:=["claim","steps","play"]) (k:=6) T.t0J Zqx (by fail "~U3") ?_)
 intro f cdv A outer s H E hr
 unfold Zes
 fail "~d h"
 refine Zal (Zkq T) (hr.mono (by decide)) ?_ ?_
 fail "~a b i b w b"
 exact Ya3 T.t1J
 fail "~b j b m c a a a a a"
theorem Zge (T:Top K mg):Fn P w K mg base 1 "have_one_in_common" ["one","other"] Zcc:=by
 refine(fun h=>h:_->Fn P w K mg base 1 _ _ (Za4 2 2 Zbg)) (Zba (N:=["one","other"]) (k:=0) T.t0K Zfs (by fail "~U2") ?_)
 intro f cdv A outer s H E hr
 unfold Zbg
 fail "~d h"
 refine Zbx (Zv0 (by rfl)) ?_ T.t1u Ygk ?_
 fail "~a b"
 refine Zj5 (cn:=["other"]) ?_ (Zf8 (x := "literal") (cn:=["other"]) (ci:=[1]) (by decide +kernel)) ?_ ?_ ?_
 fail "~a W o ae o"
 refine Zbt iinf (Zaa (pv 0)) (Zaa (pv 1)) ?_
 fail "~F c a"
theorem Zk7 (T:Top K mg):Fn P w K mg base 3 "term_of_play" ["rows","play"] Zej:=by
 refine(fun h=>h:_->Fn P w K mg base 3 _ _ (Za4 2 5 Zce)) (Zba (N:=["rows","play","told","row","right"]) (k:=2) T.t0L Zf4 (by fail "~U2") ?_)
 intro f cdv A outer s H E hr
 unfold Zce
 have nd:=Zf4.nd
 fail "~e"
 refine Zbh (i:=2) ?_ ?_ ?_ Zph
 fail "~g a f e n a W 2 g a f d k H s"
 refine Zal (Zge T) (hr.mono (by decide)) ?_ ?_
 fail "~a b p b m c a a e"
 refine Zhp (i:=4) (cn:=["play"]) ?_ (Zf8 (x := "literal") (cn:=["play"]) (ci:=[1]) (by decide +kernel)) ?_ ?_ ?_ ?_ ?_ ?_
 fail "~a"
 exact Zgf (Zaa (pv 3))
 fail "~o X s aj a b i b j c a a o i g a a d"
 refine Zj8 Zix ?_
 refine Zmy (Zaa (pv 2)) ?_ Yhl
 fail "~as d h T a b"
 refine Zs7 ?_ ?_ T.t1E ?_ T.t1s ?_
 fail "~a a a b m c a c a"
theorem Ztf (T:Top K mg):Fn P w K mg base 1 "_law_mix" ["cell","k"] Zko:=by
 refine(fun h=>h:_->Fn P w K mg base 1 _ _ (Za4 2 4 Zfv)) (Zba (N:=["cell","k","prime","one"]) (k:=0) T.t0M Zlk (by fail "~U2") ?_)
 intro f cdv A outer s H E hr
 unfold Zfv
 have nd:=Zlk.nd
 fail "~e N g a f v C b q b q b q b q b q b q b q c a a a a a a a"
 exact Zav Zeh (Zaa (pv 1)) Zae
 fail "~e B g a f"
 refine Zav Zeh ?_ (Zaa (pv 2))
 refine Zav Zkx ?_ ?_
 fail "~ah"
 exact Zav Zeh (Zaa (pv 0)) Zae
 refine Zav Zkx Zae ?_
 fail "~ai at ah"
 exact Zav Zkx (Zaa (pv 1)) (Zaa (pv 1))
 fail "~aC e B g a f x"
 exact Zav Zqk (Zaa (pv 3)) Zae
 fail "~e B g a f"
 refine Zav Zeh ?_ (Zaa (pv 2))
 fail "~at ah"
 exact Zav Zkx (Zaa (pv 3)) Zae
 fail "~aC d h"
 refine Zav Zjg ?_ Zae
 fail "~x"
 exact Zav Zqk (Zaa (pv 3)) Zae
theorem ok_law_digits (T:Top K mg):Fn P w K mg base 2 "_law_digits" ["cell","many"] Zcm:=by
 refine(fun h=>h:_->Fn P w K mg base 2 _ _ (Za4 2 6 Zdf)) (Zba (N:=["cell","many","found","left_over","wide","k"]) (k:=1) T.t0N Zhs (by fail "~U2") ?_)
 intro f cdv A outer s H E hr
 unfold Zdf
 have nd:=Zhs.nd
 fail "~e N g a f P e B g a f 0 a b i c a e J g a f"
 refine Zbt Ygw (Zaa (pv 3)) ?_ (Zaw _)
 exact Zav Zqk Zae Zae
 fail "~e n a U a b j c a 3 g a f d"
 refine Zg5 ?_ ?_ ?_
 fail "~D ap"
 exact Zho (Zaa (pv 4)) (fun _=>rfl)
 refine Zhx ?_
 exact Zap Zi2 (Zaa (pv 3)) Zae (Zaw _)
 fail "~e E 4 b"
 exact Zav Zeh (Zaa (pv 3)) Zae
 fail "~c a d B g a f"
 exact Zav Zjg (Zaa (pv 3)) Zae
 fail "~d E 4 b"
 refine Zal (Ztf T) (hr.mono (by decide)) ?_ ?_
 fail "~a b i b K c a a c a d"
 exact Zbu (Zaa (pv 2))
theorem ok_law_at (T:Top K mg):Fn P w K mg base 1 "_law_at" ["script","k"] Zfg:=by
 refine(fun h=>h:_->Fn P w K mg base 1 _ _ (Za4 2 2 Zhy)) (Zba (N:=["script","k"]) (k:=0) T.t0O Zvt (by fail "~U2") ?_)
 intro f cdv A outer s H E hr
 unfold Zhy
 fail "~e k"
 refine Zap Zob (Zaa (pv 1)) ?_ (Zaw _)
 fail "~l a b i c a d h"
 exact Za3 ixf (Zaa (pv 0)) (Zaa (pv 1)) (fun _ _=>rfl)
 fail "~d h ah at aC l a b i c a"
theorem Zow (T:Top K mg):Fn P w K mg base 1 "_law_kinds" ["some","many"] Zg7:=by
 refine(fun h=>h:_->Fn P w K mg base 1 _ _ (Za4 2 5 Zd7)) (Zba (N:=["some","many","found","k","kind"]) (k:=0) T.t0P Ziy (by fail "~U2") ?_)
 intro f cdv A outer s H E hr
 unfold Zd7
 have nd:=Ziy.nd
 fail "~e N g a f P e n a U a b j c a 2 g a f e J g a f v C b w b w c a a x ao"
 exact Zav Zbd Zae (Zaa (pv 3))
 fail "~e k ad x u d J g a f v C b w b w c a a x"
 refine Zav Zbd (Zaa (pv 3)) ?_
 fail "~u e k ad x u d J g a f v C b w b w c a a au a b"
 refine Zbt Zi2 ?_ Zae (Zaw _)
 fail "~x ao"
 exact Zav Zbd Zae (Zaa (pv 3))
 fail "~c a d E 4 b r c a d h T a b m c a"
theorem Zt3 (T:Top K mg):Fn P w K mg base 3 "_law_row" ["cell","many","wide"] Zkh:=by
 refine(fun h=>h:_->Fn P w K mg base 3 _ _ (Za4 3 6 Zfy)) (Zba (N:=["cell","many","wide","some","found","k"]) (k:=2) T.t0Q Zl0 (by fail "~U3") ?_)
 intro f cdv A outer s H E hr
 unfold Zfy
 have nd:=Zl0.nd
 fail "~e B g a f av a b i b ai c a a e J g a f P e n a U a b j c a 3 g a f d k"
 refine Zap Zob ?_ ?_ (Zaw _)
 refine Zav Zeh ?_ ?_
 refine Za3 ixf (Zaa (pv 3)) ?_ (fun _ _=>rfl)
 exact Zav Zbd Zae (Zaa (pv 5))
 fail "~ai am x I d E"
 refine Zsi Uy Uz Zgo (Zaa (pv 4)) ?_
 fail "~b v C b"
 exact Zav Zbd (Zaa (pv 5)) Zae
 fail "~b V"
 exact Zav Zhh Zae (Zaa (pv 5))
 fail "~c a a x"
 refine Zav Zjg ?_ ?_
 refine Za3 ixf (Zaa (pv 3)) ?_ (fun _ _=>rfl)
 exact Zav Zbd Zae (Zaa (pv 5))
 fail "~ai c a d h T a b r c a"
theorem Zpf (T:Top K mg):Fn P w K mg base 4 "_law_claim" ["script","most"] Zhe:=by
 refine(fun h=>h:_->Fn P w K mg base 4 _ _ (Za4 2 7 Zdz)) (Zba (N:=["script","most","some","many","kinds","size","rows"]) (k:=3) T.t0R Zi4 (by fail "~U2") ?_)
 intro f cdv A outer s H E hr
 unfold Zdz
 have nd:=Zi4.nd
 fail "~e N g a f av a b aw a b i b q c a a b q c a a e B g a f v C b"
 refine Zav Zeh ?_ ?_
 fail "~L ai b"
 refine Zav Zhh (Zaa (pv 1)) ?_
 fail "~x L b j c a a a x L e J g a f"
 refine Zal (Zow T) (hr.mono (by decide)) ?_ ?_
 fail "~a b"
 refine Zd6 (Zaa (pv 2)) ?_ Zfd
 exact Ze9 Zae
 fail "~b"
 refine Zbx (Zyd (by rfl)) ?_ T.t1B Yfi ?_
 fail "~a b q b p c a a c a a e af g a f v C b x L b x L b"
 refine Zav Zbd Zae ?_
 fail "~x L c a a a x L e"
 refine Zhp (i:=6) (cn:=["script","kinds"]) ?_ (Zf8 (x := "k") (cn:=["script","kinds"]) (ci:=[0,4]) (by decide +kernel)) ?_ ?_ ?_ ?_ ?_ ?_
 fail "~a U a b K c a o ae o"
 refine Zal (Zt3 T) (hr.mono (by decide)) ?_ ?_
 fail "~a b aw a b j b"
 exact Zav Zbd Zae (Zaa (pv 0))
 fail "~c a a b l a b m c a b q c a a a g a a e k"
 refine Zap Zi2 ?_ Zae (Zaw _)
 fail "~x L d"
 refine Zhp (i:=6) (cn:=[]) ?_ (Zf8 (x := "row") (cn:=[]) (ci:=[]) (by decide +kernel)) ?_ ?_ ?_ ?_ ?_ ?_
 fail "~a"
 exact Zgf (Zaa (pv 6))
 fail "~o X"
 refine Zap (Zfu hr.units) (Zaa (pv 0)) ?_ (Zaw _)
 fail "~O o i g a a d h y b r b T a b 5 c a c a a"
theorem Zn6 (T:Top K mg):Fn P w K mg base 1 "_law_right" ["literal","play"] Zfc:=by
 refine(fun h=>h:_->Fn P w K mg base 1 _ _ (Za4 2 2 Zd4)) (Zba (N:=["literal","play"]) (k:=0) T.t0S Zor (by fail "~U2") ?_)
 intro f cdv A outer s H E hr
 unfold Zd4
 fail "~d h 8 az V 0 a b i c a"
 exact Zbt Zi2 (Zaa (pv 0)) Zae (Zaw _)
theorem Ziz (T:Top K mg):Fn P w K mg base 1 "_law_plays" ["many"] Ze6:=by
 refine(fun h=>h:_->Fn P w K mg base 1 _ _ (Za4 1 5 Zdv)) (Zba (N:=["many","found","turn","more_plays","one"]) (k:=0) T.t0T Zi1 (by fail "~U1") ?_)
 intro f cdv A outer s H E hr
 unfold Zdv
 have nd:=Zi1.nd
 fail "~e"
 refine Zbh (i:=1) ?_ ?_ ?_ ?_
 fail "~g a f C b O c a e n a U a b i c a S g a f e B g a f P e n a an ak g a f d B g a f"
 refine Zav Zbd (Zaa (pv 3)) ?_
 fail "~C b"
 refine Zav Zbd (Zaa (pv 4)) ?_
 fail "~y b"
 exact Zix
 fail "~c a b"
 refine Zav Zbd (Zaa (pv 4)) ?_
 fail "~y b"
 exact Zix
 fail "~c a c a a d"
 refine Zbh (i:=1) ?_ ?_ ?_ (Zaa (pv 3))
 fail "~g a f d"
 exact Zbu (Zaa (pv 1))
theorem Zjn (T:Top K mg):Fn P w K mg base 2 "_law_lost" ["rows","play"] Zeu:=by
 refine(fun h=>h:_->Fn P w K mg base 2 _ _ (Za4 2 3 Zey)) (Zba (N:=["rows","play","row"]) (k:=1) T.t0U Zkb (by fail "~U2") ?_)
 intro f cdv A outer s H E hr
 unfold Zey
 fail "~e n a W S"
 exact Zkb.nd
 fail "~a f d k al"
 refine Zj5 (cn:=["play"]) ?_ (Zf8 (x := "literal") (cn:=["play"]) (ci:=[1]) (by decide +kernel)) ?_ ?_ ?_
 fail "~a"
 exact Zgf (Zaa (pv 2))
 fail "~o X s"
 refine Zal (Zn6 T) (hr.mono (by decide)) ?_ ?_
 fail "~a b i b j c a a o i P d A d A"
theorem Zlf (T:Top K mg):Fn P w K mg base 3 "_law_winners" ["claim"] Zfh:=by
 refine(fun h=>h:_->Fn P w K mg base 3 _ _ (Za4 1 8 Zcv)) (Zba (N:=["claim","found","play","many","kinds","rows","both_v","other"]) (k:=2) T.t0V Zg1 (by fail "~U1") ?_)
 intro f cdv A outer s H E hr
 unfold Zcv
 have nd:=Zg1.nd
 fail "~e"
 refine Zj8 (Zaa (pv 0)) ?_
 fail "~9 a aa ak g a f ab 3 g a f e"
 refine Zbh (i:=1) ?_ ?_ ?_ Zms
 fail "~g a f e n a 1"
 refine Zal (Ziz T) (hr.mono (by decide)) ?_ ?_
 fail "~a b l a b r c a c a S g a f d"
 refine Zj8 ?_ ?_
 fail "~v C b w b w c a a au a b"
 refine Zal (Zjn T) (hr.mono (by decide)) ?_ ?_
 fail "~a b K b m c a a c a"
 exact Zmy (Zaa (pv 1)) (Zaa (pv 2)) (Yh5 hr.units)
 fail "~e n a"
 refine Ztw ?_ T.t1D ?_
 fail "~a b V l a b r c a b"
 exact Zen Zc3 Zae
 fail "~b"
 exact Zen Zc3 Zae
 fail "~c a a a 2 g a f d n a 1"
 refine Zal (Ziz T) (hr.mono (by decide)) ?_ ?_
 fail "~a b p c a S g a f e ac g a f C b"
 refine Za3 (Zub hr.units) (Zaa (pv 1)) ?_ (fun _ _=>rfl)
 fail "~am y b"
 exact Zix
 fail "~c a b"
 refine Za3 (Zub hr.units) (Zaa (pv 1)) ?_ (fun _ _=>rfl)
 fail "~am y b"
 exact Zix
 fail "~c a c a a e"
 refine Zbh (i:=7) ?_ ?_ ?_ ?_
 fail "~g a f v C b w b w c a a au a b"
 refine Zbt (Zb3 hr.units) ?_ Zbf (Zaw _)
 fail "~aD c a d"
 refine Zj8 ?_ ?_
 fail "~v C b"
 exact(Zaa (pv 7))
 fail "~b aD c a a au a b"
 refine Zbt (Zsv hr.units) ?_ (Zaa (pv 6)) ?_
 fail "~aD F c a"
 exact Zmy (Zaa (pv 1)) (Zaa (pv 2)) (Yh5 hr.units)
 fail "~d"
 exact Zbu (Zaa (pv 1))
theorem Zq3 (T:Top K mg):Fn P w K mg base 8 "_law_next" ["claim","side","steps","play","one"] Zim:=by
 refine(fun h=>h:_->Fn P w K mg base 8 _ _ (Za4 5 5 Ze3)) (Zba (N:=["claim","side","steps","play","one"]) (k:=7) T.t0W Zqy (by fail "~U5") ?_)
 intro f cdv A outer s H E hr
 unfold Ze3
 fail "~e k"
 refine Zap (Zfu hr.units) ?_ (Zaa (pv 1)) (Zaw _)
 fail "~v u l a b p c a d h"
 refine Zbt (Zb3 hr.units) ?_ Zae (Zaw _)
 exact Zav Zeh (Zaa (pv 4)) Zae
 fail "~e k"
 exact Zap (Zb3 hr.units) (Zaa (pv 1)) Zbf (Zaw _)
 fail "~d h"
 refine Zal (Zs5 T) (hr.mono (by decide)) ?_ ?_
 fail "~a b i b m b p c a a a d h"
 refine Zal (Zqz T) (hr.mono (by decide)) ?_ ?_
 fail "~a b i b m b p c a a a"
theorem Znj (T:Top K mg):FnI P w K mg base 1 "Match" ["self","claim"] Zgc:=by
 refine(fun h=>h:_->FnI P w K mg base 1 "Match" ["self","claim"] (Za4 2 2 Zde)) (fi_mk (N:=["self","claim"]) (k:=0) T.t0X Zm1 (by fail "~U2") ?_)
 intro f cdv A outer s H E hr
 unfold Zde
 fail "~e"
 refine Zuk T.t1q ?_ (Zaa (pv 0)) (Zaa (pv 1))
 fail "~t d aE t O"
theorem Zmr (T:Top K mg):FnM P w K mg base 2 "Match" "pick" ["self","truth"] Zec:=by
 refine(fun h=>h:_->FnM P w K mg base 2 "Match" "pick" ["self","truth"] (Za4 2 2 Zdg)) (Zp7 (N:=["self","truth"]) (k:=1) T.t0Y Zmw (by fail "~U2") ?_)
 intro f cdv A outer s H E hr
 unfold Zdg
 fail "~e k H s"
 refine Zal (Zq4 T) (hr.mono (by decide)) ?_ ?_
 fail "~a b j c a ag e k al l a b z t c a l a b 6 z t c a ag d aE t ah z t y b j c a"
theorem Zhv (T:Top K mg):FnM P w K mg base 1 "Match" "back" ["self"] Zdl:=by
 refine(fun h=>h:_->FnM P w K mg base 1 "Match" "back" ["self"] (Za4 1 1 Zda)) (Zp7 (N:=["self"]) (k:=0) T.t0Z Zmz (by fail "~U1") ?_)
 intro f cdv A outer s H E hr
 unfold Zda
 fail "~e k ad l a b z t c a ag d aE t"
 refine Zd6 ?_ Zfd ?_
 fail "~z t"
 refine Ze9 ?_
 exact Zen Zc3 Zae
theorem ok_Match_play (T:Top K mg):FnM P w K mg base 1 "Match" "play" ["self"] Za6:=by
 refine(fun h=>h:_->FnM P w K mg base 1 "Match" "play" ["self"] (Za4 1 1 Zdm)) (Zp7 (N:=["self"]) (k:=0) T.t1a Zmo (by fail "~U1") ?_)
 intro f cdv A outer s H E hr
 unfold Zdm
 fail "~d h z t"
theorem Zh8 (T:Top K mg):FnM P w K mg base 1 "Match" "turn" ["self"] Zed:=by
 refine(fun h=>h:_->FnM P w K mg base 1 "Match" "turn" ["self"] (Za4 1 1 Zc7)) (Zp7 (N:=["self"]) (k:=0) T.t1b Znr (by fail "~U1") ?_)
 intro f cdv A outer s H E hr
 unfold Zc7
 fail "~e k al l a b z t c a l a b 6 z t c a d Q d h v 6 z t l a b z t c a"
theorem ok_Match_who (T:Top K mg):FnM P w K mg base 14 "Match" "who" ["self"] Zd8:=by
 refine(fun h=>h:_->FnM P w K mg base 14 "Match" "who" ["self"] (Za4 1 1 Zd9)) (Zp7 (N:=["self"]) (k:=13) T.t1c Zox (by fail "~U1") ?_)
 intro f cdv A outer s H E hr
 unfold Zd9
 fail "~d h"
 refine Zal (Zps T) (hr.mono (by decide)) ?_ ?_
 fail "~a b z t b z t c a a"
theorem Zmn (T:Top K mg):FnM P w K mg base 15 "Match" "good" ["self"] Zft:=by
 refine(fun h=>h:_->FnM P w K mg base 15 "Match" "good" ["self"] (Za4 1 1 Zdp)) (Zp7 (N:=["self"]) (k:=14) T.t1d Zna (by fail "~U1") ?_)
 intro f cdv A outer s H E hr
 unfold Zdp
 fail "~d h"
 refine Zal (Zmf T) (hr.mono (by decide)) ?_ ?_
 fail "~a b z t b z t c a a"
theorem Zhq (T:Top K mg):Fn P w K mg base 16 "_law_picked" ["match","claim","side","steps","one"] Zdd:=by
 refine(fun h=>h:_->Fn P w K mg base 16 _ _ (Za4 5 7 Zc9)) (Zba (N:=["match","claim","side","steps","one","play","truth"]) (k:=15) T.t1e Ze8 (by fail "~U5") ?_)
 intro f cdv A outer s H E hr
 unfold Zc9
 fail "~e af"
 exact Ze8.nd
 fail "~a f 7 e ac"
 exact Ze8.nd
 fail "~a f"
 refine Zal (Zq3 T) (hr.mono (by decide)) ?_ ?_
 fail "~a b j b m b p b K b r c a a a a a e k D G aF aG M aH"
 exact Zb6 (Zh8 T) (hr.mono (by decide)) (Zaa (pv 0))
 fail "~v R l a b K c a d A e k D ap"
 refine Zap (Zb3 hr.units) ?_ (Zaa (pv 2)) (Zaw _)
 fail "~v R l a b K c a"
 refine Zhx ?_
 refine Zap (Zll hr.units) (Zaa (pv 6)) ?_ ?_
 exact Zb6 (Zmn T) (hr.mono (by decide)) (Zaa (pv 0))
 fail "~F d A d h Y"
 refine Zbt Zsu ?_ Zie (Zaw _)
 refine Zzy (Zmr T) (hr.mono (by decide)) (Zaa (pv 0)) ?_
 fail "~b 5 c a Z 8 7"
 refine Zav Zbd (Zaa (pv 5)) ?_
 fail "~y b 5 c a"
theorem Zht (T:Top K mg):FnM P w K mg base 5 "Match" "left" ["self"] Zea:=by
 refine(fun h=>h:_->FnM P w K mg base 5 "Match" "left" ["self"] (Za4 1 1 Zdb)) (Zp7 (N:=["self"]) (k:=4) T.t1f Zno (by fail "~U1") ?_)
 intro f cdv A outer s H E hr
 unfold Zdb
 fail "~d h"
 refine Zal (Yak (Yda T) T.t1r) (hr.mono (by decide)) ?_ ?_
 fail "~a b z t b z t c a a"
theorem Zm8 (T:Top K mg):Fn P w K mg base 17 "_law_played" ["match","claim","side","steps","some"] Zf3:=by
 refine(fun h=>h:_->Fn P w K mg base 17 _ _ (Za4 5 7 Zdo)) (Zba (N:=["match","claim","side","steps","some","size","k"]) (k:=16) T.t1g Zfe (by fail "~U5") ?_)
 intro f cdv A outer s H E hr
 unfold Zdo
 fail "~e af"
 exact Zfe.nd
 fail "~a f l a b R c a e"
 refine Zkg Tak ?_ ?_
 refine Zap Zob ?_ (Zaa (pv 5)) (Zaw _)
 fail "~l a b 7 c a d k H s"
 refine Zal (Zhq T) (hr.mono (by decide)) ?_ ?_
 fail "~a b i b j b m b p b"
 refine Za3 ixf (Zaa (pv 4)) ?_ (fun _ _=>rfl)
 fail "~l a b 7 c a c a a a a a d A e n a U a b"
 refine Zav Zeh ?_ ?_
 fail "~as"
 exact Zav Zbd (Zaa (pv 5)) Zae
 fail "~c a"
 refine Zca (i:=6) ?_ ?_ ?_
 exact Zfe.nd
 fail "~a f d k D G"
 refine Zap Zqf ?_ Zie (Zaw _)
 exact Zb6 (Zhv T) (hr.mono (by decide)) (Zaa (pv 0))
 fail "~M aF aG d A e"
 refine Zkg Tak ?_ ?_
 refine Zap Zob ?_ (Zaa (pv 5)) (Zaw _)
 fail "~l a b 7 c a d k H s"
 refine Zal (Zhq T) (hr.mono (by decide)) ?_ ?_
 fail "~a b i b j b m b p b"
 refine Zav Zjg ?_ Zae
 refine Za3 ixf (Zaa (pv 4)) ?_ (fun _ _=>rfl)
 fail "~l a b 7 c a c a a a a a d A e k D G aF aG G"
 refine Zap Zqf ?_ Zie (Zaw _)
 exact Zb6 (Zh8 T) (hr.mono (by decide)) (Zaa (pv 0))
 fail "~M aH 6"
 exact Zb6 (Zht T) (hr.mono (by decide)) (Zaa (pv 0))
 fail "~O d A d h 8"
 refine Zbt (Zsv hr.units) ?_ ?_ ?_
 fail "~O 6"
 exact Zb6 (Zht T) (hr.mono (by decide)) (Zaa (pv 0))
 fail "~F"
 exact Zbt (Zb3 hr.units) (Zaa (pv 2)) Zbf (Zaw _)
theorem Zi9 (T:Top K mg):Yeu P w K mg base 1 "row_paper" "claim" 2 Zdx:=by
 refine(fun h=>h:_->Yeu P w K mg base 1 "row_paper" "claim" 2 (Ybl 2 3 Zb9)) (Yfv (N:=["tree","play","claim"]) (k:=0) (st:=Zf1) (T.t1n.first rfl) Zjd (fun _ _ _ _ _ _ _ us hl=>by obtain⟨_,_,rfl⟩:=us2 hl; rfl) ?_)
 intro qual f cdv c A outer s H hr
 unfold Zb9
 fail "~d h y b y b w b u c a a b v L u c a a"
theorem Zif (T:Top K mg):Yeu P w K mg base 4 "term_paper" "claim" 2 Zdr:=by
 refine(fun h=>h:_->Yeu P w K mg base 4 "term_paper" "claim" 2 (Ybl 2 4 Zbw)) (Yfv (N:=["tree","play","claim","term"]) (k:=3) (st:=Zfm) (T.t1o.first rfl) Ze4 (fun _ _ _ _ _ _ _ us hl=>by obtain⟨_,_,rfl⟩:=us2 hl; rfl) ?_)
 intro qual f cdv c A outer s H hr
 unfold Zbw
 fail "~e B"
 exact Ze4.nd
 fail "~a f"
 refine Zal (Zk7 T) (hr.mono (by decide)) ?_ ?_
 fail "~a b L b j c a a d h y b y b w b p c a a b p c a a"
theorem Zld (T:Top K mg):Fn P w K mg base 25 "plan_behind" ["kinds","rows","many"] (Zee 3 4 3 7 Za2 Zat 22).1/\Fn P w K mg base 25 "plan_by_picks" ["kinds","rows","many"] (Zee 3 4 3 7 Za2 Zat 22).2:=by
 refine(fun h=>h:_->Fn P w K mg base 25 _ _ (Zee 3 4 3 7 Za2 Zat 22).1/\Fn P w K mg base 25 "plan_by_picks" ["kinds","rows","many"] (Zee 3 4 3 7 Za2 Zat 22).2) (Zqt (N1:=["kinds","rows","many","number"]) (N2:=["kinds","rows","many","who","trees","truth","told"]) (k:=2) T.t1h Zg3 (fun _ _ _ _ _ _ us hl=>by obtain⟨_,_,_,rfl⟩:=us3 hl; rfl) T.t1i Zby (fun _ _ _ _ _ _ us hl=>by obtain⟨_,_,_,rfl⟩:=us3 hl; rfl) ?_ ?_ 22)
 ·intro F1 F2 j G1 G2 f cdv A outer s H E hr
  unfold Za2
  refine Zao ?_ ?_
  refine Zg5 ?_ ?_ Zbb
  refine Zap (Zb3 hr.units) ?_ Zae (Zaw _)
  refine Zbx Zlx ?_ T.t1z Zn4 ?_
  rfl
  refine Za0 ?_ ?_ ?_
  exact(Zaa (pv 1))
  exact Za5
  rfl
  refine Zao ?_ Zbb
  refine Zbu ?_
  refine Zc5 ?_
  refine Za0 ?_ ?_ ?_
  exact Zbf
  refine Za0 ?_ ?_ ?_
  refine Zc5 ?_
  refine Za0 ?_ ?_ ?_
  exact Zbf
  exact Za5
  rfl
  exact Za5
  rfl
  rfl
  refine Zao ?_ ?_
  refine Zbh (i:=3) ?_ ?_ ?_ ?_
  exact Zg3.nd
  rfl
  first | exact Tbe rfl | exact Tay rfl
  refine Zal (Zil T) (hr.mono (by omega)) ?_ ?_
  rfl
  refine Za0 ?_ ?_ ?_
  exact(Zaa (pv 0))
  refine Za0 ?_ ?_ ?_
  exact(Zaa (pv 1))
  exact Za5
  rfl
  rfl
  refine Zao ?_ ?_
  refine Zg5 ?_ ?_ Zbb
  exact Zap Zqf (Zaa (pv 3)) Zie (Zaw _)
  refine Zao ?_ Zbb
  refine Zbu ?_
  refine Zc5 ?_
  refine Za0 ?_ ?_ ?_
  exact Zbf
  refine Za0 ?_ ?_ ?_
  refine Zc5 ?_
  refine Za0 ?_ ?_ ?_
  exact Zbf
  refine Za0 ?_ ?_ ?_
  exact(Zaa (pv 3))
  exact Za5
  rfl
  rfl
  exact Za5
  rfl
  rfl
  refine Zao ?_ Zbb
  refine Zbu ?_
  refine Zal G2 (hr.mono (Xe _)) ?_ ?_
  rfl
  refine Za0 ?_ ?_ ?_
  exact(Zaa (pv 0))
  refine Za0 ?_ ?_ ?_
  exact(Zaa (pv 1))
  refine Za0 ?_ ?_ ?_
  exact(Zaa (pv 2))
  exact Za5
  rfl
  rfl
  rfl
 ·intro F1 F2 j G1 G2 f cdv A outer s H E hr
  unfold Zat
  refine Zao ?_ ?_
  refine Zbh (i:=3) ?_ ?_ ?_ ?_
  exact Zby.nd
  rfl
  first | exact Tbe rfl | exact Tay rfl
  exact Za3 ixf (Zaa (pv 0)) (Zaa (pv 2)) (fun _ _=>rfl)
  refine Zao ?_ ?_
  refine Zbh (i:=4) ?_ ?_ ?_ ?_
  exact Zby.nd
  rfl
  first | exact Tbe rfl | exact Tay rfl
  exact Zqn Za5
  refine Zao ?_ ?_
  refine Zqv Tak ?_ ?_ ?_ ?_
  rfl
  refine Zgf ?_
  refine Zpk ?_ T.t1H
  rfl
  refine Zca (i:=5) ?_ ?_ ?_
  exact Zby.nd
  rfl
  first | exact Tbe rfl | exact Tay rfl
  refine Zao ?_ ?_
  refine Zbh (i:=6) ?_ ?_ ?_ ?_
  exact Zby.nd
  rfl
  first | exact Tbe rfl | exact Tay rfl
  refine Zal G1 (hr.mono (Xe _)) ?_ ?_
  rfl
  refine Za0 ?_ ?_ ?_
  exact(Zaa (pv 0))
  refine Za0 ?_ ?_ ?_
  refine Zal (Zeg T) (hr.mono (by omega)) ?_ ?_
  rfl
  refine Za0 ?_ ?_ ?_
  exact(Zaa (pv 1))
  refine Za0 ?_ ?_ ?_
  exact Zav Zbd (Zaa (pv 2)) Zae
  refine Za0 ?_ ?_ ?_
  exact(Zaa (pv 5))
  exact Za5
  rfl
  rfl
  rfl
  refine Za0 ?_ ?_ ?_
  exact Zav Zbd (Zaa (pv 2)) Zae
  exact Za5
  rfl
  rfl
  rfl
  refine Zao ?_ ?_
  refine Zg5 ?_ ?_ Zbb
  refine Zap (Zb3 hr.units) ?_ (Zaa (pv 3)) (Zaw _)
  exact Za3 ixf (Zaa (pv 6)) Zae (fun _ _=>rfl)
  refine Zao ?_ Zbb
  refine Zbu ?_
  refine Zc5 ?_
  refine Za0 ?_ ?_ ?_
  exact(Zaa (pv 3))
  refine Za0 ?_ ?_ ?_
  refine Zc5 ?_
  refine Za0 ?_ ?_ ?_
  exact Zbf
  refine Za0 ?_ ?_ ?_
  exact(Zaa (pv 5))
  refine Za0 ?_ ?_ ?_
  exact Za3 ixf (Zaa (pv 6)) Zae (fun _ _=>rfl)
  exact Za5
  rfl
  rfl
  rfl
  exact Za5
  rfl
  rfl
  refine Zao ?_ Zbb
  refine Zfi ?_
  refine Zsi Uy Uz Zgo (Zaa (pv 4)) ?_
  refine Za0 ?_ ?_ ?_
  exact Za3 ixf (Zaa (pv 6)) Zae (fun _ _=>rfl)
  exact Za5
  rfl
  refine Zao ?_ Zbb
  refine Zbu ?_
  refine Zc5 ?_
  refine Za0 ?_ ?_ ?_
  refine Zal (Zhw T) (hr.mono (by omega)) ?_ ?_
  rfl
  refine Za0 ?_ ?_ ?_
  exact(Zaa (pv 3))
  exact Za5
  rfl
  refine Za0 ?_ ?_ ?_
  refine Zc5 ?_
  refine Za0 ?_ ?_ ?_
  exact Zbf
  refine Za0 ?_ ?_ ?_
  exact Za3 ixf (Zaa (pv 4)) Zae (fun _ _=>rfl)
  refine Za0 ?_ ?_ ?_
  exact Za3 ixf (Zaa (pv 4)) Zae (fun _ _=>rfl)
  exact Za5
  rfl
  rfl
  rfl
  exact Za5
  rfl
  rfl
theorem Ydr (T:Top K mg):Fn P w K mg base 26 "plan" ["claim"] Zuv:=by
 refine(fun h=>h:_->Fn P w K mg base 26 _ _ (Za4 1 1 Zo4)) (Zba (N:=["claim"]) (k:=25) T.t1j Yen (by fail "~U1") ?_)
 intro f cdv A outer s H E hr
 unfold Zo4
 fail "~d h"
 refine Zal (Zld T).1 (hr.mono (by decide)) ?_ ?_
 fail "~a b u b"
 refine Zal (Zfo T) (hr.mono (by decide)) ?_ ?_
 fail "~a b u c a b q c a a a"
theorem Zqu (T:Top K mg):Fn P w K mg base 27 "put_tree" ["kinds","side","end","pairs","tree","play"] (Zee 6 7 6 13 Zaq Zax 22).1/\Fn P w K mg base 27 "put_each" ["kinds","side","end","pairs","tree","play"] (Zee 6 7 6 13 Zaq Zax 22).2:=by
 refine(fun h=>h:_->Fn P w K mg base 27 _ _ (Zee 6 7 6 13 Zaq Zax 22).1/\Fn P w K mg base 27 "put_each" ["kinds","side","end","pairs","tree","play"] (Zee 6 7 6 13 Zaq Zax 22).2) (Zqt (N1:=["kinds","side","end","pairs","tree","play","told"]) (N2:=["kinds","side","end","pairs","tree","play","name","numbers","one","other","truth","branch","row"]) (k:=4) T.t1k Zj6 (fun _ _ _ _ _ _ us hl=>by obtain⟨_,_,_,_,_,_,rfl⟩:=us6 hl; rfl) T.t1l Zb5 (fun _ _ _ _ _ _ us hl=>by obtain⟨_,_,_,_,_,_,rfl⟩:=us6 hl; rfl) ?_ ?_ 22)
 ·intro F1 F2 j G1 G2 f cdv A outer s H E hr
  unfold Zaq
  refine Zao ?_ Zbb
  refine Zg5 ?_ ?_ ?_
  refine Zap (Zb3 hr.units) ?_ Zbf (Zaw _)
  exact Za3 ixf (Zaa (pv 4)) Zae (fun _ _=>rfl)
  refine Zao ?_ Zbb
  refine Zfi ?_
  refine Zal G1 (hr.mono (Xe _)) ?_ ?_
  rfl
  refine Za0 ?_ ?_ ?_
  exact(Zaa (pv 0))
  refine Za0 ?_ ?_ ?_
  exact(Zaa (pv 1))
  refine Za0 ?_ ?_ ?_
  exact(Zaa (pv 2))
  refine Za0 ?_ ?_ ?_
  exact(Zaa (pv 3))
  refine Za0 ?_ ?_ ?_
  exact Za3 ixf (Zaa (pv 4)) Zae (fun _ _=>rfl)
  refine Za0 ?_ ?_ ?_
  refine Zav Zbd (Zaa (pv 5)) ?_
  refine Zc5 ?_
  refine Za0 ?_ ?_ ?_
  exact Za3 ixf (Zaa (pv 4)) Zae (fun _ _=>rfl)
  exact Za5
  rfl
  exact Za5
  rfl
  rfl
  rfl
  rfl
  rfl
  rfl
  refine Zao ?_ Zbb
  refine Zg5 ?_ ?_ ?_
  refine Zap (Zb3 hr.units) ?_ Zbf (Zaw _)
  exact Za3 ixf (Zaa (pv 4)) Zae (fun _ _=>rfl)
  refine Zao ?_ Zbb
  refine Zfi ?_
  refine Zal G2 (hr.mono (Xe _)) ?_ ?_
  rfl
  refine Za0 ?_ ?_ ?_
  exact(Zaa (pv 0))
  refine Za0 ?_ ?_ ?_
  exact(Zaa (pv 1))
  refine Za0 ?_ ?_ ?_
  exact(Zaa (pv 2))
  refine Za0 ?_ ?_ ?_
  exact(Zaa (pv 3))
  refine Za0 ?_ ?_ ?_
  exact(Zaa (pv 4))
  refine Za0 ?_ ?_ ?_
  exact(Zaa (pv 5))
  exact Za5
  rfl
  rfl
  rfl
  rfl
  rfl
  rfl
  refine Zao ?_ ?_
  refine Zbh (i:=6) ?_ ?_ ?_ ?_
  exact Zj6.nd
  rfl
  first | exact Tbe rfl | exact Tay rfl
  refine Zuh ?_ ?_
  refine Zpm (i:=2) (Zi9 T) (hr.mono (by omega)) (pv 2) ?_
  refine Za0 ?_ ?_ ?_
  exact(Zaa (pv 4))
  refine Za0 ?_ ?_ ?_
  exact(Zaa (pv 5))
  exact Za5
  rfl
  rfl
  refine Zpm (i:=2) (Zif T) (hr.mono (by omega)) (pv 2) ?_
  refine Za0 ?_ ?_ ?_
  exact(Zaa (pv 4))
  refine Za0 ?_ ?_ ?_
  exact(Zaa (pv 5))
  exact Za5
  rfl
  rfl
  refine Zao ?_ Zbb
  refine Zfi ?_
  refine Zal (Zjw T) (hr.mono (by omega)) ?_ ?_
  rfl
  refine Za0 ?_ ?_ ?_
  exact(Zaa (pv 0))
  refine Za0 ?_ ?_ ?_
  exact(Zaa (pv 1))
  refine Za0 ?_ ?_ ?_
  exact(Zaa (pv 3))
  refine Za0 ?_ ?_ ?_
  exact Za3 ixf (Zaa (pv 6)) Zae (fun _ _=>rfl)
  refine Za0 ?_ ?_ ?_
  exact Za3 ixf (Zaa (pv 6)) Zae (fun _ _=>rfl)
  exact Za5
  rfl
  rfl
  rfl
  rfl
  rfl
 ·intro F1 F2 j G1 G2 f cdv A outer s H E hr
  unfold Zax
  refine Zao ?_ ?_
  refine Zbh (i:=6) ?_ ?_ ?_ ?_
  exact Zb5.nd
  rfl
  first | exact Tbe rfl | exact Tay rfl
  refine Zav Zbd ?_ Zae
  refine Zbx Zk1 ?_ T.t1z Zn4 ?_
  rfl
  refine Za0 ?_ ?_ ?_
  exact(Zaa (pv 5))
  exact Za5
  rfl
  refine Zao ?_ ?_
  refine Zbh (i:=7) ?_ ?_ ?_ Zph
  exact Zb5.nd
  rfl
  first | exact Tbe rfl | exact Tay rfl
  refine Zao ?_ ?_
  refine Zqv Tak ?_ ?_ ?_ ?_
  rfl
  refine Zr0 ?_ T.t1G ?_
  rfl
  refine Za0 ?_ ?_ ?_
  refine Zpk ?_ T.t1H
  rfl
  refine Za0 ?_ ?_ ?_
  refine Zd6 (Zaa (pv 4)) ?_ Zfd
  exact Ze9 Zae
  exact Za5
  rfl
  rfl
  refine Zxf ?_ ?_
  rfl
  refine Zh3 ?_ ?_
  refine Zca (i:=10) ?_ ?_ ?_
  exact Zb5.nd
  rfl
  first | exact Tbe rfl | exact Tay rfl
  refine Zh3 ?_ Zsq
  refine Zca (i:=11) ?_ ?_ ?_
  exact Zb5.nd
  rfl
  first | exact Tbe rfl | exact Tay rfl
  refine Zao ?_ ?_
  refine Zfi ?_
  refine Zal G1 (hr.mono (Xe _)) ?_ ?_
  rfl
  refine Za0 ?_ ?_ ?_
  exact(Zaa (pv 0))
  refine Za0 ?_ ?_ ?_
  exact(Zaa (pv 1))
  refine Za0 ?_ ?_ ?_
  exact(Zaa (pv 2))
  refine Za0 ?_ ?_ ?_
  exact(Zaa (pv 3))
  refine Za0 ?_ ?_ ?_
  exact(Zaa (pv 11))
  refine Za0 ?_ ?_ ?_
  refine Zav Zbd (Zaa (pv 5)) ?_
  refine Zc5 ?_
  refine Za0 ?_ ?_ ?_
  exact(Zaa (pv 10))
  exact Za5
  rfl
  exact Za5
  rfl
  rfl
  rfl
  rfl
  rfl
  rfl
  refine Zao ?_ ?_
  refine Zbh (i:=12) ?_ ?_ ?_ ?_
  exact Zb5.nd
  rfl
  first | exact Tbe rfl | exact Tay rfl
  refine Za3 ixf ?_ Zae (fun _ _=>rfl)
  refine Za3 ixf (Zaa (pv 3)) ?_ (fun _ _=>rfl)
  exact Zen Zc3 Zae
  refine Zao ?_ ?_
  refine Zg5 ?_ ?_ Zbb
  refine PWf.pt ?_
  refine Zw5 ?_ ?_
  refine Zap (Zll hr.units) (Zaa (pv 6)) (Zaa (pv 12)) ?_
  with_unfolding_all rfl
  refine Zhx ?_
  refine Zap (Zll hr.units) ?_ (Zaa (pv 12)) ?_
  exact Zen Zc3 (Zaa (pv 6))
  with_unfolding_all rfl
  exact Zao Yan Zbb
  refine Zao ?_ Zbb
  refine Zj8 ?_ ?_
  refine Zav Zhh ?_ Zae
  refine Zbx Zk1 ?_ T.t1z Zn4 ?_
  rfl
  refine Za0 ?_ ?_ ?_
  exact(Zaa (pv 3))
  exact Za5
  rfl
  refine Zmy (Zaa (pv 7)) ?_ Yhl
  refine Za3 ixf (Zaa (pv 12)) ?_ (fun _ _=>rfl)
  exact Zen Zc3 Zae
  refine Zao ?_ ?_
  refine Zbh (i:=8) ?_ ?_ ?_ ?_
  exact Zb5.nd
  rfl
  first | exact Tbe rfl | exact Tay rfl
  exact Za3 Ygl (Zaa (pv 7)) (Zaa (pv 6)) (fun _ _=>rfl)
  refine Zao ?_ ?_
  refine Zbh (i:=9) ?_ ?_ ?_ ?_
  exact Zb5.nd
  rfl
  first | exact Tbe rfl | exact Tay rfl
  refine Za3 Ygl (Zaa (pv 7)) ?_ (fun _ _=>rfl)
  exact Zen Zc3 (Zaa (pv 6))
  refine Zao ?_ Zbb
  refine Zfi ?_
  refine Zal (Zjw T) (hr.mono (by omega)) ?_ ?_
  rfl
  refine Za0 ?_ ?_ ?_
  exact(Zaa (pv 0))
  refine Za0 ?_ ?_ ?_
  exact(Zaa (pv 1))
  refine Za0 ?_ ?_ ?_
  exact(Zaa (pv 3))
  refine Za0 ?_ ?_ ?_
  refine Zc5 ?_
  refine Za0 ?_ ?_ ?_
  exact Zbf
  refine Za0 ?_ ?_ ?_
  exact(Zaa (pv 8))
  refine Za0 ?_ ?_ ?_
  exact(Zaa (pv 9))
  refine Za0 ?_ ?_ ?_
  exact(Zaa (pv 6))
  exact Za5
  rfl
  rfl
  rfl
  rfl
  refine Za0 ?_ ?_ ?_
  refine Zal (Zpv T) (hr.mono (by omega)) ?_ ?_
  rfl
  refine Za0 ?_ ?_ ?_
  refine Za3 ixf ?_ Zae (fun _ _=>rfl)
  exact Za3 ixf (Zaa (pv 3)) (Zaa (pv 8)) (fun _ _=>rfl)
  refine Za0 ?_ ?_ ?_
  refine Za3 ixf ?_ Zae (fun _ _=>rfl)
  exact Za3 ixf (Zaa (pv 3)) (Zaa (pv 9)) (fun _ _=>rfl)
  refine Za0 ?_ ?_ ?_
  exact(Zaa (pv 6))
  exact Za5
  rfl
  rfl
  rfl
  exact Za5
  rfl
  rfl
  rfl
  rfl
  rfl
theorem Zrq (T:Top K mg):Fn P w K mg base 28 "paper" ["claim","side","end"] Znx:=by
 refine(fun h=>h:_->Fn P w K mg base 28 _ _ (Za4 3 5 Zj2)) (Zba (N:=["claim","side","end","told","pairs"]) (k:=27) T.t1m Zmq (by fail "~U3") ?_)
 intro f cdv A outer s H E hr
 unfold Zj2
 fail "~e B"
 exact Zmq.nd
 fail "~a f"
 refine Zal (Ydr T) (hr.mono (by decide)) ?_ ?_
 fail "~a b i c a e k"
 refine Zap (Zfu hr.units) ?_ (Zaa (pv 1)) (Zaw _)
 fail "~I ag e J"
 exact Zmq.nd
 fail "~a f P e E"
 refine Zal (Zqu T).1 (hr.mono (by decide)) ?_ ?_
 fail "~a b u b j b m b r b I b O c a a a a a a d h"
 refine Yee (cn:=[]) ?_ (Yc8 (x := "step") (y0 := "row") (cn:=[]) (ci:=[]) (by decide +kernel)) ?_ ?_ ?_
 fail "~a"
 exact Zgf (Zaa (pv 4))
 fail "~o ae o i"
theorem Zp0 (T:Top K mg) (NB_row_paper:Zom K mg base "row_paper"):Fn P w K mg base 29 "row_paper" ["claim"] Zhj:=by
 refine(fun h=>h:_->Fn P w K mg base 29 _ _ (Za4 1 2 Zd3)) (Yay (N:=["claim","end"]) (k:=28) T.t1n NB_row_paper Ziv (by fail "~U1") ?_)
 intro f c TT A outer s H E ht hC hB hr hnew
 unfold Zd3
 fail "~e"
 refine Zxs (n := "row_paper") (x := "claim") (i:=1) (j:=0) (t:=0) (cx:=s.heap.objs.size+1) (T.t1n.first rfl) (fun _=>rfl) Ziv.nd rfl rfl rfl rfl rfl ht hC hB rfl (by with_unfolding_all rfl) (by with_unfolding_all rfl) (hnew "claim" _ (by with_unfolding_all rfl)) rfl rfl rfl
 fail "~d h"
 refine Zal (Zrq T) (hr.mono (by decide)) ?_ ?_
 fail "~a b i b w b j c a a a"
theorem Zml (T:Top K mg) (NB_term_paper:Zom K mg base "term_paper"):Fn P w K mg base 29 "term_paper" ["claim"] Zgb:=by
 refine(fun h=>h:_->Fn P w K mg base 29 _ _ (Za4 1 2 Zdk)) (Yay (N:=["claim","end"]) (k:=28) T.t1o NB_term_paper Zia (by fail "~U1") ?_)
 intro f c TT A outer s H E ht hC hB hr hnew
 unfold Zdk
 fail "~e"
 refine Zxs (n := "term_paper") (x := "claim") (i:=1) (j:=0) (t:=1) (cx:=s.heap.objs.size+1) (T.t1o.first rfl) (fun _=>rfl) Zia.nd rfl rfl rfl rfl rfl ht hC hB rfl (by with_unfolding_all rfl) (by with_unfolding_all rfl) (hnew "claim" _ (by with_unfolding_all rfl)) rfl rfl rfl
 fail "~d h"
 refine Zal (Zrq T) (hr.mono (by decide)) ?_ ?_
 fail "~a b i b w b j c a a a"
theorem Yfm (T:Top K mg) (NB_row_paper:Zom K mg base "row_paper") (NB_term_paper:Zom K mg base "term_paper"):Fn P w K mg base 30 "law" ["script"] Ztq:=by
 refine(fun h=>h:_->Fn P w K mg base 30 _ _ (Za4 1 8 Zu7)) (Zba (N:=["script","claim","side","match","steps","k","some","turn"]) (k:=29) T.t1p Ybw (by fail "~U1") ?_)
 intro f cdv A outer s H E hr
 unfold Zu7
 have nd:=Ybw.nd
 fail "~e"
 refine Zbh (i:=1) ?_ ?_ ?_ ?_
 fail "~g a f"
 refine Zal (Zpf T) (hr.mono (by decide)) ?_ ?_
 fail "~a b i b v C b q b q b q b q b q b q b q b q c a a a a a a a a x 6 av a b aw a b i b q c a a b q c a a c a a e N g a f"
 refine Za3 (Zub hr.units) ?_ ?_ (fun _ _=>rfl)
 refine Zal (Zlf T) (hr.mono (by decide)) ?_ ?_
 fail "~a b j c a O e B g a f"
 refine Yac (Znj T) (hr.mono (by decide)) ?_ ?_
 fail "~a b j c a e J g a f P e"
 refine Zg5 ?_ ?_ ?_
 exact Zap (Zb3 hr.units) (Zaa (pv 2)) Zbf (Zaw _)
 fail "~d J g a f"
 refine Zal (Zp0 T NB_row_paper) (hr.mono (by decide)) ?_ ?_
 fail "~a b j c a d J g a f"
 refine Zal (Zml T NB_term_paper) (hr.mono (by decide)) ?_ ?_
 fail "~a b j c a e n a U a b"
 refine Zbx (Zyc (by rfl)) ?_ T.t1C Yf3 ?_
 fail "~a b q b"
 refine Zav Zbd Zae ?_
 fail "~l a b i c a c a a c a 3 g a f e ac g a f"
 refine Zd6 ?_ ?_ Zfd
 fail "~av a b aw a b i b K c a a b q c a a"
 exact Ze9 Zae
 fail "~e k H s"
 refine Zal (Zm8 T) (hr.mono (by decide)) ?_ ?_
 fail "~a b p b j b m b r b 5 c a a a a a d A e k aH"
 refine Zal (Zjn T) (hr.mono (by decide)) ?_ ?_
 fail "~a b R b"
 exact Zb6 (ok_Match_play T) (hr.mono (by decide)) (Zaa (pv 3))
 fail "~c a a"
 exact Zbt (Zb3 hr.units) (Zaa (pv 2)) Zbf (Zaw _)
 fail "~d A d n a U a b l a b R c a c a"
 refine Zca (i:=7) ?_ ?_ ?_
 fail "~g a f d E"
 exact Zb6 (Zhv T) (hr.mono (by decide)) (Zaa (pv 3))
 fail "~d h 8"
 exact Zb6 (ok_Match_play T) (hr.mono (by decide)) (Zaa (pv 3))
 fail "~O"
theorem Ygr (T:Top K mg) (NB_row_paper:Zom K mg base "row_paper") (NB_term_paper:Zom K mg base "term_paper"):Fn P w K mg base 30 "law" ["script"] Ztq:=by
 exact Yfm T NB_row_paper NB_term_paper
end
theorem walk {l:Tcq} {q:Vi} {loose:List Str} {XP:(Str->Option Vb)->Vy->Prop} {YP:Vs->Vy->Prop} {d:DefRec} {K:Params->Xb} (hn:l.most=some 63) (hdf:d.params.defaults=[])
  (hd:d.name = "law") (hY:∀ (w:Vs) (h:Vy),YP w h->(K w.params).In h) (hrec:∀ n∈(["row_paper","term_paper"]:List String),((PyProof.Rows.recsOf q).find? (fun e=>e.name==Ua n)).isSome=true) (hT:∀ (w:Vs) (mg:Str->Option Vb) (h:Vy),(K w.params).In h->h.Ns Vh mg->Top (K w.params) mg/\∃ tabs,Tabs (K w.params) ["row_paper","term_paper"] tabs)
  (pure:∀ ns:List Int,ns.length<=63->∃ Hd',Ztq [.fl (ns.map .int)] (Zfp ["row_paper","term_paper"])=some (.bl true,Hd')):Wgs q loose XP YP l.row.toRowW d [] (fun f vs=>Tcw f vs):=by
 refine Zzi (k:=30) (x := "script") (G:=Ztq) (names:=["row_paper","term_paper"]) hn hdf ⟨rfl,by decide,by decide,rfl⟩ hY hrec (fun w mg h KX G=>(hT w mg h KX G).2) (fun w mg fa h KX G hmg=>?_) pure
 have T:=(hT w mg h KX G).1
 obtain⟨f,fd,F,hm⟩:=T.t1p
 have e0:f=fa:=by rw[hd] at hmg; rw[hm] at hmg; cases hmg; rfl
 subst e0
 have B:=F.binds (ps:=["script"]) (fun _ _ _ _ _ _ us hl=>by obtain⟨_,rfl⟩:=us1 hl; rfl)
 refine⟨fd,fun s u=>?_,fun base kb nb NB=>?_⟩
 ·obtain⟨oc,od,kV,doc,pm,an,cdv,ct,osl,rfl,lk,hcd⟩:=F.ex
  exact .of_eq rfl
 ·obtain⟨f',fd',G1,hb,hk,hm',oc',od',osl',lk'⟩:=(Ygr (P:=l.prog) (w:=w) (base:=base) T (NB "row_paper" (by simp)) (NB "term_paper" (by simp))).ex
  have e1:f'=f:=by rw[hm] at hm'; cases hm'; rfl
  subst e1
  have e2:fd'=fd:=by
   obtain⟨oc,od,kV,doc,pm,an,cdv,ct,osl,e3,lk,hcd⟩:=F.ex
   rw[lk] at lk'
   have e4:=Xx.inj lk'
   injection e4 with _ _ e5 _
   injection e5 with e6
   exact e6.symm
  subst e2
  exact G1
end K08
open PySem PySem.W PyProof.Rows L2 DL
local macro_rules | `(tactic| fail $s:str)=>do
 if s.getString.take 1 != "=" then Lean.Macro.throwUnsupported
 let i:=Lean.mkIdent
 match (s.getString.drop 1).toString with
  | "T" => `(tactic| (show Tf (L2.KOf $(i `KX)) _ _ _; dsimp only[L2.KOf]; refine' tf_mk $(i `KX) $(i `G) ?a ?l ?c ?k; (case a=>k_is); (case l=>k_is); (case c=>k_is); (case k=>k_is)))
  | "M" => `(tactic| (show Tm (L2.KOf $(i `KX)) _ _ _ _; dsimp only[L2.KOf]; refine' tm_mk ?za ?zb ?zc ?zd ?ze ?zg ?zh ?zi ?zj ?zl; (case za=>k_is); (case zb=>k_is); (case zc=>k_is); (case zd=>k_is); (case ze=>k_is); (case zg=>k_is); (case zh=>k_is); (case zi=>k_is); (case zj=>k_is); (case zl=>k_is)))
  | "N" => `(tactic| (refine' PySem.W.mg_none_of $(i `KX) $(i `G) ?z; (case z=>k_is)))
  | _=>Lean.Macro.throwUnsupported
set_option maxRecDepth 100000 in
set_option maxHeartbeats 0 in
theorem PySem.Challenge.cw_allsome_k86_whole_matches_by_papers_holds : PySem.Challenge.rw_allsome_k86_whole_matches_by_papers.Holds := by
 w_on; o_law; refine holds_open (q:=(PySem.Challenge.vwOf PySem.Challenge.pw_allsome_k86_whole_matches_by_papers)) (loose:=[("left_claims" : Str)]) (Xt:=PySem.Challenge.xt0) (XP:=XL (PySem.Challenge.vwOf PySem.Challenge.pw_allsome_k86_whole_matches_by_papers) []) (Yf:=Hook.obs PySem.Challenge.hk0) (Ya:=Hook.val PySem.Challenge.hk0) (YP:=InK PySem.Challenge.mk0.heap_39) (N:=7104) PySem.Challenge.left0 (Hook.of PySem.Challenge.hk0) (Hook.keeps PySem.Challenge.hk0) (fun s e=>xl_of s (Wfe.mp e).1) XL.keeps (by rfl) (by rfl) (by rfl) (fun s e=>recFacts_of (Wfe.mp e).2) (by rfl) (by assumption) (by decide +kernel) ⟨rfl,rfl,rfl,rfl,rfl,by decide +kernel⟩ ?hw ?hc
 (case hw=>w_witness2)
 k_fill
 refine K08.walk (l:=PySem.Challenge.rw_allsome_k86_whole_matches_by_papers) rfl rfl rfl (fun w h Y=>Y) ?R ?T K08.pure_law
 case R=>decide +kernel
 case T =>
  intro w mg h KX G
  have t0X:Ti (L2.KOf KX) mg "Match" "Match.__init__" K08.s1M:=by
   dsimp only[L2.KOf]
   refine' ti_mk KX G ?za ?zb ?zc ?zd ?ze ?zi ?zj ?zl
   (case za=>k_is); (case zb=>k_is); (case zc=>k_is); (case zd=>k_is); (case ze=>k_is); (case zi=>k_is); (case zj=>k_is); (case zl=>k_is)
  have t1n:Tn (L2.KOf KX) mg "row_paper" K08.s2R:=by
   dsimp only[L2.KOf]
   refine' Yh2 KX G ?a ?l ?c ?k ?m ?v
   (case a=>k_is); (case l=>k_is); (case c=>k_is); (case k=>k_is); (case m=>k_is); (case v=>rfl)
  have t1o:Tn (L2.KOf KX) mg "term_paper" K08.s2V:=by
   dsimp only[L2.KOf]
   refine' Yh2 KX G ?a ?l ?c ?k ?m ?v
   (case a=>k_is); (case l=>k_is); (case c=>k_is); (case k=>k_is); (case m=>k_is); (case v=>rfl)
  have t1q:Kl (L2.KOf KX) "Match" ["begun","picked"]:=by
   dsimp only[L2.KOf]
   refine' Yb1 (Yb1 (kl_mk ?za ?zb ?zc ?zd ?ze) ?zn0 ?zf0) ?zn1 ?zf1
   (case za=>k_is); (case zb=>k_is); (case zc=>k_is); (case zd=>k_is); (case ze=>k_is); (case zn0=>k_is); (case zf0=>k_is); (case zn1=>k_is); (case zf1=>k_is)
  have t1r:mg "left_claims" = mg "left" := by
   refine' al_mk KX G ?za ?zb
   (case za=>k_is); (case zb=>k_is)
  have t1H:Gc (L2.KOf KX) mg "TRUTHS" K08.k_TRUTHS:=by
   dsimp only[L2.KOf]
   refine' Zuf KX G ?a ?l
   (case a=>k_is); (case l=>k_is)
  have t1I:Fv (L2.KOf KX) mg "claims_row" := by
   dsimp only[L2.KOf]
   refine' Yfr KX G ?za
   (case za=>k_is)
  have t1J:Fv (L2.KOf KX) mg "told_term" := by
   dsimp only[L2.KOf]
   refine' Yfr KX G ?za
   (case za=>k_is)
  refine' ⟨⟨by fail "=T",by fail "=T",by fail "=T",by fail "=T",by fail "=T",by fail "=T",by fail "=T",by fail "=T",by fail "=T",by fail "=T",by fail "=T",by fail "=T",by fail "=T",by fail "=T",by fail "=T",by fail "=T",by fail "=T",by fail "=T",by fail "=T",by fail "=T",by fail "=T",by fail "=T",by fail "=T",by fail "=T",by fail "=T",by fail "=T",by fail "=T",by fail "=T",by fail "=T",by fail "=T",by fail "=T",by fail "=T",by fail "=T",by fail "=T",by fail "=T",by fail "=T",by fail "=T",by fail "=T",by fail "=T",by fail "=T",by fail "=T",by fail "=T",by fail "=T",by fail "=T",by fail "=T",by fail "=T",by fail "=T",by fail "=T",by fail "=T",t0X,by fail "=M",by fail "=M",by fail "=M",by fail "=M",by fail "=M",by fail "=M",by fail "=T",by fail "=M",by fail "=T",by fail "=T",by fail "=T",by fail "=T",by fail "=T",by fail "=T",by fail "=T",t1n,t1o,by fail "=T",t1q,t1r,by fail "=N",by fail "=N",by fail "=N",by fail "=N",by fail "=N",by fail "=N",by fail "=N",by fail "=N",by fail "=N",by fail "=N",by fail "=N",by fail "=N",by fail "=N",by fail "=N",by fail "=N",t1H,t1I,t1J⟩,Zzu t1n rfl t1o rfl ?td ?tn⟩
  (case td=>kernel_rfl)
  (case tn=>kernel_rfl)
