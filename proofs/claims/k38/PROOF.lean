import PyProof.Rows.All
import Wide.All
import Wide.FinOn
import Lean
import PyProof.EqAt
import PyProof.EqKinds
import PyProof.TupleCall
import KE.KDictList
import KE.KDictOf
import KE.KIntText
import KE.KItemsList
import KE.KSortKey
import KE.KSortTup
import KE.KTryMore
import PyProof.AttrMissHeap
import PyProof.AutoSeq1
import PyProof.ExcAttrAll.ValueError
import PyProof.FitsBits
import PyProof.MeetsStr2
import PyProof.MinMaxWalk
import PyProof.P3Eq
import PyProof.P3In
import PyProof.ReprLen
import PyProof.Rows.DictRows
import PyProof.Rows.Own
import PyProof.Rows.RuleB_bool
import PyProof.Rows.TupIter
import PyProof.SeqI3
import PyProof.StrBlockG
import PyProof.StrOps2
import PyProof.StrWalks
import PyProof.SumWalkG
import PyProof.TupleOfSeq
import PyProof.WalkInts
import KE.KDictList
import KE.KSortAsk
import KE.KSortKey
import KE.KTryMore
import PySem.Challenge.RW_allsome_k38_whole_whoever_plays_by_row_p
set_option Elab.async false
set_option compiler.extract_closed false
set_option bootstrap.genMatcherCode false
set_option linter.all false
set_option maxRecDepth 100000
open PySem.PyData renaming eqv → Ua, eqvAll → Ul, canLayAll0 → Taa, strOk → Tai, canLay0 → Tal, depth → Tau, depthAll → Tcf, list → Tcj
open PySem.Str renaming ofString → Ub
open PySem.Builtin.SmallTypes renaming ownedTupleIsFree → Uc, ownedTupleHandOut → Ud
open PySem.NameKind renaming free → Ue, cell → Tac
open PyProof.Rows renaming callWith_type1 → Uf, slot_tuple_getitem → Ug
open PySem.F renaming slot_list_append → Uh, type_list_append → Ui, slot_enumerate_next → Uj, slot_dict_keyiterator_next → Uk, slot_dict_setdefault → Uq, slot_tuple_iterator_next → Ut, args_enumerate_next_1 → Tad, entry_enumerate_next → Tae, called_enumerate → Taf, type_dict_setdefault → Tag, slot_tuple_mul → Tam, args_tuple_add_2 → Tan, entry_tuple_add → Tap, slot_list_index → Tar, slot_tuple_add → Tas, entry_enumerate_new → Tav, args_dict_keyiterator_next_1 → Taw, slot_bool_hash → Tax, entry_dict_keyiterator_next → Tay, args_tuple_iterator_next_1 → Tba, slot_int_rmul → Tbe, entry_tuple_iterator_next → Tbf, slot_zip_next → Tbg, args_tuple_mul_2 → Tbm, entry_tuple_mul → Tbr, slot_list_insert → Tbs, plainAttrs_dict → Tbv, type_list_index → Tbw, typeCall_enumerate_1 → Tbz, newCall_enumerate_1 → Tcb, slot_dict_len → Tcc, slot_dict_get → Tce, args_object_init_2 → Tcg, args_int_rmul_2 → Tcm, args_zip_next_1 → Tcp
open PySem renaming sizeLine_eq → Um, mem_of_lookup → Ur, Spec → Uv, call → Tcn, seqSlot_of → Tcr
open Ne renaming symm → Uo
open PySem.Builtin.List renaming listExtendWith → Us, listFitsIndex → Taj, listTooLong → Tao
open PySem.Value renaming none → Uu, ref → Uy, type → Tbq, bool → Tcw
open PySem.Builtin.Slice renaming slicePlaces → Uw, sliceAdjust → Tak, sliceApplied → Tbi
open False renaming elim → Ux
open PySem.Builtin.Tuple renaming tupleExact → Uz, tupleItemsOf → Tbj, tupleTooMany → Tbk, tupleIsExact → Tbl, tupleHashOf → Tbo
open PySem.Builtin.Range renaming rangeSize → Tab, small → Tci
open ForInStep renaming yield → Tah
open PySem.Obj renaming data_mapFields → Taq, mapSeq → Tbc, isFreed_of_fields → Tca, data_mapDictKeys → Tch, cls_mapFields → Tco
open PySem.Calls renaming callWith_builtin → Tat, evalArgs_plain → Taz, Name_function_global → Tbh
open PySem.Builtin.Dict_items renaming ownsTuple → Tbb
open True renaming intro → Tbd
open PySem.Code renaming quiet_builtin → Tbn
open Decidable renaming byContradiction → Tbp
open Function renaming comp_def → Tbt
open PySem.Shared renaming heap → Tbu
open PySem.AutoSeq1 renaming idx_int → Tbx
open PyProof renaming noPylong_small → Tby
open PySem.Builtin.Dict renaming showsAll → Tcd
open Sum renaming inl → Tck, inr → Tcl
open List.Sublist renaming refl → Tcq
open PySem.PassesOwn renaming never → Tcs
open PySem.SeqAt.EqAt renaming bool_bool → Tct, int_bool → Tcu, bool_int → Tcv
open PySem.Paired renaming length → Tcx
open PyProof.Rows.KskEnd renaming intro → Tcy
open PySem.IsRange renaming new → Tcz
open Lean in
local macro_rules (kind:=Lean.Parser.Command.declaration) | d=>do
 if d[0].getArgs.any (fun x=>x[0].isOfKind `Lean.Parser.Command.nonrec) then return d.setArg 0 (<- `(command| noncomputable def a:=1)).raw[0]
 else Macro.throwUnsupported
open PySem renaming wpAny_bind → Va, Value → Vb, wpAny_pure → Vc, Shared → Vd, Addr → Ve, starEach → Vf, wpAny → Vg, Program → Vh, wpAny_callSpecial?_slot → Vi, Paired → Vj, wpAny_setField_rec → Vk, wpAny_field → Vl, wpAny_loadPart' → Vm, model → Vn, wpAny_call_entry → Vo, mainGlobals → Vp, bootBuiltins → Vq, compareOp → Vr, World → Vs, wpAny_newObj_type → Vt, PyData → Vu, Expr → Vv, Around → Vw, wpAny_holding → Vx, Heap → Vy, binaryOp → Vz, wpAny_typeNameOfWhole_keyiter → Uaa, sysModules → Uab, DictEntry → Uac, wpAny_pyIter_tuple → Uad, Stmt → Uae, wpAny_seqItems → Uaf, backTo → Uag, wpAny_passesOwn → Uah, foldedSetIterable → Uai, wpAny_attempt → Uaj, assignEach → Uak, wpAny_truthy_bool → Ual, wpAny_pyIter_enum → Uam, wpAny_pyIter_list → Uan, wpAny_dictEntries → Uao, rawInt → Uap, IsEnum → Uaq, IsPair → Uas, keywordEach → Uat, wpAny_mono → Uau, call_meets → Uav, behindInMarks → Uaw, FuncData → Uax, wpAny_Call_Name_kw → Uay, NameKind → Uaz, codeAny_builtin → Ubb, wpAny_Call_method_late → Ubc, sizeLine_eq → Ubd, sliceBounds → Ube, wpAny_rule → Ubf, tupleKind → Ubg, pyNext → Ubh, codeAny_mono → Ubi, wpAny_isInstance → Ubj, wpAny_updateSeq_pair → Ubk, wpAny_execs_nil → Ubl, Keyword → Ubm, wpAny_letGo → Ubn, wpAny_letOwnedTupleGo_enum → Ubo, wpAny_binaryOp_repeat_ref → Ubp, wpAny_setField → Ubq, firstArgMember → Ubr, isSubtype_stop → Ubs, wpAny_comprehension_free → Ubt, wpAny_standAt → Ubv, attributeBase → Ubw, backToKw → Ubx, wpAny_newList → Uby, wpAny_onRaise → Ubz, noFill_tuple_add → Uca, wpAny_pyNext_range_end → Ucb, wpAny_pyIter_rangeiter → Ucc, swapsWith → Ucf, letOwnedTupleGo → Ucg, wpAny_typeOf → Uci, IsEnumOut → Ucj, wpAny_stack_any → Uck, wpAny_notOrdered_dict → Ucl, wpAny_dictEpoch → Ucm, wpAny_isOneOf_keyiter → Ucn, typeIs_int → Uco, wpAny_loadName_local → Ucp, lookup_relabel_local → Ucq, wpAny_pyIter_keyiter → Ucr, codeAny_call_builtin → Ucs, assign → Ucv, wpAny_newTuple → Ucw, dictSetDefault → Ucy, Scope → Ucz, wpAny_loadName_cell → Uda, holding → Udb, IsRangeIter → Udc, getItem → Udd, callerA → Ude, field → Udf, IsZip → Udh, seq_tuple_add → Udi, IsPart → Udj, setField → Udk, sub_enumerate → Udl, ZipApart → Udm, concat_meets → Udo, callType_new → Udp, Operator → Udr, compEnvC → Uds, callWith → Udt, hashInt → Udu, PassesOwn → Udv, codeAny → Udw, wpAny_of_eq → Udx, wpAny_mkInt → Udy, storedH → Udz, Meets → Uea, stored → Ueb, BindsTo → Ued, valueAt → Uee
open PyProof.Rows renaming seqObj → Uar, IntsAre → Uba, AllBare → Ubu, subscriptTail_builtinR → Ucd, call_function_entry_kw → Uce, envOfC → Uch, entry_proto_collect' → Uct, callWith_builtin_kwB → Ucu, boot_enumerate → Ucx, wpAny_call_entry_kw → Udg, call_abs_int → Udn, evalArgs_kwB → Udq, IsTup → Uec
open PySem.Heap renaming get?_push_of_some → Xa, get?_push_size → Xf, lt_size → Xg, SameBut → Xx, size_push → War, get?_update_self → Wcy, ExtBut → Wdf
open PySem.W renaming Frag → Xb, kia_one → Wbx, fnOf → Wby, keepIn → Wcb, nsIn → Wcx, codeIn → Wdn, methodObj → Wdp, cellsFrom_some → Wea, callWith_K → Wer, WalkO → Wes, kitx_list → Wex, mg_of → Wfo
open List renaming getElem?_eq_some_iff → Xc, getElem?_eq_getElem → Xd, mem_cons → Xh, length_map → Xi, size_toArray → Xj, replicate → Xk, getD_eq_getElem?_getD → Xl, getElem?_append_left → Xm, mem_append → Xn, getElem_mem → Xo, mem_map → Xp, map_cons → Xs, getElem?_map → Xv, append_nil → Xw, length_append → Xz, mem_filter → Waa, mem_append_right → Wac, mem_of_getElem? → Wae, all_eq_true → Waf, mem_cons_of_mem → Wag, map_append → Wah, getElem?_set_ne → Waj, getElem?_append_right → Wak, exists_cons_of_length_eq_add_one → Wal, length_nil → Wam, mem_range → Wan, replicate_succ → Wap, filter_sublist → Was, length_filter_le → Wat, length_take → Wau, lookup_cons → Wav, any_eq_true → Waw, append_assoc → Wax, mem_append_left → Way, getElem?_set_self → Waz, map_map → Wbb, mem_singleton → Wbc, filter_cons_of_neg → Wbd, mem_iff_getElem → Wbe, drop_eq_getElem_cons → Wbf, take_append_drop → Wbg, filter_map → Wbh, getElem?_take_of_lt → Wbk, length_drop → Wbl, cons → Wbm, map_drop → Wbo, flatten_cons → Wbp, nodup_append → Wbq, nodup_cons → Wbr, cons_append → Wbt, length → Wbv, any_eq_false → Wbw, filter_cons_of_pos → Wbz, length_cons → Wca, mem_cons_self → Wcc, filter_append → Wcd, length_singleton → Wce, set_getElem_self → Wcf, mem_of_find?_eq_some → Wck, range → Wcl, mem_filterMap → Wcm, getElem?_cons_succ → Wcn, find?_cons → Wco, any_cons → Wcp, findIdx?_eq_some_iff_getElem → Wcq, find?_some → Wcr, take_of_length_le → Wct, find?_cons_of_pos → Wcu, find?_cons_of_neg → Wcv, filter_eq_nil_iff → Wcw, getElem?_eq_none → Wcz, not_mem_nil → Wda, take_append_of_le_length → Wdb, filterMap_cons → Wdc, nil_append → Wde, map_congr_left → Wdh, map_nil → Wdi, pairwise_cons → Wdj, getLast?_cons → Wdk, find?_eq_none → Wdm, getLast?_eq_some_iff → Wdo, foldl → Wdq, getElem?_set → Wdr, pairwise_map → Wds, sublist_append_left → Wdt, getElem?_replicate → Wdu, all_cons → Wdv, getElem_zip → Wdz, drop_eq_nil_of_le → Web, drop_of_length_le → Wec, range_succ_eq_map → Wed, of_mem_zip → Wef, mem_iff_getElem? → Weh, forIn_cons → Wei, length_zip → Wek, getLast?_append → Wel, lookup → Wen, mem_map_of_mem → Weo, length_pos_iff → Wep, zip_cons_cons → Wet, set → Weu, map_take → Wev, getElem?_inj → Wew, find?_append → Wey, getElem_inj → Wfb, zipIdx_cons → Wfe, zipIdx_nil → Wfi, all_append → Wfk, nodup_nil → Wfm, forIn_nil → Wfn
open Nat renaming le_refl → Xe, ne_of_lt → Xq, lt_of_lt_of_le → Xu, le_trans → Wab, lt_irrefl → Wbn, zero_le → Wbs, ne_of_gt → Wbu, zero_add → Wcg, lt_succ_of_lt → Wch, pow_le_pow_right → Wci, le_succ → Wdg, succ_ne_self → Wdy, le_of_lt → Wee, mul_comm → Weg, lt_succ_self → Wfd, succ_le_succ → Wff, not_lt_zero → Wfh, min_eq_left → Wfj
open Int renaming toNat_natCast → Xr, emod_lt_of_pos → Wai, emod_nonneg → Waq, zero_add → Wdl, le_refl → Wdw
open Option renaming some → Xy, isSome_iff_exists → Wbj, isSome_map → Wez, getD_none → Wfc
open Bool renaming and_eq_true → Wad, false_eq_true → Wao, false_ne_true → Wbi, true_and → Wdx, and_eq_true_iff → Wem, not_not → Wfa, or_eq_true → Wfg, false_and → Wfl
open Prod renaming mk → Wba
open Array renaming getElem?_eq_getElem → Wcj, getElem?_eq_none → Wcs, length_toList → Wdd, getElem?_toList → Wej, append_assoc → Weq
theorem Zo {α β:Type} {x:Option α} {f:α->Option β} {b:β} (h:x.bind f=some b):∃ a,x=some a/\f a=some b:=Option.bind_eq_some_iff.1 h
theorem Zm {α β:Type} {x:Option α} {f:α->β} {b:β} (h:x.map f=some b):∃ a,x=some a/\f a=b:=Option.map_eq_some_iff.1 h
theorem Zb {α β:Type} (a:α) (f:α->Option β):(some a).bind f=f a:=rfl
namespace PySem.W
open PySem
/-! the top run on a tree -/
def treeOf:List Obj->Nat->BT->Option BT
  | [],_,t=>some t
  | o::r,i,t=>match ((t.ins i o).get i).isSome with
    | true=>treeOf r (i+1) (t.ins i o)
    | false=>none
theorem treeOf_abs {life}:∀ (l:List Obj) (i:Nat) (t T:BT),treeOf l i t=some T->absHeap T (i+l.length) life=⟨(absHeap t i life).objs++l.toArray,life⟩
  | [],i,t,T,h=>by cases h; simp[absHeap]
  | o::r,i,t,T,h=>by
    unfold treeOf at h
    cases e:((t.ins i o).get i).isSome with
    | false=>rw[e] at h; cases h
    | true =>
      rw[e] at h
      have a:=treeOf_abs (life:=life) r (i+1) (t.ins i o) T h
      rw[absHeap_ins e] at a
      rw[List.length_cons,show i+(r.length+1)=i+1+r.length by omega,a]
      simp[Heap.push]
def topRunT (tb:String->Option Builtin) (p:Program) (w:World) (n₀:Nat) (ann:Option Value):Nat->SharedT->Thread->Option SharedT
  | 0,_,_=>none
  | n+1,s,t=>match through t with
    | true=>some s
    | false=>match stepOk n₀ ann t with
      | false=>none
      | true=>match stepT (denote tb) p w s t with
        | some (s',t')=>topRunT tb p w n₀ ann n s' t'
        | none=>none
theorem topRun_of {tb:String->Option Builtin} {p:Program} {w:World} {n₀:Nat} {ann:Option Value}:∀ {n:Nat} {s s':SharedT} {t:Thread},topRunT tb p w n₀ ann n s t=some s'->topRun tb p w n₀ ann n s.abs t=some s'.abs
  | 0,_,_,_,h=>by cases h
  | n+1,s,s',t,h=>by
    unfold topRunT at h
    unfold topRun
    cases he:through t with
    | true=>rw[he] at h; cases h; rfl
    | false =>
      rw[he] at h
      cases hk:stepOk n₀ ann t with
      | false=>rw[hk] at h; cases h
      | true =>
        rw[hk] at h
        cases hs:stepT (denote tb) p w s t with
        | none=>rw[hs] at h; cases h
        | some r=>obtain⟨s₂,t₂⟩:=r; rw[hs] at h; rw[stepT_spec hs]; exact topRun_of h
def topT (tb:String->Option Builtin) (p:Program) (w:World) (N:Nat) (s₀:Shared):Option Shared :=
  match s₀.heap.isNs mainGlobals&&s₀.gens.size==0 with
  | true=>(treeOf s₀.heap.objs.toList 0 .nil).bind fun T=>(topRunT tb p w s₀.heap.objs.size (s₀.heap.nsMap mainGlobals "__annotations__") N ⟨T,s₀.heap.objs.size,s₀.heap.life,s₀.gens,s₀.drawn,s₀.toks,s₀.os⟩ (topStub p)).bind fun s₁ =>
    match staticsOk (importedModules p.main.body) s₀.heap s₁.abs.heap&&namesBound p s₁.abs.heap&&gensDone s₁.abs&&laidKept s₀.heap s₁.abs.heap with
    | true=>some s₁.abs
    | false=>none
  | false=>none
theorem topT_of {tb:String->Option Builtin} {p:Program} {w:World} {N:Nat} {s₀ r:Shared} (h:topT tb p w N s₀=some r):topFrom tb p w N s₀=some r:=by
  unfold topT at h
  unfold topFrom
  cases e:(s₀.heap.isNs mainGlobals&&s₀.gens.size==0) with
  | false=>rw[e] at h; cases h
  | true =>
    rw[e] at h
    obtain⟨T,h1,h⟩:=Option.bind_eq_some_iff.mp h
    obtain⟨s₁,h2,h⟩:=Option.bind_eq_some_iff.mp h
    have a:=treeOf_abs (life:=s₀.heap.life) _ _ _ _ h1
    have b:=topRun_of h2
    have c:(SharedT.mk T s₀.heap.objs.size s₀.heap.life s₀.gens s₀.drawn s₀.toks s₀.os).abs=s₀:=by
      unfold SharedT.abs
      have z:absHeap T s₀.heap.objs.size s₀.heap.life=s₀.heap:=by
        have a':=a
        rw[Nat.zero_add] at a'
        rw[show s₀.heap.objs.size=s₀.heap.objs.toList.length by simp,a']
        obtain⟨⟨objs,life⟩,g,d,t,o⟩:=s₀
        simp[absHeap,BT.list]
      show Shared.mk (absHeap T s₀.heap.objs.size s₀.heap.life) s₀.gens s₀.drawn s₀.toks s₀.os=s₀
      rw[z]
    rw[c] at b
    rw[b]
    exact h
end PySem.W
section
open PySem PySem.W PyProof.Rows
nonrec def PySem.Challenge.vwOf (p:Vh):Vh:={ p with main:={ p.main with body:=[1,2,3,4,5,7,8,10,11,12,13,14,15,17,18,19,20,21,22,23,24,25,26,27,29,30,31,33,34,35,36,38,39,40,41,42,43,44,45,46,47,48,49,50,51,52,53,54,55,56,57,58,59,60,61,62,63,64].filterMap fun i=>p.main.body[i]? } }
local macro_rules | `(tactic| o_head $_) => `(tactic| exact Ux (by assumption))
set_option maxRecDepth 100000 in
set_option maxHeartbeats 0 in
theorem PySem.Challenge.mk0:False->PySem.Challenge.rw_allsome_k38_whole_whoever_plays_by_row_p.Holds:=by
 intro f; w_on; o_law; k_head
nonrec def PySem.Challenge.hk0:Hook:=kHook PySem.Challenge.mk0.heap_39 [2,3,15,16,18,19,21,22,23,25,26,28,29,30,32,33,35,36,37,39,40,42,43,44,51,52,53,54,57,64,66,67,69,70,71,72,73,76,78,79,81,82,83,85,86,88,89,90,92,93,95,96,97,99,100,102,103,104,106,107,109,110,111,113,114,116,117,118,120,121,123,124,125,127,128,130,131,132,134,135,137,138,139,142,143,144,146,147,149,150,151,153,154,156,157,158,160,161,163,164,165,167,168,170,171,172,174,175,177,178,179,181,182,184,185,186,188,189,191,192,193,195,196,198,199,200,202,203,205,206,207,209,210,212,213,214,217,218,219,221,222,224,225,226,228,229,231,232,233,235,236,238,239,240,242,243,245,246,247,249,250,252,253,254,256,257,259,260,261,263,264,266,267,268,270,271,273,274,280,282,283,285,286,287,289,290,292,293,294,297,298,299,301,302,304,305,306,309,310,311,313,314,316,317,318,321,322,323,326,327,328,330,331,333,334,335,338,339,340,343,344,345,348,349,350,352,353,355,356,357,360,361,362,365,366,367,370,371,372,374,375,377,378,379,382,383,384,386,387,389,390,391,394,395,396,399,400] (fun _=>by kernel_rfl)
nonrec def PySem.Challenge.xt0 (s:Vd):Bool:=xlAt (PySem.Challenge.vwOf PySem.Challenge.pw_allsome_k38_whole_whoever_plays_by_row_p) [] s&&recOk (RowW.records (OpenRow.toRowW (OpenLaw.row PySem.Challenge.rw_allsome_k38_whole_whoever_plays_by_row_p))) s
set_option maxRecDepth 100000 in
theorem PySem.Challenge.left123456789 (w:World) (os:OsState):(topT treeTable (OpenLaw.row PySem.Challenge.rw_allsome_k38_whole_whoever_plays_by_row_p).prog w 4470 ⟨boot_heap w.params,Array.mk [],boot_drawn,boot_toks,os⟩).map (fun s=>openSeen (PySem.Challenge.vwOf PySem.Challenge.pw_allsome_k38_whole_whoever_plays_by_row_p) [] (importedModules (OpenLaw.row PySem.Challenge.rw_allsome_k38_whole_whoever_plays_by_row_p).prog.main.body) PySem.Challenge.xt0 true s)=some (openGood (PySem.Challenge.vwOf PySem.Challenge.pw_allsome_k38_whole_whoever_plays_by_row_p) []):=by
 unfold PySem.Challenge.xt0
 try rewrite[PySem.W.Fast.te4187177175401517315]
 try rewrite[PySem.W.Fast.te5923862056798008813]
 try rewrite[PySem.W.Fast.te2368527892694137696]
 try rewrite[PySem.W.Fast.te3550082275591382797]
 try rewrite[PySem.W.Fast.te754003881861568052]
 try rewrite[PySem.W.Fast.te14364793385576792824]
 kernel_rfl
set_option maxRecDepth 100000 in
theorem PySem.Challenge.leftc (w:World) (os:OsState):(topT treeTable (OpenLaw.row PySem.Challenge.rw_allsome_k38_whole_whoever_plays_by_row_p).prog w 4470 ⟨boot_heap w.params,Array.mk [],boot_drawn,boot_toks,os⟩).map (fun s=>PySem.Challenge.hk0.obs s)=some (PySem.Challenge.hk0.val w):=by
 try rewrite[PySem.W.Fast.te4187177175401517315]
 try rewrite[PySem.W.Fast.te5923862056798008813]
 try rewrite[PySem.W.Fast.te2368527892694137696]
 try rewrite[PySem.W.Fast.te3550082275591382797]
 try rewrite[PySem.W.Fast.te754003881861568052]
 try rewrite[PySem.W.Fast.te14364793385576792824]
 kernel_rfl
theorem PySem.Challenge.left0:LeftO (OpenLaw.row PySem.Challenge.rw_allsome_k38_whole_whoever_plays_by_row_p).prog (PySem.Challenge.vwOf PySem.Challenge.pw_allsome_k38_whole_whoever_plays_by_row_p) [] PySem.Challenge.xt0 PySem.Challenge.hk0.obs PySem.Challenge.hk0.val 4470:=fun w=>by
 obtain⟨⟨h,g,d,t,os⟩,hs,hv⟩:=Option.map_eq_some_iff.mp (boot_open (p:=(OpenLaw.row PySem.Challenge.rw_allsome_k38_whole_whoever_plays_by_row_p).prog) (N:=4470) (by kernel_rfl) (by kernel_rfl) (fun s=>by kernel_rfl) w)
 obtain⟨e1,hv⟩:=Prod.mk.inj (show (h,g,d,t)=_ from hv)
 obtain⟨e2,hv⟩:=Prod.mk.inj hv
 obtain⟨e3,e4⟩:=Prod.mk.inj hv
 subst e1; subst e2; subst e3; subst e4
 obtain⟨r,h1,hc⟩:=Option.map_eq_some_iff.mp (PySem.Challenge.leftc w os)
 have h123456789:=PySem.Challenge.left123456789 w os
 rw[h1,Option.map_some] at h123456789
 replace h123456789:=Option.some.inj h123456789
 unfold openEnds
 rw[hs,Option.bind_some,topT_of h1]
 exact congrArg some (Prod.ext h123456789 hc)
end
namespace L2
open PySem PySem.Spec PyProof.Rows
nonrec abbrev Key:=Sum Int Str
nonrec def Yb8:Key->Vb->Bool
 | .inl k,v=>Value.isInt k v
 | .inr x,v=>Value.isStrOf x v
nonrec def keyH (w:Vs):Key->Int
 | .inl k=>Udu k
 | .inr x=>hashStr w x
theorem Zbg:∀ {k:Key} {v:Vb},Yb8 k v=true->(∃ i t,k=Tck i/\v=Value.int i t)\/(∃ x t,k=Tcl x/\v=Value.str x t)
 | .inl i,v,h=>by
  obtain⟨t,e⟩:=Value.isInt_shape (k:=i) (v:=v) h
  exact .inl ⟨i,t,rfl,e⟩
 | .inr x,v,h=>by
  obtain⟨t,e⟩:=Value.isStrOf_shape (x:=x) (v:=v) h
  exact .inr ⟨x,t,rfl,e⟩
theorem Ycy (a b:Int):decide ((Tck a:Key)=Tck b)=(a==b):=by
 by_cases e:a=b
 ·subst e; simp
 ·have h:¬ (Tck a:Key)=Tck b:=fun q=>e (Sum.inl.inj q)
  rw[decide_eq_false h]
  exact(beq_eq_false_iff_ne.mpr e).symm
theorem Ybz (a b:Str):decide ((Tcl a:Key)=Tcl b)=decide (a=b):=by
 by_cases e:a=b
 ·subst e; simp
 ·have h:¬ (Tcl a:Key)=Tcl b:=fun q=>e (Sum.inr.inj q)
  rw[decide_eq_false h,decide_eq_false e]
theorem Ybd (a:Int) (b:Str):decide ((Tck a:Key)=Tcl b)=false:=decide_eq_false (fun q=>nomatch q)
theorem Ybr (a:Str) (b:Int):decide ((Tcl a:Key)=Tck b)=false:=decide_eq_false (fun q=>nomatch q)
nonrec def Zn5 (prog:Vh) (w:Vs):PySem.KeyKind prog w Key where
 is:=Yb8
 hash:=keyH w
 inj:=fun v a b ha hb=>by
  rcases Zbg ha with ⟨i,t,rfl,rfl⟩ | ⟨x,t,rfl,rfl⟩
  ·rcases Zbg hb with ⟨j,u,rfl,e⟩ | ⟨y,u,rfl,e⟩
   ·injection e with e1 _; rw[e1]
   ·exact nomatch e
  ·rcases Zbg hb with ⟨j,u,rfl,e⟩ | ⟨y,u,rfl,e⟩
   ·exact nomatch e
   ·injection e with e1 _; rw[e1]
 byValue:=fun k v h=>by
  rcases Zbg h with ⟨i,t,rfl,rfl⟩ | ⟨x,t,rfl,rfl⟩<;>rfl
 pyHash:=fun hv h=>by
  rcases Zbg hv with ⟨i,t,rfl,rfl⟩ | ⟨x,t,rfl,rfl⟩
  ·exact wpAny_pyHash_int h
  ·exact wpAny_pyHash_str h
 eqBool:=fun hu hv h=>by
  rcases Zbg hu with ⟨i,t,rfl,rfl⟩ | ⟨x,t,rfl,rfl⟩
  ·rcases Zbg hv with ⟨j,u,rfl,rfl⟩ | ⟨y,u,rfl,rfl⟩
   ·rw[Ycy] at h; exact wpAny_eqBool_int h
   ·rw[Ybd] at h; exact SeqAt.EqAt.int_str i t y u _ _ _ _ h
  ·rcases Zbg hv with ⟨j,u,rfl,rfl⟩ | ⟨y,u,rfl,rfl⟩
   ·rw[Ybr] at h; exact SeqAt.EqAt.str_int x t j u _ _ _ _ h
   ·rw[Ybz] at h; exact wpAny_eqBool_str h
 «strs»:=fun k x t v h=>by
  rcases Zbg h with ⟨i,u,rfl,e⟩ | ⟨y,u,rfl,e⟩
  ·exact nomatch e
  ·injection e with e1 _
   subst e1
   cases v<;>rfl
inductive V where
 | non | bl (b:Bool) | int (i:Int) | str (x:Str) | byt (b:Array UInt8) | flt (b:UInt64) | ref (a:Ve) | ty (n:String)
nonrec def Zch:V->Vb->Prop
 | .non,u=>u=Uu
 | .bl b,u=>u=Tcw b
 | .int i,u=>∃ t,u=Value.int i t
 | .str x,u=>∃ t,u=Value.str x t
 | .byt b,u=>∃ t,u=Value.bytes b t
 | .flt b,u=>∃ t,u=Value.float b t
 | .ref a,u=>u=Uy a
 | .ty n,u=>u=Tbq n
nonrec abbrev Zb6:List V->List Vb->Prop:=Vj Zch
theorem Zb6.length {xs:List V} {us:List Vb} (r:Zb6 xs us):xs.length=us.length:=Tcx r
theorem Zb6.get:∀ {xs:List V} {us:List Vb} {i:Nat} {x:V},Zb6 xs us->xs[i]? = some x->∃ u,us[i]? = some u/\Zch x u
 | _,_,_,_,.nil,e=>by simp at e
 | _,_,0,_,.cons r _,e=>by simp at e; subst e; exact⟨_,rfl,r⟩
 | _,_,i+1,x,.cons _ t,e=>by
  obtain⟨u,h1,h2⟩:=Zb6.get (i:=i) (x:=x) t (by simpa using e)
  exact⟨u,by simpa using h1,h2⟩
theorem Zb6.append:∀ {xs ys:List V} {us ws:List Vb},Zb6 xs us->Zb6 ys ws->Zb6 (xs++ys) (us++ws)
 | _,_,_,_,.nil,s=>s
 | _,_,_,_,.cons r t,s=>.cons r (Zb6.append t s)
theorem Zb6.take:∀ {xs:List V} {us:List Vb} (n:Nat),Zb6 xs us->Zb6 (xs.take n) (us.take n)
 | _,_,0,_=>.nil
 | _,_,_+1,.nil=>.nil
 | _,_,n+1,.cons r t=>.cons r (Zb6.take n t)
theorem Zb6.drop:∀ {xs:List V} {us:List Vb} (n:Nat),Zb6 xs us->Zb6 (xs.drop n) (us.drop n)
 | _,_,0,r=>r
 | _,_,_+1,.nil=>.nil
 | _,_,n+1,.cons _ t=>Zb6.drop n t
nonrec def RelO:Option V->Option Vb->Prop
 | some v,some u=>Zch v u
 | none,none=>True
 | _,_=>False
nonrec def KV {κ:Type}:List (κ×V)->List (κ×Vb)->Prop:=Vj fun(p:κ×V) (q:κ×Vb)=>p.1=q.1/\Zch p.2 q.2
nonrec def kV:Key->V
 | .inl i=>.int i
 | .inr x=>.str x
inductive HO where
 | lst (xs:List V)
 | tup (xs:List V)
 | dK (kvs:List (Key×V)) | dT (kvs:List (List Key×V))
 | set (S:Int->Bool) (n:Nat)
 | ins (C dx:Ve) (fs:List (Str×V))
 | own (x:Ve)
 | xd (fs:List (Str×V))
 | met (f x:Ve)
 | rng (lo hi:Int)
 | frz (o:Obj) (u:HO)
 | tbl (ps:Array Vb)
 | ext (φ:Vy->Prop)
nonrec abbrev Hp:=Ve->Option HO
nonrec def upd (H:Hp) (a:Ve) (o:HO):Hp:=fun b=>if b=a then some o else H b
theorem Zav {H:Hp} {a:Ve} {o:HO}:upd H a o a=some o:=by unfold upd; rw[if_pos rfl]
theorem Zak {H:Hp} {a b:Ve} {o:HO} (h:b≠a):upd H a o b=H b:=by unfold upd; rw[if_neg h]
theorem Znl {H:Hp} {a b:Ve} {o u:HO} (h:H a=some o) (h':H b=some u) (d:o≠u):a≠b:=by
 intro e; subst e; rw[h] at h'; exact d (Xy.inj h')
theorem Zai {H:Hp} {a b:Ve} {o:HO} (h:H a=some o) (h':H b=none):a≠b:=by
 intro e; subst e; rw[h] at h'; cases h'
def Zk9 (h:Vy) (a:Ve) (items:Array Vb):Prop:=∃ o,h.get? a=some o/\o.cls=.type "tuple" /\ (∃ n,o.data=.seq items n)/\o.dict=none
theorem Zk9.new (h:Vy) (items:Array Vb):Zk9 (h.push { cls:=.type "tuple",data:=.seq items }) h.objs.size items:=⟨_,Xf _ rfl,rfl,⟨_,rfl⟩,rfl⟩
theorem Zk9.tup {h:Vy} {a:Ve} {items:Array Vb} (x:Zk9 h a items):Uec h a items:=let ⟨o,e,c,d,_⟩:=x; ⟨o,e,c,d⟩
section
variable (P:Vh) (w:Vs)
nonrec def Zc8 (H:Hp) (h:Vy) (a:Ve):HO->Prop
 | .lst xs=>xs.length<=sizeLine/\∃ (its:List Vb) (n:Nat),Zb6 xs its/\h.get? a=some { cls:=.type "list",data:=.seq its.toArray n }
 | .tup xs=>xs.length<=sizeLine/\∃ its:List Vb,Zb6 xs its/\Zk9 h a its.toArray
 | .dK kvs=>kvs.length<=sizeLine/\(a==Uab)=false/\∃ vs,KV kvs vs/\h.DictOf (Zn5 P w) a vs
 | .dT kvs=>kvs.length<=sizeLine/\(a==Uab)=false/\∃ xs:List (List Key×Ve×Vb),
   Vj (fun(p:List Key×V) (q:List Key×Ve×Vb)=>p.1=q.1/\H q.2.1=some (.tup (p.1.map kV))/\Zch p.2 q.2.2) kvs xs /\
   ∃ o es ep,h.get? a=some o/\o.ExactDict/\o.data=.dict es ep/\es.toList=xs.map (entryOfKey (Ubg (Zn5 P w)))/\(xs.map (·.1)).Nodup
 | .set S n=>h.SetOf (intKind P w) a S n
 | .ins C dx fs=>H dx=some (.own a)/\fs.length<=1000/\dx≠a/\h.get? a=some (PySem.W.instObj C dx) /\
   ∃ mA,h.Ns1 dx mA/\(∀ f,RelO (fs.lookup f) (mA f))/\PySem.Within mA (fs.map (·.1))
 | .own _=>∃ o,h.get? a=some o
 | .xd fs=>∃ mA,h.Ns1 a mA/\∀ f,RelO (fs.lookup f) (mA f)
 | .rng lo hi=>∃ t u v,h.get? a=some { cls:=.type "range",data:=.fields #[.int lo t,.int hi u,.int 1 v] }
 | .frz o u=>h.get? a=some o/\Zc8 H h a u
 | .tbl ps=>h.get? a=some { cls:=.none,data:=.fields ps }
 | .met f x=>h.get? a=some (Wdp (.ref f) (.ref x))
 | .ext φ=>φ h/\(∃ o,h.get? a=some o)/\∀ h1 h2:Vy,φ h1->(∀ o,h1.get? a=some o->h2.get? a=some o)->φ h2
def HOk (H:Hp) (h:Vy):Prop:=∀ a o,H a=some o->Zc8 P w H h a o
end
section
variable {P:Vh} {w:Vs} {H H':Hp} {h h':Vy} {a:Ve} {o:HO}
theorem Zc8.lt (x:Zc8 P w H h a o):a<h.objs.size:=by
 cases o with
 | lst xs=>obtain⟨_,_,_,_,e⟩:=x; exact Xg e
 | tup xs=>obtain⟨_,_,_,p⟩:=x; exact p.tup.lt
 | dK kvs=>obtain⟨_,_,_,_,o,_,_,e,_⟩:=x; exact Xg e
 | dT kvs=>obtain⟨_,_,_,_,o,_,_,e,_⟩:=x; exact Xg e
 | set S n=>obtain⟨o,_,_,_,e,_⟩:=x; exact Xg e
 | ins C dx fs=>obtain⟨_,_,_,e,_⟩:=x; exact Xg e
 | own y=>obtain⟨_,e⟩:=x; exact Xg e
 | xd fs=>obtain⟨_,⟨_,_,_,e,_⟩,_⟩:=x; exact Xg e
 | rng lo hi=>obtain⟨_,_,_,e⟩:=x; exact Xg e
 | frz ob u=>obtain⟨e,_⟩:=x; exact Xg e
 | tbl ps=>exact Xg (show h.get? a=some _ from x)
 | met f y=>exact Xg (show h.get? a=some _ from x)
 | ext φ=>obtain⟨_,⟨_,e⟩,_⟩:=x; exact Xg e
theorem Paired.mapP {α β:Type} {F G:α->β->Prop}:∀ {l₁:List α} {l₂:List β},Vj F l₁ l₂->(∀ a b,F a b->G a b)->Vj G l₁ l₂
 | _,_,.nil,_=>.nil
 | _,_,.cons r t,f=>.cons (f _ _ r) (Paired.mapP t f)
theorem Zc8.stay (x:Zc8 P w H h a o) (k:∀ b u,(b=a\/H b=some (.own a))->h.get? b=some u->h'.get? b=some u)
  (ho:∀ b,H b=some (.own a)->H' b=some (.own a)) (ht:∀ b xs,H b=some (.tup xs)->H' b=some (.tup xs)):Zc8 P w H' h' a o:=by
 induction o with
 | lst xs=>obtain⟨z,its,n,r,e⟩:=x; exact⟨z,its,n,r,k _ _ (.inl rfl) e⟩
 | tup xs=>obtain⟨z,its,r,ob,e,c⟩:=x; exact⟨z,its,r,ob,k _ _ (.inl rfl) e,c⟩
 | dK kvs=>obtain⟨z,y,vs,r,ob,es,ep,e,c⟩:=x; exact⟨z,y,vs,r,ob,es,ep,k _ _ (.inl rfl) e,c⟩
 | dT kvs =>
  obtain⟨z,y,xs,r,ob,es,ep,e,c⟩:=x
  exact⟨z,y,xs,Paired.mapP r fun p q z=>⟨z.1,ht _ _ z.2.1,z.2.2⟩,ob,es,ep,k _ _ (.inl rfl) e,c⟩
 | set S n=>obtain⟨ob,es,ep,t,e,c⟩:=x; exact⟨ob,es,ep,t,k _ _ (.inl rfl) e,c⟩
 | ins C dx fs =>
  obtain⟨d,z,ne,e,mA,⟨od,es,ep,e2,c⟩,r⟩:=x
  exact⟨ho _ d,z,ne,k _ _ (.inl rfl) e,mA,⟨od,es,ep,k _ _ (.inr d) e2,c⟩,r⟩
 | own y=>obtain⟨ob,e⟩:=x; exact⟨ob,k _ _ (.inl rfl) e⟩
 | xd fs=>obtain⟨mA,⟨od,es,ep,e,c⟩,r⟩:=x; exact⟨mA,⟨od,es,ep,k _ _ (.inl rfl) e,c⟩,r⟩
 | rng lo hi=>obtain⟨t,u,v,e⟩:=x; exact⟨t,u,v,k _ _ (.inl rfl) e⟩
 | frz ob u ih=>obtain⟨e,q⟩:=x; exact⟨k _ _ (.inl rfl) e,ih q⟩
 | tbl ps =>
  have e:h.get? a=some { cls:=.none,data:=.fields ps }:=x
  show h'.get? a=some { cls:=.none,data:=.fields ps }
  exact k a _ (.inl rfl) e
 | met f y =>
  have e:h.get? a=some (Wdp (.ref f) (.ref y)):=x
  show h'.get? a=some (Wdp (.ref f) (.ref y))
  exact k a _ (.inl rfl) e
 | ext φ=>obtain⟨p,⟨o,e⟩,st⟩:=x; exact⟨st _ _ p fun o q=>k _ _ (.inl rfl) q,⟨o,k _ _ (.inl rfl) e⟩,st⟩
theorem HOk.lt (x:HOk P w H h) (e:H a=some o):a<h.objs.size:=(x a o e).lt
theorem HOk.fresh (x:HOk P w H h) (e:h.objs.size<=a):H a=none:=by
 cases q:H a with
 | none=>rfl
 | some u=>exact absurd (Xu (x.lt q) e) (Wbn _)
theorem HOk.kept (x:HOk P w H h) (k:∀ b u,h.get? b=some u->h'.get? b=some u):HOk P w H h':=fun a o e =>
 (x a o e).stay (fun b u _ q=>k b u q) (fun _ q=>q) fun _ _ q=>q
theorem HOk.laid (x:HOk P w H h) (k:∀ b u,h.get? b=some u->h'.get? b=some u) (hp:h.objs.size<=a) (new:Zc8 P w (upd H a o) h' a o):HOk P w (upd H a o) h':=fun b u e=>by
 have hn:=x.fresh hp
 by_cases hb:b=a
 ·subst hb; rw[Zav] at e; cases e; exact new
 ·rw[Zak hb] at e
  exact(x b u e).stay (fun c v _ q=>k c v q) (fun c q=>by rw[Zak (Zai q hn)]; exact q) fun c xs q=>by rw[Zak (Zai q hn)]; exact q
end
def Rd (H:Hp) (a:Ve) (u:HO):Prop:=H a=some u\/∃ o,H a=some (.frz o u)
theorem Rd.ok {P:Vh} {w:Vs} {H:Hp} {h:Vy} {a:Ve} {u:HO} (r:Rd H a u) (x:HOk P w H h):Zc8 P w H h a u:=by
 rcases r with r | ⟨o,r⟩
 ·exact x a u r
 ·obtain⟨_,q⟩:=x a _ r
  exact q
nonrec def Mut:Option HO->Prop
 | some (.lst _)=>True
 | some (.dK _)=>True
 | some (.dT _)=>True
 | some (.set _ _)=>True
 | some (.ins _ _ _)=>True
 | some (.ext _)=>True
 | _=>False
section
variable {P:Vh} {w:Vs} {H:Hp} {h h':Vy} {x e:Ve} {o':HO}
theorem HOk.write (ok:HOk P w H h) (mu:Mut (H x)) (he:e=x\/H e=some (.own x)) (k:∀ b u,b≠e->h.get? b=some u->h'.get? b=some u) (heo:∃ u,h'.get? e=some u)
  (new:Zc8 P w (upd H x o') h' x o'):HOk P w (upd H x o') h':=fun b u q=>by
 have nown:∀ c y,H c=some (.own y)->c≠x:=fun c y r z=>by subst z; rw[r] at mu; exact mu
 have ntup:∀ c xs,H c=some (.tup xs)->c≠x:=fun c xs r z=>by subst z; rw[r] at mu; exact mu
 by_cases hb:b=x
 ·subst hb; rw[Zav] at q; cases q; exact new
 ·rw[Zak hb] at q
  by_cases hbe:b=e
  ·have q':H b=some (.own x):=by
    rcases he with z | z
    ·exact absurd (hbe.trans z) hb
    ·rw[hbe]; exact z
   rw[q] at q'; cases q'
   obtain⟨v,hv⟩:=heo
   exact⟨v,by rw[hbe]; exact hv⟩
  ·refine(ok b u q).stay (fun c v hc r=>k c v ?_ r) (fun c r=>by rw[Zak (nown c b r)]; exact r) fun c xs r=>by rw[Zak (ntup c xs r)]; exact r
   rcases hc with rfl | hc
   ·exact hbe
   ·rintro rfl
    rcases he with z | z
    ·exact nown c b hc z
    ·rw[hc] at z; cases z; exact hb rfl
end
structure Un (fs ex:List Ve) (H H':Hp) (h h':Vy):Prop where
 keep:∀ b o,h.get? b=some o->H b=none->b∉fs->b∉ex->h'.get? b=some o
 slot:∀ b o,h.get? b=some o->H b=none->b∈fs->b∉ex->∃ sl,h'.get? b=some { o with slots:=sl }
 free:∀ b o,h.get? b=some o->H b=none->b∉ex->H' b=none
 there:∀ b o,h.get? b=some o->b∉ex->∃ o',h'.get? b=some o'
 tups:∀ b xs,H b=some (.tup xs)->H' b=some (.tup xs)
 frzs:∀ b o u,H b=some (.frz o u)->H' b=some (.frz o u)
 tbls:∀ b ps,H b=some (.tbl ps)->∃ more,H' b=some (.tbl (ps++more))
section
variable {fs fs' ex ex':List Ve} {H H1 H2:Hp} {h h1 h2 h':Vy} {a x e:Ve} {o:HO}
theorem Un.any (u:Un fs ex H H1 h h1) {b:Ve} {ob:Obj} (q:h.get? b=some ob) (n:H b=none) (hx:b∉ex):∃ sl,h1.get? b=some { ob with slots:=sl }:=by
 by_cases hb:b∈fs
 ·exact u.slot b ob q n hb hx
 ·exact⟨ob.slots,u.keep b ob q n hb hx⟩
theorem Un.trans (a:Un fs ex H H1 h h1) (b:Un fs ex H1 H2 h1 h2):Un fs ex H H2 h h2 where
 keep:=fun c ob q n hc hx=>b.keep c ob (a.keep c ob q n hc hx) (a.free c ob q n hx) hc hx
 slot:=fun c ob q n hc hx=>by
  obtain⟨sl,e1⟩:=a.slot c ob q n hc hx
  obtain⟨sl',e2⟩:=b.slot c _ e1 (a.free c ob q n hx) hc hx
  exact⟨sl',e2⟩
 free:=fun c ob q n hx=>by
  obtain⟨o',e1⟩:=a.there c ob q hx
  exact b.free c o' e1 (a.free c ob q n hx) hx
 there:=fun c ob q hx=>by
  obtain⟨o',e1⟩:=a.there c ob q hx
  exact b.there c o' e1 hx
 tups:=fun c xs q=>b.tups c xs (a.tups c xs q)
 frzs:=fun c ob xs q=>b.frzs c ob xs (a.frzs c ob xs q)
 tbls:=fun c ps q=>by
  obtain⟨m1,e1⟩:=a.tbls c ps q
  obtain⟨m2,e2⟩:=b.tbls c _ e1
  exact⟨m1++m2,by rw[e2,Weq]⟩
theorem Un.kept (k:∀ b u,h.get? b=some u->h'.get? b=some u):Un fs ex H H h h' :=
 ⟨fun b ob q _ _ _=>k b ob q,fun b ob q _ _ _=>⟨ob.slots,k b ob q⟩,fun _ _ _ n _=>n,fun b ob q _=>⟨ob,k b ob q⟩,fun _ _ q=>q,fun _ _ _ q=>q,fun _ ps q=>⟨#[],by rw[q]; simp⟩⟩
theorem Un.refl:Un fs ex H H h h:=Un.kept fun _ _ q=>q
theorem Un.laid (k:∀ b u,h.get? b=some u->h'.get? b=some u) (hp:h.objs.size<=a) (hn:H a=none):Un fs ex H (upd H a o) h h' where
 keep:=fun b u q _ _ _=>k b u q
 slot:=fun b u q _ _ _=>⟨u.slots,k b u q⟩
 free:=fun b u q n _=>by rw[Zak (Xq (Xu (Xg q) hp))]; exact n
 there:=fun b u q _=>⟨u,k b u q⟩
 tups:=fun b xs q=>by rw[Zak (Zai q hn)]; exact q
 frzs:=fun b u xs q=>by rw[Zak (Zai q hn)]; exact q
 tbls:=fun b ps q=>⟨#[],by rw[Zak (Zai q hn),q]; simp⟩
theorem Un.write (mu:Mut (H x)) (he:e=x\/H e=some (.own x)) (k:∀ b u,b≠e->h.get? b=some u->h'.get? b=some u) (heo:∃ u,h'.get? e=some u):Un fs ex H (upd H x o) h h':=by
 have hx:∀ b,H b=none->b≠x:=fun b n z=>by subst z; rw[n] at mu; exact mu
 have hb:∀ b,H b=none->b≠e:=fun b n z=>by
  subst z
  rcases he with r | r
  ·exact hx b n r
  ·rw[n] at r; cases r
 have hm:∀ b u,H b=some u->¬ Mut (some u)->b≠x:=fun b u q nm z=>by subst z; rw[q] at mu; exact nm mu
 refine⟨fun b u q n _ _=>k b u (hb b n) q,fun b u q n _ _=>⟨u.slots,k b u (hb b n) q⟩,fun b u q n _=>by rw[Zak (hx b n)]; exact n,fun b u q _=>?_,
  fun b xs q=>by rw[Zak (hm b _ q fun z=>z)]; exact q,fun b u xs q=>by rw[Zak (hm b _ q fun z=>z)]; exact q,fun b ps q=>⟨#[],by rw[Zak (hm b _ q fun z=>z),q]; simp⟩⟩
 by_cases hbe:b=e
 ·subst hbe; exact heo
 ·exact⟨u,k b u hbe q⟩
theorem Un.mono (u:Un fs ex H H1 h h1) (hs:∀ b∈fs,b∈fs') (hx:∀ b∈ex,b∈ex'):Un fs' ex' H H1 h h1 :=
 ⟨fun b ob q n hb he=>u.keep b ob q n (fun z=>hb (hs b z)) fun z=>he (hx b z),fun _ _ q n _ he=>u.any q n fun z=>he (hx _ z),fun b ob q n he=>u.free b ob q n fun z=>he (hx b z),fun b ob q he=>u.there b ob q fun z=>he (hx b z),u.tups,u.frzs,u.tbls⟩
end
nonrec def trk (h:Vy) (H:Hp):List Ve:=(Wcl h.objs.size).filter fun a=>(H a).isSome
nonrec def Zwn (h:Vy) (H:Hp):Vy:=PySem.W.hideAll h (trk h H)
theorem Zt9 (h:Vy) (H:Hp):(Zwn h H).objs.size=h.objs.size:=PySem.W.hideAll_size _ _
theorem Zwz {h:Vy} {H:Hp} {b:Ve} {o:Obj} (e:h.get? b=some o) (n:H b=none):(Zwn h H).get? b=some o :=
 PySem.W.hideAll_get _ e fun hm=>by
  have q:(H b).isSome=true:=(Waa.mp hm).2
  rw[n] at q; simp at q
theorem Zyw {h:Vy} {H:Hp} {b:Ve} {o:Obj} (e:(Zwn h H).get? b=some o):h.get? b=some o/\H b=none:=by
 have e':h.get? b=some o:=PySem.W.of_hideAll (trk h H) e
 refine⟨e',?_⟩
 cases q:H b with
 | none=>rfl
 | some x =>
  have hm:b∈trk h H:=Waa.mpr ⟨Wan.mpr (Xg e'),by simp[q]⟩
  have z:(Zwn h H).get? b=none:=PySem.W.hideAll_none (trk h H) hm
  rw[z] at e; cases e
structure Mod (K:Xb) (mg:Str->Option Vb) (base:Vy):Prop where
 kin:K.In base
 glob:base.Ns Vp mg
 blt:∃ mb,base.Ns builtinsNs mb/\∀ x:Str,x ≠ "__name__" -> mb x=Vq x
 nolimit:base.NoLimit
structure Cx where
 prog:Vh
 w:Vs
 K:Xb
 mg:Str->Option Vb
 base:Vy
 A:Vw
 N:List Str
 s₀:Vd
 H₀:Hp
 env:Env
 outer:List Env
 stack:List Env
 ex:List Ve
 fn:Str->Bool
 calm:Bool
 pn:List (Ve×Obj)
 xe:Vb->Vd->Prop
nonrec def frs (l:List Env):List Ve:=l.filterMap (·.frame)
nonrec abbrev Cx.fs (X:Cx):List Ve:=frs X.outer
def Vis (sc:Ucz) (x:Str):Prop:=sc.names.lookup x=some .local\/sc.names.lookup x=some .cell\/sc.names.lookup x=some .free
def Loc (sc:Ucz) (x:Str):Prop:=sc.names.lookup x=some .local\/sc.names.lookup x=some .cell
def Look (env:Env) (h:Vy) (m:Str->Option Vb) (x:Str) (u:Vb):Prop :=
 (env.kindOf x=some .local/\m x=some u)\/((env.kindOf x=some .cell\/env.kindOf x=some .free)/\∃ c,env.cells.lookup x=some c/\h.IsCell c (some u))
structure Cx.Ok (X:Cx):Prop where
 mod:Mod X.K X.mg X.base
 kind:X.env.scope.kind=.function
 glob:X.env.globals=Vp
 blt:X.env.builtins=builtinsNs
 above:X.s₀.heap.objs.size<=X.env.locals
 inj:∀ x y c,X.env.cells.lookup x=some c->X.env.cells.lookup y=some c->x=y
 has:∀ x,(X.env.kindOf x=some .cell\/X.env.kindOf x=some .free)->∃ c,X.env.cells.lookup x=some c
 cab:∀ x c,X.fn x=true->X.env.cells.lookup x=some c->X.s₀.heap.objs.size<=c
 hd:X.calm=true->X.A.handled=none
 frames:X.A.frames=some X.stack
 stk:X.stack=X.outer\/(X.stack=X.env::X.outer/\X.env.frame=some X.env.locals)
 exf:∀ b∈X.ex,b≠X.env.locals/\∀ x c,X.env.cells.lookup x=some c->c≠b
 bs:∀ b o,X.base.get? b=some o->X.s₀.heap.get? b=some o/\X.H₀ b=none
 bsz:X.base.objs.size<=X.s₀.heap.objs.size
 noex:∀ b o,X.base.get? b=some o->b∉X.ex
 exfs:∀ b∈X.ex,b∉X.fs
 funs:X.s₀.heap.FunFrames X.base X.outer
 frf:∀ b∈X.fs,X.H₀ b=none
structure Inv (X:Cx) (pins:List (Ve×Obj)) (σ:List (Option V)) (H:Hp) (s:Vd):Prop where
 ok:X.Ok
 os:s.os=X.s₀.os
 bare:Ubu s.gens
 base:Un X.fs X.ex X.H₀ H X.s₀.heap s.heap
 loc:∃ m,s.heap.Ns X.env.locals m/\∀ (i:Nat) (x:Str) (v:V),X.N[i]? = some x->σ[i]? = some (some v)->Vis X.env.scope x->∃ u,Zch v u/\Look X.env s.heap m x u
 cell:∀ x c,X.env.cells.lookup x=some c->∃ v,s.heap.IsCell c v
 free:H X.env.locals=none
 freeC:∀ x c,X.env.cells.lookup x=some c->H c=none
 pin:∀ p∈X.pn++pins,s.heap.get? p.1=some p.2/\H p.1=none/\p.1≠X.env.locals/\p.1∉X.fs/\∀ v,p.2.data≠.cell v
 hok:HOk X.prog X.w H s.heap
 len:σ.length=X.N.length
section
variable {X:Cx} {pins:List (Ve×Obj)} {σ:List (Option V)} {H H':Hp} {s:Vd} {h':Vy}
theorem Cx.Ok.nofr (ok:X.Ok) {b:Ve} {o:Obj} (e:X.base.get? b=some o):b∉X.fs:=fun hb=>by
 have:=(ok.funs.mem hb).1
 rw[e] at this; cases this
theorem Inv.bs (I:Inv X pins σ H s):∀ b o,X.base.get? b=some o->s.heap.get? b=some o/\H b=none:=fun b o e =>
 ⟨I.base.keep b o (I.ok.bs b o e).1 (I.ok.bs b o e).2 (I.ok.nofr e) (I.ok.noex b o e),I.base.free b o (I.ok.bs b o e).1 (I.ok.bs b o e).2 (I.ok.noex b o e)⟩
theorem Inv.bk (I:Inv X pins σ H s):∀ b o,X.base.get? b=some o->s.heap.get? b=some o:=fun b o e=>(I.bs b o e).1
theorem Inv.mod (I:Inv X pins σ H s):Mod X.K X.mg X.base:=I.ok.mod
theorem Inv.kIn (I:Inv X pins σ H s):X.K.In s.heap:=I.ok.mod.kin.keeps I.bk
theorem Inv.lt (I:Inv X pins σ H s):X.env.locals<s.heap.objs.size:=let ⟨_,hn,_⟩:=I.loc; hn.lt
theorem Inv.sz (I:Inv X pins σ H s):X.s₀.heap.objs.size<=s.heap.objs.size:=Wab I.ok.above (Wee I.lt)
theorem Inv.nofs (I:Inv X pins σ H s) {a:Ve} (h:s.heap.objs.size<=a):a∉X.fs:=fun hb=>by
 obtain⟨_,o,ho,_⟩:=I.ok.funs.mem hb
 exact absurd (Xu (Xg ho) (Wab I.sz h)) (Wbn _)
theorem Inv.cne (I:Inv X pins σ H s):∀ x c,X.env.cells.lookup x=some c->c≠X.env.locals:=fun x c e z=>by
 obtain⟨v,o,ho,hd⟩:=I.cell x c e
 obtain⟨m,⟨o',es,ep,ho',hd',_⟩,_⟩:=I.loc
 rw[z,ho'] at ho; cases ho; rw[hd'] at hd; cases hd
theorem Inv.funs (I:Inv X pins σ H s):s.heap.FunFrames X.base X.outer:=by
 have all:∀ (l:List Env),(∀ b∈frs l,b∈X.fs)->X.s₀.heap.FunFrames X.base l->s.heap.FunFrames X.base l:=by
  intro l
  induction l with
  | nil=>intro _ _; trivial
  | cons env r ih =>
   intro hs hl
   obtain⟨hk,⟨L,o,hf,hn,ho,hd⟩,hr⟩:=hl
   have hL:L∈X.fs:=hs L (by unfold frs; rw[Wdc,hf]; exact Wcc)
   obtain⟨sl,e⟩:=I.base.slot L o ho (I.ok.frf L hL) hL fun z=>I.ok.exfs L z hL
   exact⟨hk,⟨L,_,hf,hn,e,hd⟩,ih (fun b hb=>hs b (by unfold frs; rw[Wdc,hf]; exact Wag _ hb)) hr⟩
 exact all X.outer (fun _ hb=>hb) I.ok.funs
theorem Inv.stack (I:Inv X pins σ H s):s.heap.FunFrames X.base X.stack:=by
 rcases I.ok.stk with e | ⟨e,hf⟩
 ·rw[e]; exact I.funs
 ·rw[e]
  obtain⟨m,hn,_⟩:=I.loc
  refine .cons (by rw[I.ok.kind]; decide) hf hn ?_ I.funs
  exact Heap.get?_none_of_le (Wab I.ok.bsz I.ok.above)
theorem Inv.stkSub (I:Inv X pins σ H s):∀ b∈frs X.stack,b∈X.env.locals::X.fs:=fun b hb=>by
 rcases I.ok.stk with e | ⟨e,hf⟩
 ·rw[e] at hb; exact Wag _ hb
 ·rw[e] at hb
  unfold frs at hb
  rw[Wdc,hf] at hb
  exact hb
theorem Inv.stkFree (I:Inv X pins σ H s):∀ b∈frs X.stack,H b=none:=fun b hb=>by
 rcases Xh.mp (I.stkSub b hb) with e | hb
 ·rw[e]; exact I.free
 ·obtain⟨_,o,ho,_⟩:=I.ok.funs.mem hb
  exact I.base.free b o ho (I.ok.frf b hb) fun z=>I.ok.exfs b z hb
theorem Inv.step {g':Array GenState} {t':Nat} {d':Drawn} {ch:List Ve} (I:Inv X pins σ H s)
  (hch:∀ b∈ch,(b∈X.ex\/X.s₀.heap.objs.size<=b)/\b≠X.env.locals/\(∀ x c,X.env.cells.lookup x=some c->c≠b)/\∀ p∈X.pn++pins,p.1≠b)
  (keep:∀ b o,b≠X.env.locals->b∉X.fs->b∉ch->s.heap.get? b=some o->H b=none->h'.get? b=some o)
  (slot:∀ b o,b≠X.env.locals->b∈X.fs->b∉ch->s.heap.get? b=some o->H b=none->∃ sl,h'.get? b=some { o with slots:=sl }) (free:∀ b o,b∉ch->s.heap.get? b=some o->H b=none->H' b=none)
  (there:∀ b o,b∉ch->s.heap.get? b=some o->∃ o',h'.get? b=some o')
  (tups:∀ b xs,H b=some (.tup xs)->H' b=some (.tup xs)) (frzs:∀ b o u,H b=some (.frz o u)->H' b=some (.frz o u)) (tbls:∀ b ps,H b=some (.tbl ps)->∃ more,H' b=some (.tbl (ps++more)))
  (ns:∀ m,s.heap.Ns X.env.locals m->h'.Ns X.env.locals m) (hok:HOk X.prog X.w H' h') (hg:Ubu g') :
  Inv X pins σ H' { s with heap:=h',gens:=g',drawn:=d',toks:=t' }:=by
 have neL:∀ b o,X.s₀.heap.get? b=some o->b≠X.env.locals:=fun b o e=>Xq (Xu (Xg e) I.ok.above)
 have neC:∀ b o,X.s₀.heap.get? b=some o->b∉X.ex->b∉ch:=fun b o e hx hb=>by
  rcases(hch b hb).1 with z | z
  ·exact hx z
  ·exact absurd (Xu (Xg e) z) (Wbn _)
 have cellK:∀ x c,X.env.cells.lookup x=some c->∀ v,s.heap.IsCell c v->h'.IsCell c v:=fun x c e v ⟨o,ho,hd⟩=>by
  have nch:c∉ch:=fun z=>(hch c z).2.2.1 x c e rfl
  by_cases hc:c∈X.fs
  ·obtain⟨sl,q⟩:=slot c o (I.cne x c e) hc nch ho (I.freeC x c e)
   exact⟨_,q,hd⟩
  ·exact⟨o,keep c o (I.cne x c e) hc nch ho (I.freeC x c e),hd⟩
 refine⟨I.ok,I.os,hg,⟨fun b o e n hb hx=>?_,fun b o e n hb hx=>?_,fun b o e n hx=>?_,fun b o e hx=>?_,fun b xs e=>tups b xs (I.base.tups b xs e),fun b o xs e=>frzs b o xs (I.base.frzs b o xs e),fun b ps e=>?_⟩,?_,fun x c e=>?_,?_,fun x c e=>?_,fun p hp=>?_,hok,I.len⟩
 ·exact keep b o (neL b o e) hb (neC b o e hx) (I.base.keep b o e n hb hx) (I.base.free b o e n hx)
 ·obtain⟨sl,e1⟩:=I.base.slot b o e n hb hx
  obtain⟨sl',e2⟩:=slot b _ (neL b o e) hb (neC b o e hx) e1 (I.base.free b o e n hx)
  exact⟨sl',e2⟩
 ·obtain⟨o',e1⟩:=I.base.there b o e hx
  exact free b o' (neC b o e hx) e1 (I.base.free b o e n hx)
 ·obtain⟨o',e1⟩:=I.base.there b o e hx
  exact there b o' (neC b o e hx) e1
 ·obtain⟨m1,e1⟩:=I.base.tbls b ps e
  obtain⟨m2,e2⟩:=tbls b _ e1
  exact⟨m1++m2,by rw[e2,Weq]⟩
 ·obtain⟨m,hn,hl⟩:=I.loc
  refine⟨m,ns m hn,fun i x v e1 e2 e3=>?_⟩
  obtain⟨u,r,l⟩:=hl i x v e1 e2 e3
  refine⟨u,r,?_⟩
  rcases l with l | ⟨k,c,e,z⟩
  ·exact .inl l
  ·exact .inr ⟨k,c,e,cellK x c e _ z⟩
 ·obtain⟨v,z⟩:=I.cell x c e
  exact⟨v,cellK x c e v z⟩
 ·obtain⟨m,⟨o,_,_,ho,_⟩,_⟩:=I.loc
  exact free _ o (fun z=>(hch _ z).2.1 rfl) ho I.free
 ·obtain⟨v,o,ho,hd⟩:=I.cell x c e
  exact free c o (fun z=>(hch c z).2.2.1 x c e rfl) ho (I.freeC x c e)
 ·obtain⟨e,n,ne,nf,d⟩:=I.pin p hp
  have nch:p.1∉ch:=fun z=>(hch p.1 z).2.2.2 p hp rfl
  exact⟨keep p.1 p.2 ne nf nch e n,free p.1 p.2 nch e n,ne,nf,d⟩
theorem Inv.un {t':Nat} (I:Inv X pins σ H s) (u:Un X.fs [] H H' s.heap h') (hok:HOk X.prog X.w H' h'):Inv X pins σ H' { s with heap:=h',toks:=t' }:=by
 obtain⟨m,⟨o,es,ep,ho,r⟩,_⟩:=id I.loc
 obtain⟨sl,hL⟩:=u.any ho I.free (by simp)
 exact I.step (g':=s.gens) (d':=s.drawn) (ch:=[]) (fun _ z=>nomatch z) (fun b o _ hb _ e n=>u.keep b o e n hb (by simp)) (fun b o _ hb _ e n=>u.slot b o e n hb (by simp)) (fun b o _ e n=>u.free b o e n (by simp)) (fun b o _ e=>u.there b o e (by simp)) u.tups u.frzs u.tbls (fun m' hm=>by
  obtain⟨o',es',ep',ho',r'⟩:=hm
  rw[ho] at ho'; cases ho'
  exact⟨_,es',ep',hL,r'⟩) hok I.bare
theorem Inv.call {g':Array GenState} {t':Nat} {d':Drawn} {ch:List Ve} (I:Inv X pins σ H s) (u:Un (frs X.stack) ch H H' s.heap h') (hok:HOk X.prog X.w H' h') (hg:Ubu g')
  (hch:∀ b∈ch,(b∈X.ex\/X.s₀.heap.objs.size<=b)/\b≠X.env.locals/\(∀ x c,X.env.cells.lookup x=some c->c≠b)/\∀ p∈X.pn++pins,p.1≠b) :
  Inv X pins σ H' { s with heap:=h',gens:=g',drawn:=d',toks:=t' }:=by
 obtain⟨m,⟨o,es,ep,ho,r⟩,_⟩:=id I.loc
 obtain⟨sl,hL⟩:=u.any ho I.free fun z=>(hch _ z).2.1 rfl
 exact I.step (ch:=ch) hch (fun b o hL hb hc e n=>u.keep b o e n (fun z=>(Xh.mp (I.stkSub b z)).elim hL hb) hc) (fun b o _ _ hc e n=>u.any e n hc) (fun b o hc e n=>u.free b o e n hc) (fun b o hc e=>u.there b o e hc) u.tups u.frzs u.tbls (fun m' hm=>by
  obtain⟨o',es',ep',ho',r'⟩:=hm
  rw[ho] at ho'; cases ho'
  exact⟨_,es',ep',hL,r'⟩) hok hg
theorem Inv.turned {t':Nat} {it:Ve} (I:Inv X pins σ H s) (k:∀ b o,b≠it->s.heap.get? b=some o->h'.get? b=some o) (hn:H it=none) (hL:it≠X.env.locals)
  (h1:it∈X.ex\/X.s₀.heap.objs.size<=it) (h2:∀ x c,X.env.cells.lookup x=some c->c≠it) (h3:∀ p∈X.pn++pins,p.1≠it):Inv X pins σ H { s with heap:=h',toks:=t' }:=by
 have nit:∀ b u,H b=some u->b≠it:=fun b u e z=>by rw[z,hn] at e; cases e
 refine I.step (g':=s.gens) (d':=s.drawn) (ch:=[it]) (fun b hb=>?_) (fun b o _ _ hc e _=>k b o (fun z=>hc (by simp[z])) e) (fun b o _ _ hc e _=>⟨o.slots,k b o (fun z=>hc (by simp[z])) e⟩) (fun _ _ _ _ n=>n)
  (fun b o hc e=>⟨o,k b o (fun z=>hc (by simp[z])) e⟩) (fun _ _ e=>e) (fun _ _ _ e=>e) (fun b ps e=>⟨#[],by rw[e]; simp⟩) (fun m hm=>?_) (fun b u e=>?_) I.bare
 ·have e:b=it:=by simpa using hb
  subst e
  exact⟨h1,hL,h2,h3⟩
 ·obtain⟨o,es,ep,ho,r⟩:=hm
  exact⟨o,es,ep,k _ o (Uo hL) ho,r⟩
 ·refine(I.hok b u e).stay (fun c v hc q=>k c v ?_ q) (fun _ q=>q) fun _ _ q=>q
  rcases hc with z | z
  ·rw[z]; exact nit b u e
  ·exact nit c _ z
theorem Inv.tok (I:Inv X pins σ H s) (t:Nat):Inv X pins σ H { s with toks:=t }:=I.un (h':=s.heap) (t':=t) Un.refl I.hok
theorem Inv.kept {t':Nat} (I:Inv X pins σ H s) (k:∀ b u,s.heap.get? b=some u->h'.get? b=some u):Inv X pins σ H { s with heap:=h',toks:=t' }:=I.un (Un.kept k) (I.hok.kept k)
theorem Inv.laid {a:Ve} {o:HO} {t':Nat} (I:Inv X pins σ H s) (k:∀ b u,s.heap.get? b=some u->h'.get? b=some u) (hp:s.heap.objs.size<=a) (new:Zc8 X.prog X.w (upd H a o) h' a o) :
  Inv X pins σ (upd H a o) { s with heap:=h',toks:=t' }:=I.un (Un.laid k hp (I.hok.fresh hp)) (I.hok.laid k hp new)
theorem Inv.write {x e:Ve} {o:HO} {t':Nat} (I:Inv X pins σ H s) (mu:Mut (H x)) (he:e=x\/H e=some (.own x)) (k:∀ b u,b≠e->s.heap.get? b=some u->h'.get? b=some u) (heo:∃ u,h'.get? e=some u)
  (new:Zc8 X.prog X.w (upd H x o) h' x o):Inv X pins σ (upd H x o) { s with heap:=h',toks:=t' }:=I.un (Un.write mu he k heo) (I.hok.write mu he k heo new)
theorem Inv.pins_of {pins':List (Ve×Obj)} (I:Inv X pins σ H s) (h:∀ p∈pins',s.heap.get? p.1=some p.2/\H p.1=none/\p.1≠X.env.locals/\p.1∉X.fs/\∀ v,p.2.data≠.cell v):Inv X pins' σ H s :=
 ⟨I.ok,I.os,I.bare,I.base,I.loc,I.cell,I.free,I.freeC,fun p hp=>(Xn.mp hp).elim (fun z=>I.pin p (Way _ z)) (h p),I.hok,I.len⟩
theorem Zpv {N:List Str} (hN:N.Nodup) {i j:Nat} {x:Str} (a:N[i]? = some x) (b:N[j]? = some x):i=j:=by
 obtain⟨h1,e1⟩:=Xc.mp a
 obtain⟨h2,e2⟩:=Xc.mp b
 exact(Wfb hN).mp (e1.trans e2.symm)
theorem Zne {M:Model} {A:Vw} {E:Vb->Vd->Prop} {i:Nat} {x:Str} {v:V} {u:Vb} {Q:Unit->Vd->Prop} (I:Inv X pins σ H s) (hN:X.N.Nodup) (hi:X.N[i]? = some x) (hx:Loc X.env.scope x) (r:Zch v u)
  (h:∀ s',Inv X pins (σ.set i (some v)) H s'->(∃ a,Xx a s.heap s'.heap/\(a=X.env.locals\/X.env.cells.lookup x=some a))->Q () s') (hf:X.fn x=true\/X.env.scope.names.lookup x=some .local:=by first | exact .inl rfl | exact .inr rfl | assumption):Vg M A (storeName X.env x u) Q E s:=by
 obtain⟨m,hn,hl⟩:=id I.loc
 have hcls:(X.env.scope.kind==.class||(X.env.scope.kind==.module&&X.env.locals != X.env.globals))=false:=by rw[I.ok.kind]; rfl
 have hiσ:i<σ.length:=by rw[I.len]; exact(Xc.mp hi).1
 have cne:=I.cne
 have tracked:∀ {a:Ve} {h':Vy},(∃ o,s.heap.get? a=some o/\H a=none)->Xx a s.heap h'->HOk X.prog X.w H h':=fun {a h'} ha hs b ob e=>by
  obtain⟨_,_,hfree⟩:=ha
  refine(I.hok b ob e).stay (fun c w' hc q=>(hs.2 c ?_).trans q) (fun _ q=>q) fun _ _ q=>q
  rintro rfl
  rcases hc with rfl | hc
  ·rw[hfree] at e; cases e
  ·rw[hfree] at hc; cases hc
 rcases hx with hk | hk
 ·refine wpAny_storeName_local hk hn (fun h' hn' hs=>?_) hcls
  obtain⟨oL,_,_,hoL,_⟩:=id hn
  refine h _ ⟨I.ok,I.os,I.bare,⟨fun b o e n hb hx=>?_,fun b o e n hb hx=>?_,I.base.free,fun b o e hx=>?_,I.base.tups,I.base.frzs,I.base.tbls⟩,⟨_,hn',fun j y v' e1 e2 e3=>?_⟩,fun y c e=>?_,I.free,I.freeC,fun p hp=>?_,tracked ⟨oL,hoL,I.free⟩ hs,by simpa using I.len⟩ ⟨_,hs,.inl rfl⟩
  ·exact(hs.2 b (Xq (Xu (Xg e) I.ok.above))).trans (I.base.keep b o e n hb hx)
  ·obtain⟨sl,e1⟩:=I.base.slot b o e n hb hx
   exact⟨sl,(hs.2 b (Xq (Xu (Xg e) I.ok.above))).trans e1⟩
  ·obtain⟨o',e1⟩:=I.base.there b o e hx
   exact⟨o',(hs.2 b (Xq (Xu (Xg e) I.ok.above))).trans e1⟩
  ·by_cases hj:j=i
   ·subst hj
    rw[hi] at e1; cases e1
    rw[Waz hiσ] at e2
    cases e2
    exact⟨u,r,.inl ⟨hk,by simp⟩⟩
   ·rw[Waj (Uo hj)] at e2
    obtain⟨u',r',q⟩:=hl j y v' e1 e2 e3
    refine⟨u',r',?_⟩
    rcases q with ⟨k,e⟩ | ⟨k,c,e,z⟩
    ·refine .inl ⟨k,?_⟩
     have:y≠x:=fun e=>hj (Zpv hN e1 (e ▸ hi))
     simp[this,e]
    ·exact .inr ⟨k,c,e,z.sameBut hs (cne y c e)⟩
  ·obtain⟨w',z⟩:=I.cell y c e
   exact⟨w',z.sameBut hs (cne y c e)⟩
  ·obtain⟨e,n,ne,nf,d⟩:=I.pin p hp
   exact⟨(hs.2 p.1 ne).trans e,n,ne,nf,d⟩
 ·have hfn:X.fn x=true:=by
   rcases hf with z | z
   ·exact z
   ·rw[z] at hk; cases hk
  obtain⟨c,hc⟩:=I.ok.has x (.inl hk)
  obtain⟨w',z⟩:=I.cell x c hc
  refine wpAny_storeName_cell I.ok.kind hk hc z (fun h' hc' hs=>?_)
  obtain⟨oc,hoc,hocd⟩:=id z
  refine h { s with heap:=h' } ⟨I.ok,I.os,I.bare,⟨fun b o e n hb hx=>?_,fun b o e n hb hx=>?_,I.base.free,fun b o e hx=>?_,I.base.tups,I.base.frzs,I.base.tbls⟩,⟨m,hn.sameBut hs (Uo (cne x c hc)),fun j y v' e1 e2 e3=>?_⟩,fun y c' e=>?_,I.free,I.freeC,fun p hp=>?_,tracked ⟨oc,hoc,I.freeC x c hc⟩ hs,by simpa using I.len⟩ ⟨c,hs,.inr hc⟩
  ·exact(hs.2 b (Xq (Xu (Xg e) (I.ok.cab x c hfn hc)))).trans (I.base.keep b o e n hb hx)
  ·obtain⟨sl,e1⟩:=I.base.slot b o e n hb hx
   exact⟨sl,(hs.2 b (Xq (Xu (Xg e) (I.ok.cab x c hfn hc)))).trans e1⟩
  ·obtain⟨o',e1⟩:=I.base.there b o e hx
   exact⟨o',(hs.2 b (Xq (Xu (Xg e) (I.ok.cab x c hfn hc)))).trans e1⟩
  ·by_cases hj:j=i
   ·subst hj
    rw[hi] at e1; cases e1
    rw[Waz hiσ] at e2
    cases e2
    exact⟨u,r,.inr ⟨.inl hk,c,hc,hc'⟩⟩
   ·rw[Waj (Uo hj)] at e2
    obtain⟨u',r',q⟩:=hl j y v' e1 e2 e3
    refine⟨u',r',?_⟩
    rcases q with q | ⟨k,c',e,z'⟩
    ·exact .inl q
    ·refine .inr ⟨k,c',e,z'.sameBut hs ?_⟩
     rintro rfl
     exact hj (Zpv hN e1 (I.ok.inj _ _ _ e hc ▸ hi))
  ·by_cases hcc:c'=c
   ·subst hcc; exact⟨_,hc'⟩
   ·obtain⟨w2,z2⟩:=I.cell y c' e
    exact⟨w2,z2.sameBut hs hcc⟩
  ·obtain⟨e,n,ne,nf,d⟩:=I.pin p hp
   refine⟨(hs.2 p.1 ?_).trans e,n,ne,nf,d⟩
   intro q
   rw[q,hoc] at e
   have q':oc=p.2:=Xy.inj e
   exact d w' (by rw[<- q']; exact hocd)
theorem Zk6 {M:Model} {A:Vw} {E:Vb->Vd->Prop} {i:Nat} {x:Str} {v:V} {u:Vb} {Q:Unit->Vd->Prop} (I:Inv X pins σ H s) (hN:X.N.Nodup) (hi:X.N[i]? = some x) (hx:Loc X.env.scope x) (r:Zch v u)
  (h:∀ s',Inv X pins (σ.set i (some v)) H s'->Q () s') (hf:X.fn x=true\/X.env.scope.names.lookup x=some .local:=by first | exact .inl rfl | exact .inr rfl | assumption):Vg M A (storeName X.env x u) Q E s :=
 Zne I hN hi hx r (fun s' I' _=>h s' I') hf
theorem Inv.call' {s':Vd} {ch:List Ve} (I:Inv X pins σ H s) (ho:s'.os=s.os) (u:Un (frs X.stack) ch H H' s.heap s'.heap) (hok:HOk X.prog X.w H' s'.heap) (hg:Ubu s'.gens)
  (hch:∀ b∈ch,(b∈X.ex\/X.s₀.heap.objs.size<=b)/\b≠X.env.locals/\(∀ x c,X.env.cells.lookup x=some c->c≠b)/\∀ p∈X.pn++pins,p.1≠b):Inv X pins σ H' s':=by
 obtain⟨h',g',d',t',o'⟩:=s'
 have e:o'=s.os:=ho
 subst e
 exact I.call (g':=g') (t':=t') (d':=d') u hok hg hch
end
nonrec abbrev XK:=Vb->Option Ve->Hp->Prop
nonrec abbrev St:=List (Option V)
nonrec abbrev VK:=V->Hp->Prop
nonrec abbrev TE:=St->Hp->VK->Prop
nonrec abbrev TT:=St->Hp->(Bool->Hp->Prop)->Prop
nonrec abbrev TA:=St->Hp->(List V->Hp->Prop)->Prop
structure Ends where
 nx:St->Hp->Prop
 rt:VK
 bk:St->Hp->Prop:=fun _ _=>False
 ct:St->Hp->Prop:=fun _ _=>False
nonrec abbrev TS:=Ends->St->Hp->Prop
def EP (X:Cx) (pins:List (Ve×Obj)) (σ:St) (Q:VK) (u:Vb) (s':Vd):Prop:=∃ v H',Inv X pins σ H' s'/\Zch v u/\Q v H'
def TP (X:Cx) (pins:List (Ve×Obj)) (σ:St) (Q:Bool->Hp->Prop) (b:Bool) (s':Vd):Prop:=∃ H',Inv X pins σ H' s'/\Q b H'
def AP (X:Cx) (pins:List (Ve×Obj)) (σ:St) (Q:List V->Hp->Prop) (us:List Vb) (s':Vd):Prop:=∃ vs H',Inv X pins σ H' s'/\Zb6 vs us/\Q vs H'
def SP (X:Cx) (pins:List (Ve×Obj)) (D:Ends) (f:Flow) (s':Vd):Prop :=
 match f with
 | .next=>∃ σ' H',Inv X pins σ' H' s'/\D.nx σ' H'
 | .brk=>∃ σ' H',Inv X pins σ' H' s'/\D.bk σ' H'
 | .cont=>∃ σ' H',Inv X pins σ' H' s'/\D.ct σ' H'
 | .ret u=>∃ v σ' H',Inv X pins σ' H' s'/\Zch v u/\D.rt v H'
def PE (X:Cx) (e:Vv) (t:TE):Prop :=
 ∀ (pins:List (Ve×Obj)) (s:Vd) (σ:St) (H:Hp) (Q:VK),Inv X pins σ H s->t σ H Q->Vg (Vn X.prog X.w) X.A (eval e X.env) (EP X pins σ Q) X.xe s
def PT (X:Cx) (e:Vv) (t:TT):Prop :=
 ∀ (pins:List (Ve×Obj)) (s:Vd) (σ:St) (H:Hp) (Q:Bool->Hp->Prop),Inv X pins σ H s->t σ H Q->Vg (Vn X.prog X.w) X.A (isTrue e X.env (eval e X.env)) (TP X pins σ Q) X.xe s
def PW (X:Cx) (e:Vv) (t:TT):Prop :=
 ∀ (whole:Sem Vb) (pins:List (Ve×Obj)) (s:Vd) (σ:St) (H:Hp) (Q:Bool->Hp->Prop),Inv X pins σ H s->t σ H Q->Vg (Vn X.prog X.w) X.A (isTrue e X.env whole) (TP X pins σ Q) X.xe s
def PA (X:Cx) (es:List Vv) (t:TA):Prop :=
 ∀ (pos:Pos) (pins:List (Ve×Obj)) (s:Vd) (σ:St) (H:Hp) (Q:List V->Hp->Prop),Inv X pins σ H s->t σ H Q->Vg (Vn X.prog X.w) X.A (spliced (Uag pos (Vf es X.env))) (AP X pins σ Q) X.xe s
def PS (X:Cx) (st:Uae) (t:TS):Prop :=
 ∀ (pins:List (Ve×Obj)) (s:Vd) (σ:St) (H:Hp) (D:Ends),Inv X pins σ H s->t D σ H->Vg (Vn X.prog X.w) X.A (exec st X.env) (SP X pins D) X.xe s
def PSs (X:Cx) (st:List Uae) (t:TS):Prop :=
 ∀ (pins:List (Ve×Obj)) (s:Vd) (σ:St) (H:Hp) (D:Ends),Inv X pins σ H s->t D σ H->Vg (Vn X.prog X.w) X.A (execs st X.env) (SP X pins D) X.xe s
theorem thn {α:Type} {t:Sem α} {Q Q':α->Vd->Prop} {M:Model} {A:Vw} {E:Vb->Vd->Prop} {s:Vd} (h:Vg M A t Q E s) (hQ:∀ a s,Q a s->Q' a s):Vg M A t Q' E s:=Uau h hQ fun _ _ x=>x
section
variable {X:Cx}
nonrec def tVar (i:Nat):TE:=fun σ H Q=>∃ v,σ[i]? = some (some v)/\Q v H
nonrec def tC (v:V):TE:=fun _ H Q=>Q v H
theorem Ybh {i:Nat} {x:Str} {pos:Pos} (hN:X.N[i]? = some x) (hv:Vis X.env.scope x) (hd:(x==("__debug__" : Str))=false:=by decide) (hcd:(x==("__classdict__" : Str))=false:=by decide):PE X (.Name x pos) (tVar i):=by
 intro pins s σ H Q I h
 obtain⟨v,e,h⟩:=h
 obtain⟨m,hn,hl⟩:=I.loc
 obtain⟨u,r,l⟩:=hl i x v hN e hv
 have fin:EP X pins σ Q u s:=⟨v,H,I,r,h⟩
 rcases l with ⟨hk,hm⟩ | ⟨hk,c,hc,hcell⟩
 ·exact wpAny_Name (Ucp I.ok.kind hk hn hm fin) hd
 ·rcases hk with hk | hk
  ·exact wpAny_Name (Uda I.ok.kind hk hc hcell fin) hd
  ·exact wpAny_Name (wpAny_loadName_free I.ok.kind hk hc hcell fin hcd) hd
theorem Zxq {i j pos}:PE X (.Constant (.int i) j pos) (tC (.int i)):=fun _ _ _ H _ I h=>wpAny_Constant_int ⟨.int i,H,I.tok _,⟨_,rfl⟩,h⟩
theorem pe_bl {b j pos}:PE X (.Constant (.bool b) j pos) (tC (.bl b)):=fun _ _ _ H _ I h=>Constant_bool ⟨.bl b,H,I,rfl,h⟩
theorem Ycp {j pos}:PE X (.Constant .none j pos) (tC .non):=fun _ _ _ H _ I h=>Constant_none ⟨.non,H,I,rfl,h⟩
theorem Yb0 {x j pos}:PE X (.Constant (.str x) j pos) (tC (.str x)):=fun _ _ _ H _ I h=>Calls.Constant_str ⟨.str x,H,I.tok _,⟨_,rfl⟩,h⟩
def Gl (X:Cx) (x:Str):Prop:=X.env.kindOf x=some .globalImplicit
theorem Zuo {E:Vb->Vd->Prop} {pins:List (Ve×Obj)} {s:Vd} {σ:St} {H:Hp} {x:Str} {u:Vb} {pos:Pos} {Q:Vb->Vd->Prop} (I:Inv X pins σ H s) (hg:Gl X x) (hm:X.mg x=some u) (h:Q u s)
  (hd:(x==("__debug__" : Str))=false:=by decide):Vg (Vn X.prog X.w) X.A (eval (.Name x pos) X.env) Q E s :=
 Tbh I.ok.kind hg (Calls.loadGlobal_global (by rw[I.ok.glob]; exact I.mod.glob.keeps I.bk) hm h) hd
theorem Zdw {E:Vb->Vd->Prop} {pins:List (Ve×Obj)} {s:Vd} {σ:St} {H:Hp} {x:Str} {u:Vb} {pos:Pos} {Q:Vb->Vd->Prop} (I:Inv X pins σ H s) (hg:Gl X x) (hm:X.mg x=none) (hv:Vq x=some u) (h:Q u s)
  (hn:x ≠ "__name__" := by decide) (hd:(x==("__debug__" : Str))=false:=by decide):Vg (Vn X.prog X.w) X.A (eval (.Name x pos) X.env) Q E s:=by
 obtain⟨mb,h1,h2⟩:=I.mod.blt
 exact Tbh I.ok.kind hg (Calls.loadGlobal_builtin (by rw[I.ok.glob]; exact I.mod.glob.keeps I.bk) hm (by rw[I.ok.blt]; exact h1.keeps I.bk) ((h2 x hn).trans hv) h) hd
theorem Zum {x:Str} {v:V} {u:Vb} {pos:Pos} (hg:Gl X x) (hm:X.mg x=some u) (r:Zch v u) (hd:(x==("__debug__" : Str))=false:=by decide):PE X (.Name x pos) (tC v) :=
 fun _ _ _ H _ I h=>Zuo I hg hm ⟨v,H,I,r,h⟩ hd
theorem Zys {x:Str} {v:V} {u:Vb} {pos:Pos} (hg:Gl X x) (hm:X.mg x=none) (hv:Vq x=some u) (r:Zch v u) (hn:x ≠ "__name__" := by decide) (hd:(x==("__debug__" : Str))=false:=by decide):PE X (.Name x pos) (tC v) :=
 fun _ _ _ H _ I h=>Zdw I hg hm hv ⟨v,H,I,r,h⟩ hn hd
variable {a b:Vv} {ta tb:TE} {pos:Pos}
variable {tA tB':TT} {rest:List Vv}
nonrec def tAnd (t u:TT):TT:=fun σ H Q=>t σ H fun c H1=>if c=true then u σ H1 Q else Q false H1
nonrec def tOr (t u:TT):TT:=fun σ H Q=>t σ H fun c H1=>if c=true then Q true H1 else u σ H1 Q
nonrec def tNot (t:TT):TT:=fun σ H Q=>t σ H fun c H1=>Q (!c) H1
theorem Zy8 (ha:PT X a tA):PW X (.BoolOp .And [a] pos) tA:=by
 intro wh pins s σ H Q I h
 refine isTrue_and (thn (ha pins s σ H Q I h) fun c s1 e=>?_)
 cases c with
 | true=>exact isTrue_and_nil e
 | false=>exact e
theorem Yb9 (ha:PT X a tA):PW X (.BoolOp .Or [a] pos) tA:=by
 intro wh pins s σ H Q I h
 refine isTrue_or (thn (ha pins s σ H Q I h) fun c s1 e=>?_)
 cases c with
 | false=>exact isTrue_or_nil e
 | true=>exact e
theorem Yca (ha:PT X a tA) (hb:PW X (.BoolOp .And (b::rest) pos) tB'):PW X (.BoolOp .And (a::b::rest) pos) (tAnd tA tB'):=by
 intro wh pins s σ H Q I h
 refine isTrue_and (thn (ha pins s σ H _ I h) fun c s1 zz=>?_)
 obtain⟨H1,I1,q1⟩:=zz
 cases c with
 | true=>exact hb wh pins s1 σ H1 Q I1 q1
 | false=>exact⟨H1,I1,q1⟩
theorem pw_or (ha:PT X a tA) (hb:PW X (.BoolOp .Or (b::rest) pos) tB'):PW X (.BoolOp .Or (a::b::rest) pos) (tOr tA tB'):=by
 intro wh pins s σ H Q I h
 refine isTrue_or (thn (ha pins s σ H _ I h) fun c s1 zz=>?_)
 obtain⟨H1,I1,q1⟩:=zz
 cases c with
 | true=>exact⟨H1,I1,q1⟩
 | false=>exact hb wh pins s1 σ H1 Q I1 q1
theorem Ya2 (ha:PT X a tA):PT X (.UnaryOp .Not a pos) (tNot tA):=by
 intro pins s σ H Q I h
 exact isTrue_not (ha pins s σ H (fun c H1=>Q (!c) H1) I h)
nonrec def tAndV (ta tb:TE):TE:=fun σ H Q=>ta σ H fun x H1=>∃ c,x=.bl c/\if c=true then tb σ H1 Q else Q (.bl false) H1
nonrec def tNotV (ta:TE):TE:=fun σ H Q=>ta σ H fun x H1=>∃ c,x=.bl c/\Q (.bl (!c)) H1
theorem Yc8 {op} {t:TE} (h:PE X a t):PE X (.BoolOp op [a] pos) t:=fun pins s σ H Q I hw=>BoolOp_one (h pins s σ H Q I hw)
theorem Ycz (ha:PE X a ta) (hb:PE X (.BoolOp .And (b::rest) pos) tb):PE X (.BoolOp .And (a::b::rest) pos) (tAndV ta tb):=by
 intro pins s σ H Q I h
 refine BoolOp_and (thn (ha pins s σ H _ I h) fun v s1 zz=>?_)
 obtain⟨x,H1,I1,r1,q1⟩:=zz
 obtain⟨c,rfl,q1⟩:=q1
 cases r1
 refine Ual ?_
 cases c with
 | true=>exact hb pins s1 σ H1 Q I1 q1
 | false=>exact⟨.bl false,H1,I1,rfl,q1⟩
theorem Ybq (ha:PE X a ta):PE X (.UnaryOp .Not a pos) (tNotV ta):=by
 intro pins s σ H Q I h
 refine UnaryOp_ (thn (ha pins s σ H _ I h) fun v s1 zz=>?_)
 obtain⟨x,H1,I1,r1,q1⟩:=zz
 obtain⟨c,rfl,q1⟩:=q1
 cases r1
 exact not_of (Ual ⟨.bl (!c),H1,I1,rfl,q1⟩)
nonrec def tIf (t:TT) (ta tb:TE):TE:=fun σ H Q=>t σ H fun c H1=>if c=true then ta σ H1 Q else tb σ H1 Q
theorem Zvy {c:Vv} (hc:PT X c tA) (ha:PE X a ta) (hb:PE X b tb):PE X (.IfExp c a b pos) (tIf tA ta tb):=by
 intro pins s σ H Q I h
 refine wpAny_IfExp (thn (hc pins s σ H _ I h) fun d s1 zz=>?_)
 obtain⟨H1,I1,q1⟩:=zz
 cases d with
 | true=>exact ha pins s1 σ H1 Q I1 q1
 | false=>exact hb pins s1 σ H1 Q I1 q1
end
def SqL (K:Xb) (H:Hp) (a:Ve) (xs:List V):Prop :=
 Rd H a (.lst xs) \/
  ∃ (o:Obj) (its:Array Vb) (n:Nat),K.lookup a=some o/\o.cls=.type "list" /\ o.dict=none/\o.data=.seq its n/\its.size<=sizeLine/\Zb6 xs its.toList
def SqT (K:Xb) (H:Hp) (a:Ve) (xs:List V):Prop :=
 Rd H a (.tup xs) \/
  ∃ (o:Obj) (its:Array Vb) (n:Nat),K.lookup a=some o/\o.cls=.type "tuple" /\ o.data=.seq its n/\its.size<=sizeLine/\Zb6 xs its.toList/\o.dict=none
nonrec def absV:Vb->Option V
 | .none=>some .non
 | .bool b=>some (.bl b)
 | .int i _=>some (.int i)
 | .str x _=>some (.str x)
 | .bytes b _=>some (.byt b)
 | .float b _=>some (.flt b)
 | .ref a=>some (.ref a)
 | .type n=>some (.ty n)
 | _=>none
theorem Zch.abs {x:V} {u:Vb} (r:Zch x u):absV u=some x:=by
 cases x with
 | non=>cases r; rfl
 | bl _=>cases r; rfl
 | int _=>obtain⟨t,rfl⟩:=r; rfl
 | str _=>obtain⟨t,rfl⟩:=r; rfl
 | byt _=>obtain⟨t,rfl⟩:=r; rfl
 | flt _=>obtain⟨t,rfl⟩:=r; rfl
 | ref _=>cases r; rfl
 | ty _=>cases r; rfl
theorem Zch.inj {x y:V} {u:Vb} (r:Zch x u) (q:Zch y u):x=y:=Xy.inj (r.abs.symm.trans q.abs)
theorem Zb6.inj:∀ {xs ys:List V} {us:List Vb},Zb6 xs us->Zb6 ys us->xs=ys:=by
 intro xs ys us h
 induction h generalizing ys with
 | nil=>intro h'; cases h'; rfl
 | cons r t ih =>
  intro h'
  cases h' with
  | cons r' t'=>rw[r.inj r',ih t']
section
variable {X:Cx} {pins:List (Ve×Obj)} {σ:St} {H:Hp} {s:Vd} {a:Ve} {xs ys:List V}
theorem SqL.of {K:Xb} (h:H a=some (.lst xs)):SqL K H a xs:=.inl (.inl h)
theorem SqT.of {K:Xb} (h:H a=some (.tup xs)):SqT K H a xs:=.inl (.inl h)
theorem Inv.list (I:Inv X pins σ H s) (h:SqL X.K H a xs):∃ its:List Vb,Zb6 xs its/\PlainL s.heap a its.toArray/\xs.length<=sizeLine:=by
 rcases h with h | ⟨o,its,n,hk,hc,hd,hs,hz,r⟩
 ·obtain⟨z,its,n,r,e⟩:=h.ok I.hok
  exact⟨its,r,⟨_,n,e,rfl,rfl,rfl⟩,z⟩
 ·refine⟨its.toList,r,⟨o,n,I.kIn a o hk,hc,hd,by simpa using hs⟩,?_⟩
  have e:=r.length
  simp only[Wdd] at e
  omega
theorem Inv.tuple (I:Inv X pins σ H s) (h:SqT X.K H a xs):∃ its:List Vb,Zb6 xs its/\Uec s.heap a its.toArray/\xs.length<=sizeLine:=by
 rcases h with h | ⟨o,its,n,hk,hc,hs,hz,r,_⟩
 ·obtain⟨z,its,r,p⟩:=h.ok I.hok
  exact⟨its,r,p.tup,z⟩
 ·refine⟨its.toList,r,⟨o,I.kIn a o hk,hc,n,by simpa using hs⟩,?_⟩
  have e:=r.length
  simp only[Wdd] at e
  omega
theorem Inv.list_inj (I:Inv X pins σ H s) (h:SqL X.K H a xs) (h':SqL X.K H a ys):xs=ys:=by
 obtain⟨its,r,⟨o,n,e,_,_,d⟩,_⟩:=I.list h
 obtain⟨its',r',⟨o',n',e',_,_,d'⟩,_⟩:=I.list h'
 rw[e] at e'; cases e'
 rw[d] at d'
 injection d' with d1 _
 have:its=its':=by simpa using congrArg Array.toList d1
 subst this
 exact r.inj r'
theorem Inv.tuple_inj (I:Inv X pins σ H s) (h:SqT X.K H a xs) (h':SqT X.K H a ys):xs=ys:=by
 obtain⟨its,r,⟨o,e,_,n,d⟩,_⟩:=I.tuple h
 obtain⟨its',r',⟨o',e',_,n',d'⟩,_⟩:=I.tuple h'
 rw[e] at e'; cases e'
 rw[d] at d'
 injection d' with d1 _
 have:its=its':=by simpa using congrArg Array.toList d1
 subst this
 exact r.inj r'
end
nonrec abbrev Cx.wish (X:Cx) (E:Vb->Vd->Prop):Cx:={ X with xe:=E }
nonrec abbrev Cx.nox (X:Cx):Cx:=X.wish fun _ _=>False
theorem Cx.Ok.wish {X:Cx} (ok:X.Ok) (E:Vb->Vd->Prop):(X.wish E).Ok :=
 ⟨ok.mod,ok.kind,ok.glob,ok.blt,ok.above,ok.inj,ok.has,ok.cab,ok.hd,ok.frames,ok.stk,ok.exf,ok.bs,ok.bsz,ok.noex,ok.exfs,ok.funs,ok.frf⟩
theorem Cx.Ok.unwish {X:Cx} {E:Vb->Vd->Prop} (ok:(X.wish E).Ok):X.Ok :=
 ⟨ok.mod,ok.kind,ok.glob,ok.blt,ok.above,ok.inj,ok.has,ok.cab,ok.hd,ok.frames,ok.stk,ok.exf,ok.bs,ok.bsz,ok.noex,ok.exfs,ok.funs,ok.frf⟩
section
variable {X:Cx} {pins:List (Ve×Obj)} {σ:St} {H:Hp} {s:Vd} {E:Vb->Vd->Prop}
theorem Inv.wish (I:Inv X pins σ H s) (E:Vb->Vd->Prop):Inv (X.wish E) pins σ H s:=⟨I.ok.wish E,I.os,I.bare,I.base,I.loc,I.cell,I.free,I.freeC,I.pin,I.hok,I.len⟩
theorem Inv.unwish (I:Inv (X.wish E) pins σ H s):Inv X pins σ H s:=⟨I.ok.unwish,I.os,I.bare,I.base,I.loc,I.cell,I.free,I.freeC,I.pin,I.hok,I.len⟩
theorem SP.unwish {D:Ends} {f:Flow} {s':Vd} (h:SP (X.wish E) pins D f s'):SP X pins D f s':=by
 cases f with
 | next=>obtain⟨σ',H',I,q⟩:=h; exact⟨σ',H',I.unwish,q⟩
 | brk=>obtain⟨σ',H',I,q⟩:=h; exact⟨σ',H',I.unwish,q⟩
 | cont=>obtain⟨σ',H',I,q⟩:=h; exact⟨σ',H',I.unwish,q⟩
 | ret u=>obtain⟨v,σ',H',I,r,q⟩:=h; exact⟨v,σ',H',I.unwish,r,q⟩
theorem PT.nox {e:Vv} {t:TT} (h:PT X.nox e t):PT X e t:=fun pins s σ H Q I hw =>
 Uau (h pins s σ H Q (I.wish _) hw) (fun _ _ ⟨H',I',q⟩=>⟨H',I'.unwish,q⟩) fun _ _ z=>Ux z
theorem PSs.nox {st:List Uae} {t:TS} (h:PSs X.nox st t):PSs X st t:=fun pins s σ H D I hw =>
 Uau (h pins s σ H D (I.wish _) hw) (fun _ _ q=>q.unwish) fun _ _ z=>Ux z
end
section
variable {X:Cx} {st:Uae} {rest:List Uae} {t u:TS} {e:Vv} {te:TE} {pos:Pos}
nonrec def tNext:TS:=fun D σ H=>D.nx σ H
nonrec def tSeq (t u:TS):TS:=fun D σ H=>t { D with nx:=u D } σ H
theorem Zz3:PSs X [] tNext:=fun _ _ σ H _ I h=>Ubl ⟨σ,H,I,h⟩
theorem Zv8 (h1:PS X st t) (h2:PSs X rest u):PSs X (st::rest) (tSeq t u):=by
 intro pins s σ H D I h
 refine wpAny_execs_cons (thn (h1 pins s σ H { D with nx:=u D } I h) fun f s1 q=>?_)
 cases f with
 | next =>
  obtain⟨σ',H',I',q⟩:=q
  exact h2 pins s1 σ' H' D I' q
 | ret v=>exact q
 | brk=>exact q
 | cont=>exact q
theorem Inv.quiet {pins:List (Ve×Obj)} {σ:St} {H:Hp} {s:Vd} (I:Inv X pins σ H s):interactive X.env=false:=by simp[interactive,I.ok.kind]
nonrec def tDrop (te:TE):TS:=fun D σ H=>te σ H fun _ H1=>D.nx σ H1
theorem Zyo (he:PE X e te) (hs:Ucf e none pos.line X.env=pure false:=by rfl):PS X (.Expr e pos) (tDrop te):=by
 intro pins s σ H D I h
 exact wpAny_Expr_any (thn (he pins s σ H _ I h) fun v s1 ⟨x,H1,I1,r1,q1⟩=>⟨σ,H1,I1,q1⟩) I.quiet hs
nonrec def tRet (te:TE):TS:=fun D σ H=>te σ H D.rt
theorem Yb3 (he:PE X e te):PS X (.Return (some e) pos) (tRet te):=by
 intro pins s σ H D I h
 exact wpAny_Return_some (thn (he pins s σ H _ I h) fun v s1 ⟨x,H1,I1,r1,q1⟩=>⟨x,σ,H1,I1,r1,q1⟩)
nonrec def tIfS (c:TT) (t u:TS):TS:=fun D σ H=>c σ H fun b H1=>if b=true then t D σ H1 else u D σ H1
theorem ps_if {c:Vv} {a b:List Uae} {tc:TT} (hc:PT X c tc) (ha:PSs X a t) (hb:PSs X b u):PS X (.If c a b pos) (tIfS tc t u):=by
 intro pins s σ H D I h
 refine wpAny_If (thn (hc pins s σ H _ I h) fun d s1 zz=>?_)
 obtain⟨H1,I1,q1⟩:=zz
 cases d with
 | true=>exact ha pins s1 σ H1 D I1 q1
 | false=>exact hb pins s1 σ H1 D I1 q1
end
nonrec abbrev TG:=V->St->Hp->(St->Hp->Prop)->Prop
nonrec abbrev TGs:=List V->St->Hp->(St->Hp->Prop)->Prop
def PG (X:Cx) (target:Vv) (t:TG):Prop :=
 ∀ (pins:List (Ve×Obj)) (s:Vd) (σ:St) (H:Hp) (v:V) (u:Vb) (Q:St->Hp->Prop),Inv X pins σ H s->Zch v u->t v σ H Q ->
  Vg (Vn X.prog X.w) X.A (Ucv target X.env u) (fun _ s'=>∃ σ' H',Inv X pins σ' H' s'/\Q σ' H') X.xe s
def PGs (X:Cx) (ts:List Vv) (t:TGs):Prop :=
 ∀ (pins:List (Ve×Obj)) (s:Vd) (σ:St) (H:Hp) (vs:List V) (us:List Vb) (Q:St->Hp->Prop),Inv X pins σ H s->Zb6 vs us->t vs σ H Q ->
  Vg (Vn X.prog X.w) X.A (assignInOrder ((Uak ts X.env).map (·.2)) us) (fun _ s'=>∃ σ' H',Inv X pins σ' H' s'/\Q σ' H') X.xe s
nonrec abbrev TSet:=V->V->V->Hp->(Hp->Prop)->Prop
def PSet (X:Cx) (t:TSet):Prop :=
 ∀ (pins:List (Ve×Obj)) (s:Vd) (σ:St) (H:Hp) (o i v:V) (ov iv u:Vb) (Q:Hp->Prop),Inv X pins σ H s->Zch o ov->Zch i iv->Zch v u->t o i v H Q ->
  Vg (Vn X.prog X.w) X.A (setItem ov iv u) (fun _ s'=>∃ H',Inv X pins σ H' s'/\Q H') X.xe s
nonrec abbrev TIp:=V->V->Hp->VK->Prop
def PIp (X:Cx) (op:Udr) (t:TIp):Prop :=
 ∀ (pins:List (Ve×Obj)) (s:Vd) (σ:St) (H:Hp) (x y:V) (v u:Vb) (Q:VK),Inv X pins σ H s->Zch x v->Zch y u->t x y H Q ->
  Vg (Vn X.prog X.w) X.A (inplaceOp op v u) (EP X pins σ Q) X.xe s
section
variable {X:Cx} {pos:Pos}
nonrec def Zr2 (i:Nat):TG:=fun v σ H Q=>Q (σ.set i (some v)) H
theorem Zt2 {i:Nat} {x:Str} (hN:X.N.Nodup) (hi:X.N[i]? = some x) (hx:Loc X.env.scope x) (hf:X.fn x=true\/X.env.scope.names.lookup x=some .local:=by first | exact .inl rfl | exact .inr rfl | assumption):PG X (.Name x pos) (Zr2 i):=by
 intro pins s σ H v u Q I r h
 exact wpAny_assign_Name (Zk6 I hN hi hx r (fun s' I'=>⟨_,H,I',h⟩) hf)
nonrec def gNil:TGs:=fun vs σ H Q=>vs=[]/\Q σ H
nonrec def gCons (t:TG) (u:TGs):TGs:=fun vs σ H Q=>∃ v r,vs=v::r/\t v σ H fun σ' H'=>u r σ' H' Q
theorem Zzu:PGs X [] gNil:=by
 intro pins s σ H vs us Q I r h
 obtain⟨e,h⟩:=h
 subst e
 cases r
 exact assignInOrder_nil ⟨σ,H,I,h⟩
theorem Zwj {e:Vv} {es:List Vv} {t:TG} {u:TGs} (h1:PG X e t) (h2:PGs X es u)
  (hs:(Uak (e::es) X.env).map (·.2)=Ucv e X.env::(Uak es X.env).map (·.2):=by rfl):PGs X (e::es) (gCons t u):=by
 intro pins s σ H vs us Q I r h
 obtain⟨v,vr,e1,h⟩:=h
 subst e1
 cases r with
 | cons r rr =>
  rw[hs]
  refine assignInOrder_cons (thn (h1 pins s σ H _ _ _ I r h) fun _ s1 zz=>?_)
  obtain⟨σ1,H1,I1,q1⟩:=zz
  exact h2 pins s1 σ1 H1 _ _ Q I1 rr q1
nonrec def gTup (K:Xb) (n:Nat) (t:TGs):TG:=fun v σ H Q=>∃ a xs,v=.ref a/\SqT K H a xs/\xs.length=n/\t xs σ H Q
theorem Ycf {es:List Vv} {k:Nat} {t:TGs} {n:Nat} (hc:X.calm=true) (h:PGs X es t)
  (hn:(Uak es X.env).length=n:=by rfl) (hst:(Uak es X.env).findIdx? (·.1)=none:=by rfl):PG X (.Tuple es k pos) (gTup X.K n t):=by
 intro pins s σ H v u Q I r hw
 obtain⟨a,xs,e1,hq,hl,hw⟩:=hw
 subst e1
 cases r
 obtain⟨its,rv,ht,hz⟩:=I.tuple hq
 refine assign_Tuple_tuple (I.ok.hd hc) ht (by simp[hn,<- hl,rv.length]) hst fun h' hx=>?_
 have I1:Inv X pins σ H { s with heap:=h' }:=I.kept (t':=s.toks) fun b o e=>hx b o (Xq (Xg e)) e
 exact h pins _ σ H xs _ Q I1 (by simpa using rv) hw
nonrec def gSub (to ti:TE) (t:TSet):TG:=fun v σ H Q=>to σ H fun o H1=>ti σ H1 fun i H2=>t o i v H2 fun H3=>Q σ H3
theorem Yc5 {o i:Vv} {to ti:TE} {t:TSet} (ho:PE X o to) (hi:PE X i ti) (hs:PSet X t)
  (ha:∀ v,Ucv (.Subscript o i pos) X.env v=(do
   let ov<-Udb [v] (eval o X.env)
   let iv<-Udb [v,ov] (eval i X.env)
   standAt pos
   Udb [v,ov,iv] (setItem ov iv v)
   release [v,ov,iv] []):=by intro _; rfl):PG X (.Subscript o i pos) (gSub to ti t):=by
 intro pins s σ H v u Q I r h
 rw[ha]
 refine Va (Vx (thn (ho pins s σ H _ I h) fun ov s1 zz=>?_))
 obtain⟨x,H1,I1,r1,q1⟩:=zz
 refine Va (Vx (thn (hi pins s1 σ H1 _ I1 q1) fun iv s2 zz=>?_))
 obtain⟨y,H2,I2,r2,q2⟩:=zz
 refine Va (Ubv (Va (Vx (thn (hs pins s2 σ H2 x y v ov iv u _ I2 r1 r2 r q2) fun _ s3 zz=>?_))))
 obtain⟨H3,I3,q3⟩:=zz
 exact wpAny_release ⟨σ,H3,I3,q3⟩
nonrec def tAsg (te:TE) (g:TG):TS:=fun D σ H=>te σ H fun x H1=>g x σ H1 D.nx
theorem Ybp {tg e:Vv} {te:TE} {g:TG} (he:PE X e te) (hg:PG X tg g) (hs:swapsWithSole [tg] e pos.line X.env=pure false:=by rfl) (hw:swappedStores [tg] e X.env=pure none:=by rfl)
  (h1:(Uak [tg] X.env).map (·.2)=[Ucv tg X.env]:=by rfl):PS X (.Assign [tg] e pos) (tAsg te g):=by
 intro pins s σ H D I h
 refine wpAny_Assign_stores (thn (he pins s σ H _ I h) fun v s1 ⟨x,H1,I1,r1,q1⟩=>?_) hs hw
 rw[h1]
 exact thn (hg pins s1 σ H1 x v _ I1 r1 q1) fun _ s2 q=>q
theorem Ybm {i:Nat} {x:Str} {e:Vv} {te:TE} {pos':Pos} (hN:X.N.Nodup) (hi:X.N[i]? = some x) (hx:Loc X.env.scope x) (he:PE X e te) (hs:Ucf e (some (.Name x pos')) pos.line X.env=pure false:=by rfl) (hf:X.fn x=true\/X.env.scope.names.lookup x=some .local:=by first | exact .inl rfl | exact .inr rfl | assumption) :
  PS X (.Assign [.Name x pos'] e pos) (tAsg te (Zr2 i)):=by
 intro pins s σ H D I h
 refine wpAny_Assign_Name (thn (he pins s σ H _ I h) fun v s1 ⟨y,H1,I1,r1,q1⟩=>?_) hs
 exact Zk6 I1 hN hi hx r1 (fun s2 I2=>⟨_,H1,I2,q1⟩) hf
nonrec def tAug (i:Nat) (te:TE) (ti:TIp):TS:=fun D σ H=>∃ x,σ[i]? = some (some x)/\te σ H fun y H1=>ti x y H1 fun z H2=>D.nx (σ.set i (some z)) H2
theorem Ycs {i:Nat} {x:Str} {e:Vv} {te:TE} {op:Udr} {ti:TIp} {pos':Pos} (hN:X.N.Nodup) (hi:X.N[i]? = some x) (hx:Loc X.env.scope x) (he:PE X e te) (ho:PIp X op ti) (hf:X.fn x=true\/X.env.scope.names.lookup x=some .local:=by first | exact .inl rfl | exact .inr rfl | assumption) :
  PS X (.AugAssign (.Name x pos') op e pos) (tAug i te ti):=by
 intro pins s σ H D I h
 obtain⟨v,e1,h⟩:=h
 obtain⟨m,hn,hl⟩:=I.loc
 have vis:Vis X.env.scope x:=by rcases hx with k | k; exact .inl k; exact .inr (.inl k)
 obtain⟨u,r,l⟩:=hl i x v hi e1 vis
 refine wpAny_AugAssign_Name ?_
 have go:Vg (Vn X.prog X.w) X.A (eval e X.env) (fun w s₂=>Vg (Vn X.prog X.w) X.A (inplaceOp op u w) (fun r s₃=>Vg (Vn X.prog X.w) X.A (storeName X.env x r) (fun _=>SP X pins D .next) X.xe s₃) X.xe s₂) X.xe s:=by
  refine thn (he pins s σ H _ I h) fun w s1 zz=>?_
  obtain⟨y,H1,I1,r1,q1⟩:=zz
  refine thn (ho pins s1 σ H1 v y u w _ I1 r r1 q1) fun z s2 zz=>?_
  obtain⟨zv,H2,I2,r2,q2⟩:=zz
  exact Zk6 I2 hN hi hx r2 (fun s3 I3=>⟨_,H2,I3,q2⟩) hf
 rcases l with ⟨hk,hm⟩ | ⟨hk,c,hc,hcell⟩
 ·exact Ucp I.ok.kind hk hn hm go
 ·rcases hk with hk | hk
  ·exact Uda I.ok.kind hk hc hcell go
  ·rcases hx with k | k
   ·have:X.env.scope.names.lookup x=some .free:=hk
    rw[k] at this; cases this
   ·have:X.env.scope.names.lookup x=some .free:=hk
    rw[k] at this; cases this
nonrec def ipI (f:Int->Int->Int):TIp:=fun x y H Q=>∃ i j,x=.int i/\y=.int j/\Q (.int (f i j)) H
theorem Ybb:PIp X .Sub (ipI fun i j=>i - j):=by
 intro pins s σ H x y v u Q I r1 r2 h
 obtain⟨i,j,e1,e2,q⟩:=h
 subst e1; subst e2
 obtain⟨t,rfl⟩:=r1
 obtain⟨t',rfl⟩:=r2
 exact isub_int ⟨.int _,H,I.tok _,⟨_,rfl⟩,q⟩
end
section
variable {X:Cx} {pos:Pos}
nonrec def Yaw (c:TT) (tb:TS):TS:=fun D σ H=>∃ W:Nat->St->Hp->Prop,(∃ m,W m σ H)/\∀ m σ H,W m σ H ->
 c σ H fun b H1=>if b=true then ∃ N:St->Hp->Prop,(∀ σ' H',N σ' H'->∃ m',m'<m/\W m' σ' H')/\tb { D with nx:=N,ct:=N,bk:=D.nx } σ H1 else D.nx σ H1
theorem Zwe {c:Vv} {body:List Uae} {tc:TT} {tb:TS} (hp:Udv (Vn X.prog X.w) X.A X.env X.xe) (hc:PT X c tc) (hb:PSs X body tb):PS X (.While c body [] pos) (Yaw tc tb):=by
 intro pins s σ H D I h
 obtain⟨W,⟨m0,w0⟩,turn⟩:=h
 refine wpAny_While (codeAny_whileLoop (fun n s'=>∃ σ' H',Inv X pins σ' H' s'/\W n σ' H') ?_ m0 ⟨σ,H,I,w0⟩)
 rintro n s1 ⟨σ1,H1,I1,w1⟩
 refine Uah hp (thn (hc pins s1 σ1 H1 _ I1 (turn n σ1 H1 w1)) fun b s2 zz=>?_)
 obtain⟨H2,I2,q2⟩:=zz
 cases b with
 | true =>
  obtain⟨N,hN,q2⟩:=q2
  rw[if_pos rfl]
  refine Uah hp (thn (hb pins s2 σ1 H2 _ I2 q2) fun f s3 q3=>?_)
  cases f with
  | next =>
   obtain⟨σ3,H3,I3,n3⟩:=q3
   obtain⟨m',hm,w3⟩:=hN σ3 H3 n3
   exact⟨m',hm,σ3,H3,I3,w3⟩
  | cont =>
   obtain⟨σ3,H3,I3,n3⟩:=q3
   obtain⟨m',hm,w3⟩:=hN σ3 H3 n3
   exact⟨m',hm,σ3,H3,I3,w3⟩
  | brk=>exact q3
  | ret v=>exact q3
 | false =>
  rw[if_neg Wbi]
  exact Ubl ⟨σ1,H2,I2,q2⟩
end
structure It where
 go:Nat->Hp->Prop
 yld:Nat->Hp->V->Hp->Prop
 stop:Nat->Hp->Prop
def Zo3 (X:Cx) (pins:List (Ve×Obj)) (H:Hp) (b:Ve):Prop :=
 H b=none/\b≠X.env.locals/\b∉X.fs/\(b∈X.ex\/X.s₀.heap.objs.size<=b)/\(∀ x c,X.env.cells.lookup x=some c->c≠b)/\∀ p∈X.pn++pins,p.1≠b
theorem Inv.fpOk {X:Cx} {pins:List (Ve×Obj)} {σ:St} {H H':Hp} {s:Vd} {b:Ve} (I:Inv X pins σ H s) (hb:s.heap.objs.size<=b) (hn:H' b=none):Zo3 X pins H' b:=by
 refine⟨hn,Wbu (Xu I.lt hb),I.nofs hb,.inr (Wab I.sz hb),fun x c e z=>?_,fun p hp z=>?_⟩
 ·obtain⟨v,q⟩:=I.cell x c e
  exact absurd (Xu q.lt (by rw[z]; exact hb)) (Wbn _)
 ·exact absurd (Xu (Xg (I.pin p hp).1) (by rw[z]; exact hb)) (Wbn _)
structure Turn (P:Vh) (w:Vs) (K:Xb) (tg:Vv) (J:It) (fp:List Ve) (it:Ve) (tn:Nat->Vy->Prop):Prop where
 mem:it∈fp
 obj:∀ i h,tn i h->∀ b∈fp,∃ o,h.get? b=some o/\∀ v,o.data≠.cell v
 keep:∀ i h h',tn i h->(∀ b∈fp,∀ o,h.get? b=some o->h'.get? b=some o)->tn i h'
 item:∀ (X:Cx),X.prog=P->X.w=w->X.K=K->X.calm=true->∀ (i:Nat) (pins:List (Ve×Obj)) (s:Vd) (σ:St) (H:Hp) (E:Vb->Vd->Prop),Inv X pins σ H s->(∀ b∈fp,Zo3 X pins H b)->tn i s.heap->J.go i H ->
  Vg (Vn P w) X.A (Ubh (.ref it)) (fun r s1=>∃ u,r=some u /\
   Vg (Vn P w) X.A (Ucg tg (.ref it) u) (fun _ s2=>∃ x H',Inv X pins σ H' s2/\Zch x u/\J.yld i H x H'/\tn (i+1) s2.heap/\∀ b∈fp,H' b=none) E s1) E s
 done:∀ (X:Cx),X.prog=P->X.w=w->X.K=K->X.calm=true->∀ (i:Nat) (pins:List (Ve×Obj)) (s:Vd) (σ:St) (H:Hp) (E:Vb->Vd->Prop),Inv X pins σ H s->(∀ b∈fp,Zo3 X pins H b)->tn i s.heap->J.stop i H ->
  Vg (Vn P w) X.A (Ubh (.ref it)) (fun r s1=>r=none/\Inv X pins σ H s1) E s
 self:∀ (A:Vw) (i:Nat) (s:Vd) (Q:Vb->Vd->Prop) (E:Vb->Vd->Prop),tn i s.heap->Q (.ref it) s->Vg (Vn P w) A (pyIter (.ref it)) Q E s
nonrec abbrev TI:=St->Hp->(It->Hp->Prop)->Prop
def PIE (X:Cx) (pins:List (Ve×Obj)) (σ:St) (tg:Vv) (R:It->Hp->Prop) (itv:Vb) (s2:Vd):Prop :=
 ∃ (it:Ve) (fp:List Ve) (tn:Nat->Vy->Prop) (J:It) (H':Hp),itv=.ref it/\Inv X pins σ H' s2/\Turn X.prog X.w X.K tg J fp it tn/\tn 0 s2.heap/\(∀ b∈fp,Zo3 X pins H' b)/\R J H'
def PI (X:Cx) (tg iter:Vv) (wi:TI):Prop :=
 ∀ (pins:List (Ve×Obj)) (s:Vd) (σ:St) (H:Hp) (R:It->Hp->Prop),Inv X pins σ H s->wi σ H R ->
  Vg (Vn X.prog X.w) X.A (eval iter X.env) (fun v s1=>Vg (Vn X.prog X.w) X.A (pyIter v) (PIE X pins σ tg R) X.xe s1) X.xe s
theorem Zts {M:Model} {A:Vw} {E:Vb->Vd->Prop} {s:Vd} {tg:Vv} {it:Ve} {u:Vb} {o:Obj} {n:String} {vs:Array Vb} {Q:Unit->Vd->Prop} (ho:s.heap.get? it=some o) (hc:o.cls=.type n) (hd:o.data=.fields vs)
  (hn:["enumerate","zip","dict_itemiterator","dict_reverseitemiterator","odict_iterator","itertools.zip_longest","itertools.pairwise"].contains n=false) (hQ:Q () s):Vg M A (Ucg tg (.ref it) u) Q E s:=by
 unfold Ucg
 cases tg<;>first
  | exact Vc hQ
  | (cases u<;>first
    | exact Vc hQ
    | (refine Va (wpAny_load ho ?_)
       rw[hc,hd]
       show Vg M A (if (["enumerate","zip","dict_itemiterator","dict_reverseitemiterator","odict_iterator","itertools.zip_longest","itertools.pairwise"].contains n&&vs[0]? == some (Uap _))=true then _ else _) Q E s
       rw[if_neg (by intro h; rw[hn,Wfl] at h; cases h)]
       exact Vc hQ))
nonrec def Itl (K:Xb) (a:Ve):It :=
 ⟨fun i H=>∃ xs x,SqL K H a xs/\xs[i]? = some x,fun i H x H'=>H'=H/\∀ xs,SqL K H a xs->xs[i]? = some x,fun i H=>∃ xs,SqL K H a xs/\xs.length<=i⟩
nonrec def Itt (K:Xb) (a:Ve):It :=
 ⟨fun i H=>∃ xs x,SqT K H a xs/\xs[i]? = some x,fun i H x H'=>H'=H/\∀ xs,SqT K H a xs->xs[i]? = some x,fun i H=>∃ xs,SqT K H a xs/\xs.length<=i⟩
nonrec def Itr (lo:Int) (n:Nat):It:=⟨fun i _=>i<n,fun i H x H'=>H'=H/\x=.int (lo+i),fun i _=>n<=i⟩
theorem Ztj {P:Vh} {w:Vs} {K:Xb} {tg:Vv} (a it:Ve):Turn P w K tg (Itl K a) [it] it (fun i h=>h.IsListIter it a i) where
 mem:=by simp
 obj:=fun i h st b hb=>by
  have e:b=it:=by simpa using hb
  subst e
  obtain⟨o,e,c,d⟩:=st
  exact⟨o,e,fun v z=>by rw[d] at z; cases z⟩
 keep:=fun i h h' st k=>st.at fun o e=>k it (by simp) o e
 item:=by
  intro X hP hw hK hc i pins s σ H E I hf st hg
  subst hP hw hK
  obtain⟨xs,x,hq,hx⟩:=hg
  obtain⟨its,rv,p,hz⟩:=I.list hq
  obtain⟨u,hu,ru⟩:=rv.get hx
  obtain⟨f0,f1,f2,f3,f4,f5⟩:=hf it (by simp)
  refine wpAny_pyNext_list_item st p.isList (x:=u) (by simpa using hu) fun h' st' sb=>?_
  have I1:Inv X pins σ H { s with heap:=h' }:=I.turned (t':=s.toks) (fun b o hb e=>(sb.2 b hb).trans e) f0 f1 f3 f4 f5
  obtain⟨o,e,c,d⟩:=id st'
  exact⟨u,rfl,Zts (s:={ s with heap:=h' }) e c d (by decide) ⟨x,H,I1,ru,⟨rfl,fun ys hy=>by rw[I.list_inj hy hq]; exact hx⟩,st',fun b hb=>(hf b hb).1⟩⟩
 done:=by
  intro X hP hw hK hc i pins s σ H E I hf st hg
  subst hP hw hK
  obtain⟨xs,hq,hx⟩:=hg
  obtain⟨its,rv,p,hz⟩:=I.list hq
  obtain⟨f0,f1,f2,f3,f4,f5⟩:=hf it (by simp)
  have hl:=rv.length
  exact wpAny_pyNext_list_end (I.ok.hd hc) st p.isList (by simp; omega) fun h' eb=>⟨rfl,I.turned (t':=s.toks) (fun b o hb e=>eb b o hb e) f0 f1 f3 f4 f5⟩
 self:=fun _ _ _ _ _ st h=>wpAny_pyIter_listiter st h
theorem Zrl {P:Vh} {w:Vs} {K:Xb} {tg:Vv} (a it:Ve):Turn P w K tg (Itt K a) [it] it (fun i h=>h.IsTupleIter it a i) where
 mem:=by simp
 obj:=fun i h st b hb=>by
  have e:b=it:=by simpa using hb
  subst e
  obtain⟨o,e,c,d⟩:=st
  exact⟨o,e,fun v z=>by rw[d] at z; cases z⟩
 keep:=fun i h h' st k=>st.at fun o e=>k it (by simp) o e
 item:=by
  intro X hP hw hK hc i pins s σ H E I hf st hg
  subst hP hw hK
  obtain⟨xs,x,hq,hx⟩:=hg
  obtain⟨its,rv,p,hz⟩:=I.tuple hq
  obtain⟨u,hu,ru⟩:=rv.get hx
  obtain⟨f0,f1,f2,f3,f4,f5⟩:=hf it (by simp)
  refine wpAny_pyNext_tuple_item st (show s.heap.IsTuple a its.toArray from p) (x:=u) (by simpa using hu) fun h' st' sb=>?_
  have I1:Inv X pins σ H { s with heap:=h' }:=I.turned (t':=s.toks) (fun b o hb e=>(sb.2 b hb).trans e) f0 f1 f3 f4 f5
  obtain⟨o,e,c,d⟩:=id st'
  exact⟨u,rfl,Zts (s:={ s with heap:=h' }) e c d (by decide) ⟨x,H,I1,ru,⟨rfl,fun ys hy=>by rw[I.tuple_inj hy hq]; exact hx⟩,st',fun b hb=>(hf b hb).1⟩⟩
 done:=by
  intro X hP hw hK hc i pins s σ H E I hf st hg
  subst hP hw hK
  obtain⟨xs,hq,hx⟩:=hg
  obtain⟨its,rv,p,hz⟩:=I.tuple hq
  obtain⟨f0,f1,f2,f3,f4,f5⟩:=hf it (by simp)
  have hl:=rv.length
  exact wpAny_pyNext_tuple_end (I.ok.hd hc) st (show s.heap.IsTuple a its.toArray from p) (by simp; omega) fun h' eb=>⟨rfl,I.turned (t':=s.toks) (fun b o hb e=>eb b o hb e) f0 f1 f3 f4 f5⟩
 self:=fun _ _ _ _ _ st h=>wpAny_pyIter_tupleiter st h
theorem Zrb {P:Vh} {w:Vs} {K:Xb} {tg:Vv} (it:Ve) (lo:Int) (n:Nat):Turn P w K tg (Itr lo n) [it] it (fun i h=>Udc h it (lo+(i:Nat)*1) ((n:Int) - (i:Nat)) 1) where
 mem:=by simp
 obj:=fun i h st b hb=>by
  have e:b=it:=by simpa using hb
  subst e
  exact⟨_,st,fun v z=>by
   have z':Data.fields _=Data.cell v:=z
   cases z'⟩
 keep:=fun i h h' st k=>k it (by simp) _ st
 item:=by
  intro X hP hw hK hc i pins s σ H E I hf st hg
  subst hP hw hK
  obtain⟨f0,f1,f2,f3,f4,f5⟩:=hf it (by simp)
  have W:=Walks.range (prog:=X.prog) (w:=X.w) (I.ok.hd hc) it lo 1 n
  refine W.item i s _ _ hg st fun v h' tk hv st' kk=>?_
  obtain⟨t,rfl⟩:=hv
  have I1:Inv X pins σ H { s with heap:=h',toks:=tk }:=I.turned (fun b o hb e=>kk b o (by simpa using hb) e) f0 f1 f3 f4 f5
  refine⟨_,rfl,Zts (s:={ s with heap:=h',toks:=tk }) (n := "range_iterator") st' rfl rfl (by decide) ⟨.int (lo+i),H,I1,⟨t,?_⟩,⟨rfl,rfl⟩,st',fun b hb=>(hf b hb).1⟩⟩
  rw[Int.mul_one]
 done:=by
  intro X hP hw hK hc i pins s σ H E I hf st hg
  subst hP hw hK
  obtain⟨f0,f1,f2,f3,f4,f5⟩:=hf it (by simp)
  exact Ucb (I.ok.hd hc) st (by have:n<=i:=hg; omega) fun h' eb=>⟨rfl,I.turned (t':=s.toks) (fun b o hb e=>eb b o hb e) f0 f1 f3 f4 f5⟩
 self:=fun _ _ _ _ _ st h=>Ucc st h
section
variable {X:Cx} {tg:Vv}
theorem Zpy {pins:List (Ve×Obj)} {σ:St} {H:Hp} {s:Vd} {R:It->Hp->Prop} {E:Vb->Vd->Prop} {lo hi:Int} {t u v:Tok} {tk:Nat} (I:Inv X pins σ H s) (h1 : -(2 ^ 62)<=lo) (h2:lo<2 ^ 62) (h3 : -(2 ^ 62)<=hi) (h4:hi<2 ^ 62)
  (q:R (Itr lo (hi - lo).toNat) H):Vg (Vn X.prog X.w) X.A (pyIter (.ref s.heap.objs.size)) (PIE X pins σ tg R) E { s with heap:=s.heap.push { cls:=.type "range",data:=.fields #[.int lo t,.int hi u,.int 1 v] },toks:=tk }:=by
 refine wpAny_pyIter_range (Tcz ..) (small_one h1 h2 h3 h4) ?_
 have I1:Inv X pins σ H { s with heap:=s.heap.push { cls:=.type "range",data:=.fields #[.int lo t,.int hi u,.int 1 v] },toks:=tk }:=I.kept fun b o e=>Xa _ e
 refine⟨(s.heap.push { cls:=.type "range",data:=.fields #[.int lo t,.int hi u,.int 1 v] }).objs.size,[(s.heap.push { cls:=.type "range",data:=.fields #[.int lo t,.int hi u,.int 1 v] }).objs.size],_,_,H,rfl,
  I1.kept (t':=tk) fun b o e=>Xa _ e,Zrb _ lo (hi - lo).toNat,?_,fun b hb=>?_,q⟩
 ·have e1:lo+((0:Nat):Int)*1=lo:=by simp
  have e2:(((hi - lo).toNat:Nat):Int) - ((0:Nat):Int)=Tab lo hi 1:=by rw[rangeSize_one]; split<;>omega
  show Udc _ _ (lo+((0:Nat):Int)*1) ((((hi - lo).toNat:Nat):Int) - ((0:Nat):Int)) 1
  rw[e1,e2]
  exact Xf _ rfl
 ·have e:b=(s.heap.push { cls:=.type "range",data:=.fields #[.int lo t,.int hi u,.int 1 v] }).objs.size:=by simpa using hb
  subst e
  exact I1.fpOk (Xe _) (I1.hok.fresh (Xe _))
nonrec def iRng1 (ta:TA):TI:=fun σ H R=>ta σ H fun vs H1=>∃ j:Int,vs=[.int j] /\ -(2 ^ 62)<=j/\j<2 ^ 62/\R (Itr 0 j.toNat) H1
nonrec def iRng2 (ta:TA):TI:=fun σ H R=>ta σ H fun vs H1=>∃ i j:Int,vs=[.int i,.int j]/\(-(2 ^ 62)<=i/\i<2 ^ 62 /\ -(2 ^ 62)<=j/\j<2 ^ 62)/\R (Itr i (j - i).toNat) H1
theorem Zr8 {a:Vv} {ta:TA} {p pos:Pos} (hg:Gl X "range") (hm:X.mg "range" = none) (ha:PA X [a] ta) (hs:Vf [a] X.env=[(false,eval a X.env)]:=by rfl):PI X tg (.Call (.Name "range" p) [a] [] pos) (iRng1 ta):=by
 intro pins s σ H R I h
 refine Call_ (Zdw I hg hm boot_range (Uf (thn (ha pos pins s σ H _ I h) fun us s1 ⟨vs,H1,I1,r1,q1⟩=>?_) hs rfl))
 obtain⟨j,e,q1,q2,q⟩:=q1
 subst e
 cases r1 with
 | cons r rr =>
  cases rr
  obtain⟨t,rfl⟩:=r
  exact call_range_1 (Zpy I1 (by omega) (by omega) q1 q2 (by simpa using q))
theorem Zs5 {a b:Vv} {ta:TA} {p pos:Pos} (hg:Gl X "range") (hm:X.mg "range" = none) (ha:PA X [a,b] ta) (hs:Vf [a,b] X.env=[(false,eval a X.env),(false,eval b X.env)]:=by rfl) (hs2:Vf [b] X.env=[(false,eval b X.env)]:=by rfl) :
  PI X tg (.Call (.Name "range" p) [a,b] [] pos) (iRng2 ta):=by
 intro pins s σ H R I h
 refine Call_ (Zdw I hg hm boot_range (Uf (thn (ha pos pins s σ H _ I h) fun us s1 ⟨vs,H1,I1,r1,q1⟩=>?_) (by rw[hs,hs2]) (by rw[hs2]; rfl)))
 obtain⟨i,j,e,⟨q1,q2,q3,q4⟩,q⟩:=q1
 subst e
 cases r1 with
 | cons r rr =>
  cases rr with
  | cons r' rr =>
   cases rr
   obtain⟨t,rfl⟩:=r
   obtain⟨t',rfl⟩:=r'
   exact call_range_2 (Zpy I1 q1 q2 q3 q4 q)
nonrec def tFor (wi:TI) (g:TG) (tb:TS):TS:=fun D σ H=>wi σ H fun J H1=>∃ W:Nat->Nat->St->Hp->Prop,(∃ m,W 0 m σ H1)/\∀ i m σ H,W i m σ H ->
 (J.stop i H/\D.nx σ H)\/(J.go i H/\∃ N:St->Hp->Prop,(∀ σ' H',N σ' H'->∃ m',m'<m/\W (i+1) m' σ' H')/\∀ x H',J.yld i H x H'->g x σ H' fun σ2 H2=>tb { D with nx:=N,ct:=N,bk:=D.nx } σ2 H2)
nonrec def Zmj (fp:List Ve) (h:Vy):List (Ve×Obj):=fp.filterMap fun b=>(h.get? b).map fun o=>(b,o)
theorem Zfm {fp:List Ve} {h:Vy} {b:Ve} {o:Obj} (hb:b∈fp) (e:h.get? b=some o):(b,o)∈Zmj fp h:=Wcm.mpr ⟨b,hb,by rw[e]; rfl⟩
theorem Zuu {fp:List Ve} {h:Vy} {p:Ve×Obj} (hp:p∈Zmj fp h):p.1∈fp/\h.get? p.1=some p.2:=by
 obtain⟨b,hb,e⟩:=Wcm.mp hp
 cases q:h.get? b with
 | none=>rw[q] at e; cases e
 | some o =>
  rw[q] at e
  have e':(b,o)=p:=Xy.inj e
  subst e'
  exact⟨hb,q⟩
theorem Inv.pinned {pins:List (Ve×Obj)} {σ:St} {H:Hp} {s:Vd} {fp:List Ve} (I:Inv X pins σ H s) (hf:∀ b∈fp,Zo3 X pins H b) (ho:∀ b∈fp,∃ o,s.heap.get? b=some o/\∀ v,o.data≠.cell v):Inv X (pins++Zmj fp s.heap) σ H s :=
 I.pins_of fun p hp=>(Xn.mp hp).elim (fun z=>I.pin p (Wac _ z)) fun z=>by
  obtain⟨hb,e⟩:=Zuu z
  obtain⟨f0,f1,f2,_⟩:=hf p.1 hb
  obtain⟨o,e',d⟩:=ho p.1 hb
  rw[e] at e'; cases e'
  exact⟨e,f0,f1,f2,d⟩
theorem Inv.unpinned {pins pl:List (Ve×Obj)} {σ:St} {H:Hp} {s:Vd} (I:Inv X (pins++pl) σ H s):Inv X pins σ H s:=I.pins_of fun p hp=>I.pin p (Wac _ (Way _ hp))
theorem Ycu {iter:Vv} {body:List Uae} {wi:TI} {g:TG} {tb:TS} {pos:Pos} (hp:Udv (Vn X.prog X.w) X.A X.env X.xe) (hc:X.calm=true) (hi:PI X tg iter wi) (hg:PG X tg g) (hb:PSs X body tb)
  (hs:∀ x,Uai iter X.env x=pure x:=by intro _; rfl):PS X (.For tg iter body [] pos) (tFor wi g tb):=by
 intro pins s σ H D I h
 refine wpAny_For (thn (hi pins s σ H _ I h) fun v s1 h1=>thn h1 fun itv s2 h2=>?_) hs
 obtain⟨it,fp,tn,J,H2,e,I2,T,st2,f2,W,⟨m0,w0⟩,turn⟩:=h2
 subst e
 -- what stays true of the iterator's objects through the loop
 have stat:∀ {H':Hp},(∀ b∈fp,H' b=none)->∀ b∈fp,Zo3 X pins H' b:=fun hn b hb=>⟨hn b hb,(f2 b hb).2⟩
 refine codeAny_forLoop_any (fun n s'=>∃ i σ' H',Inv X pins σ' H' s'/\tn i s'.heap/\(∀ b∈fp,H' b=none)/\W i n σ' H') ?_ m0 ⟨0,σ,H2,I2,st2,fun b hb=>(f2 b hb).1,w0⟩
 rintro n s3 ⟨i,σ3,H3,I3,st3,fr3,w3⟩
 rcases turn i n σ3 H3 w3 with ⟨stop,qn⟩ | ⟨go,N,hN,step⟩
 ·refine Uah hp (thn (T.done X rfl rfl rfl hc i pins s3 σ3 H3 X.xe I3 (stat fr3) st3 stop) fun r s4 zz=>?_)
  obtain⟨hr,I4⟩:=zz
  subst hr
  exact Ubl ⟨σ3,H3,I4,qn⟩
 ·refine Uah hp (thn (T.item X rfl rfl rfl hc i pins s3 σ3 H3 X.xe I3 (stat fr3) st3 go) fun r s4 zz=>?_)
  obtain⟨u,hr,h4⟩:=zz
  subst hr
  refine Uah hp (thn h4 fun _ s5 zz=>?_)
  obtain⟨x,H5,I5,r5,y5,st5,fr5⟩:=zz
  have I5':=I5.pinned (stat fr5) (T.obj _ _ st5)
  refine Uah hp (thn (hg _ s5 σ3 H5 x u _ I5' r5 (step x H5 y5)) fun _ s6 zz=>?_)
  obtain⟨σ6,H6,I6,q6⟩:=zz
  refine Uah hp (thn (hb _ s6 σ6 H6 _ I6 q6) fun f s7 q7=>?_)
  have again:∀ {σ7:St} {H7:Hp},Inv X (pins++Zmj fp s5.heap) σ7 H7 s7->N σ7 H7->∃ m,m<n/\∃ i σ' H',Inv X pins σ' H' s7/\tn i s7.heap/\(∀ b∈fp,H' b=none)/\W i m σ' H':=fun {σ7 H7} I7 n7=>by
   obtain⟨m',hm,w7⟩:=hN σ7 H7 n7
   refine⟨m',hm,i+1,σ7,H7,I7.unpinned,T.keep _ _ _ st5 fun b hb o e=>(I7.pin (b,o) (Wac _ (Wac _ (Zfm hb e)))).1,fun b hb=>?_,w7⟩
   obtain⟨o,e,d⟩:=T.obj _ _ st5 b hb
   exact(I7.pin (b,o) (Wac _ (Wac _ (Zfm hb e)))).2.1
  cases f with
  | next=>obtain⟨σ7,H7,I7,n7⟩:=q7; exact again I7 n7
  | cont=>obtain⟨σ7,H7,I7,n7⟩:=q7; exact again I7 n7
  | brk=>obtain⟨σ7,H7,I7,q7⟩:=q7; exact⟨σ7,H7,I7.unpinned,q7⟩
  | ret v=>obtain⟨x7,σ7,H7,I7,r7,q7⟩:=q7; exact⟨x7,σ7,H7,I7.unpinned,r7,q7⟩
end
nonrec abbrev R2:=V->V->Hp->VK->Prop
def OpR (X:Cx) (f:Vb->Vb->Sem Vb) (r:R2):Prop :=
 ∀ (pins:List (Ve×Obj)) (s:Vd) (σ:St) (H:Hp) (x y:V) (v u:Vb) (Q:VK),Inv X pins σ H s->Zch x v->Zch y u->r x y H Q ->
  Vg (Vn X.prog X.w) X.A (f v u) (EP X pins σ Q) X.xe s
def UnR (X:Cx) (f:Vb->Sem Vb) (r:V->Hp->VK->Prop):Prop :=
 ∀ (pins:List (Ve×Obj)) (s:Vd) (σ:St) (H:Hp) (x:V) (v:Vb) (Q:VK),Inv X pins σ H s->Zch x v->r x H Q ->
  Vg (Vn X.prog X.w) X.A (f v) (EP X pins σ Q) X.xe s
def Zle (X:Cx) (f:Vb) (r:List V->Hp->VK->Prop):Prop :=
 ∀ (pins:List (Ve×Obj)) (s:Vd) (σ:St) (H:Hp) (xs:List V) (us:List Vb) (Q:VK),Inv X pins σ H s->Zb6 xs us->r xs H Q ->
  Vg (Vn X.prog X.w) X.A (call f us) (EP X pins σ Q) X.xe s
def TruR (X:Cx) (r:V->Hp->(Bool->Hp->Prop)->Prop):Prop :=
 ∀ (pins:List (Ve×Obj)) (s:Vd) (σ:St) (H:Hp) (x:V) (v:Vb) (Q:Bool->Hp->Prop),Inv X pins σ H s->Zch x v->r x H Q ->
  Vg (Vn X.prog X.w) X.A (truthy v) (TP X pins σ Q) X.xe s
nonrec def tOp (r:R2) (ta tb:TE):TE:=fun σ H Q=>ta σ H fun x H1=>tb σ H1 fun y H2=>r x y H2 Q
nonrec def tUn (r:V->Hp->VK->Prop) (ta:TE):TE:=fun σ H Q=>ta σ H fun x H1=>r x H1 Q
nonrec def rI (C:Int->Int->Prop) (g:Int->Int->V):R2:=fun x y H Q=>∃ i j,x=.int i/\y=.int j/\C i j/\Q (g i j) H
nonrec def rI0 (g:Int->Int->V):R2:=fun x y H Q=>∃ i j,x=.int i/\y=.int j/\Q (g i j) H
nonrec def rU (g:Int->V):V->Hp->VK->Prop:=fun x H Q=>∃ i,x=.int i/\Q (g i) H
section
variable {X:Cx} {a b c:Vv} {ta tb tc:TE} {pos:Pos}
theorem binT (ha:PE X a ta) (hb:PE X b tb) {pins:List (Ve×Obj)} {s:Vd} {σ:St} {H:Hp} {R:V->V->Hp->Prop} (I:Inv X pins σ H s)
  (h:ta σ H fun x H1=>tb σ H1 fun y H2=>R x y H2) {Q:Vb->Vd->Prop} {f:Vb->Vb->Sem Vb}
  (hf:∀ v u s2 x y H2,Inv X pins σ H2 s2->Zch x v->Zch y u->R x y H2->Vg (Vn X.prog X.w) X.A (f v u) Q X.xe s2) :
  Vg (Vn X.prog X.w) X.A (eval a X.env) (fun v s₁=>Vg (Vn X.prog X.w) X.A (eval b X.env) (fun u s₂=>Vg (Vn X.prog X.w) X.A (f v u) Q X.xe s₂) X.xe s₁) X.xe s:=by
 refine thn (ha pins s σ H _ I h) fun v s1 zz=>?_
 obtain⟨x,H1,I1,r1,q1⟩:=zz
 refine thn (hb pins s1 σ H1 _ I1 q1) fun u s2 zz=>?_
 obtain⟨y,H2,I2,r2,q2⟩:=zz
 exact hf v u s2 x y H2 I2 r1 r2 q2
theorem pe_op {op:Udr} {r:R2} (ho:OpR X (Vz op) r) (ha:PE X a ta) (hb:PE X b tb):PE X (.BinOp a op b pos) (tOp r ta tb):=by
 intro pins s σ H Q I h
 exact wpAny_BinOp (binT ha hb I h fun v u s2 x y H2 I2 rx ry q=>ho pins s2 σ H2 x y v u Q I2 rx ry q)
theorem pe_un {op:UnaryOp} {r:V->Hp->VK->Prop} (ho:UnR X (unaryOp op) r) (ha:PE X a ta):PE X (.UnaryOp op a pos) (tUn r ta):=by
 intro pins s σ H Q I h
 exact UnaryOp_ (thn (ha pins s σ H _ I h) fun v s1 ⟨x,H1,I1,r1,q1⟩=>ho pins s1 σ H1 x v Q I1 r1 q1)
theorem opI {f:Vb->Vb->Sem Vb} {C:Int->Int->Prop} {g:Int->Int->Int}
  (rule:∀ (i j:Int) (t u:Tok) (s:Vd) (Q:Vb->Vd->Prop) (E:Vb->Vd->Prop),C i j->Q (.int (g i j) s.toks) { s with toks:=s.toks+1 }->Vg (Vn X.prog X.w) X.A (f (.int i t) (.int j u)) Q E s) :
  OpR X f (rI C fun i j=>.int (g i j)):=by
 intro pins s σ H x y v u Q I rx ry h
 obtain⟨i,j,rfl,rfl,hc,q⟩:=h
 obtain⟨t,rfl⟩:=rx
 obtain⟨t',rfl⟩:=ry
 exact rule i j t t' s _ _ hc ⟨.int (g i j),H,I.tok _,⟨_,rfl⟩,q⟩
theorem opI0 {f:Vb->Vb->Sem Vb} {g:Int->Int->Int}
  (rule:∀ (i j:Int) (t u:Tok) (s:Vd) (Q:Vb->Vd->Prop) (E:Vb->Vd->Prop),Q (.int (g i j) s.toks) { s with toks:=s.toks+1 }->Vg (Vn X.prog X.w) X.A (f (.int i t) (.int j u)) Q E s) :
  OpR X f (rI0 fun i j=>.int (g i j)):=by
 intro pins s σ H x y v u Q I rx ry h
 obtain⟨i,j,rfl,rfl,q⟩:=h
 obtain⟨t,rfl⟩:=rx
 obtain⟨t',rfl⟩:=ry
 exact rule i j t t' s _ _ ⟨.int (g i j),H,I.tok _,⟨_,rfl⟩,q⟩
theorem opB0 {f:Vb->Vb->Sem Vb} {g:Int->Int->Bool}
  (rule:∀ (i j:Int) (t u:Tok) (s:Vd) (Q:Vb->Vd->Prop) (E:Vb->Vd->Prop),Q (.bool (g i j)) s->Vg (Vn X.prog X.w) X.A (f (.int i t) (.int j u)) Q E s) :
  OpR X f (rI0 fun i j=>.bl (g i j)):=by
 intro pins s σ H x y v u Q I rx ry h
 obtain⟨i,j,rfl,rfl,q⟩:=h
 obtain⟨t,rfl⟩:=rx
 obtain⟨t',rfl⟩:=ry
 exact rule i j t t' s _ _ ⟨.bl (g i j),H,I,rfl,q⟩
def Ybc (i j:Int):Prop:=0<j/\j<1073741824
def Ycj (i j:Int):Prop:=0<=j/\j<=1000000/\i.natAbs<2 ^ 64
def Zxl (i j:Int):Prop:=(-(2 ^ 64)<i/\i<2 ^ 64)\/(-(2 ^ 64)<j/\j<2 ^ 64)
theorem Zxl.ok {i j:Int} (h:Zxl i j):IntMulOk i j:=by
 rcases h with ⟨h1,h2⟩ | ⟨h1,h2⟩
 ·exact .of_left (intBits_le_64 h1 h2)
 ·exact .of_right (intBits_le_64 h1 h2)
theorem Yda:OpR X (Vz .Add) (rI0 fun i j=>.int (i+j)):=opI0 fun _ _ _ _ _ _ _ q=>add_int q
theorem Yaz:OpR X (Vz .Sub) (rI0 fun i j=>.int (i - j)):=opI0 fun _ _ _ _ _ _ _ q=>sub_int q
theorem Ybk:OpR X (Vz .Mult) (rI Zxl fun i j=>.int (i*j)):=opI fun _ _ _ _ _ _ _ hc q=>mul_int q hc.ok
theorem Zy5:OpR X (Vz .FloorDiv) (rI Ybc fun i j=>.int (i / j)):=opI fun i j _ _ _ _ _ hc q=>by
 have h1:(0:Int)<j:=hc.1
 have h2:j<1073741824:=hc.2
 exact floordiv_int (by omega) (by rw[Int.fdiv_eq_ediv_of_nonneg i (by omega)]; exact q) (.inl (Tby (by omega)))
theorem Ybx:OpR X (Vz .Mod) (rI (fun _ j=>0<j) fun i j=>.int (i % j)):=opI fun i j _ _ _ _ _ hc q=>by
 have h1:(0:Int)<j:=hc
 exact mod_int' (by omega) (by rw[Int.fmod_eq_emod_of_nonneg i (by omega)]; exact q)
theorem Ya8:OpR X (Vz .Pow) (rI Ycj fun i j=>.int (i ^ j.toNat)):=opI fun _ _ _ _ _ _ _ hc q=>pow_int_small hc.1 hc.2.1 hc.2.2 q
theorem unI {f:Vb->Sem Vb} {g:Int->Int}
  (rule:∀ (i:Int) (t:Tok) (s:Vd) (Q:Vb->Vd->Prop) (E:Vb->Vd->Prop),Q (.int (g i) s.toks) { s with toks:=s.toks+1 }->Vg (Vn X.prog X.w) X.A (f (.int i t)) Q E s) :
  UnR X f (rU fun i=>.int (g i)):=by
 intro pins s σ H x v Q I rx h
 obtain⟨i,rfl,q⟩:=h
 obtain⟨t,rfl⟩:=rx
 exact rule i t s _ _ ⟨.int (g i),H,I.tok _,⟨_,rfl⟩,q⟩
theorem Yc0:UnR X (unaryOp .USub) (rU fun i=>.int (-i)):=unI fun _ _ _ _ _ q=>neg_int q
end
section
variable {X:Cx} {a b c:Vv} {ta tb tc:TE} {pos:Pos}
theorem op_lt:OpR X (Vr .Lt) (rI0 fun i j=>.bl (decide (i<j))):=opB0 fun _ _ _ _ _ _ _ q=>lt_int q
theorem op_le:OpR X (Vr .LtE) (rI0 fun i j=>.bl (decide (i<=j))):=opB0 fun _ _ _ _ _ _ _ q=>le_int q
theorem op_gt:OpR X (Vr .Gt) (rI0 fun i j=>.bl (decide (j<i))):=opB0 fun _ _ _ _ _ _ _ q=>gt_int q
theorem op_ge:OpR X (Vr .GtE) (rI0 fun i j=>.bl (decide (j<=i))):=opB0 fun _ _ _ _ _ _ _ q=>ge_int q
theorem Zaq (b:Vv) {op:CmpOp} (h:op≠.In:=by decide) (h2:op≠.NotIn:=by decide):Uaw op b=false:=by
 have e1:(op==CmpOp.In)=false:=by cases op<;>first | rfl | exact absurd rfl h
 have e2:(op==CmpOp.NotIn)=false:=by cases op<;>first | rfl | exact absurd rfl h2
 cases b<;>simp[Uaw,e1,e2]
theorem Zzo {op:CmpOp} {r:R2} (ho:OpR X (Vr op) r) (ha:PE X a ta) (hb:PE X b tb) (hm:Uaw op b=false):PE X (.Compare a [op] [b] pos) (tOp r ta tb):=by
 intro pins s σ H Q I h
 exact wpAny_Compare1 (binT ha hb I h fun v u s2 x y H2 I2 rx ry q=>ho pins s2 σ H2 x y v u Q I2 rx ry q) hm
nonrec def tTest (t:TE):TT:=fun σ H Q=>t σ H fun x H'=>∃ k,x=.bl k/\Q k H'
theorem Zyi {op:CmpOp} {r:R2} (ho:OpR X (Vr op) r) (ha:PE X a ta) (hb:PE X b tb) (hm:Uaw op b=false):PT X (.Compare a [op] [b] pos) (tTest (tOp r ta tb)):=by
 intro pins s σ H Q I h
 refine wpAny_isTrue_Compare1 (thn (ha pins s σ H _ I h) fun v s1 ⟨x,H1,I1,r1,q1⟩=>thn (hb pins s1 σ H1 _ I1 q1) fun u s2 ⟨y,H2,I2,r2,q2⟩ =>
  thn (ho pins s2 σ H2 x y v u _ I2 r1 r2 q2) fun c s3 ⟨z,H3,I3,r3,k,e,q3⟩=>?_) hm
 subst e
 cases r3
 exact Ual ⟨H3,I3,q3⟩
nonrec def Zxr (r r':R2) (ta tb tc:TE):TE:=fun σ H Q=>ta σ H fun x H1=>tb σ H1 fun y H2=>r x y H2 fun z H3=>∃ k,z=.bl k /\
 (if k=true then tc σ H3 fun w' H4=>r' y w' H4 Q else Q (.bl false) H3)
theorem Zv1 {op op':CmpOp} {r r':R2} (ho:OpR X (Vr op) r) (ho':OpR X (Vr op') r') (ha:PE X a ta) (hb:PE X b tb) (hc:PE X c tc)
  (hm:lastMarks [op,op'] [b,c]=false:=by with_unfolding_all rfl):PE X (.Compare a [op,op'] [b,c] pos) (Zxr r r' ta tb tc):=by
 intro pins s σ H Q I h
 refine Compare_chain (thn (ha pins s σ H _ I h) fun v s1 ⟨x,H1,I1,r1,q1⟩=>chain_link (thn (hb pins s1 σ H1 _ I1 q1) fun u s2 ⟨y,H2,I2,r2,q2⟩ =>
  thn (ho pins s2 σ H2 x y v u _ I2 r1 r2 q2) fun d s3 ⟨z,H3,I3,r3,k,e,q3⟩=>?_)) hm
 subst e
 cases r3
 refine Ual ?_
 cases k with
 | false=>exact ite_ff ⟨.bl false,H3,I3,rfl,q3⟩
 | true=>exact ite_tt (chain_last (thn (hc pins s3 σ H3 _ I3 q3) fun w' s4 ⟨z',H4,I4,r4,q4⟩=>ho' pins s4 σ H4 y z' u w' Q I4 r2 r4 q4))
def TruV (K:Xb) (x:V) (H:Hp) (k:Bool):Prop :=
 match x with
 | .non=>k=false
 | .bl b=>k=b
 | .int i=>k=(i != 0)
 | .str y=>y.length<=sizeLine/\k=((y.length:Int) != 0)
 | .byt y=>y.size<=sizeLine/\k=((y.size:Int) != 0)
 | .ref p=>(∃ xs,SqL K H p xs/\k = !xs.isEmpty)\/(∃ xs,SqT K H p xs/\k = !xs.isEmpty)\/∃ kvs,H p=some (.dK kvs)/\k = !kvs.isEmpty
 | _=>False
theorem Zqw {κ:Type} {kvs:List (κ×V)} {vs:List (κ×Vb)} (r:KV kvs vs):(!vs.isEmpty) = !kvs.isEmpty:=by
 cases r<;>rfl
theorem Zkm {xs:List V} {its:List Vb} (r:Zb6 xs its):(!its.toArray.isEmpty) = !xs.isEmpty:=by
 cases r<;>simp
theorem Zmi:(sizeLine:Nat)<2 ^ 63:=by rw[Ubd]; decide
theorem Yb7:TruR X (fun x H Q=>∃ k,TruV X.K x H k/\Q k H):=by
 intro pins s σ H x v Q I rx h
 obtain⟨k,e,q⟩:=h
 have hl:=Zmi
 have hs:sizeLine=16777216:=Ubd
 cases x with
 | non =>
  cases rx
  have e':k=false:=e
  subst e'
  exact truthy_none ⟨H,I,q⟩
 | bl b =>
  cases rx
  have e':k=b:=e
  subst e'
  exact Ual ⟨H,I,q⟩
 | int i =>
  obtain⟨t,rfl⟩:=rx
  have e':k=(i != 0):=e
  subst e'
  exact PySem.P.truthy_int ⟨H,I,q⟩
 | str y =>
  obtain⟨t,rfl⟩:=rx
  obtain⟨hy,e'⟩:y.length<=sizeLine/\k=((y.length:Int) != 0):=e
  subst e'
  exact PySem.P.truthy_str (by omega) ⟨H,I.tok _,q⟩
 | byt y =>
  obtain⟨t,rfl⟩:=rx
  obtain⟨hy,e'⟩:y.size<=sizeLine/\k=((y.size:Int) != 0):=e
  subst e'
  exact PySem.W.truthy_bytes (by omega) ⟨H,I.tok _,q⟩
 | ref p =>
  cases rx
  have e':(∃ xs,SqL X.K H p xs/\k = !xs.isEmpty)\/(∃ xs,SqT X.K H p xs/\k = !xs.isEmpty)\/∃ kvs,H p=some (.dK kvs)/\k = !kvs.isEmpty:=e
  rcases e' with ⟨xs,hx,e'⟩ | ⟨xs,hx,e'⟩ | ⟨kvs,hx,e'⟩
  ·subst e'
   obtain⟨its,r,pl,hz⟩:=I.list hx
   have hlen:=r.length
   exact wpAny_truthy_list pl.isList (by simp only[Xj]; omega) ⟨H,I.tok _,by rw[Zkm r]; exact q⟩
  ·subst e'
   obtain⟨its,r,pl,hz⟩:=I.tuple hx
   have hlen:=r.length
   exact truthy_tuple pl (by simp only[Xj]; omega) ⟨H,I.tok _,by rw[Zkm r]; exact q⟩
  ·subst e'
   obtain⟨hz,hS,vs,r,m⟩:kvs.length<=sizeLine/\(p==Uab)=false/\∃ vs,KV kvs vs/\s.heap.DictOf (Zn5 X.prog X.w) p vs:=I.hok p _ hx
   have hlen:kvs.length=vs.length:=Tcx r
   exact wpAny_truthy_dict hS m (by omega) ⟨H,I.tok _,by rw[Zqw r]; exact q⟩
 | _=>exact(show False from e).elim
theorem Zvm (ha:PE X a ta) (he:∀ whole,isTrue a X.env whole=(do let v<-whole; standAt a.pos; Udb [v] (truthy v))) :
  PT X a (fun σ H Q=>ta σ H fun x H'=>∃ k,TruV X.K x H' k/\Q k H'):=by
 intro pins s σ H Q I h
 exact isTrue_plain (thn (ha pins s σ H _ I h) fun v s1 ⟨x,H1,I1,r1,q1⟩=>Yb7 pins s1 σ H1 x v Q I1 r1 q1) (he _)
theorem Zqh:OpR X (Vz .Add) (fun x y H Q=>∃ i j,x=.str i/\y=.str j/\i.length+j.length<=sizeLine/\Q (.str (i++j)) H):=by
 intro pins s σ H x y v u Q I rx ry h
 obtain⟨i,j,rfl,rfl,hz,q⟩:=h
 obtain⟨t,rfl⟩:=rx
 obtain⟨t',rfl⟩:=ry
 exact add_str (fun t' tk=>⟨.str (i++j),H,I.tok _,⟨_,rfl⟩,q⟩) hz
theorem Zic {x:V} {us:List Vb} (r:Zb6 [x] us):∃ u,us=[u]/\Zch x u:=by
 cases r with
 | cons r1 r2=>cases r2; exact⟨_,rfl,r1⟩
theorem Zz4 {x y:V} {us:List Vb} (r:Zb6 [x,y] us):∃ u w',us=[u,w']/\Zch x u/\Zch y w':=by
 cases r with
 | cons r1 r2 =>
  cases r2 with
  | cons r3 r4=>cases r4; exact⟨_,_,rfl,r1,r3⟩
theorem Zvd:Zle X (.builtin "abs") (fun xs H Q=>∃ i,xs=[.int i]/\Q (.int (if i<0 then -i else i)) H):=by
 intro pins s σ H xs us Q I r h
 obtain⟨i,rfl,q⟩:=h
 obtain⟨u,rfl,t,rfl⟩:=Zic r
 exact Udn fun u tk=>⟨.int (if i<0 then -i else i),H,I.tok _,⟨_,rfl⟩,q⟩
theorem Znx:Zle X (.type "int") (fun xs H Q=>(∃ i,xs=[.int i]/\Q (.int i) H)\/∃ k,xs=[.bl k]/\Q (.int (if k then 1 else 0)) H):=by
 intro pins s σ H xs us Q I r h
 rcases h with ⟨i,rfl,q⟩ | ⟨k,rfl,q⟩
 ·obtain⟨u,rfl,t,rfl⟩:=Zic r
  exact call_int_int ⟨.int i,H,I,⟨_,rfl⟩,q⟩
 ·obtain⟨u,rfl,r1⟩:=Zic r
  cases r1
  exact call_int_bool ⟨.int (if k then 1 else 0),H,I.tok _,⟨_,rfl⟩,q⟩
end
structure Room (k:Nat) (A:Vw):Prop where
 hd:A.handled=none
 dp:A.depth+3*k+5<recursionLimit
 un:A.units+16*k+200<cLine
 gd:A.guards=some []
theorem Room.mono {j k:Nat} {A:Vw} (r:Room k A) (h:j<=k):Room j A:=⟨r.hd,by have:=r.dp; omega,by have:=r.un; omega,r.gd⟩
theorem Room.deeper {k:Nat} {A:Vw} (r:Room (k+1) A) (env:Env):Room k (A.deeper env) :=
 ⟨r.hd,by have:=r.dp; show A.depth+1+3*k+5<_; omega,by have:=r.un; show A.units+3+16*k+200<_; omega,r.gd⟩
theorem Room.depth {k:Nat} {A:Vw} (r:Room k A):A.depth<recursionLimit:=by have:=r.dp; omega
theorem Room.units {k:Nat} {A:Vw} (r:Room k A):A.units+64<cLine:=by have:=r.un; omega
nonrec def tNil:TA:=fun _ H Q=>Q [] H
nonrec def tCons (ta:TE) (tr:TA):TA:=fun σ H Q=>ta σ H fun x H1=>tr σ H1 fun xs H2=>Q (x::xs) H2
section
variable {X:Cx} {e:Vv} {es:List Vv} {te:TE} {t:TA} {pos:Pos}
theorem Ya0:PA X [] tNil:=fun _ _ _ _ H Q I h=>Calls.spliced_nil ⟨[],H,I,.nil,h⟩
theorem Zyf (ha:PE X e te) (hr:PA X es t) (hs:Vf (e::es) X.env=(false,eval e X.env)::Vf es X.env:=by rfl):PA X (e::es) (tCons te t):=by
 intro pos pins s σ H Q I h
 rw[hs]
 show Vg _ _ (spliced ((false,eval e X.env)::Uag pos (Vf es X.env))) _ _ s
 refine Calls.spliced_cons (thn (ha pins s σ H _ I h) fun u s1 zz=>?_)
 obtain⟨x,H1,I1,r1,q1⟩:=zz
 exact thn (hr pos pins s1 σ H1 _ I1 q1) fun us s2 ⟨xs,H2,I2,r2,q2⟩=>⟨x::xs,H2,I2,.cons r1 r2,q2⟩
nonrec def tTup (t:TA):TE:=fun σ H Q=>t σ H fun xs H1=>xs.length<=sizeLine/\∀ p,H1 p=none->Q (.ref p) (upd H1 p (.tup xs))
nonrec def tLst (t:TA):TE:=fun σ H Q=>t σ H fun xs H1=>xs.length<=sizeLine/\∀ p,H1 p=none->Q (.ref p) (upd H1 p (.lst xs))
theorem Yc3 {x1} (h:PA X es t):PE X (.Tuple es x1 pos) (tTup t):=by
 intro pins s σ H Q I hq
 refine wpAny_Tuple_spliced (thn (h pos pins s σ H _ I hq) fun us s1 ⟨xs,H1,I1,r,z,q⟩=>⟨by rw[<- r.length]; exact z,?_⟩)
 have hf:H1 s1.heap.objs.size=none:=I1.hok.fresh (Xe _)
 refine⟨.ref s1.heap.objs.size,upd H1 s1.heap.objs.size (.tup xs),I1.laid (t':=s1.toks) (fun b u e=>Xa _ e) (Xe _) ?_,rfl,q _ hf⟩
 exact⟨z,us,r,⟨_,Xf _ rfl,rfl,⟨_,rfl⟩,rfl⟩⟩
theorem Yb4 (h:PA X es t):PE X (.List es pos) (tLst t):=by
 intro pins s σ H Q I hq
 refine wpAny_List_spliced (thn (h pos pins s σ H _ I hq) fun us s1 ⟨xs,H1,I1,r,z,q⟩=>⟨by rw[<- r.length]; exact z,?_⟩)
 have hf:H1 s1.heap.objs.size=none:=I1.hok.fresh (Xe _)
 refine⟨.ref s1.heap.objs.size,upd H1 s1.heap.objs.size (.lst xs),I1.laid (t':=s1.toks) (fun b u e=>Xa _ e) (Xe _) ?_,rfl,q _ hf⟩
 exact⟨z,us,0,r,Xf _ rfl⟩
end
nonrec abbrev Sp:=List V->Hp->VK->XK->Prop
nonrec abbrev CXT:=List Env->Hp->Vd->XK->Vb->Vd->Prop
structure Env0 (P:Vh) (w:Vs) (K:Xb) (mg:Str->Option Vb) (base:Vy) (A:Vw) (outer:List Env) (s:Vd) (H:Hp):Prop where
 frames:A.frames=some outer
 mod:Mod K mg base
 bs:∀ b o,base.get? b=some o->s.heap.get? b=some o/\H b=none
 bsz:base.objs.size<=s.heap.objs.size
 funs:s.heap.FunFrames base outer
 frf:∀ b∈frs outer,H b=none
 hok:HOk P w H s.heap
 bare:Ubu s.gens
def CE (outer:List Env) (P:Vh) (w:Vs) (H:Hp) (s:Vd) (Q:VK) (u:Vb) (s':Vd):Prop :=
 ∃ v H',s'.os=s.os/\Ubu s'.gens/\Un (frs outer) [] H H' s.heap s'.heap/\HOk P w H' s'.heap/\Zch v u/\Q v H'
def CR (CX:CXT) (outer:List Env) (P:Vh) (w:Vs) (H:Hp) (s:Vd) (Q:VK) (E:XK) (r:Result) (s':Vd):Prop :=
 match r with
 | .ok (.ret u)=>CE outer P w H s Q u s'
 | .ok _=>False
 | .error e=>CX outer H s E e s'
structure FnOk (P:Vh) (w:Vs) (K:Xb) (mg:Str->Option Vb) (base:Vy) (CX:CXT) (k:Nat) (f:Ve) (fd:Uax) (ps:List Str) (sp:Sp):Prop where
 len:∀ vs H Q E,sp vs H Q E->vs.length=ps.length
 run:∀ (A:Vw) (outer:List Env) (s:Vd) (H:Hp) (args:Args) (us:List Vb) (vs:List V) (Q:VK) (E:XK),Room k A->Env0 P w K mg base A outer s H->Ued s fd args (ps.zip us)->Zb6 vs us->sp vs H Q E ->
  Udw (Vn P w) A (.call (.ref f) args) (CR CX outer P w H s Q E) s
section
variable {X:Cx} {pins:List (Ve×Obj)} {σ:St} {H:Hp} {s s':Vd}
theorem Inv.env0 (I:Inv X pins σ H s):Env0 X.prog X.w X.K X.mg X.base X.A X.stack s H :=
 ⟨I.ok.frames,I.ok.mod,I.bs,Wab I.ok.bsz I.sz,I.stack,I.stkFree,I.hok,I.bare⟩
theorem Inv.after {Q:VK} {u:Vb} (I:Inv X pins σ H s) (h:CE X.stack X.prog X.w H s Q u s'):EP X pins σ Q u s':=by
 obtain⟨v,H',os,bare,un,hok,r,q⟩:=h
 obtain⟨hh,g,d,t,os'⟩:=s'
 obtain rfl:os'=s.os:=os
 exact⟨v,H',I.call (h':=hh) (g':=g) (d':=d) (t':=t) (ch:=[]) un hok bare (fun b z=>absurd z (by simp)),r,q⟩
end
nonrec def Yby (sp:Sp) (dvs:List V) (E:XK) (t:TA):TE:=fun σ H Q=>t σ H fun vs H1=>sp (vs++dvs) H1 Q E
def Zj2 (K:Xb) (fd:Uax) (ps:List Str) (ds:List Vb):Prop :=
 ∀ (s:Vd) (us:List Vb),K.In s.heap->(us++ds).length=ps.length->Ued s fd ⟨us,[]⟩ (ps.zip (us++ds))
theorem Zj2.all {K:Xb} {fd:Uax} {ps:List Str} (h:∀ us:List Vb,us.length=ps.length->bindArgs fd ⟨us,[]⟩=pure (ps.zip us)):Zj2 K fd ps []:=fun s us _ hl=>by
 rw[Xw] at hl ⊢
 exact .of_eq (h us hl)
def Zsn (CX:CXT) (X:Cx) (E:XK):Prop:=∀ (pins:List (Ve×Obj)) (σ:St) (H:Hp) (s:Vd) (e:Vb) (s':Vd),Inv X pins σ H s->CX X.stack H s E e s'->X.xe e s'
section
variable {X:Cx} {CX:CXT} {k:Nat} {f C:Ve} {fd:Uax} {ps:List Str} {sp:Sp} {dvs:List V} {ds:List Vb} {E:XK} {x m:Str} {p pos apos:Pos} {e o:Vv} {es:List Vv} {ta:TE} {t:TA}
theorem Zx3 {pins:List (Ve×Obj)} {σ:St} {H:Hp} {s:Vd} {Q:VK} {us:List Vb} {vs:List V} (F:FnOk X.prog X.w X.K X.mg X.base CX k f fd ps sp) (hr:Room k X.A) (hb:Zj2 X.K fd ps ds) (hd:Zb6 dvs ds) (hx:Zsn CX X E)
  (I:Inv X pins σ H s) (r:Zb6 vs us) (h:sp (vs++dvs) H Q E):Vg (Vn X.prog X.w) X.A (call (.ref f) us) (EP X pins σ Q) X.xe s:=by
 have r2:Zb6 (vs++dvs) (us++ds):=r.append hd
 have hl:(us++ds).length=ps.length:=by rw[<- r2.length]; exact F.len _ _ _ _ h
 refine wpAny_call (Ubi (F.run X.A X.stack s H ⟨us,[]⟩ (us++ds) (vs++dvs) Q E hr I.env0 (hb s us I.kIn hl) r2 h) fun r s' hq=>?_)
 cases r with
 | error e=>exact hx pins σ H s e s' I hq
 | ok fl =>
  cases fl with
  | ret u=>exact I.after hq
  | next=>exact Ux hq
  | brk=>exact Ux hq
  | cont=>exact Ux hq
theorem Zzi (F:FnOk X.prog X.w X.K X.mg X.base CX k f fd ps sp) (hr:Room k X.A) (hg:Gl X x) (hm:X.mg x=some (.ref f)) (hk:Wcb X.K (.ref f)=true) (hb:Zj2 X.K fd ps ds) (hd:Zb6 dvs ds) (hx:Zsn CX X E)
  (ha:PA X (e::es) t) (hdb:(x==("__debug__" : Str))=false:=by decide) (he:Vf (e::es) X.env=(false,eval e X.env)::Vf es X.env:=by rfl) (hpl:(Uag pos (Vf es X.env)).any (·.1)=false:=by rfl) :
  PE X (.Call (.Name x p) (e::es) [] pos) (Yby sp dvs E t):=by
 intro pins s σ H Q I h
 refine Uay (Zuo I hg hm ?_ hdb)
 refine Wer (h₀:=X.base) I.ok.mod.kin hk (thn (ha pos pins s σ H _ I h) fun us s1 ⟨vs,H1,I1,r,q⟩=>⟨I1.kIn,?_⟩) he hpl
 exact Zx3 F hr hb hd hx I1 r q
end
structure FnScope (N P:List Str) (sc:Ucz):Prop where
 kind:sc.kind=.function
 co:sc.isCoroutine=false
 gen:sc.isGenerator=false
 nd:N.Nodup
 pre:N.take P.length=P
 par:∀ x∈P,sc.names.lookup x=some .local\/sc.names.lookup x=some .cell
 nofree:∀ y∈sc.names,y.2≠.free
theorem Zme {kindOf:Str->Option Uaz} {x:Str}:∀ {binds:List (Str×Vb)} {m:Str->Option Vb},(∀ v,(x,v)∉binds)->bindL kindOf binds m x=m x
 | [],_,_=>rfl
 | (n,v)::r,m,h=>by
  unfold bindL
  rw[Zme fun w hw=>h w (Wag _ hw)]
  split
  ·have:x≠n:=by rintro rfl; exact h v Wcc
   simp[this]
  ·rfl
theorem Znn {kindOf:Str->Option Uaz} {x:Str}:∀ {binds:List (Str×Vb)} {m:Str->Option Vb},(∀ v,(x,v)∉binds)->bindC kindOf binds m x=m x
 | [],_,_=>rfl
 | (n,v)::r,m,h=>by
  unfold bindC
  rw[Znn fun w hw=>h w (Wag _ hw)]
  split
  ·rfl
  ·have:x≠n:=by rintro rfl; exact h v Wcc
   simp[this]
theorem Zm4 {kindOf:Str->Option Uaz} {x:Str} {v:Vb}:∀ {P:List Str} {vs:List Vb} {i:Nat} {m:Str->Option Vb},P.Nodup->P[i]? = some x->vs[i]? = some v->kindOf x=some .local ->
  bindL kindOf (P.zip vs) m x=some v
 | [],_,_,_,_,h,_,_=>by simp at h
 | _::_,[],_,_,_,_,h,_=>by simp at h
 | p::P,w::vs,0,m,nd,h1,h2,hk=>by
  simp at h1 h2; subst h1; subst h2
  show bindL kindOf ((p,w)::P.zip vs) m p=_
  unfold bindL
  rw[Zme fun v hv=>(Wbr.mp nd).1 (Wef hv).1,if_pos hk]
  simp
 | p::P,w::vs,i+1,m,nd,h1,h2,hk=>by
  show bindL kindOf ((p,w)::P.zip vs) m x=_
  unfold bindL
  exact Zm4 (i:=i) (Wbr.mp nd).2 (by simpa using h1) (by simpa using h2) hk
theorem Zno {kindOf:Str->Option Uaz} {x:Str} {v:Vb}:∀ {P:List Str} {vs:List Vb} {i:Nat} {m:Str->Option Vb},P.Nodup->P[i]? = some x->vs[i]? = some v->kindOf x≠some .local ->
  bindC kindOf (P.zip vs) m x=some v
 | [],_,_,_,_,h,_,_=>by simp at h
 | _::_,[],_,_,_,_,h,_=>by simp at h
 | p::P,w::vs,0,m,nd,h1,h2,hk=>by
  simp at h1 h2; subst h1; subst h2
  show bindC kindOf ((p,w)::P.zip vs) m p=_
  unfold bindC
  rw[Znn fun v hv=>(Wbr.mp nd).1 (Wef hv).1,if_neg hk]
  simp
 | p::P,w::vs,i+1,m,nd,h1,h2,hk=>by
  show bindC kindOf ((p,w)::P.zip vs) m x=_
  unfold bindC
  exact Zno (i:=i) (Wbr.mp nd).2 (by simpa using h1) (by simpa using h2) hk
nonrec def start (N:List Str) (vs:List V):St:=vs.map some++Xk (N.length - vs.length) none
nonrec def Zu1 (CX:CXT) (P:Vh) (w:Vs) (K:Xb) (mg:Str->Option Vb) (base:Vy) (N:List Str) (qual:Str) (scope:Ucz) (f:Ve) (cd:Vb) (A:Vw) (outer:List Env) (s:Vd) (H:Hp) (E:XK):Cx where
 prog:=P
 w:=w
 K:=K
 mg:=mg
 base:=base
 A:=A.deeper (Uch qual scope s.heap.objs.size f cd)
 N:=N
 s₀:=s
 H₀:=H
 env:=Uch qual scope s.heap.objs.size f cd
 outer:=outer
 stack:=Uch qual scope s.heap.objs.size f cd::outer
 ex:=[]
 calm:=true
 fn:=fun _=>true
 pn:=[]
 xe:=fun e s'=>Vg (Vn P w) (A.deeper (Uch qual scope s.heap.objs.size f cd)) (leaving (Uch qual scope s.heap.objs.size f cd) e) (fun _ s''=>CX outer H s E e s'') (fun e' s''=>CX outer H s E e' s'') s'
theorem Zld {sc:Ucz} {n:Nat} {x:Str} (h:sc.names.lookup x=some .cell):∃ c,(cellsFrom n sc.names []).lookup x=some c:=by
 have q:=Wea sc.names n [] (.inl h)
 exact Wbj.mp q
theorem Zs6 {CX:CXT} {P:Vh} {w:Vs} {K:Xb} {mg:Str->Option Vb} {base:Vy} {N ps:List Str} {qual:Str} {scope:Ucz} {f:Ve} {cd:Vb} {A:Vw} {outer:List Env} {s s1:Vd} {H:Hp} {E:XK} {us:List Vb} {vs:List V}
  (S:FnScope N ps scope) (hd:A.handled=none) (e0:Env0 P w K mg base A outer s H) (hl:vs.length=ps.length) (r:Zb6 vs us)
  (x:InCallC s s.heap.objs.size (bindL (Uch qual scope s.heap.objs.size f cd).kindOf (ps.zip us) fun _=>none) (cellsFrom (s.heap.objs.size+1) scope.names []) (bindC (Uch qual scope s.heap.objs.size f cd).kindOf (ps.zip us) fun _=>none) s1) :
  Inv (Zu1 CX P w K mg base N qual scope f cd A outer s H E) [] (start N vs) H s1:=by
 have hpl:ps.length<=N.length:=by have:=congrArg Wbv S.pre; rw[Wau] at this; omega
 obtain⟨h1,tk,rfl,hk⟩:=x.done
 have noA:∀ b:Ve,b∉(Zu1 CX P w K mg base N qual scope f cd A outer s H E).ex:=fun b z=>absurd (show b∈([]:List Ve) from z) (by simp)
 refine⟨⟨e0.mod,S.kind,rfl,rfl,Xe _,fun y z c h1 h2=>?_,fun y hy=>?_,fun y c _ h=>?_,fun _=>hd,Around.frames_deeper e0.frames,.inr ⟨rfl,rfl⟩,fun b z=>absurd z (noA b),e0.bs,e0.bsz,fun b _ _=>noA b,fun b z=>absurd z (noA b),e0.funs,e0.frf⟩,
  rfl,e0.bare,Un.kept hk,⟨_,x.toInCall.ns,fun i y v h1 h2 h3=>?_⟩,fun y c h=>⟨_,x.cell y c h⟩,e0.hok.fresh (Xe _),fun y c h=>?_,fun p hp=>absurd (show p∈([]:List (Ve×Obj)) from hp) (by simp),e0.hok.kept hk,?_⟩
 ·exact name_of_addr x.apart (Ur h1) (Ur h2)
 ·have hy:scope.names.lookup y=some .cell\/scope.names.lookup y=some .free:=hy
  rcases hy with hy | hy
  ·exact Zld hy
  ·exact absurd rfl (S.nofree _ (Ur hy))
 ·exact Wee (x.above y c (Ur h))
 ·have hi:i<vs.length:=by
   unfold start at h2
   by_cases hi:i<vs.length
   ·exact hi
   ·rw[Wak (by simpa using hi)] at h2
    rw[Wdu] at h2
    split at h2<;>cases h2
  have ha:vs[i]? = some v:=by
   unfold start at h2
   rw[Xm (by simpa using hi),Xv] at h2
   cases e:vs[i]? with
   | none=>rw[e] at h2; cases h2
   | some a=>rw[e] at h2; cases h2; rfl
  obtain⟨u,hu,rv⟩:=r.get ha
  have hp:ps[i]? = some y:=by
   rw[<- S.pre,Wbk (by omega)]; exact h1
  have ndP:ps.Nodup:=by rw[<- S.pre]; exact S.nd.sublist (List.take_sublist _ _)
  refine⟨u,rv,?_⟩
  rcases S.par y (Wae hp) with k | k
  ·exact .inl ⟨k,Zm4 ndP hp hu k⟩
  ·obtain⟨c,e⟩:=Zld (n:=s.heap.objs.size+1) k
   refine .inr ⟨.inl k,c,e,?_⟩
   have q:=x.cell y c e
   rw[Zno ndP hp hu (by show scope.names.lookup y≠_; rw[k]; decide)] at q
   exact q
 ·exact e0.hok.fresh (Wee (x.above y c (Ur h)))
 ·unfold start
  show _=N.length
  rw[Xz,Xi,List.length_replicate]
  omega
theorem fn_of {CX:CXT} {P:Vh} {w:Vs} {K:Xb} {mg:Str->Option Vb} {base:Vy} {k:Nat} {f:Ve} {name qual:Str} {params:Arguments} {body:List Uae} {scope:Ucz} {dV kV doc pm cdv ct oc:Vb} {an od:Option Ve}
  {osl:Array (Option Vb)} {N ps:List Str} {sp:Sp} (lk:K.lookup f=some ⟨oc,od,.func (Wby name qual params body scope dV kV doc pm an cdv ct),osl⟩) (hcd:Wdn K cdv qual=true) (S:FnScope N ps scope)
  (len:∀ vs H Q E,sp vs H Q E->vs.length=ps.length)
  (hbody:∀ (A:Vw) (outer:List Env) (s:Vd) (H:Hp) (vs:List V) (Q:VK) (E:XK),Room k (A.deeper (Uch qual scope s.heap.objs.size f cdv))->sp vs H Q E ->
   ∃ t,PSs (Zu1 CX P w K mg base N qual scope f cdv A outer s H E) body t/\t { nx:=fun _ H'=>Q .non H',rt:=Q } (start N vs) H) :
  FnOk P w K mg base CX (k+1) f (Wby name qual params body scope dV kV doc pm an cdv ct) ps sp:=by
 refine⟨len,fun A outer s H args us vs Q E hr e0 hb r hsp=>?_⟩
 have hl:=len _ _ _ _ hsp
 have KX:K.In s.heap:=e0.mod.kin.keeps fun b o e=>(e0.bs b o e).1
 have lim:s.heap.NoLimit:=e0.mod.nolimit.keeps fun b o e=>(e0.bs b o e).1
 have hkind:∀ y∈ps.zip us,scope.names.lookup y.1=some .local\/(scope.names.lookup y.1=some .cell/\((cellsFrom (s.heap.objs.size+1) scope.names []).lookup y.1).isSome=true):=fun⟨n,v⟩ hy=>by
  rcases S.par n (Wef hy).1 with q | q
  ·exact .inl q
  ·exact .inr ⟨q,Wea _ _ _ (.inl q)⟩
 refine codeAny_call_function hr.depth (KX _ _ lk) rfl S.co S.gen rfl (PySem.W.codeRec_of KX hcd) (hb _ _ _ _ ?_)
 refine wpAny_newFunctionEnv_cells S.kind hkind fun env he s1 x=>?_
 subst he
 refine⟨lim.keeps x.toInCall.keep,codeAny_func ?_⟩
 obtain⟨t,ht,hq⟩:=hbody A outer s H vs Q E (hr.deeper _) hsp
 have I:Inv (Zu1 CX P w K mg base N qual scope f cdv A outer s H E) [] (start N vs) H s1:=Zs6 S hr.hd e0 hl r x
 refine Uau (ht [] s1 (start N vs) H _ I hq) (fun fl s' hs=>?_) fun e s' hs=>hs
 have fin:∀ {σ':St} {H':Hp} {v:V} {u:Vb},Inv (Zu1 CX P w K mg base N qual scope f cdv A outer s H E) [] σ' H' s'->Zch v u->Q v H'->CE outer P w H s Q u s' :=
  fun {σ' H' v u} J rv q=>⟨v,H',J.os,J.bare,J.base,J.hok,rv,q⟩
 cases fl with
 | ret u =>
  obtain⟨v,σ',H',J,rv,q⟩:=hs
  exact fin J rv q
 | next =>
  obtain⟨σ',H',J,q⟩:=hs
  exact fin (v:=V.non) (u:=Uu) J rfl q
 | brk =>
  obtain⟨_,_,_,q⟩:=hs
  exact Ux q
 | cont =>
  obtain⟨_,_,_,q⟩:=hs
  exact Ux q
section
variable {X:Cx} {x:Str} {p pos:Pos} {e:Vv} {es:List Vv} {t:TA} {id T:String} {r:List V->Hp->VK->Prop}
nonrec def tCB (r:List V->Hp->VK->Prop) (t:TA):TE:=fun σ H Q=>t σ H fun vs H1=>r vs H1 Q
theorem Zwq (hc:Zle X (.builtin id) r) (hg:Gl X x) (hm:X.mg x=none) (hv:Vq x=some (.builtin id)) (ha:PA X (e::es) t) (hn:x ≠ "__name__" := by decide) (hdb:(x==("__debug__" : Str))=false:=by decide)
  (he:Vf (e::es) X.env=(false,eval e X.env)::Vf es X.env:=by rfl) (hpl:(Uag pos (Vf es X.env)).any (·.1)=false:=by rfl):PE X (.Call (.Name x p) (e::es) [] pos) (tCB r t):=by
 intro pins s σ H Q I h
 refine Uay (Zdw I hg hm hv ?_ hn hdb)
 exact PyProof.Rows.callWith_builtin1 (thn (ha pos pins s σ H _ I h) fun us s1 ⟨vs,H1,I1,r1,q1⟩=>hc pins s1 σ H1 vs us Q I1 r1 q1) he hpl
theorem Zti (hc:Zle X (.type T) r) (hg:Gl X x) (hm:X.mg x=none) (hv:Vq x=some (.type T)) (ha:PA X (e::es) t) (hn:x ≠ "__name__" := by decide) (hdb:(x==("__debug__" : Str))=false:=by decide)
  (he:Vf (e::es) X.env=(false,eval e X.env)::Vf es X.env:=by rfl) (hpl:(Uag pos (Vf es X.env)).any (·.1)=false:=by rfl):PE X (.Call (.Name x p) (e::es) [] pos) (tCB r t):=by
 intro pins s σ H Q I h
 refine Uay (Zdw I hg hm hv ?_ hn hdb)
 exact Uf (thn (ha pos pins s σ H _ I h) fun us s1 ⟨vs,H1,I1,r1,q1⟩=>hc pins s1 σ H1 vs us Q I1 r1 q1) he hpl
end
end L2
namespace HT
open PySem PyProof.Rows
section
variable {prog:Vh} {w:Vs} {A:Vw} {E:Vb->Vd->Prop} {s:Vd}
theorem cat_tup {t b:Ve} {vs ws:List Vb} {Q:Vb->Vd->Prop} (ht:Uec s.heap t vs.toArray) (hb:Uec s.heap b ws.toArray) (hv:vs≠[])
  (h1:ws=[]->Q (.ref t) s) (h2:ws≠[]->Q (.ref s.heap.objs.size) { s with heap:=s.heap.push { cls:=.type "tuple",data:=.seq (vs++ws).toArray } })
  (hsz:vs.length+ws.length<=sizeLine):Vg (Vn prog w) A (Vz .Add (.ref t) (.ref b)) Q E s:=by
 obtain⟨⟨cls,dd,data,sl⟩,ho,hc,n,hd⟩:=id ht
 obtain⟨⟨cls2,dd2,data2,sl2⟩,ho2,hc2,n2,hd2⟩:=id hb
 simp only at hc hd hc2 hd2
 subst hc hd hc2 hd2
 have e:vs.toArray++ws.toArray=(vs++ws).toArray:=by simp
 by_cases hw:ws=[]
 ·exact Udo ⟨_,ho,rfl⟩ ⟨_,ho2,rfl⟩ Uca Udi Tas Tap (Tan _ _)
   (tuple_addW1 t b vs.toArray ws.toArray n n2 dd dd2 sl sl2 (by simpa using hv) (by simp[hw])) ⟨ho,ho2,h1 hw⟩
 ·refine Udo ⟨_,ho,rfl⟩ ⟨_,ho2,rfl⟩ Uca Udi Tas Tap (Tan _ _)
   (tuple_addW2 t b vs.toArray ws.toArray n n2 dd dd2 sl sl2 (by simpa using hv) (by simpa using hw) (by rw[Xj,Xj]; exact hsz)) ⟨ho,ho2,?_⟩
  rw[e]
  exact h2 hw
nonrec def sIx (n d:Nat):Option Int->Nat
 | none=>d
 | some v=>if v<0 then (v+(n:Int)).toNat else min v.toNat n
theorem Ycd (n d:Nat) (hd:d<=n) (o:Option Int):sIx n d o<=n:=by
 cases o with
 | none=>exact hd
 | some v =>
  show (if v<0 then (v+(n:Int)).toNat else min v.toNat n)<=n
  by_cases hv:v<0
  ·rw[if_pos hv]; omega
  ·rw[if_neg hv]; exact Nat.min_le_right _ _
theorem Zuy (v:Int) (n d:Nat):(if v<0 then max (v+(n:Int)) 0 else min v (n:Int))=((sIx n d (some v):Nat):Int):=by
 show (if v<0 then max (v+(n:Int)) 0 else min v (n:Int))=(((if v<0 then (v+(n:Int)).toNat else min v.toNat n):Nat):Int)
 by_cases hv:v<0
 ·simp only[if_pos hv]; omega
 ·simp only[if_neg hv]; omega
theorem Zrg (lo hi:Option Int) (n:Nat):Tak lo hi 1 (n:Int)=(((sIx n 0 lo:Nat):Int),((sIx n n hi:Nat):Int)):=by
 have h1:¬ ((1:Int)<0):=by omega
 unfold Tak
 simp only[h1,if_false]
 refine Prod.ext ?_ ?_
 ·cases lo with
  | none=>rfl
  | some v=>exact Zuy v n 0
 ·cases hi with
  | none=>rfl
  | some v=>exact Zuy v n n
theorem Zrm (i j:Nat):Uw (i:Int) (j:Int) 1=j - i:=by
 unfold Uw
 have h1:(1:Int) > 0:=by omega
 simp only[h1,if_true,Int.ediv_one]
 split<;>omega
theorem Zkr {v:Vb} {o:Option Int} {Q:Option Int->Vd->Prop} (p:Udj v o) (h:Q o s):Vg (Vn prog w) A (Builtin.Slice.slicePartIndex v) Q E s:=by
 cases p with
 | none=>exact slicePart_none h
 | int i t=>exact slicePart_int h
theorem sliceApplied_gen {sl:Ve} {vl vu:Vb} {lo hi:Option Int} {n:Nat} {Q:Int×Int×Nat->Vd->Prop} (hs:s.heap.IsSliceOf sl vl vu .none) (pl:Udj vl lo) (pu:Udj vu hi)
  (h:Q (((sIx n 0 lo:Nat):Int),1,sIx n n hi - sIx n 0 lo) s):Vg (Vn prog w) A (Tbi (.ref sl) (pure (n:Int))) Q E s:=by
 obtain⟨os,hos,hcs,hds⟩:=id hs
 unfold Tbi Builtin.Slice.sliceFields
 refine Va (Va (Vl hos hds (x:=vl) rfl (Va (Vl hos hds (x:=vu) rfl (Va (Vl hos hds (x:=.none) rfl (Vc ?_)))))))
 refine Va (slicePart_none ?_)
 show Vg _ _ (if ((1:Int)==0)=true then _ else _) _ _ s
 rw[if_neg (by decide)]
 refine Va (Zkr pl (Va (Zkr pu (Va (Vc ?_)))))
 show Vg _ _ (match Tak lo hi 1 (n:Int) with | (lo,hi)=>pure (lo,(1:Int),Uw lo hi 1)) _ _ s
 rw[Zrg lo hi n]
 show Vg _ _ (pure (((sIx n 0 lo:Nat):Int),(1:Int),Uw ((sIx n 0 lo:Nat):Int) ((sIx n n hi:Nat):Int) 1)) _ _ s
 rw[Zrm]
 exact Vc h
theorem Zw2 (xs:Array Vb) (i k:Nat):((Wcl k).filterMap fun(m:Nat)=>xs[((i:Int)+(m:Int)*1).toNat]?).toArray=((xs.toList.drop i).take k).toArray:=by
 have e:(fun(m:Nat)=>xs[((i:Int)+(m:Int)*1).toNat]?)=fun m=>xs[i+m]? := by
  funext m
  have:((i:Int)+(m:Int)*1).toNat=i+m:=by omega
  rw[this]
 rw[e]
 have:=pick_run xs i k
 rw[List.filterMap_map] at this
 have e2:((fun x=>xs[x]?) ∘ fun x=>i+x)=fun m=>xs[i+m]? := rfl
 rw[e2] at this
 rw[this]
theorem getItem_tuple_cut {t sl:Ve} {items:Array Vb} {vl vu:Vb} {lo hi:Option Int} {Q:Vb->Vd->Prop} (ht:Uec s.heap t items) (hs:s.heap.IsSliceOf sl vl vu .none) (pl:Udj vl lo) (pu:Udj vu hi)
  (hw:¬ (sIx items.size 0 lo=0/\sIx items.size items.size hi=items.size))
  (h:Q (.ref s.heap.objs.size) { s with heap:=s.heap.push { cls:=.type "tuple",data:=.seq ((items.toList.drop (sIx items.size 0 lo)).take (sIx items.size items.size hi - sIx items.size 0 lo)).toArray } })
  (hsz:items.size<=sizeLine):Vg (Vn prog w) A (Udd (.ref t) (.ref sl)) Q E s:=by
 have htake:sizeOk (.seq ((items.toList.drop (sIx items.size 0 lo)).take (sIx items.size items.size hi - sIx items.size 0 lo)).toArray):=by
  show ((items.toList.drop (sIx items.size 0 lo)).take (sIx items.size items.size hi - sIx items.size 0 lo)).toArray.size<=sizeLine
  rw[Xj,Wau,Wbl,Wdd]
  omega
 have hj:sIx items.size items.size hi<=items.size:=Ycd _ _ (Xe _) hi
 obtain⟨os,hos,hcs,hds⟩:=id hs
 have hTs:s.TypeIs (.ref sl) "slice" := ⟨os,hos,hcs⟩
 unfold Udd
 try with_reducible refine Vx ?_
 first | refine Va (Vc ?_) | skip
 refine Va (wpAny_sequenceKey ht.typeIs (by decide) ?_)
 refine Va (Vi (name:=Ub "__getitem__") ht.typeIs Ug
  (Vo Ug ht.typeIs entry_tuple_getitem ?_ (args_tuple_getitem _ _)))
 show Vg _ _ (Tbj (.ref t) >>= _) _ _ s
 refine Va (tupleItemsOf_ ht ?_)
 refine Va (Uci hTs ?_)
 rw[if_pos (by decide)]
 refine Va (sliceApplied_gen hs pl pu ?_)
 have hno:¬ ((((sIx items.size 0 lo:Nat):Int)==0&&(1:Int)==1&&(sIx items.size items.size hi - sIx items.size 0 lo)==items.size)=true):=by
  intro q
  rw[Wad,Wad] at q
  have q1:((sIx items.size 0 lo:Nat):Int)=0:=eq_of_beq q.1.1
  have q2:sIx items.size items.size hi - sIx items.size 0 lo=items.size:=eq_of_beq q.2
  exact hw ⟨by omega,by omega⟩
 show Vg _ _ (if (((sIx items.size 0 lo:Nat):Int)==0&&(1:Int)==1&&(sIx items.size items.size hi - sIx items.size 0 lo)==items.size)=true then _ else _) _ _ s
 rw[if_neg hno,Zw2]
 first
  | exact Va (m:=Uz _) (Vt (Vc ⟨_,rfl,Vc h⟩) htake)
  | exact Va (m:=Uz _) (Vt (Va (Vc (Vc ⟨_,rfl,Vc h⟩))) htake)
  | exact Va (Va (m:=Uz _) (Vt (Vc (Vc ⟨_,rfl,Vc h⟩)) htake))
  | exact Va (Va (m:=Uz _) (Vt (Vc ⟨_,rfl,Vc h⟩) htake))
end
end HT
namespace L2
open PySem PySem.Spec PyProof.Rows
nonrec abbrev TO:=St->Hp->(Option Int->Hp->Prop)->Prop
def PO (X:Cx) (e:Option Vv) (t:TO):Prop :=
 ∀ (pins:List (Ve×Obj)) (s:Vd) (σ:St) (H:Hp) (Q:Option Int->Hp->Prop),Inv X pins σ H s->t σ H Q ->
  Vg (Vn X.prog X.w) X.A (evalPart e X.env) (fun u s'=>∃ o H',Inv X pins σ H' s'/\Udj u o/\Q o H') X.xe s
nonrec def Yai:TO:=fun _ H Q=>Q none H
nonrec def tPart (t:TE):TO:=fun σ H Q=>t σ H fun x H1=>∃ i,x=.int i/\Q (some i) H1
theorem Zkt {ns:List Int}:∀ {us:List Vb},Zb6 (ns.map V.int) us->Uba us ns:=by
 induction ns with
 | nil=>intro us r; rw[Wdi] at r; cases r; exact .nil
 | cons n ns ih =>
  intro us r
  rw[Xs] at r
  cases r with
  | cons r1 r2 =>
   obtain⟨t,e⟩:=r1
   subst e
   exact .cons n t (ih r2)
section
variable {X:Cx} {e:Vv} {te:TE} {lo hi:Option Vv} {tl th:TO} {pos p2:Pos}
theorem Zym:PO X none Yai:=by
 intro pins s σ H Q I h
 rw[evalPart_none]
 exact Vc ⟨none,H,I,.none,h⟩
theorem Zyg (h:PE X e te):PO X (some e) (tPart te):=by
 intro pins s σ H Q I hw
 rw[evalPart_some]
 refine thn (h pins s σ H _ I hw) fun u s1 zz=>?_
 obtain⟨x,H1,I1,r1,q1⟩:=zz
 obtain⟨i,rfl,q⟩:=q1
 obtain⟨t,rfl⟩:=r1
 exact⟨some i,H1,I1,.int i t,q⟩
def SlR (X:Cx) (r:V->Option Int->Option Int->Hp->VK->Prop):Prop :=
 ∀ (pins:List (Ve×Obj)) (s:Vd) (σ:St) (H:Hp) (x:V) (v vl vu:Vb) (lo hi:Option Int) (sl:Ve) (Q:VK),Inv X pins σ H s->Zch x v->s.heap.IsSliceOf sl vl vu .none->Udj vl lo->Udj vu hi->r x lo hi H Q ->
  ∃ T id,typeLookup (.type T) "__getitem__" = pure (some (.builtin id))/\s.TypeIs v T/\Vg (Vn X.prog X.w) X.A (Udd v (.ref sl)) (EP X pins σ Q) X.xe s
nonrec def tSl (r:V->Option Int->Option Int->Hp->VK->Prop) (te:TE) (tl th:TO):TE:=fun σ H Q=>te σ H fun x H1=>tl σ H1 fun l H2=>th σ H2 fun u H3=>r x l u H3 Q
theorem Zu9 {r:V->Option Int->Option Int->Hp->VK->Prop} (hr:SlR X r) (he:PE X e te) (hl:PO X lo tl) (hu:PO X hi th):PE X (.Subscript e (.Slice lo hi none p2) pos) (tSl r te tl th):=by
 intro pins s σ H Q I h
 refine Subscript_ (thn (he pins s σ H _ I h) fun v s1 zz=>?_)
 obtain⟨x,H1,I1,r1,q1⟩:=zz
 refine wpAny_Slice (thn (hl pins s1 σ H1 _ I1 q1) fun vl s2 ⟨l,H2,I2,pl,q2⟩=>thn (hu pins s2 σ H2 _ I2 q2) fun vu s3 zz=>?_)
 obtain⟨u,H3,I3,pu,q3⟩:=zz
 rw[evalPart_none]
 refine Vc ?_
 have I4:Inv X pins σ H3 { s3 with heap:=s3.heap.push { cls:=.type "slice",data:=.fields #[vl,vu,.none] } }:=I3.kept (t':=s3.toks) fun b ob q=>Xa _ q
 obtain⟨T,id,hT,ht,hg⟩:=hr pins { s3 with heap:=s3.heap.push { cls:=.type "slice",data:=.fields #[vl,vu,.none] } } σ H3 x v vl vu l u s3.heap.objs.size Q I4 r1 (Heap.IsSliceOf.new ..) pl pu q3
 show Vg (Vn X.prog X.w) X.A (subscriptTail e (.Slice lo hi none p2) v (.ref s3.heap.objs.size)) (EP X pins σ Q) X.xe { s3 with heap:=s3.heap.push { cls:=.type "slice",data:=.fields #[vl,vu,.none] } }
 exact tail_any (ops:=[.ref s3.heap.objs.size,v]) ht hT hg (by with_unfolding_all rfl)
nonrec def Zxo (xs:List V) (lo hi:Option Int):List V:=(xs.drop (HT.sIx xs.length 0 lo)).take (HT.sIx xs.length xs.length hi - HT.sIx xs.length 0 lo)
theorem Zev (xs:List V) (lo hi:Option Int):(Zxo xs lo hi).length<=xs.length:=by
 unfold Zxo
 rw[Wau,Wbl]
 omega
nonrec def rSlT (K:Xb):V->Option Int->Option Int->Hp->VK->Prop:=fun x lo hi H Q=>∃ a xs,x=.ref a/\SqT K H a xs /\
 ¬ (HT.sIx xs.length 0 lo=0/\HT.sIx xs.length xs.length hi=xs.length)/\∀ p,H p=none->Q (.ref p) (upd H p (.tup (Zxo xs lo hi)))
theorem Yco:SlR X (rSlT X.K):=by
 intro pins s σ H x v vl vu lo hi sl Q I rx hs pl pu h
 obtain⟨a,xs,rfl,hx,hw,q⟩:=h
 cases rx
 obtain⟨its,r,ht,hz⟩:=I.tuple hx
 have hlen:its.toArray.size=xs.length:=by rw[Xj]; exact r.length.symm
 refine⟨"tuple",_,Ug.lookup,ht.typeIs,?_⟩
 refine HT.getItem_tuple_cut ht hs pl pu (by rw[hlen]; exact hw) ?_ (by rw[hlen]; exact hz)
 rw[hlen]
 refine⟨.ref s.heap.objs.size,_,I.laid (t':=s.toks) (o:=.tup (Zxo xs lo hi)) (fun b ob q=>Xa _ q) (Xe _) ?_,rfl,q _ (I.hok.fresh (Xe _))⟩
 exact⟨Wab (Zev xs lo hi) hz,_,(r.drop (HT.sIx xs.length 0 lo)).take (HT.sIx xs.length xs.length hi - HT.sIx xs.length 0 lo),Zk9.new _ _⟩
nonrec def rCatT (K:Xb):R2:=fun x y H Q=>∃ a b xs ys,x=.ref a/\y=.ref b/\SqT K H a xs/\SqT K H b ys/\xs≠[]/\xs.length+ys.length<=sizeLine /\
 (ys=[]->Q (.ref a) H)/\(ys≠[]->∀ p,H p=none->Q (.ref p) (upd H p (.tup (xs++ys))))
theorem Zb6.nil_iff {xs:List V} {us:List Vb} (r:Zb6 xs us):us=[] ↔ xs=[]:=by
 cases r with
 | nil=>simp
 | cons _ _=>simp
theorem Zs4:OpR X (Vz .Add) (rCatT X.K):=by
 intro pins s σ H x y v u Q I rx ry h
 obtain⟨a,b,xs,ys,rfl,rfl,ha,hb,hx,hz,q1,q2⟩:=h
 cases rx
 cases ry
 obtain⟨its,r1,p1,_⟩:=I.tuple ha
 obtain⟨its2,r2,p2,_⟩:=I.tuple hb
 refine HT.cat_tup p1 p2 (fun z=>hx (r1.nil_iff.mp z)) (fun z=>⟨.ref a,H,I,rfl,q1 (r2.nil_iff.mp z)⟩) (fun z=>?_) (by rw[<- r1.length,<- r2.length]; exact hz)
 refine⟨.ref s.heap.objs.size,_,I.laid (t':=s.toks) (o:=.tup (xs++ys)) (fun b ob q=>Xa _ q) (Xe _) ?_,rfl,q2 (fun w=>z (r2.nil_iff.mpr w)) _ (I.hok.fresh (Xe _))⟩
 exact⟨by rw[Xz]; exact hz,_,r1.append r2,Zk9.new _ _⟩
end
nonrec def ixN (n:Nat) (i:Int):Option Nat:=if 0<=i then (if i<n then some i.toNat else none) else if -(n:Int)<=i then some (i+n).toNat else none
nonrec def atI {α:Type} (xs:List α) (i:Int):Option α:=(ixN xs.length i).bind fun j=>xs[j]?
theorem Zyj {n:Nat} {i:Int} {j:Nat} (h:ixN n i=some j):seqIndex? i n=some j/\j<n /\ -(n:Int)<=i/\i<n:=by
 unfold ixN at h
 by_cases h0:0<=i
 ·rw[if_pos h0] at h
  by_cases h1:i<n
  ·rw[if_pos h1] at h
   have e:i.toNat=j:=Xy.inj h
   exact⟨by rw[seqIndex_of h0 h1,e],by omega,by omega,h1⟩
  ·rw[if_neg h1] at h; cases h
 ·rw[if_neg h0] at h
  by_cases h1 : -(n:Int)<=i
  ·rw[if_pos h1] at h
   have e:(i+n).toNat=j:=Xy.inj h
   exact⟨by rw[seqIndex_neg (by omega) h1,e],by omega,h1,by omega⟩
  ·rw[if_neg h1] at h; cases h
theorem Zrw {α:Type} {xs:List α} {i:Int} {v:α} (h:atI xs i=some v):∃ j,seqIndex? i xs.length=some j/\xs[j]? = some v/\j<xs.length /\ -(xs.length:Int)<=i/\i<xs.length:=by
 unfold atI at h
 cases e:ixN xs.length i with
 | none=>rw[e] at h; cases h
 | some j =>
  rw[e] at h
  obtain⟨h1,h2,h3,h4⟩:=Zyj e
  exact⟨j,h1,h,h2,h3,h4⟩
theorem Zdo {α:Type} {xs:List α} {j:Nat} {v:α} (h:xs[j]? = some v):atI xs (j:Int)=some v:=by
 have hj:j<xs.length:=(Xc.mp h).1
 have e:ixN xs.length (j:Int)=some j:=by
  unfold ixN
  rw[if_pos (by omega),if_pos (by omega)]; simp
 unfold atI; rw[e]; exact h
theorem Zk5 {α:Type} (xs:List α) (v:α):atI (xs++[v]) (-1)=some v:=by
 have hl:(xs++[v]).length=xs.length+1:=by simp
 have e:ixN (xs++[v]).length (-1)=some xs.length:=by
  unfold ixN
  rw[hl,if_neg (by decide),if_pos (by omega)]
  congr 1
  omega
 unfold atI
 rw[e]
 show (xs++[v])[xs.length]? = some v
 simp
def Zt1 (b:Vv):Prop:=∀ o i,subscripted b false o i=operate [o,i] (Udd o i)
def IxR (X:Cx) (r:R2):Prop :=
 ∀ (value slice:Vv) (pins:List (Ve×Obj)) (s:Vd) (σ:St) (H:Hp) (x y:V) (v u:Vb) (Q:VK),Inv X pins σ H s->Zch x v->Zch y u->r x y H Q ->
  subscripted slice false v u=operate [v,u] (Udd v u)->Vg (Vn X.prog X.w) X.A (subscriptTail value slice v u) (EP X pins σ Q) X.xe s
def MtR (X:Cx) (id:String) (r:V->List V->Hp->VK->Prop):Prop :=
 ∀ (pins:List (Ve×Obj)) (s:Vd) (σ:St) (H:Hp) (x:V) (xs:List V) (v:Vb) (us:List Vb) (Q:VK),Inv X pins σ H s->Zch x v->Zb6 xs us->r x xs H Q ->
  Vg (Vn X.prog X.w) X.A (call (.builtin id) (v::us)) (EP X pins σ Q) X.xe s
section
variable {X:Cx} {a b:Vv} {ta tb:TE} {pos:Pos}
theorem pe_ix {r:R2} (hr:IxR X r) (ha:PE X a ta) (hb:PE X b tb) (hs:Zt1 b):PE X (.Subscript a b pos) (tOp r ta tb):=by
 intro pins s σ H Q I h
 exact Subscript_ (binT ha hb I h fun v u s2 x y H2 I2 rx ry q=>hr a b pins s2 σ H2 x y v u Q I2 rx ry q (hs _ _))
nonrec def rIxL (K:Xb):R2:=fun x y H Q=>∃ p xs i v,x=.ref p/\y=.int i/\SqL K H p xs/\atI xs i=some v/\Q v H
nonrec def rIxT (K:Xb):R2:=fun x y H Q=>∃ p xs i v,x=.ref p/\y=.int i/\SqT K H p xs/\atI xs i=some v/\Q v H
theorem Zzv:IxR X (rIxL X.K):=by
 intro value slice pins s σ H x y v u Q I rx ry h hs
 obtain⟨p,xs,i,z,rfl,rfl,hq,he,q⟩:=h
 cases rx
 obtain⟨t,rfl⟩:=ry
 obtain⟨its,r,pl,hz⟩:=I.list hq
 obtain⟨j,h1,h2,h3,h4,h5⟩:=Zrw he
 obtain⟨w,ew,rw'⟩:=r.get h2
 have hl:=r.length
 have hn:=Zmi
 have fin:EP X pins σ Q w s:=⟨z,H,I,rw',q⟩
 by_cases h0:0<=i
 ·have hj:i.toNat=j:=by
   rw[seqIndex_of h0 h5] at h1
   exact Xy.inj h1
  exact item_listR pl.isList h0 (by omega) (by rw[hj]; simpa using ew) fin hs
 ·have hj:(i+(its.toArray.size:Int)).toNat=j:=by
   rw[seqIndex_neg (by omega) h4] at h1
   rw[Xj,<- hl]
   exact Xy.inj h1
  exact Ucd (x:=w) pl.isList.typeIs slot_list_getitem.lookup
   (wpAny_getItem_list_neg (Q:=fun r s'=>r=w/\EP X pins σ Q r s') pl.isList (by omega) (by rw[Xj]<;>omega) (by omega) (by rw[hj]; simpa using ew) ⟨rfl,fin⟩) hs
theorem Ya4:IxR X (rIxT X.K):=by
 intro value slice pins s σ H x y v u Q I rx ry h hs
 obtain⟨p,xs,i,z,rfl,rfl,hq,he,q⟩:=h
 cases rx
 obtain⟨t,rfl⟩:=ry
 obtain⟨its,r,pl,hz⟩:=I.tuple hq
 obtain⟨j,h1,h2,h3,h4,h5⟩:=Zrw he
 obtain⟨w,ew,rw'⟩:=r.get h2
 have hl:=r.length
 have hn:=Zmi
 have fin:EP X pins σ Q w s:=⟨z,H,I,rw',q⟩
 exact Ucd (x:=w) pl.typeIs slot_tuple_getitem.lookup
  (getItem_tuple (j:=j) (Q:=fun r s'=>r=w/\EP X pins σ Q r s') pl (by omega) (by omega) (by rw[Xj,<- hl]; exact h1) (by simpa using ew) ⟨rfl,fin⟩) hs
theorem Zmc (lo hi:Option Int) (n:Nat):(Ube lo hi none n).1=((HT.sIx n 0 lo:Nat):Int)/\(Ube lo hi none n).2.1=((HT.sIx n n hi:Nat):Int)/\(Ube lo hi none n).2.2=1:=by
 refine⟨?_,?_,rfl⟩
 ·cases lo with
  | none=>simp[Ube,HT.sIx]
  | some i =>
   simp only[Ube,HT.sIx,Wfc,show (1:Int) > 0 by decide,if_true]
   by_cases h:i<0
   ·simp only[h,if_true]<;>omega
   ·simp only[h,if_false]<;>omega
 ·cases hi with
  | none=>simp[Ube,HT.sIx]
  | some i =>
   simp only[Ube,HT.sIx,Wfc,show (1:Int) > 0 by decide,if_true]
   by_cases h:i<0
   ·simp only[h,if_true]<;>omega
   ·simp only[h,if_false]<;>omega
theorem Zlc (its:List Vb) (lo hi:Option Int):slicePick its.toArray lo hi none=((its.drop (HT.sIx its.length 0 lo)).take (HT.sIx its.length its.length hi - HT.sIx its.length 0 lo)).toArray:=by
 obtain⟨h1,h2,h3⟩:=Zmc lo hi its.toArray.size
 unfold slicePick
 rw[h1,h2,h3]
 simp only[sliceRange_one,pick_run,Xj]<;>rfl
nonrec def rSlL (K:Xb):V->Option Int->Option Int->Hp->VK->Prop:=fun x lo hi H Q=>∃ a xs,x=.ref a/\SqL K H a xs/\∀ p,H p=none->Q (.ref p) (upd H p (.lst (Zxo xs lo hi)))
theorem Zzh:SlR X (rSlL X.K):=by
 intro pins s σ H x v vl vu lo hi sl Q I rx hs pl pu h
 obtain⟨a,xs,rfl,hx,q⟩:=h
 cases rx
 obtain⟨its,r,ht,hz⟩:=I.list hx
 have hlen:=r.length
 refine⟨"list",_,slot_list_getitem.lookup,ht.isList.typeIs,?_⟩
 refine wpAny_getItem_list_slice ht.isList hs pl pu .none (by simp) ?_ (by rw[Xj]<;>omega)
 rw[Zlc,<- hlen]
 refine⟨.ref s.heap.objs.size,_,I.laid (t':=s.toks) (o:=.lst (Zxo xs lo hi)) (fun b ob q=>Xa _ q) (Xe _) ?_,rfl,q _ (I.hok.fresh (Xe _))⟩
 exact⟨Wab (Zev xs lo hi) hz,_,0,(r.drop (HT.sIx xs.length 0 lo)).take (HT.sIx xs.length xs.length hi - HT.sIx xs.length 0 lo),Xf _ rfl⟩
theorem Zni:Zle X (.builtin "len") (fun xs H Q=>∃ p ys,xs=[.ref p]/\(SqL X.K H p ys\/SqT X.K H p ys)/\Q (.int ys.length) H):=by
 intro pins s σ H xs us Q I r h
 obtain⟨p,ys,rfl,hq,q⟩:=h
 obtain⟨u,rfl,rx⟩:=Zic r
 cases rx
 have hn:=Zmi
 rcases hq with hq | hq
 ·obtain⟨its,r',pl,hz⟩:=I.list hq
  have hlen:=r'.length
  exact Calls.call_len_list pl.isList (by simp only[Xj]<;>omega) ⟨.int ys.length,H,I.tok _,⟨s.toks+1,by rw[Xj,hlen]⟩,q⟩
 ·obtain⟨its,r',pl,hz⟩:=I.tuple hq
  have hlen:=r'.length
  exact len_tuple pl (by simp only[Xj]<;>omega) ⟨.int ys.length,H,I.tok _,⟨s.toks+1,by rw[Xj,hlen]⟩,q⟩
theorem Zm5:Zle X (.builtin "len") (fun xs H Q=>∃ z,xs=[.str z]/\z.length<=sizeLine/\Q (.int z.length) H):=by
 intro pins s σ H xs us Q I r h
 obtain⟨z,rfl,hz,q⟩:=h
 obtain⟨u,rfl,t,rfl⟩:=Zic r
 have hn:=Zmi
 exact len_str (by omega) ⟨.int z.length,H,I.tok _,⟨_,rfl⟩,q⟩
theorem Znk:Zle X (.type "list") (fun xs H Q=>∃ p ys,xs=[.ref p]/\(SqL X.K H p ys\/SqT X.K H p ys)/\∀ l,H l=none->Q (.ref l) (upd H l (.lst ys))):=by
 intro pins s σ H xs us Q I r h
 obtain⟨p,ys,rfl,hq,q⟩:=h
 obtain⟨u,rfl,rx⟩:=Zic r
 cases rx
 have fin:∀ (its:List Vb),Zb6 ys its->ys.length<=sizeLine->∀ (h':Vy) (c':Nat),(∀ b o',s.heap.get? b=some o'->h'.get? b=some o') ->
   h'.get? s.heap.objs.size=some { cls:=.type "list",dict:=none,data:=.seq its.toArray c',slots := #[] }->EP X pins σ Q (.ref s.heap.objs.size) { s with heap:=h' }:=fun its r' hz h' c' kp e =>
  ⟨.ref s.heap.objs.size,_,I.laid (t':=s.toks) kp (Xe _) (show Zc8 X.prog X.w _ h' _ (.lst ys) from⟨hz,its,c',r',e⟩),rfl,q _ (I.hok.fresh (Xe _))⟩
 rcases hq with hq | hq
 ·obtain⟨its,r',pl,hz⟩:=I.list hq
  have hlen:=r'.length
  obtain⟨o,ho,hc,n,hd⟩:=pl.isList
  exact call_list_seq p (.inl rfl) ho hc hd (fun h' c' kp e=>fin its r' hz h' c' kp e) (by simp only[Xj]<;>omega)
 ·obtain⟨its,r',pl,hz⟩:=I.tuple hq
  have hlen:=r'.length
  obtain⟨o,ho,hc,n,hd⟩:=pl
  exact call_list_seq p (.inr rfl) ho hc hd (fun h' c' kp e=>fin its r' hz h' c' kp e) (by simp only[Xj]<;>omega)
theorem Zlk:Zle X (.type "tuple") (fun xs H Q=>∃ p ys,xs=[.ref p]/\((SqL X.K H p ys/\∀ l,H l=none->Q (.ref l) (upd H l (.tup ys)))\/(SqT X.K H p ys/\Q (.ref p) H))):=by
 intro pins s σ H xs us Q I r h
 obtain⟨p,ys,rfl,h⟩:=h
 obtain⟨u,rfl,rx⟩:=Zic r
 cases rx
 rcases h with ⟨hq,q⟩ | ⟨hq,q⟩
 ·obtain⟨its,r',pl,hz⟩:=I.list hq
  have hlen:=r'.length
  refine call_tuple_list pl.isList (fun h' kp=>?_) (by simp only[Xj]<;>omega)
  have I1:Inv X pins σ H { s with heap:=h' }:=I.kept (t':=s.toks) kp
  have I2:Inv X pins σ (upd H h'.objs.size (.tup ys)) { s with heap:=h'.push { cls:=.type "tuple",data:=.seq its.toArray } } :=
   I1.laid (t':=s.toks) (fun b o e=>Xa _ e) (Xe _) (show Zc8 X.prog X.w _ _ _ (.tup ys) from⟨hz,its,r',Zk9.new _ _⟩)
  exact⟨.ref h'.objs.size,_,I2,rfl,q _ (I1.hok.fresh (Xe _))⟩
 ·obtain⟨its,r',pl,hz⟩:=I.tuple hq
  exact call_tuple_same pl ⟨.ref p,H,I,rfl,q⟩
def tyV (K:Xb) (T:String) (x:V) (H:Hp):Prop:=match x with
 | .str _=>T = "str"
 | .int _=>T = "int"
 | .ref p=>(T = "list" /\ ∃ xs,SqL K H p xs)\/(T = "tuple" /\ ∃ o,K.lookup p=some o/\o.cls=.type "tuple" /\ o.dict=none) \/
   (T = "dict" /\ ((∃ kvs,H p=some (.dK kvs))\/∃ kvs,H p=some (.dT kvs)))\/(T = "set" /\ ∃ S n,H p=some (.set S n))
 | _=>False
theorem Yas {pins:List (Ve×Obj)} {σ:St} {H:Hp} {s:Vd} {T:String} {x:V} {v:Vb} (I:Inv X pins σ H s) (r:Zch x v) (ty:tyV X.K T x H) :
  s.TypeIs v T/\∀ a,v=.ref a->∃ ob,s.heap.get? a=some ob/\ob.dict=none:=by
 cases x with
 | str z =>
  obtain⟨t,rfl⟩:=r
  cases (show T = "str" from ty)
  exact⟨typeIs_str s z t,fun _ e=>nomatch e⟩
 | int i =>
  obtain⟨t,rfl⟩:=r
  cases (show T = "int" from ty)
  exact⟨Uco s i t,fun _ e=>nomatch e⟩
 | ref p =>
  cases r
  rcases ty with ⟨rfl,xs,hq⟩ | ⟨rfl,o,hk,hc,hd⟩ | ⟨rfl,hk⟩ | ⟨rfl,S,n,hk⟩
  ·obtain⟨its,_,pl,_⟩:=I.list hq
   refine⟨pl.isList.typeIs,fun a e=>?_⟩
   cases e
   obtain⟨o,n,e,c,hd,_⟩:=pl
   exact⟨o,e,hd⟩
  ·refine⟨⟨o,I.kIn p o hk,hc⟩,fun a e=>?_⟩
   cases e
   exact⟨o,I.kIn _ o hk,hd⟩
  ·have z:∃ o,s.heap.get? p=some o/\o.ExactDict:=by
    rcases hk with ⟨kvs,hk⟩ | ⟨kvs,hk⟩
    ·obtain⟨_,_,_,_,o,_,_,e,ex,_⟩:=I.hok p _ hk
     exact⟨o,e,ex⟩
    ·obtain⟨_,_,_,_,o,_,_,e,ex,_⟩:=I.hok p _ hk
     exact⟨o,e,ex⟩
   obtain⟨o,e,ex⟩:=z
   refine⟨⟨o,e,ex.1⟩,fun a e2=>?_⟩
   cases e2
   exact⟨o,e,ex.2.1⟩
  ·obtain⟨o,_,_,_,e,ex,_⟩:=I.hok p _ hk
   refine⟨⟨o,e,ex.1⟩,fun a e2=>?_⟩
   cases e2
   exact⟨o,e,ex.2.1⟩
 | _=>exact Ux ty
nonrec def tBM (K:Xb) (T:String) (r:V->List V->Hp->VK->Prop) (to:TE) (t:TA):TE:=fun σ H Q=>to σ H fun x H1=>tyV K T x H1/\t σ H1 fun xs H2=>r x xs H2 Q
variable {o e:Vv} {es:List Vv} {to:TE} {t:TA} {name:Str} {apos cpos:Pos} {T id:String} {r:V->List V->Hp->VK->Prop}
theorem pe_bm (pa:PlainAttrs T) (slot:Slot T name id) (hty:typeOf (.builtin id)=pure (.type "method_descriptor")) (hm:MtR X id r) (ho:PE X o to) (ha:PA X (e::es) t)
  (hbase:Ubw o name X.env (eval o X.env)=eval o X.env:=by rfl)
  (hfew:((Uag cpos (Vf (e::es) X.env)).all (fun x => !x.1)&&(Ubx cpos (Uat [] X.env)).all (fun x=>x.1.isSome)
   && decide ((e::es).length+([]:List Ubm).length+(if ([]:List Ubm).isEmpty then 0 else 1)<30))=true:=by rfl)
  (hline:(apos.endLine==cpos.line)=true:=by rfl) (hs:Vf (e::es) X.env=(false,eval e X.env)::Vf es X.env:=by rfl) (hplain:(Uag cpos (Vf es X.env)).any (·.1)=false:=by rfl) :
  PE X (.Call (.Attribute o name apos) (e::es) [] cpos) (tBM X.K T r to t):=by
 intro pins s σ H Q I h
 refine Ubc hbase hfew hline rfl (thn (ho pins s σ H _ I h) fun v s1 zz=>?_)
 obtain⟨x,H1,I1,r1,ty,q1⟩:=zz
 obtain⟨h1,h2⟩:=Yas I1 r1 ty
 refine⟨T,id,pa,slot,hty,h1,h2,?_⟩
 have hA:=ha cpos pins s1 σ H1 _ I1 q1
 rw[hs] at hA ⊢
 refine Tat (by show (false||(Uag cpos (Vf es X.env)).any (·.1))=false; rw[hplain]<;>rfl) (Taz ?_)
 exact thn hA fun us s2 ⟨vs,H2,I2,r2,q2⟩=>hm pins s2 σ H2 x vs v us Q I2 r1 r2 q2
end
def MtM (X:Cx) (id:String) (r:V->List V->Hp->VK->Prop):Prop :=
 ∀ (pins:List (Ve×Obj)) (s:Vd) (σ:St) (H:Hp) (x:V) (xs:List V) (v:Vb) (us:List Vb) (Q:VK),Inv X pins σ H s->Zch x v->Zb6 xs us->r x xs H Q ->
  Vg (Vn X.prog X.w) X.A (call (.builtin id) (v::us)) (EP X pins σ Q) X.xe s
theorem Zb6.one:∀ {x:V} {us:List Vb},Zb6 [x] us->∃ u,us=[u]/\Zch x u:=by
 intro x us h
 cases h with
 | cons r t=>cases t; exact⟨_,rfl,r⟩
theorem Zb6.rep {xs:List V} {us:List Vb} (h:Zb6 xs us):∀ k:Nat,Zb6 (Xk k xs).flatten (Xk k us).flatten
 | 0=>.nil
 | k+1=>by
  rw[Wap,Wap,Wbp,Wbp]
  exact Zb6.append h (Zb6.rep h k)
theorem Zip (its:List Vb):∀ (k:Nat) (acc:List Vb),
  Wdq (fun x1 x2=>x1++x2) acc.toArray (Xk k its.toArray)=(acc++(Xk k its).flatten).toArray
 | 0,acc=>by simp
 | k+1,acc=>by
  have e:acc.toArray++its.toArray=(acc++its).toArray:=by simp
  have e2:(acc++its)++(Xk k its).flatten=acc++(Xk (k+1) its).flatten:=by
   rw[Wap,Wbp,Wax]
  rw[<- e2,<- Zip its k (acc++its),<- e,Wap,List.foldl_cons]
section
variable {X:Cx} {pins:List (Ve×Obj)} {σ:St} {H:Hp} {s:Vd} {l b:Ve} {xs ys zs:List V}
theorem Inv.lset {its its':List Vb} {n:Nat} {f:Array Vb->Array Vb} {t':Nat} (I:Inv X pins σ H s) (hH:H l=some (.lst xs))
  (e:s.heap.get? l=some { cls:=.type "list",data:=.seq its.toArray n }) (hf:f its.toArray=its'.toArray) (hv:Zb6 ys its') (hz:ys.length<=sizeLine) :
  Inv X pins σ (upd H l (.lst ys)) { s with heap:=s.heap.update l (Tbc f),toks:=t' }:=by
 have q:=PySem.IsL.update e f
 rw[hf] at q
 refine I.write (x:=l) (e:=l) (by rw[hH]; exact trivial) (.inl rfl) (fun b' u hb hu=>(Heap.get?_update_other s.heap (Tbc f) (Uo hb)).trans hu) ⟨_,q⟩ ?_
 exact⟨hz,its',_,hv,q⟩
theorem Inv.lnew {its:List Vb} {t':Nat} (I:Inv X pins σ H s) (hv:Zb6 ys its) (hz:ys.length<=sizeLine) :
  Inv X pins σ (upd H s.heap.objs.size (.lst ys)) { s with heap:=s.heap.push { cls:=.type "list",data:=.seq its.toArray },toks:=t' } :=
 I.laid (fun _ _ q=>Xa _ q) (Xe _) ⟨hz,its,0,hv,Xf _ rfl⟩
theorem Inv.fresh (I:Inv X pins σ H s):H s.heap.objs.size=none:=I.hok.fresh (Xe _)
theorem Inv.lstM (I:Inv X pins σ H s) (hH:H l=some (.lst xs)):xs.length<=sizeLine/\∃ (its:List Vb) (n:Nat),Zb6 xs its/\xs.length=its.length/\s.heap.get? l=some { cls:=.type "list",data:=.seq its.toArray n }:=by
 obtain⟨z,its,n,r,e⟩:=I.hok l _ hH
 exact⟨z,its,n,r,r.length,e⟩
theorem Zwi {n:Nat} (h:n<=sizeLine):Tao n=false:=by
 unfold Tao
 exact decide_eq_false (by omega)
end
section
variable {X:Cx}
nonrec def Zz8:V->List V->Hp->VK->Prop:=fun x vs H Q=>∃ l xs y,x=.ref l/\vs=[y]/\H l=some (.lst xs)/\xs.length<sizeLine/\Q .non (upd H l (.lst (xs++[y])))
theorem Zng:MtM X "list.append" Zz8:=by
 intro pins s σ H x vs v us Q I rx rv h
 obtain⟨l,xs,y,rfl,rfl,hH,hz,q⟩:=h
 cases rx
 obtain⟨u,rfl,ru⟩:=rv.one
 obtain⟨z,its,n,r,hl,e⟩:=I.lstM hH
 refine Uav F.slot_list_append ⟨_,e,rfl⟩ F.entry_list_append (F.args_list_append_2 _ _) (PySem.list_append l its.toArray n u (by rw[Xj]; omega)) ⟨e,?_⟩
 refine⟨.non,_,I.lset (its':=its++[u]) hH e (by simp) (r.append (.cons ru .nil)) ?_,rfl,q⟩
 rw[Xz,Wce]
 omega
nonrec def rCat:R2:=fun x y H Q=>∃ l b xs zs,x=.ref l/\y=.ref b/\H l=some (.lst xs)/\H b=some (.lst zs)/\xs.length+zs.length<=sizeLine/\∀ p,H p=none->Q (.ref p) (upd H p (.lst (xs++zs)))
theorem Ybv:OpR X (Vz .Add) rCat:=by
 intro pins s σ H x y v u Q I rx ry h
 obtain⟨l,b,xs,zs,rfl,rfl,hH,hB,hz,q⟩:=h
 cases rx
 cases ry
 obtain⟨z,its,n,r,hl,e⟩:=I.lstM hH
 obtain⟨z2,its2,n2,r2,hl2,e2⟩:=I.lstM hB
 refine PySem.P.add_list e e2 ?_ (by rw[Xj,Xj]; omega)
 have ea:its.toArray++its2.toArray=(its++its2).toArray:=by simp
 rw[ea]
 exact⟨.ref _,_,I.lnew (t':=s.toks) (r.append r2) (by rw[Xz]; omega),rfl,q _ I.fresh⟩
nonrec def rRep:R2:=fun x y H Q=>∃ l k xs,x=.ref l/\y=.int k/\H l=some (.lst xs) /\ -(2 ^ 63)<=k/\k<2 ^ 63/\xs.length*k.toNat<=sizeLine /\
 ∀ p,H p=none->Q (.ref p) (upd H p (.lst (Xk k.toNat xs).flatten))
theorem Zn0 {α:Type} (xs:List α) (k:Nat):(Xk k xs).flatten.length=k*xs.length:=by
 induction k with
 | zero=>simp
 | succ k ih=>rw[Wap,Wbp,Xz,ih,Nat.succ_mul,Nat.add_comm]
theorem Yb6:OpR X (Vz .Mult) rRep:=by
 intro pins s σ H x y v u Q I rx ry h
 obtain⟨l,k,xs,rfl,rfl,hH,h1,h2,hz,q⟩:=h
 cases rx
 obtain⟨t,rfl⟩:=ry
 obtain⟨z,its,n,r,hl,e⟩:=I.lstM hH
 have hlen:its.toArray.size*k.toNat<=sizeLine:=by rw[Xj,<- hl]; exact hz
 have hcap:¬ its.toArray.size*k.toNat > (2 ^ 63 - 1) / 8:=by
  have:(sizeLine:Nat)<=(2 ^ 63 - 1) / 8:=by decide
  omega
 have hfit:¬ (!Taj k)=true:=by
  rw[fitsIndex_both h1 h2]
  exact Wbi
 have hlong:¬ Tao (its.toArray.size*k.toNat)=true:=by
  rw[Zwi hlen]
  exact Wbi
 have hnew:Wdq (fun x1 x2=>x1++x2) #[] (Xk (if its.toArray.isEmpty=true then 0 else k.toNat) its.toArray)=(Xk k.toNat its).flatten.toArray:=by
  have f0:∀ m:Nat,Wdq (fun x1 x2=>x1++x2) #[] (Xk m its.toArray)=(Xk m its).flatten.toArray:=fun m=>by
   have:=Zip its m []
   rw[Wde] at this
   exact this
  rw[f0]
  cases its with
  | nil=>simp
  | cons a r'=>rw[if_neg (by simp)]
 refine Ubp (T := "list") (U := "int") (by decide) ⟨_,e,rfl⟩ (fun s'=>Uco s' k t) noFill_list_mul F.fills_int_mul Tbe repeat_list F.slot_int_index.lookup
  (Uav Tbe (Uco s k t) F.entry_int_rmul (Tcm _ _) (int___rmul___int_list k t l its.toArray n)
   ⟨e,rfl,⟨_,e,rfl⟩,Uav F.slot_list_mul ⟨_,e,rfl⟩ F.entry_list_mul (F.args_list_mul_2 _ _) (AutoListH.list___mul___list_int_3 l its.toArray n k t hfit hcap hlong) ⟨e,?_⟩⟩)
 rw[hnew]
 exact⟨.ref _,_,I.lnew (t':=s.toks) (r.rep k.toNat) (by rw[Zn0,Weg]; exact hz),rfl,q _ I.fresh⟩
end
section
variable {prog:Vh} {w:Vs} {A:Vw} {E:Vb->Vd->Prop} {s:Vd}
set_option maxRecDepth 100000 in
end
end L2
namespace Att
open PySem PySem.W PySem.Calls PyProof.Rows
theorem Zjj {P:Params} {h:Vy}:∀ (ns:List Int) (vs:List Vb),WellAll P h vs (ns.map WData.int)->Uba vs ns:=by
 intro ns
 induction ns with
 | nil =>
  intro vs w
  rw[Wdi] at w
  cases w
  exact .nil
 | cons n ns ih =>
  intro vs w
  rw[Xs] at w
  cases w with
  | cons a b =>
   cases a
   exact .cons _ _ (ih _ b)
theorem Zug {l:OpenLaw} {n:Nat} (hn:l.most=some n) {P:Params} {h:Vy} {args:List WData} {vals:List Vb}
  (hpre:l.row.toRowW.claim.pre args=true) (hwl:WellAll P h vals args) :
  ∃ a vs ns,vals=[Uy a]/\args=[WData.list (ns.map WData.int)]/\h.get? a=some { cls:=.type "list",data:=.seq vs.toArray }/\Uba vs ns/\ns.length<=n:=by
 have hsh:WShape.hasAll [] args [.list .int]=true:=(pre_splitW hpre).1
 have hc:l.pre.holds [] { args:=args }=true:=(pre_splitW hpre).2
 obtain⟨d,r,rfl,h1,h2⟩:=hasAllW_cons hsh
 obtain rfl:=hasAllW_nil h2
 obtain⟨xs,rfl,h3⟩:=hasW_list h1
 obtain⟨ns,rfl⟩:=items_int h3
 have hlen:ns.length<=n:=by
  unfold OpenLaw.pre at hc
  have h4:(WTm.not (.lt (.lit (.int (n:Int))) (.len (.arg 0)))).holds [] { args:=[.list (ns.map .int)] }=true:=by
   have h4:=(holds_andW hc).1
   rw[hn] at h4
   exact h4
  have h5:=condW_of h4 (w_not (w_lt w_lit (w_len_list (w_arg rfl))))
  rw[Xi] at h5
  refine Nat.le_of_not_lt fun q=>?_
  have q':(n:Int)<((ns.length:Nat):Int):=by omega
  first
   | (rw[decide_eq_true q'] at h5; exact absurd h5 (by decide))
   | (simp at h5; omega)
 cases hwl with
 | cons w1 w2 =>
  cases w2
  cases w1 with
  | list ho hall=>exact⟨_,_,ns,rfl,rfl,ho,Zjj ns _ hall,hlen⟩
theorem Ztt (l:OpenLaw) (args:List WData):l.row.toRowW.claim.post args (.bool true) args=true :=
 postW_of (r:=l.row.toRowW) (X:=(true==true))
  (show WShape.has [] (.bool true) .bool=true by first | rfl | decide | simp[WShape.has,WShape.arms,WShape.armsAll])
  (show (WTm.eq .res (.lit (.bool true))).value [] { args:=args,res:=some (.bool true),after:=args }=some (.bool (true==true)) from w_eq_bool (w_res rfl) w_lit) rfl
theorem attach_call {l:OpenLaw} {n:Nat} {q:Vh} {loose:List Str} {XP:(Str->Option Vb)->Vy->Prop} {YP:Vs->Vy->Prop} {d:DefRec}
  (hn:l.most=some n) (hdf:d.params.defaults=[])
  (call:∀ (w:Vs) (s₀ s₁:Vd) (mg mb:Str->Option Vb) (fa:Ve) (o:Obj) (pm cd doc:Vb) (a:Ve) (vs:List Vb) (ns:List Int),
   Ground q loose [] XP w s₀ mg mb s₁.heap->YP w s₁.heap ->
   s₁.heap.get? fa=some o->o.data=.func (docDef d.name d.params d.body d.scope pm cd doc)->s₁.heap.CodeRec cd d.name->mg d.name=some (.ref fa) ->
   s₁.heap.get? a=some { cls:=.type "list",data:=.seq vs.toArray }->Uba vs ns->ns.length<=n->s₁.gens = #[] ->
   Udw (Vn l.prog w) Ude (.call (.ref fa) ⟨[.ref a],[]⟩) (fun r s'=>r=.ok (.ret (.bool true))/\OldK s₁.heap s'.heap/\s'.os=s₁.os/\Ubu s'.gens) s₁) :
  WalkO q loose XP YP l.row.toRowW d [] (fun f vs=>Tcn f vs):=by
 intro w s₀ s₁ mg mb G Y fa o pm cd doc dV kV ho hd hcd hD hmg hg args vals as hpre hlay hrd hwl hlo
 obtain rfl:dV=.none:=Dflts.none hD hdf
 obtain rfl:kV=.none:=Dflts.noKw hD
 obtain⟨a,vs,ns,rfl,rfl,hobj,hints,hlen⟩:=Zug hn hpre hwl
 refine enter_call (Ubi (call w s₀ s₁ mg mb fa o pm cd doc a vs ns G Y ho (fd_plain hd) hcd hmg hobj hints hlen hg) fun r s' hq=>?_)
 obtain⟨rfl,h2,h3,h4⟩:=hq
 exact⟨.inl ⟨.bool true,.bool true,[],rfl,fun _=>rfl,.bool true,Ztt l _,fun _=>⟨List.Pairwise.nil,fun _ hm=>(nomatch hm)⟩⟩,h2,h3,h4⟩
end Att
namespace L2
open PySem PySem.Spec PyProof.Rows
theorem Ze6:∀ {vs:List Vb} {ns:List Int},Uba vs ns->Zb6 (ns.map V.int) vs
 | _,_,.nil=>.nil
 | _,_,.cons n t h=>.cons ⟨t,rfl⟩ (Ze6 h)
def Yau (H:Hp):Prop:=∀ b,H b=none\/∃ o xs,H b=some (.frz o (.lst xs))
theorem Zwt {P:Vh} {w:Vs} {K:Xb} {mg mb:Str->Option Vb} {CX:CXT} {k:Nat} {fa a:Ve} {fd:Uax} {x:Str} {sp:Sp} {s₁:Vd} {vs:List Vb} {ns:List Int}
  (KX:K.In s₁.heap) (hns:s₁.heap.Ns Vp mg) (hb:s₁.heap.Ns builtinsNs mb) (hbb:∀ x:Str,x ≠ "__name__" -> mb x=Vq x) (hlim:s₁.heap.NoLimit) (hg:s₁.gens = #[])
  (ha:s₁.heap.get? a=some { cls:=.type "list",data:=.seq vs.toArray }) (hi:Uba vs ns) (hl:ns.length<=sizeLine) (hr:Room k Ude)
  (F:∀ base:Vy,K.In base->base.Ns Vp mg->FnOk P w K mg base CX k fa fd [x] sp) (hbind:∀ (s:Vd) (u:Vb),Ued s fd ⟨[u],[]⟩ [(x,u)])
  (hsp:∀ H:Hp,Yau H->SqL K H a (ns.map V.int)->sp [.ref a] H (fun v _=>v=.bl true) fun _ _ _=>False)
  (hCX:∀ H e s',CX [] H s₁ (fun _ _ _=>False) e s'->False) :
  Udw (Vn P w) Ude (.call (.ref fa) ⟨[.ref a],[]⟩) (fun r s'=>r=.ok (.ret (.bool true))/\OldK s₁.heap s'.heap/\s'.os=s₁.os/\Ubu s'.gens) s₁:=by
 have rv:=Ze6 hi
 have lenV:=hi.length
 -- from an abstract heap in which nothing but the script may be tracked
 have core:∀ H:Hp,Yau H->SqL K H a (ns.map V.int)->HOk P w H s₁.heap->(∀ b,H b≠none->b=a)->(H a≠none->K.lookup a=none) ->
   Udw (Vn P w) Ude (.call (.ref fa) ⟨[.ref a],[]⟩) (fun r s'=>r=.ok (.ret (.bool true))/\OldK s₁.heap s'.heap/\s'.os=s₁.os/\Ubu s'.gens) s₁:=by
  intro H hO hS hok hA hK
  have base_of:∀ {b:Ve} {o:Obj},s₁.heap.get? b=some o->H b=none->(Zwn s₁.heap H).get? b=some o:=fun e n=>Zwz e n
  have noA:∀ {b:Ve} {o:Obj} {es:Array Uac} {ep:Nat},s₁.heap.get? b=some o->o.data=.dict es ep->H b=none:=fun {b o es ep} e d=>by
   cases q:H b with
   | none=>rfl
   | some u =>
    have e':b=a:=hA b (by rw[q]; simp)
    subst e'
    rw[ha] at e; cases e
    have d':Data.seq vs.toArray _=Data.dict es ep:=d
    cases d'
  have nsK:∀ {b:Ve} {m:Str->Option Vb},s₁.heap.Ns b m->(Zwn s₁.heap H).Ns b m:=fun {b m} ⟨o,es,ep,e,d,r⟩=>⟨o,es,ep,base_of e (noA e d),d,r⟩
  have hKb:K.In (Zwn s₁.heap H):=fun b o e=>base_of (KX b o e) (by
   cases q:H b with
   | none=>rfl
   | some u =>
    have e':b=a:=hA b (by rw[q]; simp)
    subst e'
    rw[hK (by rw[q]; simp)] at e; cases e)
  have hM:Mod K mg (Zwn s₁.heap H):=⟨hKb,nsK hns,⟨mb,nsK hb,hbb⟩,let ⟨mc,h1,h2⟩:=hlim; ⟨mc,nsK h1,h2⟩⟩
  have e0:Env0 P w K mg (Zwn s₁.heap H) Ude [] s₁ H:=⟨rfl,hM,fun b o e=>Zyw e,Nat.le_of_eq (Zt9 _ _),trivial,fun b hb=>absurd (show b∈([]:List Ve) from hb) (by simp),hok,.of_eq hg⟩
  refine Ubi ((F _ hKb (nsK hns)).run Ude [] s₁ H ⟨[.ref a],[]⟩ [.ref a] [.ref a] _ _ hr e0 (hbind s₁ (.ref a)) (.cons rfl .nil) (hsp H hO hS)) fun r s' h=>?_
  cases r with
  | error e=>exact(hCX H e s' h).elim
  | ok fl =>
   cases fl with
   | next=>exact Ux h
   | brk=>exact Ux h
   | cont=>exact Ux h
   | ret u =>
    obtain⟨v,H',os,bare,un,hok',r',q⟩:=h
    have q':v=.bl true:=q
    subst q'
    obtain rfl:u=Tcw true:=r'
    refine⟨rfl,OldK.of_keep fun b o e=>?_,os,bare⟩
    cases q:H b with
    | none=>exact un.keep b o e q (by intro z; exact absurd (show b∈([]:List Ve) from z) (by simp)) (by simp)
    | some u =>
     rcases hO b with z | ⟨ob,xs,z⟩
     ·rw[q] at z; cases z
     ·have z2:=un.frzs b ob _ z
      obtain⟨e1,_⟩:=hok b _ z
      obtain⟨e2,_⟩:=hok' b _ z2
      rw[e] at e1; cases e1
      exact e2
 cases hk:K.lookup a with
 | some o =>
  -- the script is one of the module's own objects
  have e:=KX a o hk
  rw[ha] at e
  cases e
  refine core (fun _=>none) (fun _=>.inl rfl) (.inr ⟨_,vs.toArray,_,hk,rfl,rfl,rfl,by rw[Xj,lenV]; exact hl,by simpa using rv⟩) (fun b u z=>by have z':(none:Option HO)=some u:=z; cases z') (fun b z=>absurd rfl z) fun z=>absurd rfl z
 | none =>
  refine core (fun b=>if b=a then some (.frz { cls:=.type "list",data:=.seq vs.toArray } (.lst (ns.map V.int))) else none) (fun b=>?_) (.inl (.inr ⟨{ cls:=.type "list",data:=.seq vs.toArray },if_pos rfl⟩)) (fun b u z=>?_) (fun b z=>?_) fun _=>hk
  ·by_cases hb:b=a
   ·exact .inr ⟨_,_,if_pos hb⟩
   ·exact .inl (if_neg hb)
  ·by_cases hb:b=a
   ·have z':=(if_pos hb).symm.trans z
    cases z'
    subst hb
    exact⟨ha,by rw[Xi]; exact hl,vs,_,rv,ha⟩
   ·have z':=(if_neg hb).symm.trans z
    cases z'
  ·by_cases hb:b=a
   ·exact hb
   ·exact absurd (if_neg hb) z
nonrec abbrev KOf {K:Xb} {h:Vy} (_:K.In h):Xb:=K
theorem Zyy {l:PySem.W.OpenLaw} {n k:Nat} {q:Vh} {loose:List Str} {XP:(Str->Option Vb)->Vy->Prop} {YP:Vs->Vy->Prop} {d:DefRec} {K:Params->Xb} {CX:Vs->CXT} {sp:Vs->Sp} {x:Str}
  (hn:l.most=some n) (hn2:n<=sizeLine) (hdf:d.params.defaults=[]) (hr:Room k Ude)
  (hY:∀ (w:Vs) (h:Vy),YP w h->(K w.params).In h)
  (F:∀ (w:Vs) (mg:Str->Option Vb) (fa:Ve) (h:Vy),(K w.params).In h->h.Ns Vp mg->mg d.name=some (.ref fa) ->
   ∃ fd:Uax,(∀ (s:Vd) (u:Vb),Ued s fd ⟨[u],[]⟩ [(x,u)]) /\
    ∀ base:Vy,(K w.params).In base->base.Ns Vp mg->FnOk l.prog w (K w.params) mg base (CX w) k fa fd [x] (sp w))
  (hsp:∀ (w:Vs) (H:Hp) (a:Ve) (ns:List Int),ns.length<=n->Yau H->SqL (K w.params) H a (ns.map V.int)->sp w [.ref a] H (fun v _=>v=.bl true) fun _ _ _=>False)
  (hCX:∀ (w:Vs) (H:Hp) (s:Vd) (e:Vb) (s':Vd),CX w [] H s (fun _ _ _=>False) e s'->False) :
  Wes q loose XP YP l.row.toRowW d [] (fun f vs=>Tcn f vs):=by
 refine Att.attach_call hn hdf fun w s₀ s₁ mg mb fa o pm cd doc a vs ns G Y ho hd hcd hmg hobj hints hlen hg=>?_
 have KX:=hY w _ Y
 obtain⟨fd,hb,hF⟩:=F w mg fa _ KX G.T.g hmg
 exact Zwt KX G.T.g G.T.b G.T.builtins G.T.nolimit hg hobj hints (Wab hlen hn2) hr hF hb (fun H hO hS=>hsp w H a ns hlen hO hS) fun H e s'=>hCX w H s₁ e s'
theorem walk_ofK {l:PySem.W.OpenLaw} {n k:Nat} {q:Vh} {loose:List Str} {XP:(Str->Option Vb)->Vy->Prop} {YP:Vs->Vy->Prop} {d:DefRec} {K:Params->Xb} {CX:CXT} {sp:Xb->Sp} {x:Str}
  (hn:l.most=some n) (hn2:n<=sizeLine) (hdf:d.params.defaults=[]) (hr:Room k Ude)
  (hY:∀ (w:Vs) (h:Vy),YP w h->(K w.params).In h)
  (F:∀ (w:Vs) (mg:Str->Option Vb) (fa:Ve) (h:Vy),(K w.params).In h->h.Ns Vp mg->mg d.name=some (.ref fa) ->
   ∃ fd:Uax,(∀ (s:Vd) (u:Vb),Ued s fd ⟨[u],[]⟩ [(x,u)]) /\
    ∀ base:Vy,(K w.params).In base->base.Ns Vp mg->FnOk l.prog w (K w.params) mg base CX k fa fd [x] (sp (K w.params)))
  (hsp:∀ (K:Xb) (H:Hp) (a:Ve) (ns:List Int),ns.length<=n->Yau H->SqL K H a (ns.map V.int)->sp K [.ref a] H (fun v _=>v=.bl true) fun _ _ _=>False)
  (hCX:∀ (H:Hp) (s:Vd) (e:Vb) (s':Vd),CX [] H s (fun _ _ _=>False) e s'->False) :
  Wes q loose XP YP l.row.toRowW d [] (fun f vs=>Tcn f vs) :=
 Zyy (K:=K) (CX:=fun _=>CX) (sp:=fun w=>sp (K w.params)) hn hn2 hdf hr hY F (fun w H a ns h1 h2 h3=>hsp (K w.params) H a ns h1 h2 h3) fun _ H s e s'=>hCX H s e s'
nonrec def Zgd (s:Uae):Arguments:=match s with
 | .FunctionDef _ a _ _ _ _ _ _ _ _=>a
 | _=>{ posonlyargs:=[],args:=[],vararg:=none,kwonlyargs:=[],kw_defaults:=[],kwarg:=none,defaults:=[] }
nonrec def Zdl (s:Uae):List Uae:=match s with
 | .FunctionDef _ _ b _ _ _ _ _ _ _=>b
 | _=>[]
nonrec def Zad (s:Uae):Ucz:=match s with
 | .FunctionDef _ _ _ _ _ _ sc _ _ _=>sc
 | _=>{ kind:=.function,names:=[],isGenerator:=false,isCoroutine:=false }
nonrec abbrev CX0:CXT:=fun _ _ _ _ _ _=>False
nonrec abbrev E0:XK:=fun _ _ _=>False
theorem Ya3 {X:Cx}:Zsn CX0 X E0:=fun _ _ _ _ _ _ _ h=>h.elim
structure Fun (K:Xb) (x qual:Str) (st:Uae) (f:Ve) (fd:Uax):Prop where
 ex:∃ (oc:Vb) (od:Option Ve) (kV doc pm:Vb) (an:Option Ve) (cdv ct:Vb) (osl:Array (Option Vb)),
  fd=Wby x qual (Zgd st) (Zdl st) (Zad st) .none kV doc pm an cdv ct/\K.lookup f=some ⟨oc,od,.func fd,osl⟩/\Wdn K cdv qual=true
 kp:Wcb K (.ref f)=true
section
variable {P:Vh} {w:Vs} {K:Xb} {mg:Str->Option Vb} {base:Vy}
theorem Fun.ok {x qual:Str} {st:Uae} {f:Ve} {fd:Uax} {N ps:List Str} {k:Nat} {sp:Sp} (F:Fun K x qual st f fd) (S:FnScope N ps (Zad st)) (len:∀ vs H Q E,sp vs H Q E->vs.length=ps.length)
  (hbody:∀ (cdv:Vb) (A:Vw) (outer:List Env) (s:Vd) (H:Hp) (vs:List V) (Q:VK) (E:XK),Room k (A.deeper (Uch qual (Zad st) s.heap.objs.size f cdv))->sp vs H Q E ->
   ∃ t,PSs (Zu1 CX0 P w K mg base N qual (Zad st) f cdv A outer s H E).nox (Zdl st) t/\t { nx:=fun _ H'=>Q .non H',rt:=Q } (start N vs) H):FnOk P w K mg base CX0 (k+1) f fd ps sp:=by
 obtain⟨oc,od,kV,doc,pm,an,cdv,ct,osl,rfl,lk,hcd⟩:=F.ex
 refine fn_of lk hcd S len fun A outer s H vs Q E hr hsp=>?_
 obtain⟨t,h,q⟩:=hbody cdv A outer s H vs Q E hr hsp
 exact⟨t,h.nox,q⟩
theorem Fun.binds {x qual:Str} {st:Uae} {f:Ve} {fd:Uax} {ps:List Str} (F:Fun K x qual st f fd)
  (h:∀ (kV doc pm:Vb) (an:Option Ve) (cdv ct:Vb) (us:List Vb),us.length=ps.length->bindArgs (Wby x qual (Zgd st) (Zdl st) (Zad st) .none kV doc pm an cdv ct) ⟨us,[]⟩=pure (ps.zip us)):Zj2 K fd ps []:=by
 obtain⟨oc,od,kV,doc,pm,an,cdv,ct,osl,rfl,lk,hcd⟩:=F.ex
 exact .all (h kV doc pm an cdv ct)
theorem Ydb {x qual:Str} {st:Uae} {f:Ve} {oc:Vb} {od an:Option Ve} {osl:Array (Option Vb)} {kV doc pm cdv ct:Vb} (l:K.lookup f=some ⟨oc,od,.func (Wby x qual (Zgd st) (Zdl st) (Zad st) .none kV doc pm an cdv ct),osl⟩)
  (c:Wdn K cdv qual=true) (k:Wcb K (.ref f)=true):Fun K x qual st f (Wby x qual (Zgd st) (Zdl st) (Zad st) .none kV doc pm an cdv ct):=⟨⟨oc,od,kV,doc,pm,an,cdv,ct,osl,rfl,l,c⟩,k⟩
end
section
variable {X:Cx}
theorem pv (i:Nat) {x:Str} {pos:Pos} (hN:X.N[i]? = some x:=by rfl) (hv:Vis X.env.scope x:=by first | exact Or.inl rfl | exact Or.inr (Or.inl rfl) | exact Or.inr (Or.inr rfl)) (hd:(x==("__debug__" : Str))=false:=by decide)
  (hcd:(x==("__classdict__" : Str))=false:=by decide):PE X (.Name x pos) (tVar i):=Ybh hN hv hd hcd
end
end L2
set_option maxHeartbeats 4000000
set_option autoImplicit false
namespace DL
open PySem PySem.Spec PyProof.Rows L2
nonrec def Zr7:Vb->Option Int
 | .int i _=>some i
 | .bool b=>some (if b then 1 else 0)
 | _=>none
nonrec def Zm1 (k:Int) (v:Vb):Bool:=Zr7 v==some k
theorem Zep {k:Int} {v:Vb} (h:Zm1 k v=true):(∃ t,v=.int k t)\/∃ b,v=.bool b/\k=(if b then 1 else 0):=by
 have h:Zr7 v=some k:=eq_of_beq h
 cases v with
 | int i t=>exact .inl ⟨t,by cases h; rfl⟩
 | bool b=>exact .inr ⟨b,rfl,(Xy.inj h).symm⟩
 | _=>cases h
section
variable {prog:Vh} {w:Vs} {A:Vw} {E:Vb->Vd->Prop} {s:Vd}
theorem Zo0 {b:Bool} {Q:Int->Vd->Prop} (h:Q (Udu (if b then 1 else 0)) { s with toks:=s.toks+1 }):Vg (Vn prog w) A (pyHash (.bool b)) Q E s:=by
 have hr:=rawHash_range (if b then 1 else 0)
 have tb:s.TypeIs (.bool b) "bool" := rfl
 unfold pyHash
 have hv:[Tcw b].any Value.onHeap=false:=rfl
 refine Va ?_
 rw[cRoomFor,if_neg (by rw[hv]; exact Wbi)]; refine Vc ?_
 refine Va (wpAny_specialOf tb Tax.lookup ?_)
 show Vg _ _ (if (some (Value.builtin "int.__hash__")==some Uu)=true then _ else _) Q E s
 rw[if_neg (by rw[beq_builtin_none]; exact Wbi)]
 refine Va (wpAny_specialOf tb Tax.lookup ?_)
 show Vg _ _ (callSpecialIfBoundUnlessNone? (.bool b) "__hash__" _ >>= _) Q E s
 refine Va (wpAny_callSpecialIfBoundUnlessNone?_slot tb Tax
  (Vo Tax tb entry_int_hash
   (show Vg _ _ (do ret (<- mkInt (rawHash (if b then 1 else 0)))) _ _ s from wpAny_ret_mkInt ?_) (args_int_hash _)))
 show Vg _ _ (if (decide (-(2:Int) ^ 63<=rawHash (if b then 1 else 0))&&decide (rawHash (if b then 1 else 0)<2 ^ 63))=true then _ else _) Q E _
 rw[if_pos (by rw[decide_eq_true hr.1,decide_eq_true hr.2]; rfl)]
 exact Vc h
end
nonrec def Zcn (prog:Vh) (w:Vs):KeyKind prog w Int where
 is:=Zm1
 hash:=Udu
 inj:=fun v a b ha hb=>by
  unfold Zm1 at ha hb
  have:=(eq_of_beq ha).symm.trans (eq_of_beq hb)
  exact Xy.inj this
 byValue:=fun k v h=>by rcases Zep h with ⟨t,rfl⟩ | ⟨b,rfl,_⟩<;>rfl
 pyHash:=fun hv h=>by
  rcases Zep hv with ⟨t,rfl⟩ | ⟨b,rfl,rfl⟩
  ·exact wpAny_pyHash_int h
  ·exact Zo0 h
 eqBool:=fun {A E s a b u v Q} hu hv h=>by
  rcases Zep hu with ⟨t,rfl⟩ | ⟨c,rfl,rfl⟩<;>rcases Zep hv with ⟨t',rfl⟩ | ⟨c',rfl,rfl⟩
  ·exact wpAny_eqBool_int h
  ·exact Tcu _ _ _ prog w E Q h
  ·exact Tcv _ _ _ prog w E Q h
  ·refine Tct _ _ prog w E Q ?_
   have e:(c==c')=decide ((if c then (1:Int) else 0)=(if c' then 1 else 0)):=by cases c<;>cases c'<;>rfl
   rw[e]; exact h
 «strs»:=fun k x t v h=>by simp[Zm1,Zr7] at h
nonrec def iIsz (k:Int) (v:Vb):Bool:=match v with
 | .int i _=>i==k
 | _=>false
theorem Zj7 {k:Int} {v:Vb} (h:iIsz k v=true):∃ t,v=.int k t:=by
 cases v with
 | int i t=>exact⟨t,by rw[eq_of_beq (show (i==k)=true from h)]⟩
 | _=>cases h
theorem Ze7 {k:Int} {t:Tok}:iIsz k (.int k t)=true:=beq_self_eq_true k
theorem Zfn {k:Int} {v:Vb} (h:iIsz k v=true):Zm1 k v=true:=by
 obtain⟨t,rfl⟩:=Zj7 h
 exact beq_self_eq_true (some k)
nonrec def Zqz (prog:Vh) (w:Vs):KeyKind prog w Int where
 is:=iIsz
 hash:=Udu
 inj:=fun v a b ha hb=>(Zcn prog w).inj v a b (Zfn ha) (Zfn hb)
 byValue:=fun k v h=>(Zcn prog w).byValue k v (Zfn h)
 pyHash:=fun hv h=>(Zcn prog w).pyHash (Zfn hv) h
 eqBool:=fun {A E s a b u v Q} hu hv h=>(Zcn prog w).eqBool (a:=a) (b:=b) (Zfn hu) (Zfn hv) h
 «strs»:=fun k x t v h=>by cases h
inductive D where
 | non | bl (b:Bool) | int (i:Int) | str (x:Str) | ty (n:String) | tup (xs:List D) | fl (xs:List D) | ref (n:Nat)
inductive DO where
 | lst (xs:List D) | dic (kvs:List (D×D)) (fz:Bool) | dci (kvs:List (Int×D)) | dcn (kvs:List (D×D)) | obj (cn:Str) (fs:List (Str×D)) | exc (cn:Str)
nonrec abbrev HD:=List DO
nonrec abbrev SD:=List (Option D)
def FzL (K:Xb) (H:Hp) (a:Ve) (xs:List V):Prop :=
 (∃ o,H a=some (.frz o (.lst xs))) \/
  ∃ (o:Obj) (its:Array Vb) (n:Nat),K.lookup a=some o/\o.cls=.type "list" /\ o.dict=none/\o.data=.seq its n/\its.size<=sizeLine/\Zb6 xs its.toList
theorem FzL.sq {K:Xb} {H:Hp} {a:Ve} {xs:List V} (h:FzL K H a xs):SqL K H a xs:=by
 rcases h with h | h
 ·exact .inl (.inr h)
 ·exact .inr h
nonrec def Zxj (n:String):Bool:=n == "bool" || n == "int" || n == "str" || n == "tuple" || n == "list"
mutual
noncomputable def Rep (K:Xb) (H:Hp) (ι:List Ve):D->V->Prop
 | .non,v=>v=.non
 | .bl b,v=>v=.bl b
 | .int i,v=>v=.int i
 | .str x,v=>v=.str x
 | .ty n,v=>(Zxj n=true/\v=.ty n)\/(Zxj n=false/\∃ a,v=.ref a/\Wcx K Vp (Ub n)=some (some (.ref a)))
 | .tup ds,v=>∃ a vs,v=.ref a/\SqT K H a vs/\Zmm K H ι ds vs
 | .fl ds,v=>∃ a vs,v=.ref a/\FzL K H a vs/\Zmm K H ι ds vs
 | .ref n,v=>∃ a,v=.ref a/\ι[n]? = some a
noncomputable def Zmm (K:Xb) (H:Hp) (ι:List Ve):List D->List V->Prop
 | [],vs=>vs=[]
 | d::ds,vs=>∃ v r,vs=v::r/\Rep K H ι d v/\Zmm K H ι ds r
end
section
variable {α β:Type} {F G:α->β->Prop}
theorem Prd.len:∀ {xs:List α} {us:List β},Vj F xs us->xs.length=us.length
 | _,_,.nil=>rfl
 | _,_,.cons _ t=>by simp[Prd.len t]
theorem Prd.get:∀ {xs:List α} {us:List β} {i:Nat} {x:α},Vj F xs us->xs[i]? = some x->∃ u,us[i]? = some u/\F x u
 | _,_,_,_,.nil,e=>by simp at e
 | _,_,0,_,.cons r _,e=>by simp at e; subst e; exact⟨_,rfl,r⟩
 | _,_,i+1,x,.cons _ t,e=>by
  obtain⟨u,h1,h2⟩:=Prd.get (i:=i) (x:=x) t (by simpa using e)
  exact⟨u,by simpa using h1,h2⟩
theorem Prd.append:∀ {xs ys:List α} {us ws:List β},Vj F xs us->Vj F ys ws->Vj F (xs++ys) (us++ws)
 | _,_,_,_,.nil,s=>s
 | _,_,_,_,.cons r t,s=>.cons r (Prd.append t s)
theorem Prd.take:∀ {xs:List α} {us:List β} (n:Nat),Vj F xs us->Vj F (xs.take n) (us.take n)
 | _,_,0,_=>.nil
 | _,_,_+1,.nil=>.nil
 | _,_,n+1,.cons r t=>.cons r (Prd.take n t)
theorem Prd.drop:∀ {xs:List α} {us:List β} (n:Nat),Vj F xs us->Vj F (xs.drop n) (us.drop n)
 | _,_,0,r=>r
 | _,_,_+1,.nil=>.nil
 | _,_,n+1,.cons _ t=>Prd.drop n t
theorem Prd.rep {xs:List α} {us:List β} (h:Vj F xs us):∀ k:Nat,Vj F (Xk k xs).flatten (Xk k us).flatten
 | 0=>.nil
 | k+1=>by
  rw[Wap,Wbp,Wap,Wbp]
  exact Prd.append h (Prd.rep h k)
theorem Prd.imp:∀ {xs:List α} {us:List β},Vj F xs us->(∀ a b,a∈xs->F a b->G a b)->Vj G xs us
 | _,_,.nil,_=>.nil
 | _,_,.cons r t,f=>.cons (f _ _ (by simp) r) (Prd.imp t fun a b h=>f a b (by simp[h]))
end
section
variable {K:Xb} {H H':Hp} {ι ι':List Ve}
theorem Zdu:∀ {ds:List D} {vs:List V},Zmm K H ι ds vs ↔ Vj (Rep K H ι) ds vs
 | [],vs=>by
  constructor
  ·intro h; rw[Zmm] at h; subst h; exact .nil
  ·intro h; cases h; rw[Zmm]
 | d::ds,vs=>by
  constructor
  ·intro h; rw[Zmm] at h
   obtain⟨v,r,rfl,h1,h2⟩:=h
   exact .cons h1 (Zdu.mp h2)
  ·intro h
   cases h with
   | cons h1 h2=>rw[Zmm]; exact⟨_,_,rfl,h1,Zdu.mpr h2⟩
@[simp] theorem rep_non {v:V}:Rep K H ι .non v ↔ v=.non:=by rw[Rep]
@[simp] theorem rep_bl {b:Bool} {v:V}:Rep K H ι (.bl b) v ↔ v=.bl b:=by rw[Rep]
@[simp] theorem rep_int {i:Int} {v:V}:Rep K H ι (.int i) v ↔ v=.int i:=by rw[Rep]
@[simp] theorem rep_str {x:Str} {v:V}:Rep K H ι (.str x) v ↔ v=.str x:=by rw[Rep]
theorem Zw7 {n:String} {v:V} (h:Zxj n=true):Rep K H ι (.ty n) v ↔ v=.ty n:=by rw[Rep]; simp[h]
theorem Zx9 {n:String} {v:V} (h:Zxj n=false):Rep K H ι (.ty n) v ↔ ∃ a,v=.ref a/\Wcx K Vp (Ub n)=some (some (.ref a)):=by rw[Rep]; simp[h]
theorem Za5 {ds:List D} {v:V}:Rep K H ι (.tup ds) v ↔ ∃ a vs,v=.ref a/\SqT K H a vs/\Vj (Rep K H ι) ds vs:=by
 rw[Rep]
 constructor
 ·rintro⟨a,vs,h1,h2,h3⟩; exact⟨a,vs,h1,h2,Zdu.mp h3⟩
 ·rintro⟨a,vs,h1,h2,h3⟩; exact⟨a,vs,h1,h2,Zdu.mpr h3⟩
theorem Zg9 {ds:List D} {v:V}:Rep K H ι (.fl ds) v ↔ ∃ a vs,v=.ref a/\FzL K H a vs/\Vj (Rep K H ι) ds vs:=by
 rw[Rep]
 constructor
 ·rintro⟨a,vs,h1,h2,h3⟩; exact⟨a,vs,h1,h2,Zdu.mp h3⟩
 ·rintro⟨a,vs,h1,h2,h3⟩; exact⟨a,vs,h1,h2,Zdu.mpr h3⟩
theorem Zat {n:Nat} {v:V}:Rep K H ι (.ref n) v ↔ ∃ a,v=.ref a/\ι[n]? = some a:=by rw[Rep]
structure Lw (K:Xb) (H:Hp) (ι:List Ve) (H':Hp) (ι':List Ve):Prop where
 tup:∀ a xs,SqT K H a xs->SqT K H' a xs
 fz:∀ a xs,FzL K H a xs->FzL K H' a xs
 pre:∃ t,ι'=ι++t
 fr:∀ a o u,H a=some (.frz o u)->H' a=some (.frz o u)
structure Le (K:Xb) (H:Hp) (ι:List Ve) (H':Hp) (ι':List Ve):Prop extends Lw K H ι H' ι' where
 frame:∀ a o,H a=some o->a∉ι->H' a=some o/\a∉ι'
theorem Le.refl:Le K H ι H ι:=⟨⟨fun _ _ h=>h,fun _ _ h=>h,⟨[],by simp⟩,fun _ _ _ h=>h⟩,fun _ _ h n=>⟨h,n⟩⟩
theorem Le.trans {H1 H2:Hp} {ι1 ι2:List Ve} (a:Le K H ι H1 ι1) (b:Le K H1 ι1 H2 ι2):Le K H ι H2 ι2:=by
 refine⟨⟨fun x xs h=>b.tup x xs (a.tup x xs h),fun x xs h=>b.fz x xs (a.fz x xs h),?_,fun x o u h=>b.fr x o u (a.fr x o u h)⟩,fun x o h n=>?_⟩
 ·obtain⟨t,e⟩:=a.pre
  obtain⟨u,e'⟩:=b.pre
  exact⟨t++u,by rw[e',e,Wax]⟩
 ·obtain⟨h1,n1⟩:=a.frame x o h n
  exact b.frame x o h1 n1
theorem Lw.get (l:Lw K H ι H' ι') {n:Nat} {a:Ve} (h:ι[n]? = some a):ι'[n]? = some a:=by
 obtain⟨t,e⟩:=l.pre
 rw[e,Xm (by exact(Xc.mp h).1),h]
mutual
theorem Rep.monoW (l:Lw K H ι H' ι'):∀ {d:D} {v:V},Rep K H ι d v->Rep K H' ι' d v
 | .non,v,h=>by rw[Rep] at h ⊢; exact h
 | .bl _,v,h=>by rw[Rep] at h ⊢; exact h
 | .int _,v,h=>by rw[Rep] at h ⊢; exact h
 | .str _,v,h=>by rw[Rep] at h ⊢; exact h
 | .ty _,v,h=>by rw[Rep] at h ⊢; exact h
 | .tup ds,v,h=>by
  rw[Rep] at h ⊢
  obtain⟨a,vs,h1,h2,h3⟩:=h
  exact⟨a,vs,h1,l.tup a vs h2,Zmm.monoW l h3⟩
 | .fl ds,v,h=>by
  rw[Rep] at h ⊢
  obtain⟨a,vs,h1,h2,h3⟩:=h
  exact⟨a,vs,h1,l.fz a vs h2,Zmm.monoW l h3⟩
 | .ref n,v,h=>by
  rw[Rep] at h ⊢
  obtain⟨a,h1,h2⟩:=h
  exact⟨a,h1,l.get h2⟩
theorem Zmm.monoW (l:Lw K H ι H' ι'):∀ {ds:List D} {vs:List V},Zmm K H ι ds vs->Zmm K H' ι' ds vs
 | [],vs,h=>by rw[Zmm] at h ⊢; exact h
 | d::ds,vs,h=>by
  rw[Zmm] at h ⊢
  obtain⟨v,r,h1,h2,h3⟩:=h
  exact⟨v,r,h1,Rep.monoW l h2,Zmm.monoW l h3⟩
end
theorem Rep.mono (l:Le K H ι H' ι') {d:D} {v:V} (h:Rep K H ι d v):Rep K H' ι' d v:=Rep.monoW l.toLw h
theorem Prd.monoW (l:Lw K H ι H' ι') {ds:List D} {vs:List V} (h:Vj (Rep K H ι) ds vs):Vj (Rep K H' ι') ds vs:=Zdu.mp (Zmm.monoW l (Zdu.mpr h))
theorem Prd.mono (l:Le K H ι H' ι') {ds:List D} {vs:List V} (h:Vj (Rep K H ι) ds vs):Vj (Rep K H' ι') ds vs:=Prd.monoW l.toLw h
nonrec def nkOf:D->Option Int
 | .int i=>some i
 | .bl b=>some (if b then 1 else 0)
 | _=>none
nonrec def Zn6:List D->Option (List Int)
 | []=>some []
 | d::r=>(nkOf d).bind fun k=>(Zn6 r).map fun ks=>k::ks
nonrec def nk:D->Option (List Int)
 | .tup ds=>Zn6 ds
 | _=>none
nonrec def Ybo (ks:List Int):Int:=reduceHash (Tbo (ks.map Udu))
def Zcv (a:Ve) (xs:List (List Int×Ve×Vb)) (h:Vy):Prop :=
 ∃ o es ep,h.get? a=some o/\o.ExactDict/\o.data=.dict es ep/\es.toList=xs.map (fun x=>(⟨Ybo x.1,.ref x.2.1,x.2.2⟩:Uac))/\(xs.map (·.1)).Nodup
theorem Zcv.keep {a:Ve} {xs:List (List Int×Ve×Vb)} {h1 h2:Vy} (d:Zcv a xs h1) (k:∀ o,h1.get? a=some o->h2.get? a=some o):Zcv a xs h2:=by
 obtain⟨o,es,ep,e,r⟩:=d
 exact⟨o,es,ep,k o e,r⟩
def Zrt (K:Xb) (H:Hp) (ι:List Ve) (p:D×D) (x:List Int×Ve×Vb):Prop:=nk p.1=some x.1/\Rep K H ι p.1 (.ref x.2.1)/\∃ v,Zch v x.2.2/\Rep K H ι p.2 v
def Zey (a:Ve) (xs:List (Int×Vb)) (h:Vy):Prop:=∀ (p:Vh) (w:Vs),h.DictOf (Zqz p w) a xs
theorem Zey.keep {a:Ve} {xs:List (Int×Vb)} {h1 h2:Vy} (d:Zey a xs h1) (k:∀ o,h1.get? a=some o->h2.get? a=some o):Zey a xs h2:=fun p w=>by
 obtain⟨o,es,ep,e,r⟩:=d p w
 exact⟨o,es,ep,k o e,r⟩
def Zwm (K:Xb) (H:Hp) (ι:List Ve) (p:Int×D) (x:Int×Vb):Prop:=p.1=x.1/\∃ v,Zch v x.2/\Rep K H ι p.2 v
nonrec def nk2:D->Option (Int×List Int)
 | .tup [a,b]=>(nkOf a).bind fun i=>(nk b).map fun ks=>(i,ks)
 | _=>none
nonrec def nHash (k:Int×List Int):Int:=reduceHash (Tbo [Udu k.1,Ybo k.2])
def DcnAt (a:Ve) (xs:List ((Int×List Int)×Ve×Vb)) (h:Vy):Prop :=
 ∃ o es ep,h.get? a=some o/\o.ExactDict/\o.data=.dict es ep/\es.toList=xs.map (fun x=>(⟨nHash x.1,.ref x.2.1,x.2.2⟩:Uac))/\(xs.map (·.1)).Nodup
def NRep (K:Xb) (H:Hp) (ι:List Ve) (p:D×D) (x:(Int×List Int)×Ve×Vb):Prop:=nk2 p.1=some x.1/\Rep K H ι p.1 (.ref x.2.1)/\∃ v,Zch v x.2.2/\Rep K H ι p.2 v
def FRep (K:Xb) (H:Hp) (ι:List Ve) (p:Str×D) (x:Str×V):Prop:=p.1=x.1/\Rep K H ι p.2 x.2
def ExcAt (a C:Ve) (h:Vy):Prop:=∃ o,h.get? a=some o/\o.cls=.ref C
nonrec def Zrp (K:Xb) (H:Hp) (ι:List Ve) (a:Ve):DO->Prop
 | .lst ds=>∃ vs,H a=some (.lst vs)/\Vj (Rep K H ι) ds vs
 | .dic kvs fz=>(a==Uab)=false/\kvs.length<=sizeLine/\∃ xs,(if fz=true then ∃ o,H a=some (.frz o (.ext (Zcv a xs))) else H a=some (.ext (Zcv a xs)))/\Vj (Zrt K H ι) kvs xs
 | .dci kvs=>(a==Uab)=false/\kvs.length<=sizeLine/\∃ xs,H a=some (.ext (Zey a xs))/\Vj (Zwm K H ι) kvs xs
 | .dcn kvs=>(a==Uab)=false/\kvs.length<=sizeLine/\∃ xs,H a=some (.ext (DcnAt a xs))/\Vj (NRep K H ι) kvs xs
 | .obj cn fs=>∃ C dx xs,Wcx K Vp cn=some (some (.ref C))/\H a=some (.ins C dx xs)/\Vj (FRep K H ι) fs xs
 | .exc cn=>∃ C,Wcx K Vp cn=some (some (.ref C))/\H a=some (.ext (ExcAt a C))
structure HRep (K:Xb) (H:Hp) (ι:List Ve) (Hd:HD):Prop where
 len:ι.length=Hd.length
 nd:ι.Nodup
 obj:∀ (n:Nat) (a:Ve) (o:DO),ι[n]? = some a->Hd[n]? = some o->Zrp K H ι a o
theorem Zrp.there {a:Ve} {o:DO} (h:Zrp K H ι a o):H a≠none:=by
 cases o with
 | lst ds=>obtain⟨vs,e,_⟩:=h; rw[e]; simp
 | dic kv fz =>
  obtain⟨_,_,xs,e,_⟩:=h
  cases fz with
  | true=>rw[if_pos rfl] at e; obtain⟨ob,e⟩:=e; rw[e]; simp
  | false=>rw[if_neg (by simp)] at e; rw[e]; simp
 | dci kv=>obtain⟨_,_,xs,e,_⟩:=h; rw[e]; simp
 | dcn kv=>obtain⟨_,_,xs,e,_⟩:=h; rw[e]; simp
 | obj cn fs=>obtain⟨C,dx,xs,_,e,_⟩:=h; rw[e]; simp
 | exc cn=>obtain⟨C,_,e⟩:=h; rw[e]; simp
theorem Zrp.step {a:Ve} {o:DO} (h:Zrp K H ι a o) (l:Lw K H ι H' ι') (e:H' a=H a):Zrp K H' ι' a o:=by
 cases o with
 | lst ds=>obtain⟨vs,q,r⟩:=h; exact⟨vs,by rw[e,q],Prd.monoW l r⟩
 | dic kv fz=>obtain⟨h1,h2,xs,q,r⟩:=h; exact⟨h1,h2,xs,by rw[e]; exact q,Prd.imp r fun p x _ z=>⟨z.1,Rep.monoW l z.2.1,let ⟨v,z1,z2⟩:=z.2.2; ⟨v,z1,Rep.monoW l z2⟩⟩⟩
 | dci kv=>obtain⟨h1,h2,xs,q,r⟩:=h; exact⟨h1,h2,xs,by rw[e]; exact q,Prd.imp r fun p x _ z=>⟨z.1,let ⟨v,z1,z2⟩:=z.2; ⟨v,z1,Rep.monoW l z2⟩⟩⟩
 | dcn kv=>obtain⟨h1,h2,xs,q,r⟩:=h; exact⟨h1,h2,xs,by rw[e]; exact q,Prd.imp r fun p x _ z=>⟨z.1,Rep.monoW l z.2.1,let ⟨v,z1,z2⟩:=z.2.2; ⟨v,z1,Rep.monoW l z2⟩⟩⟩
 | obj cn fs=>obtain⟨C,dx,xs,h1,q,r⟩:=h; exact⟨C,dx,xs,h1,by rw[e]; exact q,Prd.imp r fun p x _ z=>⟨z.1,Rep.monoW l z.2⟩⟩
 | exc cn=>obtain⟨C,h1,q⟩:=h; exact⟨C,h1,by rw[e]; exact q⟩
theorem HRep.has {Hd:HD} (h:HRep K H ι Hd) {a:Ve} (hm:a∈ι):∃ (n:Nat) (o:DO),ι[n]? = some a/\Hd[n]? = some o/\Zrp K H ι a o:=by
 obtain⟨n,hn⟩:=Weh.mp hm
 have hl:n<Hd.length:=by rw[<- h.len]; exact(Xc.mp hn).1
 exact⟨n,Hd[n],hn,by simp[hl],h.obj n a Hd[n] hn (by simp[hl])⟩
theorem HRep.fresh {Hd:HD} (h:HRep K H ι Hd) {p:Ve} (hp:H p=none):p∉ι:=fun hm=>by
 obtain⟨_,_,_,_,o⟩:=h.has hm
 exact o.there hp
theorem HRep.keep {Hd:HD} (h:HRep K H ι Hd) (l:Lw K H ι H' ι) (e:∀ a∈ι,H' a=H a):HRep K H' ι Hd :=
 ⟨h.len,h.nd,fun n a o h1 h2=>(h.obj n a o h1 h2).step l (e a (Wae h1))⟩
theorem Lw.fresh {p:Ve} (hp:H p=none) (o:HO):Lw K H ι (upd H p o) ι where
 tup:=fun a xs h=>by
  rcases h with (h | ⟨ob,h⟩) | h
  ·exact .inl (.inl (by rw[Zak (Zai h hp)]; exact h))
  ·exact .inl (.inr ⟨ob,by rw[Zak (Zai h hp)]; exact h⟩)
  ·exact .inr h
 fz:=fun a xs h=>by
  rcases h with ⟨ob,h⟩ | h
  ·exact .inl ⟨ob,by rw[Zak (Zai h hp)]; exact h⟩
  ·exact .inr h
 pre:=⟨[],by simp⟩
 fr:=fun a ob u h=>by rw[Zak (Zai h hp)]; exact h
theorem Le.fresh {p:Ve} (hp:H p=none) (o:HO):Le K H ι (upd H p o) ι:=⟨Lw.fresh hp o,fun a ob h n=>⟨by rw[Zak (Zai h hp)]; exact h,n⟩⟩
theorem Le.fresh1 {p:Ve} (hp:H p=none) (o:HO):Le K H ι (upd H p o) (ι++[p]) where
 tup:=(Le.fresh (ι:=ι) hp o).tup
 fz:=(Le.fresh (ι:=ι) hp o).fz
 pre:=⟨[p],rfl⟩
 fr:=(Le.fresh (K:=K) (ι:=ι) hp o).fr
 frame:=fun a ob h n=>⟨by rw[Zak (Zai h hp)]; exact h,by
  have:=Zai h hp
  simp[n,this]⟩
theorem HRep.tup {Hd:HD} (h:HRep K H ι Hd) {p:Ve} (hp:H p=none) (o:HO):HRep K (upd H p o) ι Hd :=
 h.keep (Lw.fresh hp o) fun a ha=>Zak fun z=>by subst z; exact h.fresh hp ha
theorem HRep.new {Hd:HD} (h:HRep K H ι Hd) {p:Ve} (hp:H p=none) {u:HO} {o:DO} (ho:Zrp K (upd H p u) (ι++[p]) p o):HRep K (upd H p u) (ι++[p]) (Hd++[o]):=by
 have hf:=h.fresh hp
 refine⟨by simp[h.len],by simp only[Wbq,h.nd,true_and]; exact⟨by simp,fun a ha b hb e=>hf (by simp at hb; rw[<- hb,<- e]; exact ha)⟩,fun n a ob h1 h2=>?_⟩
 by_cases hn:n<ι.length
 ·rw[Xm hn] at h1
  rw[Xm (by rw[<- h.len]; exact hn)] at h2
  have ha:a∈ι:=Wae h1
  exact(h.obj n a ob h1 h2).step (Le.fresh1 hp u).toLw (Zak fun z=>by subst z; exact hf ha)
 ·rw[Wak (by omega)] at h1
  rw[Wak (by rw[<- h.len]; omega)] at h2
  rw[<- h.len] at h2
  have:n - ι.length=0:=by
   have:=(Xc.mp h1).1
   simp at this; omega
  rw[this] at h1 h2
  simp at h1 h2
  subst h1; subst h2
  exact ho
nonrec def Ya6:HO->Prop
 | .lst _=>True
 | .ext _=>True
 | .ins _ _ _=>True
 | _=>False
theorem Le.upd {a:Ve} (ha:a∈ι) {o:HO} (e:H a=some o) (lo:Ya6 o) (u:HO):Le K H ι (upd H a u) ι where
 tup:=fun b xs h=>by
  rcases h with (h | ⟨ob,h⟩) | h
  ·refine .inl (.inl ?_)
   rw[Zak (Znl h e (by rintro rfl; exact lo))]; exact h
  ·refine .inl (.inr ⟨ob,?_⟩)
   rw[Zak (Znl h e (by rintro rfl; exact lo))]; exact h
  ·exact .inr h
 fz:=fun b xs h=>by
  rcases h with ⟨ob,h⟩ | h
  ·refine .inl ⟨ob,?_⟩
   rw[Zak (Znl h e (by rintro rfl; exact lo))]; exact h
  ·exact .inr h
 pre:=⟨[],by simp⟩
 fr:=fun b ob w h=>by rw[Zak (Znl h e (by rintro rfl; exact lo))]; exact h
 frame:=fun b ob h n=>⟨by rw[Zak (by rintro rfl; exact n ha)]; exact h,n⟩
theorem HRep.upd {Hd:HD} (h:HRep K H ι Hd) {n:Nat} {a:Ve} (hn:ι[n]? = some a) {o u:HO} (e:H a=some o) (lo:Ya6 o) {ob:DO} (ho:Zrp K (upd H a u) ι a ob):HRep K (upd H a u) ι (Hd.set n ob):=by
 refine⟨by simp[h.len],h.nd,fun m b oc h1 h2=>?_⟩
 by_cases hm:n=m
 ·subst hm
  rw[hn] at h1; cases h1
  rw[Wdr] at h2
  rw[if_pos rfl] at h2
  split at h2
  ·cases h2; exact ho
  ·cases h2
 ·rw[Waj hm] at h2
  have hb:b≠a:=fun z=>by
   subst z
   have l1:=(Xc.mp hn).1
   exact hm ((Wew l1 h.nd).mp (hn.trans h1.symm))
  exact(h.obj m b oc h1 h2).step (Le.upd (Wae hn) e lo u).toLw (Zak hb)
theorem HRep.add {Hd:HD} (h:HRep K H ι Hd) {p:Ve} (hp:p∉ι) {o:DO} (ho:Zrp K H (ι++[p]) p o):HRep K H (ι++[p]) (Hd++[o]):=by
 refine⟨by simp[h.len],by simp only[Wbq,h.nd,true_and]; exact⟨by simp,fun a ha b hb e=>hp (by simp at hb; rw[<- hb,<- e]; exact ha)⟩,fun n a ob h1 h2=>?_⟩
 by_cases hn:n<ι.length
 ·rw[Xm hn] at h1
  rw[Xm (by rw[<- h.len]; exact hn)] at h2
  exact(h.obj n a ob h1 h2).step ⟨fun _ _ z=>z,fun _ _ z=>z,⟨[p],rfl⟩,fun _ _ _ z=>z⟩ rfl
 ·rw[Wak (by omega)] at h1
  rw[Wak (by rw[<- h.len]; omega)] at h2
  rw[<- h.len] at h2
  have:n - ι.length=0:=by
   have:=(Xc.mp h1).1
   simp at this; omega
  rw[this] at h1 h2
  simp at h1 h2
  subst h1; subst h2
  exact ho
theorem Lw.side {p:Ve} {ys:List V} (hp:H p=some (.lst ys)) (u:HO):Lw K H ι (L2.upd H p u) ι where
 tup:=fun a xs h=>by
  rcases h with (h | ⟨ob,h⟩) | h
  ·refine .inl (.inl ?_)
   rw[Zak (Znl h hp (by intro z; cases z))]; exact h
  ·refine .inl (.inr ⟨ob,?_⟩)
   rw[Zak (Znl h hp (by intro z; cases z))]; exact h
  ·exact .inr h
 fz:=fun a xs h=>by
  rcases h with ⟨ob,h⟩ | h
  ·refine .inl ⟨ob,?_⟩
   rw[Zak (Znl h hp (by intro z; cases z))]; exact h
  ·exact .inr h
 pre:=⟨[],by simp⟩
 fr:=fun a ob w h=>by rw[Zak (Znl h hp (by intro z; cases z))]; exact h
theorem Lw.trans {H1 H2:Hp} {ι1 ι2:List Ve} (a:Lw K H ι H1 ι1) (b:Lw K H1 ι1 H2 ι2):Lw K H ι H2 ι2:=by
 refine⟨fun x xs h=>b.tup x xs (a.tup x xs h),fun x xs h=>b.fz x xs (a.fz x xs h),?_,fun x o u h=>b.fr x o u (a.fr x o u h)⟩
 obtain⟨t,e⟩:=a.pre
 obtain⟨u,e'⟩:=b.pre
 exact⟨t++u,by rw[e',e,Wax]⟩
theorem Le.side {H1:Hp} {ι1:List Ve} {p:Ve} {ys:List V} (l:Le K H ι H1 ι1) (h0:H p=none) (h1:H1 p=some (.lst ys)) (u:HO):Le K H ι (L2.upd H1 p u) ι1 :=
 ⟨l.toLw.trans (Lw.side h1 u),fun a o h n=>by
  obtain⟨q,m⟩:=l.frame a o h n
  exact⟨by rw[Zak (Zai h h0)]; exact q,m⟩⟩
structure SRep (K:Xb) (H:Hp) (ι:List Ve) (σ:L2.St) (σd:SD):Prop where
 len:σ.length=σd.length
 var:∀ (i:Nat) (d:D),σd[i]? = some (some d)->∃ v,σ[i]? = some (some v)/\Rep K H ι d v
theorem SRep.mono {σ:L2.St} {σd:SD} (s:SRep K H ι σ σd) (l:Le K H ι H' ι'):SRep K H' ι' σ σd :=
 ⟨s.len,fun i d h=>let ⟨v,h1,h2⟩:=s.var i d h; ⟨v,h1,h2.mono l⟩⟩
theorem SRep.set {σ:L2.St} {σd:SD} {d:D} {v:V} (s:SRep K H ι σ σd) (r:Rep K H ι d v) (i:Nat):SRep K H ι (σ.set i (some v)) (σd.set i (some d)):=by
 refine⟨by simp[s.len],fun j e h=>?_⟩
 by_cases hj:i=j
 ·subst hj
  rw[Wdr] at h ⊢
  rw[if_pos rfl] at h ⊢
  split at h
  ·rename_i hl
   rw[if_pos (by rw[s.len]; exact hl)]
   cases h
   exact⟨v,rfl,r⟩
  ·cases h
 ·rw[Waj hj] at h ⊢
  exact s.var j e h
end
nonrec def Zpk:Vv->Bool
 | .Starred _ _=>false
 | _=>true
theorem Zbr {e:Vv} {es:List Vv} {env:Env} (h:Zpk e=true):Vf (e::es) env=(false,eval e env)::Vf es env:=by
 cases e<;>first | rfl | cases h
theorem Zct {pos:Pos} {env:Env}:∀ {es:List Vv},es.all Zpk=true->(Uag pos (Vf es env)).any (·.1)=false
 | [],_=>rfl
 | e::es,h=>by
  rw[Wdv,Wad] at h
  rw[Zbr h.1]
  show (false||(Uag pos (Vf es env)).any (·.1))=false
  rw[Zct h.2]
  rfl
theorem Zlj {pos:Pos} {env:Env} {es:List Vv} (h:es.all Zpk=true) (hl:es.length<30):((Uag pos (Vf es env)).all (fun x => !x.1)&&(Ubx pos (Uat [] env)).all (fun x=>x.1.isSome)
   && decide (es.length+([]:List Ubm).length+(if ([]:List Ubm).isEmpty then 0 else 1)<30))=true:=by
 have h1:=Zct (pos:=pos) (env:=env) h
 have h2:(Uag pos (Vf es env)).all (fun x => !x.1)=true:=by
  rw[Waf]
  intro x hx
  rw[Wbw] at h1
  have:=h1 x hx
  simpa using this
 have h3:decide (es.length+([]:List Ubm).length+(if ([]:List Ubm).isEmpty then 0 else 1)<30)=true:=by
  rw[decide_eq_true_eq]
  simpa using hl
 rw[h2,h3]
 rfl
nonrec abbrev EF:=SD->HD->Option (D×HD)
nonrec abbrev TF:=SD->HD->Option (Bool×HD)
nonrec abbrev AF:=SD->HD->Option (List D×HD)
inductive FD where
 | nx | bk | ct | rt (d:D)
nonrec abbrev SF:=SD->HD->Option (FD×SD×HD)
nonrec abbrev GF:=D->SD->HD->Option (SD×HD)
nonrec abbrev FF:=List D->HD->Option (D×HD)
nonrec abbrev F2:=D->D->HD->Option (D×HD)
def QE (K:Xb) (H:Hp) (ι:List Ve) (d:D) (Hd':HD) (Q:VK):Prop:=∀ v H' ι',Le K H ι H' ι'->HRep K H' ι' Hd'->Rep K H' ι' d v->Q v H'
nonrec def rdE (K:Xb) (f:EF):TE:=fun σ H Q=>∃ ι σd Hd d Hd',SRep K H ι σ σd/\HRep K H ι Hd/\f σd Hd=some (d,Hd')/\QE K H ι d Hd' Q
nonrec def rdT (K:Xb) (f:TF):TT:=fun σ H Q=>∃ ι σd Hd b Hd',SRep K H ι σ σd/\HRep K H ι Hd/\f σd Hd=some (b,Hd')/\∀ H' ι',Le K H ι H' ι'->HRep K H' ι' Hd'->Q b H'
nonrec def rdA (K:Xb) (f:AF):TA:=fun σ H Q=>∃ ι σd Hd ds Hd',SRep K H ι σ σd/\HRep K H ι Hd/\f σd Hd=some (ds,Hd')/\∀ vs H' ι',Le K H ι H' ι'->HRep K H' ι' Hd'->Vj (Rep K H' ι') ds vs->Q vs H'
def QS (K:Xb) (H:Hp) (ι:List Ve) (fl:FD) (σd':SD) (Hd':HD) (E:Ends):Prop:=∀ σ' H' ι',Le K H ι H' ι'->HRep K H' ι' Hd'->SRep K H' ι' σ' σd' ->
 match fl with
 | .nx=>E.nx σ' H'
 | .bk=>E.bk σ' H'
 | .ct=>E.ct σ' H'
 | .rt d=>∀ v,Rep K H' ι' d v->E.rt v H'
nonrec def rdS (K:Xb) (f:SF):TS:=fun E σ H=>∃ ι σd Hd fl σd' Hd',SRep K H ι σ σd/\HRep K H ι Hd/\f σd Hd=some (fl,σd',Hd')/\QS K H ι fl σd' Hd' E
nonrec def rdG (K:Xb) (g:GF):TG:=fun v σ H Q=>∃ ι σd Hd d σd' Hd',SRep K H ι σ σd/\HRep K H ι Hd/\Rep K H ι d v/\g d σd Hd=some (σd',Hd') /\
 ∀ σ' H' ι',Le K H ι H' ι'->HRep K H' ι' Hd'->SRep K H' ι' σ' σd'->Q σ' H'
nonrec def rd2 (K:Xb) (g:F2):R2:=fun x y H Q=>∃ ι dx dy Hd d Hd',HRep K H ι Hd/\Rep K H ι dx x/\Rep K H ι dy y/\g dx dy Hd=some (d,Hd')/\QE K H ι d Hd' Q
nonrec def rd1 (K:Xb) (g:D->HD->Option (D×HD)):V->Hp->VK->Prop:=fun x H Q=>∃ ι dx Hd d Hd',HRep K H ι Hd/\Rep K H ι dx x/\g dx Hd=some (d,Hd')/\QE K H ι d Hd' Q
nonrec def rdC (K:Xb) (g:FF):List V->Hp->VK->Prop:=fun vs H Q=>∃ ι ds Hd d Hd',HRep K H ι Hd/\Vj (Rep K H ι) ds vs/\g ds Hd=some (d,Hd')/\QE K H ι d Hd' Q
nonrec def rdM (K:Xb) (g:D->List D->HD->Option (D×HD)):V->List V->Hp->VK->Prop:=fun v vs H Q=>∃ ι x ds Hd d Hd',HRep K H ι Hd/\Rep K H ι x v/\Vj (Rep K H ι) ds vs/\g x ds Hd=some (d,Hd')/\QE K H ι d Hd' Q
def PEf (X:Cx) (e:Vv) (f:EF):Prop:=PE X e (rdE X.K f)
def PTf (X:Cx) (e:Vv) (f:TF):Prop:=PT X e (rdT X.K f)
def PWf (X:Cx) (e:Vv) (f:TF):Prop:=PW X e (rdT X.K f)
def PAf (X:Cx) (es:List Vv) (f:AF):Prop:=PA X es (rdA X.K f)
def PSf (X:Cx) (st:Uae) (f:SF):Prop:=PS X st (rdS X.K f)
def Zrr (X:Cx) (st:List Uae) (f:SF):Prop:=PSs X st (rdS X.K f)
def PGf (X:Cx) (tg:Vv) (g:GF):Prop:=PG X tg (rdG X.K g)
def OpF (X:Cx) (f:Vb->Vb->Sem Vb) (g:F2):Prop:=OpR X f (rd2 X.K g)
def UnF (X:Cx) (f:Vb->Sem Vb) (g:D->HD->Option (D×HD)):Prop:=UnR X f (rd1 X.K g)
def Zj1 (X:Cx) (f:Vb) (g:FF):Prop:=Zle X f (rdC X.K g)
def IxF (X:Cx) (g:F2):Prop:=IxR X (rd2 X.K g)
def MtF (X:Cx) (id:String) (g:D->List D->HD->Option (D×HD)):Prop:=MtR X id (rdM X.K g)
section
variable {X:Cx} {e a b c:Vv} {es:List Vv} {pos:Pos} {st:Uae} {sts:List Uae}
theorem PEi {t t':TE} (h:PE X e t) (i:∀ σ H Q,t' σ H Q->t σ H Q):PE X e t':=fun pins s σ H Q I q=>h pins s σ H Q I (i σ H Q q)
theorem PTi {t t':TT} (h:PT X e t) (i:∀ σ H Q,t' σ H Q->t σ H Q):PT X e t':=fun pins s σ H Q I q=>h pins s σ H Q I (i σ H Q q)
theorem PWi {t t':TT} (h:PW X e t) (i:∀ σ H Q,t' σ H Q->t σ H Q):PW X e t':=fun wh pins s σ H Q I q=>h wh pins s σ H Q I (i σ H Q q)
theorem PAi {t t':TA} (h:PA X es t) (i:∀ σ H Q,t' σ H Q->t σ H Q):PA X es t':=fun ps pins s σ H Q I q=>h ps pins s σ H Q I (i σ H Q q)
theorem PSi {t t':TS} (h:PS X st t) (i:∀ E σ H,t' E σ H->t E σ H):PS X st t':=fun pins s σ H E I q=>h pins s σ H E I (i E σ H q)
theorem PSsi {t t':TS} (h:PSs X sts t) (i:∀ E σ H,t' E σ H->t E σ H):PSs X sts t':=fun pins s σ H E I q=>h pins s σ H E I (i E σ H q)
theorem PGi {t t':TG} (h:PG X e t) (i:∀ v σ H Q,t' v σ H Q->t v σ H Q):PG X e t':=fun pins s σ H v u Q I r q=>h pins s σ H v u Q I r (i v σ H Q q)
theorem OpRi {f:Vb->Vb->Sem Vb} {t t':R2} (h:OpR X f t) (i:∀ x y H Q,t' x y H Q->t x y H Q):OpR X f t':=fun pins s σ H x y v u Q I r1 r2 q=>h pins s σ H x y v u Q I r1 r2 (i x y H Q q)
nonrec def Zac (i:Nat):EF:=fun σ H=>(σ[i]?).join.map fun d=>(d,H)
nonrec def eC (d:D):EF:=fun _ H=>some (d,H)
theorem Zab {i:Nat} {x:Str} (h:PE X (.Name x pos) (tVar i)):PEf X (.Name x pos) (Zac i):=by
 refine PEi h fun σ H Q zz=>?_
 obtain⟨ι,σd,Hd,d,Hd',s,hr,e,q⟩:=zz
 unfold Zac at e
 cases hx:σd[i]? with
 | none=>rw[hx] at e; cases e
 | some o =>
  cases o with
  | none=>rw[hx] at e; cases e
  | some d0 =>
   rw[hx] at e
   have e':(d0,Hd)=(d,Hd'):=Xy.inj e
   obtain⟨rfl,rfl⟩:=Wba.inj e'
   obtain⟨v,h1,h2⟩:=s.var i d0 hx
   exact⟨v,h1,q v H ι Le.refl hr h2⟩
theorem Zov {v:V} {d:D} (h:PE X e (tC v)) (r:∀ H ι,Rep X.K H ι d v):PEf X e (eC d):=by
 refine PEi h fun σ H Q zz=>?_
 obtain⟨ι,σd,Hd,d',Hd',s,hr,e,q⟩:=zz
 cases e
 exact q v H ι Le.refl hr (r H ι)
theorem Zag {i j}:PEf X (.Constant (.int i) j pos) (eC (.int i)):=Zov Zxq fun _ _=>by simp
theorem Zgz {b j}:PEf X (.Constant (.bool b) j pos) (eC (.bl b)):=Zov pe_bl fun _ _=>by simp
theorem Zhh {j}:PEf X (.Constant .none j pos) (eC .non):=Zov Ycp fun _ _=>by simp
theorem Zb7 {x j}:PEf X (.Constant (.str x) j pos) (eC (.str x)):=Zov Yb0 fun _ _=>by simp
theorem Zgs {x:Str} {n:String} (hg:Gl X x) (hm:X.mg x=none) (hv:Vq x=some (.type n)) (hn:x ≠ "__name__" := by decide) (hd:(x==("__debug__" : Str))=false:=by decide) (ht:Zxj n=true:=by decide):PEf X (.Name x pos) (eC (.ty n)) :=
 Zov (Zys (v:=.ty n) hg hm hv rfl hn hd) fun _ _=>(Zw7 ht).mpr rfl
nonrec def eOp (g:F2) (fa fb:EF):EF:=fun σ H=>(fa σ H).bind fun p=>(fb σ p.2).bind fun q=>g p.1 q.1 q.2
theorem Zwx {fa fb:EF} {g:F2} {σ:L2.St} {H:Hp} {Q:VK} {K:Xb} (h:rdE K (eOp g fa fb) σ H Q):tOp (rd2 K g) (rdE K fa) (rdE K fb) σ H Q:=by
 obtain⟨ι,σd,Hd,d,Hd',s,hr,e,q⟩:=h
 obtain⟨⟨x,H1⟩,e1,e⟩:=Zo e
 obtain⟨⟨y,H2⟩,e2,e⟩:=Zo e
 exact⟨ι,σd,Hd,x,H1,s,hr,e1,fun v1 H1' ι1 l1 h1 r1=>⟨ι1,σd,H1,y,H2,s.mono l1,h1,e2,fun v2 H2' ι2 l2 h2 r2 =>
  ⟨ι2,x,y,H2,d,Hd',h2,r1.mono l2,r2,e,fun v H' ι' l h r=>q v H' ι' ((l1.trans l2).trans l) h r⟩⟩⟩
theorem Zap {op:Udr} {g:F2} {fa fb:EF} (ho:OpF X (Vz op) g) (ha:PEf X a fa) (hb:PEf X b fb):PEf X (.BinOp a op b pos) (eOp g fa fb) :=
 PEi (pe_op ho ha hb) fun _ _ _ h=>Zwx h
theorem Zd4 {op:CmpOp} {g:F2} {fa fb:EF} (ho:OpF X (Vr op) g) (ha:PEf X a fa) (hb:PEf X b fb) (hm:Uaw op b=false):PEf X (.Compare a [op] [b] pos) (eOp g fa fb) :=
 PEi (Zzo ho ha hb hm) fun _ _ _ h=>Zwx h
theorem Za2 {g:F2} {fa fb:EF} (ho:IxF X g) (ha:PEf X a fa) (hb:PEf X b fb) (hs:Zt1 b):PEf X (.Subscript a b pos) (eOp g fa fb) :=
 PEi (pe_ix ho ha hb hs) fun _ _ _ h=>Zwx h
nonrec def eUn (g:D->HD->Option (D×HD)) (fa:EF):EF:=fun σ H=>(fa σ H).bind fun p=>g p.1 p.2
theorem Zfy {op:UnaryOp} {g:D->HD->Option (D×HD)} {fa:EF} (ho:UnF X (unaryOp op) g) (ha:PEf X a fa):PEf X (.UnaryOp op a pos) (eUn g fa):=by
 refine PEi (pe_un ho ha) fun σ H Q zz=>?_
 obtain⟨ι,σd,Hd,d,Hd',s,hr,e,q⟩:=zz
 obtain⟨⟨x,H1⟩,e1,e⟩:=Zo e
 exact⟨ι,σd,Hd,x,H1,s,hr,e1,fun v1 H1' ι1 l1 h1 r1=>⟨ι1,x,H1,d,Hd',h1,r1,e,fun v H' ι' l h r=>q v H' ι' (l1.trans l) h r⟩⟩
nonrec def blD:D->Option Bool
 | .bl b=>some b
 | _=>none
nonrec def tOf (f:EF):TF:=fun σ H=>(f σ H).bind fun p=>(blD p.1).map fun b=>(b,p.2)
theorem Zlr {K:Xb} {H:Hp} {ι:List Ve} {d:D} {b:Bool} {v:V} (e:blD d=some b) (r:Rep K H ι d v):v=.bl b:=by
 cases d<;>simp[blD] at e
 subst e
 simpa using r
theorem Zaj {op:CmpOp} {g:F2} {fa fb:EF} (ho:OpF X (Vr op) g) (ha:PEf X a fa) (hb:PEf X b fb) (hm:Uaw op b=false):PTf X (.Compare a [op] [b] pos) (tOf (eOp g fa fb)):=by
 refine PTi (Zyi ho ha hb hm) fun σ H Q zz=>?_
 obtain⟨ι,σd,Hd,bb,Hd',s,hr,e,q⟩:=zz
 obtain⟨⟨x,H1⟩,e1,e⟩:=Zo e
 obtain⟨b',eb,e⟩:=Zm e
 cases e
 exact Zwx ⟨ι,σd,Hd,x,H1,s,hr,e1,fun v H' ι' l h r=>⟨bb,Zlr eb r,q H' ι' l h⟩⟩
nonrec def Zun:D->HD->Option Bool
 | .non,_=>some false
 | .bl b,_=>some b
 | .int i,_=>some (i != 0)
 | .tup xs,_=>some (!xs.isEmpty)
 | .fl xs,_=>some (!xs.isEmpty)
 | .str x,_=>if x.length<=sizeLine then some ((x.length:Int) != 0) else none
 | .ref n,H=>match H[n]? with
  | some (.lst xs)=>some (!xs.isEmpty)
  | _=>none
 | _,_=>none
theorem Ziv {α β:Type} {F:α->β->Prop} {xs:List α} {us:List β} (r:Vj F xs us):(!us.isEmpty) = !xs.isEmpty:=by cases r<;>rfl
theorem Zze {K:Xb} {H:Hp} {ι:List Ve} {Hd:HD} {d:D} {k:Bool} {v:V} (hr:HRep K H ι Hd) (r:Rep K H ι d v) (e:Zun d Hd=some k):TruV K v H k:=by
 cases d with
 | non=>simp at r; subst r; simp[Zun] at e; subst e; exact rfl
 | bl b=>simp at r; subst r; simp[Zun] at e; subst e; exact rfl
 | int i=>simp at r; subst r; simp[Zun] at e; subst e; exact rfl
 | ty n=>simp[Zun] at e
 | str x =>
  simp at r; subst r
  simp only[Zun] at e
  split at e
  ·rename_i hl
   cases e
   exact⟨hl,rfl⟩
  ·cases e
 | tup xs =>
  obtain⟨ad,vs,rfl,h,p⟩:=Za5.mp r
  cases (show some (!xs.isEmpty)=some k from e)
  exact .inr (.inl ⟨vs,h,by rw[Ziv p]⟩)
 | fl xs =>
  obtain⟨ad,vs,rfl,h,p⟩:=Zg9.mp r
  cases (show some (!xs.isEmpty)=some k from e)
  exact .inl ⟨vs,h.sq,by rw[Ziv p]⟩
 | ref n =>
  obtain⟨ad,rfl,h⟩:=Zat.mp r
  simp only[Zun] at e
  split at e
  ·rename_i xs ho
   cases e
   obtain⟨vs,h1,p⟩:=hr.obj n ad _ h ho
   exact .inl ⟨vs,SqL.of h1,by rw[Ziv p]⟩
  ·cases e
nonrec def Zgm (f:EF):TF:=fun σ H=>(f σ H).bind fun p=>(Zun p.1 p.2).map fun b=>(b,p.2)
theorem Zgv {fa:EF} (ha:PEf X a fa) (he:∀ whole,isTrue a X.env whole=(do let v<-whole; standAt a.pos; Udb [v] (truthy v))):PTf X a (Zgm fa):=by
 refine PTi (Zvm ha he) fun σ H Q zz=>?_
 obtain⟨ι,σd,Hd,bb,Hd',s,hr,e,q⟩:=zz
 obtain⟨⟨x,H1⟩,e1,e⟩:=Zo e
 obtain⟨b',eb,e⟩:=Zm e
 cases e
 exact⟨ι,σd,Hd,x,H1,s,hr,e1,fun v H' ι' l h r=>⟨bb,Zze h r eb,q H' ι' l h⟩⟩
nonrec def tNo (t:TF):TF:=fun σ H=>(t σ H).map fun p=>(!p.1,p.2)
nonrec def tAn (t u:TF):TF:=fun σ H=>(t σ H).bind fun p=>if p.1=true then u σ p.2 else some (false,p.2)
nonrec def Zjz (t u:TF):TF:=fun σ H=>(t σ H).bind fun p=>if p.1=true then some (true,p.2) else u σ p.2
theorem Zyt {t:TF} (h:PTf X a t):PTf X (.UnaryOp .Not a pos) (tNo t):=by
 refine PTi (Ya2 h) fun σ H Q zz=>?_
 obtain⟨ι,σd,Hd,bb,Hd',s,hr,e,q⟩:=zz
 obtain⟨⟨x,H1⟩,e1,e⟩:=Zm e
 cases e
 exact⟨ι,σd,Hd,x,H1,s,hr,e1,fun H' ι' l h=>q H' ι' l h⟩
theorem Zv0 {t:TF} (h:PTf X a t):PWf X (.BoolOp .And [a] pos) t:=Zy8 h
theorem Yae {t:TF} (h:PTf X a t):PWf X (.BoolOp .Or [a] pos) t:=Yb9 h
theorem Zz7 {t u:TF} (h:PTf X a t) (h2:PWf X (.BoolOp .And (b::es) pos) u):PWf X (.BoolOp .And (a::b::es) pos) (tAn t u):=by
 refine PWi (Yca h h2) fun σ H Q zz=>?_
 obtain⟨ι,σd,Hd,bb,Hd',s,hr,e,q⟩:=zz
 obtain⟨⟨x,H1⟩,e1,e⟩:=Zo e
 refine⟨ι,σd,Hd,x,H1,s,hr,e1,fun H' ι' l h=>?_⟩
 cases x with
 | true =>
  rw[if_pos rfl]
  exact⟨ι',σd,H1,bb,Hd',s.mono l,h,by simpa using e,fun H2 ι2 l2 h2=>q H2 ι2 (l.trans l2) h2⟩
 | false =>
  rw[if_neg (by simp)]
  simp at e
  obtain⟨rfl,rfl⟩:=e
  exact q H' ι' l h
theorem Yc1 {t u:TF} (h:PTf X a t) (h2:PWf X (.BoolOp .Or (b::es) pos) u):PWf X (.BoolOp .Or (a::b::es) pos) (Zjz t u):=by
 refine PWi (pw_or h h2) fun σ H Q zz=>?_
 obtain⟨ι,σd,Hd,bb,Hd',s,hr,e,q⟩:=zz
 obtain⟨⟨x,H1⟩,e1,e⟩:=Zo e
 refine⟨ι,σd,Hd,x,H1,s,hr,e1,fun H' ι' l h=>?_⟩
 cases x with
 | true =>
  rw[if_pos rfl]
  simp at e
  obtain⟨rfl,rfl⟩:=e
  exact q H' ι' l h
 | false =>
  rw[if_neg (by simp)]
  exact⟨ι',σd,H1,bb,Hd',s.mono l,h,by simpa using e,fun H2 ι2 l2 h2=>q H2 ι2 (l.trans l2) h2⟩
theorem PWf.pt {t:TF} (h:PWf X a t):PTf X a t:=h _
nonrec def eNo (f:EF):EF:=fun σ H=>(f σ H).bind fun p=>(blD p.1).map fun b=>(.bl (!b),p.2)
nonrec def eAn (f g:EF):EF:=fun σ H=>(f σ H).bind fun p=>(blD p.1).bind fun b=>if b=true then g σ p.2 else some (.bl false,p.2)
nonrec def eIf (t:TF) (f g:EF):EF:=fun σ H=>(t σ H).bind fun p=>if p.1=true then f σ p.2 else g σ p.2
theorem Zob {f:EF} (h:PEf X a f):PEf X (.UnaryOp .Not a pos) (eNo f):=by
 refine PEi (Ybq h) fun σ H Q zz=>?_
 obtain⟨ι,σd,Hd,d,Hd',s,hr,e,q⟩:=zz
 obtain⟨⟨x,H1⟩,e1,e⟩:=Zo e
 obtain⟨b',eb,e⟩:=Zm e
 cases e
 exact⟨ι,σd,Hd,x,H1,s,hr,e1,fun v H' ι' l h r=>⟨b',Zlr eb r,q _ H' ι' l h (by simp)⟩⟩
theorem Zy3 {op} {f:EF} (h:PEf X a f):PEf X (.BoolOp op [a] pos) f:=Yc8 h
theorem Zz9 {f g:EF} (h:PEf X a f) (h2:PEf X (.BoolOp .And (b::es) pos) g):PEf X (.BoolOp .And (a::b::es) pos) (eAn f g):=by
 refine PEi (Ycz h h2) fun σ H Q zz=>?_
 obtain⟨ι,σd,Hd,d,Hd',s,hr,e,q⟩:=zz
 obtain⟨⟨x,H1⟩,e1,e⟩:=Zo e
 obtain⟨b',eb,e⟩:=Zo e
 refine⟨ι,σd,Hd,x,H1,s,hr,e1,fun v H' ι' l h r=>⟨b',Zlr eb r,?_⟩⟩
 cases b' with
 | true =>
  rw[if_pos rfl]
  exact⟨ι',σd,H1,d,Hd',s.mono l,h,by simpa using e,fun v2 H2 ι2 l2 h2 r2=>q v2 H2 ι2 (l.trans l2) h2 r2⟩
 | false =>
  rw[if_neg (by simp)]
  simp at e
  obtain⟨rfl,rfl⟩:=e
  exact q _ H' ι' l h (by simp)
theorem Zpj {t:TF} {f g:EF} (hc:PTf X c t) (ha:PEf X a f) (hb:PEf X b g):PEf X (.IfExp c a b pos) (eIf t f g):=by
 refine PEi (Zvy hc ha hb) fun σ H Q zz=>?_
 obtain⟨ι,σd,Hd,d,Hd',s,hr,e,q⟩:=zz
 obtain⟨⟨x,H1⟩,e1,e⟩:=Zo e
 refine⟨ι,σd,Hd,x,H1,s,hr,e1,fun H' ι' l h=>?_⟩
 cases x with
 | true =>
  rw[if_pos rfl]
  exact⟨ι',σd,H1,d,Hd',s.mono l,h,by simpa using e,fun v2 H2 ι2 l2 h2 r2=>q v2 H2 ι2 (l.trans l2) h2 r2⟩
 | false =>
  rw[if_neg (by simp)]
  exact⟨ι',σd,H1,d,Hd',s.mono l,h,by simpa using e,fun v2 H2 ι2 l2 h2 r2=>q v2 H2 ι2 (l.trans l2) h2 r2⟩
nonrec def Zaf:AF:=fun _ H=>some ([],H)
nonrec def Zaa (f:EF) (g:AF):AF:=fun σ H=>(f σ H).bind fun p=>(g σ p.2).map fun q=>(p.1::q.1,q.2)
theorem Zo6:PAf X [] Zaf:=by
 refine PAi Ya0 fun σ H Q zz=>?_
 obtain⟨ι,σd,Hd,d,Hd',s,hr,e,q⟩:=zz
 cases e
 exact q [] H ι Le.refl hr .nil
theorem Zvt {f:EF} {g:AF} (ha:PEf X e f) (hr:PAf X es g) (hs:Vf (e::es) X.env=(false,eval e X.env)::Vf es X.env:=by exact Zbr rfl):PAf X (e::es) (Zaa f g):=by
 refine PAi (Zyf ha hr hs) fun σ H Q zz=>?_
 obtain⟨ι,σd,Hd,d,Hd',s,hr,e,q⟩:=zz
 obtain⟨⟨x,H1⟩,e1,e⟩:=Zo e
 obtain⟨⟨y,H2⟩,e2,e⟩:=Zm e
 cases e
 exact⟨ι,σd,Hd,x,H1,s,hr,e1,fun v1 H1' ι1 l1 h1 r1=>⟨ι1,σd,H1,y,H2,s.mono l1,h1,e2,fun vs H2' ι2 l2 h2 r2=>q _ H2' ι2 (l1.trans l2) h2 (.cons (r1.mono l2) r2)⟩⟩
nonrec def mkT (xs:List D) (H:HD):Option (D×HD):=if xs.length<=sizeLine then some (.tup xs,H) else none
nonrec def mkL (xs:List D) (H:HD):Option (D×HD):=if xs.length<=sizeLine then some (.ref H.length,H++[.lst xs]) else none
theorem Zig {xs:List D} {H:HD} {r:D×HD} (h:mkT xs H=some r):xs.length<=sizeLine/\r=(.tup xs,H):=by
 unfold mkT at h
 split at h
 ·rename_i hl; cases h; exact⟨hl,rfl⟩
 ·cases h
theorem Zp6 {xs:List D} {H:HD} {r:D×HD} (h:mkL xs H=some r):xs.length<=sizeLine/\r=(.ref H.length,H++[.lst xs]):=by
 unfold mkL at h
 split at h
 ·rename_i hl; cases h; exact⟨hl,rfl⟩
 ·cases h
theorem Zi9 {K:Xb} {H:Hp} {ι:List Ve} {Hd Hd':HD} {xs:List D} {vs:List V} {d:D} {Q:VK} (hr:HRep K H ι Hd) (r:Vj (Rep K H ι) xs vs) (e:mkT xs Hd=some (d,Hd')) (q:QE K H ι d Hd' Q) :
  vs.length<=sizeLine/\∀ p,H p=none->Q (.ref p) (upd H p (.tup vs)):=by
 obtain⟨hl,e⟩:=Zig e
 cases e
 refine⟨by rw[<- Prd.len r]; exact hl,fun p hp=>?_⟩
 exact q _ _ ι (Le.fresh hp _) (hr.tup hp _) (Za5.mpr ⟨p,vs,rfl,SqT.of Zav,Prd.mono (Le.fresh hp _) r⟩)
theorem Zgi {K:Xb} {H:Hp} {ι:List Ve} {Hd Hd':HD} {xs:List D} {vs:List V} {d:D} {Q:VK} (hr:HRep K H ι Hd) (r:Vj (Rep K H ι) xs vs) (e:mkL xs Hd=some (d,Hd')) (q:QE K H ι d Hd' Q) :
  vs.length<=sizeLine/\∀ p,H p=none->Q (.ref p) (upd H p (.lst vs)):=by
 obtain⟨hl,e⟩:=Zp6 e
 cases e
 refine⟨by rw[<- Prd.len r]; exact hl,fun p hp=>?_⟩
 refine q _ _ (ι++[p]) (Le.fresh1 hp _) (hr.new hp ⟨vs,Zav,Prd.mono (Le.fresh1 hp _) r⟩) (Zat.mpr ⟨p,rfl,?_⟩)
 rw[<- hr.len]; simp
nonrec def Zez (f:AF):EF:=fun σ H=>(f σ H).bind fun p=>mkT p.1 p.2
nonrec def Zd5 (f:AF):EF:=fun σ H=>(f σ H).bind fun p=>mkL p.1 p.2
theorem Zsl {f:AF} {x1} (h:PAf X es f):PEf X (.Tuple es x1 pos) (Zez f):=by
 refine PEi (Yc3 h) fun σ H Q zz=>?_
 obtain⟨ι,σd,Hd,d,Hd',s,hr,e,q⟩:=zz
 obtain⟨⟨x,H1⟩,e1,e⟩:=Zo e
 exact⟨ι,σd,Hd,x,H1,s,hr,e1,fun vs H' ι' l h r=>Zi9 h r e fun v2 H2 ι2 l2 h2 r2=>q v2 H2 ι2 (l.trans l2) h2 r2⟩
theorem Zsg {f:AF} (h:PAf X es f):PEf X (.List es pos) (Zd5 f):=by
 refine PEi (Yb4 h) fun σ H Q zz=>?_
 obtain⟨ι,σd,Hd,d,Hd',s,hr,e,q⟩:=zz
 obtain⟨⟨x,H1⟩,e1,e⟩:=Zo e
 exact⟨ι,σd,Hd,x,H1,s,hr,e1,fun vs H' ι' l h r=>Zgi h r e fun v2 H2 ι2 l2 h2 r2=>q v2 H2 ι2 (l.trans l2) h2 r2⟩
nonrec def eCB (g:FF) (f:AF):EF:=fun σ H=>(f σ H).bind fun p=>g p.1 p.2
theorem Ya5 {f:AF} {g:FF} {σ:L2.St} {H:Hp} {Q:VK} {K:Xb} (h:rdE K (eCB g f) σ H Q):tCB (rdC K g) (rdA K f) σ H Q:=by
 obtain⟨ι,σd,Hd,d,Hd',s,hr,e,q⟩:=h
 obtain⟨⟨x,H1⟩,e1,e⟩:=Zo e
 exact⟨ι,σd,Hd,x,H1,s,hr,e1,fun vs H' ι' l h r=>⟨ι',x,H1,d,Hd',h,r,e,fun v2 H2 ι2 l2 h2 r2=>q v2 H2 ι2 (l.trans l2) h2 r2⟩⟩
theorem Zfb {x:Str} {id:String} {g:FF} {f:AF} {p:Pos} (hc:Zj1 X (.builtin id) g) (hg:Gl X x) (hm:X.mg x=none) (hv:Vq x=some (.builtin id)) (ha:PAf X (e::es) f) (hn:x ≠ "__name__" := by decide) (hdb:(x==("__debug__" : Str))=false:=by decide)
  (he:Vf (e::es) X.env=(false,eval e X.env)::Vf es X.env:=by exact Zbr rfl) (hpl:(Uag pos (Vf es X.env)).any (·.1)=false:=by exact Zct rfl):PEf X (.Call (.Name x p) (e::es) [] pos) (eCB g f) :=
 PEi (Zwq hc hg hm hv ha hn hdb he hpl) fun _ _ _ h=>Ya5 h
theorem Zfk {x:Str} {T:String} {g:FF} {f:AF} {p:Pos} (hc:Zj1 X (.type T) g) (hg:Gl X x) (hm:X.mg x=none) (hv:Vq x=some (.type T)) (ha:PAf X (e::es) f) (hn:x ≠ "__name__" := by decide) (hdb:(x==("__debug__" : Str))=false:=by decide)
  (he:Vf (e::es) X.env=(false,eval e X.env)::Vf es X.env:=by exact Zbr rfl) (hpl:(Uag pos (Vf es X.env)).any (·.1)=false:=by exact Zct rfl):PEf X (.Call (.Name x p) (e::es) [] pos) (eCB g f) :=
 PEi (Zti hc hg hm hv ha hn hdb he hpl) fun _ _ _ h=>Ya5 h
nonrec def spF (K:Xb) (n:Nat) (F:FF):Sp:=fun vs H Q _=>∃ ι ds Hd d Hd',ds.length=n/\HRep K H ι Hd/\Vj (Rep K H ι) ds vs/\F ds Hd=some (d,Hd')/\QE K H ι d Hd' Q
nonrec def Zal (n:Nat) (F:FF) (f:AF):EF:=fun σ H=>(f σ H).bind fun p=>if p.1.length=n then F p.1 p.2 else none
theorem Zwh {k n:Nat} {f:Ve} {fd:Uax} {ps:List Str} {x:Str} {p:Pos} {F:FF} {fa:AF} (G:FnOk X.prog X.w X.K X.mg X.base CX0 k f fd ps (spF X.K n F)) (hr:Room k X.A) (hg:Gl X x) (hm:X.mg x=some (.ref f)) (hk:Wcb X.K (.ref f)=true)
  (hb:Zj2 X.K fd ps []) (ha:PAf X (e::es) fa) (hdb:(x==("__debug__" : Str))=false:=by decide) (he:Vf (e::es) X.env=(false,eval e X.env)::Vf es X.env:=by exact Zbr rfl) (hpl:(Uag pos (Vf es X.env)).any (·.1)=false:=by exact Zct rfl) :
  PEf X (.Call (.Name x p) (e::es) [] pos) (Zal n F fa):=by
 refine PEi (Zzi (E:=E0) G hr hg hm hk hb .nil Ya3 ha hdb he hpl) fun σ H Q zz=>?_
 obtain⟨ι,σd,Hd,d,Hd',s,hr,e,q⟩:=zz
 obtain⟨⟨x,H1⟩,e1,e⟩:=Zo e
 refine⟨ι,σd,Hd,x,H1,s,hr,e1,fun vs H' ι' l h r=>?_⟩
 dsimp only at e
 split at e
 ·rename_i hl
  exact⟨ι',x,H1,d,Hd',hl,h,by simpa using r,e,fun v2 H2 ι2 l2 h2 r2=>q v2 H2 ι2 (l.trans l2) h2 r2⟩
 ·cases e
nonrec def Zol:D->HD->Bool
 | .ref n,H=>match H[n]? with
  | some (.lst _)=>true
  | _=>false
 | _,_=>false
theorem Zvi {K:Xb} {H:Hp} {ι:List Ve} {Hd:HD} {d:D} {v:V} (hr:HRep K H ι Hd) (r:Rep K H ι d v) (e:Zol d Hd=true):tyV K "list" v H:=by
 cases d with
 | ref n =>
  obtain⟨ad,rfl,h⟩:=Zat.mp r
  simp only[Zol] at e
  split at e
  ·rename_i xs ho
   obtain⟨vs,h1,p⟩:=hr.obj n ad _ h ho
   exact .inl ⟨rfl,vs,SqL.of h1⟩
  ·cases e
 | _=>simp[Zol] at e
nonrec def eLM (g:D->List D->HD->Option (D×HD)) (fo:EF) (f:AF):EF:=fun σ H=>(fo σ H).bind fun o=>if Zol o.1 o.2=true then (f σ o.2).bind fun p=>g o.1 p.1 p.2 else none
theorem Zfh {o:Vv} {name:Str} {apos cpos:Pos} {id:String} {g:D->List D->HD->Option (D×HD)} {fo:EF} {f:AF} (slot:Slot "list" name id) (hty:typeOf (.builtin id)=pure (.type "method_descriptor")) (hm:MtF X id g) (ho:PEf X o fo) (ha:PAf X (e::es) f)
  (hbase:Ubw o name X.env (eval o X.env)=eval o X.env:=by rfl)
  (hfew:((Uag cpos (Vf (e::es) X.env)).all (fun x => !x.1)&&(Ubx cpos (Uat [] X.env)).all (fun x=>x.1.isSome)
   && decide ((e::es).length+([]:List Ubm).length+(if ([]:List Ubm).isEmpty then 0 else 1)<30))=true:=by exact Zlj rfl (by decide))
  (hline:(apos.endLine==cpos.line)=true:=by rfl) (hs:Vf (e::es) X.env=(false,eval e X.env)::Vf es X.env:=by exact Zbr rfl) (hplain:(Uag cpos (Vf es X.env)).any (·.1)=false:=by exact Zct rfl) :
  PEf X (.Call (.Attribute o name apos) (e::es) [] cpos) (eLM g fo f):=by
 refine PEi (pe_bm PySem.F.plainAttrs_list slot hty hm ho ha hbase hfew hline hs hplain) fun σ H Q zz=>?_
 obtain⟨ι,σd,Hd,d,Hd',s,hr,e,q⟩:=zz
 obtain⟨⟨x,H1⟩,e1,e⟩:=Zo e
 dsimp only at e
 split at e
 ·rename_i hl
  obtain⟨⟨y,H2⟩,e2,e⟩:=Zo e
  exact⟨ι,σd,Hd,x,H1,s,hr,e1,fun v1 H1' ι1 l1 h1 r1=>⟨Zvi h1 r1 hl,ι1,σd,H1,y,H2,s.mono l1,h1,e2,fun vs H2' ι2 l2 h2 r2 =>
   ⟨ι2,x,y,H2,d,Hd',h2,r1.mono l2,r2,e,fun v H' ι' l h r=>q v H' ι' ((l1.trans l2).trans l) h r⟩⟩⟩
 ·cases e
nonrec def Zah:SF:=fun σ H=>some (.nx,σ,H)
nonrec def Zae (f g:SF):SF:=fun σ H=>(f σ H).bind fun r=>match r.1 with
 | .nx=>g r.2.1 r.2.2
 | _=>some r
theorem Zlw:Zrr X [] Zah:=by
 refine PSsi Zz3 fun E σ H zz=>?_
 obtain⟨ι,σd,Hd,fl,σd',Hd',s,hr,e,q⟩:=zz
 cases e
 exact q σ H ι Le.refl hr s
theorem Zd6 {f g:SF} (h1:PSf X st f) (h2:Zrr X sts g):Zrr X (st::sts) (Zae f g):=by
 refine PSsi (Zv8 h1 h2) fun E σ H zz=>?_
 obtain⟨ι,σd,Hd,fl,σd',Hd',s,hr,e,q⟩:=zz
 obtain⟨⟨f1,σ1,H1⟩,e1,e⟩:=Zo e
 refine⟨ι,σd,Hd,f1,σ1,H1,s,hr,e1,fun σ' H' ι' l h ss=>?_⟩
 cases f1 with
 | nx=>exact⟨ι',σ1,H1,fl,σd',Hd',ss,h,e,fun σ2 H2 ι2 l2 h2 s2=>q σ2 H2 ι2 (l.trans l2) h2 s2⟩
 | bk=>cases e; exact q σ' H' ι' l h ss
 | ct=>cases e; exact q σ' H' ι' l h ss
 | rt d=>cases e; exact q σ' H' ι' l h ss
nonrec def Za6 (f:EF):SF:=fun σ H=>(f σ H).map fun p=>(.rt p.1,σ,p.2)
theorem Zb0 {f:EF} (he:PEf X e f):PSf X (.Return (some e) pos) (Za6 f):=by
 refine PSi (Yb3 he) fun E σ H zz=>?_
 obtain⟨ι,σd,Hd,fl,σd',Hd',s,hr,e,q⟩:=zz
 obtain⟨⟨x,H1⟩,e1,e⟩:=Zm e
 cases e
 exact⟨ι,σd,Hd,x,H1,s,hr,e1,fun v H' ι' l h r=>q σ H' ι' l h (s.mono l) v r⟩
nonrec def Zbq (f:EF):SF:=fun σ H=>(f σ H).map fun p=>(.nx,σ,p.2)
theorem Zvh {f:EF} (he:PEf X e f) (hs:Ucf e none pos.line X.env=pure false:=by rfl):PSf X (.Expr e pos) (Zbq f):=by
 refine PSi (Zyo he hs) fun E σ H zz=>?_
 obtain⟨ι,σd,Hd,fl,σd',Hd',s,hr,e,q⟩:=zz
 obtain⟨⟨x,H1⟩,e1,e⟩:=Zm e
 cases e
 exact⟨ι,σd,Hd,x,H1,s,hr,e1,fun v H' ι' l h r=>q σ H' ι' l h (s.mono l)⟩
nonrec def sIf (t:TF) (f g:SF):SF:=fun σ H=>(t σ H).bind fun p=>if p.1=true then f σ p.2 else g σ p.2
theorem Zx8 {t:TF} {f g:SF} {as bs:List Uae} (hc:PTf X c t) (ha:Zrr X as f) (hb:Zrr X bs g):PSf X (.If c as bs pos) (sIf t f g):=by
 refine PSi (ps_if hc ha hb) fun E σ H zz=>?_
 obtain⟨ι,σd,Hd,fl,σd',Hd',s,hr,e,q⟩:=zz
 obtain⟨⟨x,H1⟩,e1,e⟩:=Zo e
 refine⟨ι,σd,Hd,x,H1,s,hr,e1,fun H' ι' l h=>?_⟩
 cases x with
 | true =>
  rw[if_pos rfl]
  exact⟨ι',σd,H1,fl,σd',Hd',s.mono l,h,by simpa using e,fun σ2 H2 ι2 l2 h2 s2=>q σ2 H2 ι2 (l.trans l2) h2 s2⟩
 | false =>
  rw[if_neg (by simp)]
  exact⟨ι',σd,H1,fl,σd',Hd',s.mono l,h,by simpa using e,fun σ2 H2 ι2 l2 h2 s2=>q σ2 H2 ι2 (l.trans l2) h2 s2⟩
nonrec def Za1 (i:Nat) (f:EF):SF:=fun σ H=>(f σ H).map fun p=>(.nx,σ.set i (some p.1),p.2)
theorem Za7 {i:Nat} {x:Str} {f:EF} {pos':Pos} (hN:X.N.Nodup) (hi:X.N[i]? = some x) (hx:Loc X.env.scope x) (he:PEf X e f) (hs:Ucf e (some (.Name x pos')) pos.line X.env=pure false:=by rfl) (hf:X.fn x=true\/X.env.scope.names.lookup x=some .local:=by first | exact .inl rfl | exact .inr rfl | assumption) :
  PSf X (.Assign [.Name x pos'] e pos) (Za1 i f):=by
 refine PSi (Ybm hN hi hx he hs hf) fun E σ H zz=>?_
 obtain⟨ι,σd,Hd,fl,σd',Hd',s,hr,e,q⟩:=zz
 obtain⟨⟨x,H1⟩,e1,e⟩:=Zm e
 cases e
 exact⟨ι,σd,Hd,x,H1,s,hr,e1,fun v H' ι' l h r=>q _ H' ι' l h ((s.mono l).set r i)⟩
nonrec def gNm (i:Nat):GF:=fun d σ H=>some (σ.set i (some d),H)
theorem Zbx {i:Nat} {x:Str} (hN:X.N.Nodup) (hi:X.N[i]? = some x) (hx:Loc X.env.scope x) (hf:X.fn x=true\/X.env.scope.names.lookup x=some .local:=by first | exact .inl rfl | exact .inr rfl | assumption):PGf X (.Name x pos) (gNm i):=by
 refine PGi (Zt2 hN hi hx hf) fun v σ H Q zz=>?_
 obtain⟨ι,σd,Hd,d,σd',Hd',s,hr,r,e,q⟩:=zz
 cases e
 exact q _ H ι Le.refl hr (s.set r i)
nonrec abbrev Yar:=D->D->D->HD->Option HD
nonrec def rdSet (K:Xb) (g:Yar):TSet:=fun o i v H Q=>∃ ι od id vd Hd Hd',HRep K H ι Hd/\Rep K H ι od o/\Rep K H ι id i/\Rep K H ι vd v/\g od id vd Hd=some Hd'/\∀ H' ι',Le K H ι H' ι'->HRep K H' ι' Hd'->Q H'
def Ya7 (X:Cx) (g:Yar):Prop:=PSet X (rdSet X.K g)
nonrec def gSb (fo fi:EF) (g:Yar):GF:=fun d σ H=>(fo σ H).bind fun o=>(fi σ o.2).bind fun i=>(g o.1 i.1 d i.2).map fun H'=>(σ,H')
theorem Zhs {o i:Vv} {fo fi:EF} {g:Yar} (ho:PEf X o fo) (hi:PEf X i fi) (hs:Ya7 X g)
  (ha:∀ v,Ucv (.Subscript o i pos) X.env v=(do
   let ov<-Udb [v] (eval o X.env)
   let iv<-Udb [v,ov] (eval i X.env)
   standAt pos
   Udb [v,ov,iv] (setItem ov iv v)
   release [v,ov,iv] []):=by intro _; rfl):PGf X (.Subscript o i pos) (gSb fo fi g):=by
 refine PGi (Yc5 ho hi hs ha) fun v σ H Q zz=>?_
 obtain⟨ι,σd,Hd,d,σd',Hd',s,hr,r,e,q⟩:=zz
 obtain⟨⟨x,H1⟩,e1,e⟩:=Zo e
 obtain⟨⟨y,H2⟩,e2,e⟩:=Zo e
 obtain⟨H3,e3,e⟩:=Zm e
 obtain⟨rfl,rfl⟩:=Wba.inj e
 exact⟨ι,σd,Hd,x,H1,s,hr,e1,fun v1 H1' ι1 l1 h1 r1=>⟨ι1,σd,H1,y,H2,s.mono l1,h1,e2,fun v2 H2' ι2 l2 h2 r2 =>
  ⟨ι2,x,y,d,H2,H3,h2,r1.mono l2,r2,r.mono (l1.trans l2),e3,fun H' ι' l h=>q σ H' ι' ((l1.trans l2).trans l) h (s.mono ((l1.trans l2).trans l))⟩⟩⟩
nonrec abbrev GFs:=List D->SD->HD->Option (SD×HD)
nonrec def rdGs (K:Xb) (g:GFs):TGs:=fun vs σ H Q=>∃ ι σd Hd ds σd' Hd',SRep K H ι σ σd/\HRep K H ι Hd/\Vj (Rep K H ι) ds vs/\g ds σd Hd=some (σd',Hd') /\
 ∀ σ' H' ι',Le K H ι H' ι'->HRep K H' ι' Hd'->SRep K H' ι' σ' σd'->Q σ' H'
def PGsf (X:Cx) (ts:List Vv) (g:GFs):Prop:=PGs X ts (rdGs X.K g)
nonrec def gNl:GFs:=fun ds σ H=>match ds with
 | []=>some (σ,H)
 | _=>none
nonrec def gCn (g:GF) (h:GFs):GFs:=fun ds σ H=>match ds with
 | d::r=>(g d σ H).bind fun p=>h r p.1 p.2
 | []=>none
theorem PGsi {ts:List Vv} {t t':TGs} (h:PGs X ts t) (i:∀ v σ H Q,t' v σ H Q->t v σ H Q):PGs X ts t':=fun pins s σ H v u Q I r q=>h pins s σ H v u Q I r (i v σ H Q q)
theorem Zw3:PGsf X [] gNl:=by
 refine PGsi Zzu fun vs σ H Q zz=>?_
 obtain⟨ι,σd,Hd,ds,σd',Hd',s,hr,r,e,q⟩:=zz
 cases r with
 | nil=>cases e; exact⟨rfl,q σ H ι Le.refl hr s⟩
 | cons _ _=>cases e
theorem Zm7 {g:GF} {h:GFs} (h1:PGf X e g) (h2:PGsf X es h) (hs:(Uak (e::es) X.env).map (·.2)=Ucv e X.env::(Uak es X.env).map (·.2):=by rfl):PGsf X (e::es) (gCn g h):=by
 refine PGsi (Zwj h1 h2 hs) fun vs σ H Q zz=>?_
 obtain⟨ι,σd,Hd,ds,σd',Hd',s,hr,r,e,q⟩:=zz
 cases r with
 | nil=>cases e
 | cons r rr =>
  obtain⟨⟨σ1,H1⟩,e1,e⟩:=Zo e
  exact⟨_,_,rfl,ι,σd,Hd,_,σ1,H1,s,hr,r,e1,fun σ' H' ι' l h ss=>⟨ι',σ1,H1,_,σd',Hd',ss,h,Prd.mono l rr,e,fun σ2 H2 ι2 l2 h2 s2=>q σ2 H2 ι2 (l.trans l2) h2 s2⟩⟩
nonrec def gTp (n:Nat) (g:GFs):GF:=fun d σ H=>match d with
 | .tup ds=>if ds.length=n then g ds σ H else none
 | _=>none
theorem Zzl {k n:Nat} {g:GFs} (hc:X.calm=true) (h:PGsf X es g) (hn:(Uak es X.env).length=n:=by rfl) (hst:(Uak es X.env).findIdx? (·.1)=none:=by rfl):PGf X (.Tuple es k pos) (gTp n g):=by
 refine PGi (Ycf hc h hn hst) fun v σ H Q zz=>?_
 obtain⟨ι,σd,Hd,d,σd',Hd',s,hr,r,e,q⟩:=zz
 cases d with
 | tup ds =>
  obtain⟨a,vs,rfl,h1,p⟩:=Za5.mp r
  simp only[gTp] at e
  split at e
  ·rename_i hl
   exact⟨a,vs,rfl,h1,by rw[<- Prd.len p]; exact hl,ι,σd,Hd,ds,σd',Hd',s,hr,p,e,q⟩
  ·cases e
 | _=>simp[gTp] at e
nonrec def Zmx (f:EF) (g:GF):SF:=fun σ H=>(f σ H).bind fun p=>(g p.1 σ p.2).map fun q=>(.nx,q.1,q.2)
theorem Zuj {tg:Vv} {f:EF} {g:GF} (he:PEf X e f) (hg:PGf X tg g) (hs:swapsWithSole [tg] e pos.line X.env=pure false:=by rfl) (hw:swappedStores [tg] e X.env=pure none:=by rfl)
  (h1:(Uak [tg] X.env).map (·.2)=[Ucv tg X.env]:=by rfl):PSf X (.Assign [tg] e pos) (Zmx f g):=by
 refine PSi (Ybp he hg hs hw h1) fun E σ H zz=>?_
 obtain⟨ι,σd,Hd,fl,σd',Hd',s,hr,e,q⟩:=zz
 obtain⟨⟨x,H1⟩,e1,e⟩:=Zo e
 obtain⟨⟨σ2,H2⟩,e2,e⟩:=Zm e
 cases e
 exact⟨ι,σd,Hd,x,H1,s,hr,e1,fun v H' ι' l h r=>⟨ι',σd,H1,x,σ2,H2,s.mono l,h,r,e2,fun σ3 H3 ι3 l3 h3 s3=>q σ3 H3 ι3 (l.trans l3) h3 s3⟩⟩
nonrec abbrev Zhf:=List (Nat×DO)
def Zcd (own:Zhf) (H:HD):Prop:=∀ p∈own,H[p.1]? = some p.2
nonrec abbrev ItF:=SD->HD->Option ((List D×Zhf)×HD)
structure ItRep (K:Xb) (J:It) (xs:List D) (own:Zhf) (H0:Hp) (ι0:List Ve):Prop where
 go:∀ i H ι Hd,Le K H0 ι0 H ι->HRep K H ι Hd->Zcd own Hd->i<xs.length->J.go i H
 yld:∀ i H ι Hd d x H',Le K H0 ι0 H ι->HRep K H ι Hd->Zcd own Hd->xs[i]? = some d->J.yld i H x H'->∃ ι',Le K H ι H' ι'/\HRep K H' ι' Hd/\Rep K H' ι' d x
 stop:∀ i H ι Hd,Le K H0 ι0 H ι->HRep K H ι Hd->Zcd own Hd->xs.length<=i->J.stop i H
nonrec def rdI (K:Xb) (f:ItF):TI:=fun σ H R=>∃ ι σd Hd xs own Hd',SRep K H ι σ σd/\HRep K H ι Hd/\f σd Hd=some ((xs,own),Hd')/\∀ J H' ι',Le K H ι H' ι'->HRep K H' ι' Hd'->ItRep K J xs own H' ι'->R J H'
def PIf (X:Cx) (tg iter:Vv) (f:ItF):Prop:=PI X tg iter (rdI X.K f)
theorem PIi {tg iter:Vv} {t t':TI} (h:PI X tg iter t) (i:∀ σ H R,t' σ H R->t σ H R):PI X tg iter t':=fun pins s σ H R I q=>h pins s σ H R I (i σ H R q)
open Classical in
nonrec def Zhe (own:Zhf) (g:GF) (body:SF):List D->SF
 | [],σ,H=>if Zcd own H then some (.nx,σ,H) else none
 | x::r,σ,H=>if Zcd own H then (g x σ H).bind fun p=>(body p.1 p.2).bind fun q=>match q.1 with
   | .nx=>Zhe own g body r q.2.1 q.2.2
   | .ct=>Zhe own g body r q.2.1 q.2.2
   | .bk=>some (.nx,q.2.1,q.2.2)
   | .rt d=>some (.rt d,q.2.1,q.2.2)
  else none
nonrec def Zd1 (it:ItF) (g:GF) (body:SF):SF:=fun σ H=>(it σ H).bind fun p=>Zhe p.1.2 g body p.1.1 σ p.2
theorem Zzm {tg iter:Vv} {body:List Uae} {f:ItF} {g:GF} {b:SF} (hp:Udv (Vn X.prog X.w) X.A X.env X.xe) (hc:X.calm=true) (hi:PIf X tg iter f) (hg:PGf X tg g) (hb:Zrr X body b)
  (hs:∀ x,Uai iter X.env x=pure x:=by intro _; rfl):PSf X (.For tg iter body [] pos) (Zd1 f g b):=by
 refine PSi (Ycu hp hc hi hg hb hs) fun E σ H zz=>?_
 obtain⟨ι,σd,Hd,fl,σf,Hf,s,hr,e,q⟩:=zz
 obtain⟨⟨⟨xs,own⟩,H1⟩,e1,e⟩:=Zo e
 refine⟨ι,σd,Hd,xs,own,H1,s,hr,e1,fun J H0 ι0 l0 h0 it=>?_⟩
 refine⟨fun i m σ H=>m=xs.length - i/\i<=xs.length/\∃ ι σd Hd,Le X.K H0 ι0 H ι/\SRep X.K H ι σ σd/\HRep X.K H ι Hd/\Zhe own g b (xs.drop i) σd Hd=some (fl,σf,Hf),
  ⟨xs.length,by simp,Wbs _,ι0,σd,H1,Le.refl,s.mono l0,h0,by simpa using e⟩,?_⟩
 rintro i m σ2 H2 ⟨rfl,hi,ι2,σd2,Hd2,l2,s2,h2,e2⟩
 by_cases hlt:i<xs.length
 ·have ed:xs.drop i=xs[i]::xs.drop (i+1):=Wbf hlt
  rw[ed,Zhe] at e2
  split at e2
  ·rename_i ok
   obtain⟨⟨σ3,H3⟩,e3,e2⟩:=Zo e2
   obtain⟨⟨f4,σ4,H4⟩,e4,e2⟩:=Zo e2
   refine .inr ⟨it.go i H2 ι2 Hd2 l2 h2 ok hlt,fun σ' H'=>(xs.length - (i+1)=xs.length - (i+1)/\i+1<=xs.length/\∃ ι σd Hd,Le X.K H0 ι0 H' ι/\SRep X.K H' ι σ' σd/\HRep X.K H' ι Hd/\Zhe own g b (xs.drop (i+1)) σd Hd=some (fl,σf,Hf)),
    fun σ' H' p=>⟨_,by omega,p⟩,fun x H' y=>?_⟩
   obtain⟨ι3,l3,h3,r3⟩:=it.yld i H2 ι2 Hd2 xs[i] x H' l2 h2 ok (by simp[hlt]) y
   refine⟨ι3,σd2,Hd2,xs[i],σ3,H3,s2.mono l3,h3,r3,e3,fun σ5 H5 ι5 l5 h5 s5=>?_⟩
   refine⟨ι5,σ3,H3,f4,σ4,H4,s5,h5,e4,fun σ6 H6 ι6 l6 h6 s6=>?_⟩
   have L:Le X.K H0 ι0 H6 ι6:=((l2.trans l3).trans l5).trans l6
   cases f4 with
   | nx=>exact⟨rfl,hlt,ι6,σ4,H4,L,s6,h6,e2⟩
   | ct=>exact⟨rfl,hlt,ι6,σ4,H4,L,s6,h6,e2⟩
   | bk=>cases e2; exact q σ6 H6 ι6 (l0.trans L) h6 s6
   | rt d=>cases e2; exact q σ6 H6 ι6 (l0.trans L) h6 s6
  ·cases e2
 ·have hi':i=xs.length:=by omega
  rw[Web (by omega),Zhe] at e2
  split at e2
  ·rename_i ok
   have e3:(FD.nx,σd2,Hd2)=(fl,σf,Hf):=Xy.inj e2
   obtain⟨rfl,e4⟩:=Wba.inj e3
   obtain⟨rfl,rfl⟩:=Wba.inj e4
   exact .inl ⟨it.stop i H2 ι2 _ l2 h2 ok (by omega),q σ2 H2 ι2 (l0.trans l2) h2 s2⟩
  ·cases e2
end
nonrec def Zaw (n N:Nat) (b:SF):FF:=fun ds H=>if ds.length=n then (b (ds.map some++Xk (N - ds.length) none) H).bind fun r=>match r.1 with
  | .rt d=>some (d,r.2.2)
  | .nx=>some (.non,r.2.2)
  | _=>none
 else none
section
variable {P:Vh} {w:Vs} {K:Xb} {mg:Str->Option Vb} {base:Vy}
theorem fn_f {x qual:Str} {st:Uae} {f:Ve} {fd:Uax} {N ps:List Str} {k:Nat} {b:SF} (F:Fun K x qual st f fd) (S:FnScope N ps (Zad st))
  (hb:∀ (cdv:Vb) (A:Vw) (outer:List Env) (s:Vd) (H:Hp) (E:XK),Room k (A.deeper (Uch qual (Zad st) s.heap.objs.size f cdv)) ->
   Zrr (Zu1 CX0 P w K mg base N qual (Zad st) f cdv A outer s H E).nox (Zdl st) b):FnOk P w K mg base CX0 (k+1) f fd ps (spF K ps.length (Zaw ps.length N.length b)):=by
 refine F.ok S (fun vs H Q E h=>?_) (fun cdv A outer s H vs Q E hr h=>?_)
 ·obtain⟨ι,ds,Hd,d,Hd',hl,_,r,_⟩:=h
  rw[<- Prd.len r]; exact hl
 ·obtain⟨ι,ds,Hd,d,Hd',hl,hh,r,e,q⟩:=h
  refine⟨_,hb cdv A outer s H E hr,?_⟩
  unfold Zaw at e
  rw[if_pos hl] at e
  obtain⟨⟨fl,σ1,H1⟩,e1,e⟩:=Zo e
  refine⟨ι,_,Hd,fl,σ1,H1,?_,hh,e1,fun σ' H' ι' l h ss=>?_⟩
  ·refine⟨by simp[L2.start,Prd.len r],fun i d0 h0=>?_⟩
   unfold L2.start
   by_cases hi:i<ds.length
   ·rw[Xm (by simpa using hi),Xv] at h0
    cases ed:ds[i]? with
    | none=>rw[ed] at h0; cases h0
    | some d1 =>
     rw[ed] at h0
     cases h0
     obtain⟨v,hv,rv⟩:=Prd.get r ed
     refine⟨v,?_,rv⟩
     rw[Xm (by rw[Xi,<- Prd.len r]; exact hi),Xv,hv]
     rfl
   ·rw[Wak (by simpa using hi),Wdu] at h0
    split at h0<;>cases h0
  ·cases fl with
   | rt d1=>cases e; exact fun v rv=>q v H' ι' l h rv
   | nx=>cases e; exact q .non H' ι' l h (by simp)
   | bk=>cases e
   | ct=>cases e
end
nonrec def Zmq (env:Env):List (Str×Uaz)->List (Str×Ve)->List (Str×Ve)
 | [],cs=>cs
 | (n,k)::r,cs=>Zmq env r (if k=.free then (match env.cells.lookup n with | some a=>(n,a)::cs | none=>cs) else cs)
theorem Zkp (env:Env) (scope:Ucz) (h:∀ y∈scope.names,y.2=.free->(env.cells.lookup y.1).isSome=true):closureFor scope env=pure (Zmq env scope.names []):=by
 have key:∀ (ns:List (Str×Uaz)) (cs:List (Str×Ve)),(∀ y∈ns,y.2=.free->(env.cells.lookup y.1).isSome=true) ->
   (forIn ns cs fun(x:Str×Uaz) cs=>match x with
    | (name,kind)=>if (kind==.free)=true then (do let a<-cellOf env name; pure (Tah ((name,a)::cs))) else pure (Tah cs):Sem (List (Str×Ve)))=pure (Zmq env ns cs):=by
  intro ns
  induction ns with
  | nil=>intro cs _; rfl
  | cons x r ih =>
   intro cs hh
   obtain⟨n,k⟩:=x
   have hr:=ih
   rw[Wei]
   by_cases hk:k=.free
   ·subst hk
    have q:=hh (n,.free) (by simp) rfl
    cases e:env.cells.lookup n with
    | none=>rw[e] at q; cases q
    | some a =>
     have e2:cellOf env n=pure a:=by unfold cellOf; rw[e]
     simp only[beq_self_eq_true,if_true,e2,pure_bind,Zmq,e]
     exact ih _ fun y hy=>hh y (Wag _ hy)
   ·have hb:(k==Ue)=false:=by simpa using hk
    simp only[hb,Wao,if_false,pure_bind,Zmq,hk]
    exact ih _ fun y hy=>hh y (Wag _ hy)
 have e:closureFor scope env=((forIn scope.names [] fun(x:Str×Uaz) cs=>match x with
    | (name,kind)=>if (kind==.free)=true then (do let a<-cellOf env name; pure (Tah ((name,a)::cs))) else pure (Tah cs):Sem (List (Str×Ve))) >>= pure):=rfl
 rw[e,bind_pure]
 exact key scope.names [] h
theorem Zlt (env:Env):∀ (ns:List (Str×Uaz)) (cs:List (Str×Ve)),(∀ x c,cs.lookup x=some c->env.cells.lookup x=some c)->∀ x c,(Zmq env ns cs).lookup x=some c->env.cells.lookup x=some c
 | [],cs,h=>h
 | (n,k)::r,cs,h=>by
  unfold Zmq
  refine Zlt env r _ ?_
  split
  ·cases e:env.cells.lookup n with
   | none=>exact h
   | some a =>
    intro x c q
    dsimp only at q
    rw[Wav] at q
    split at q
    ·rename_i hb
     have hb':x=n:=by simpa using hb
     subst hb'; cases q; exact e
    ·exact h x c q
  ·exact h
theorem Zph (env:Env):∀ (ns:List (Str×Uaz)) (cs:List (Str×Ve)) (x:Str),((cs.lookup x).isSome=true\/((x,Ue)∈ns/\(env.cells.lookup x).isSome=true))->((Zmq env ns cs).lookup x).isSome=true
 | [],cs,x,h=>by
  rcases h with h | ⟨h,_⟩
  ·exact h
  ·simp at h
 | (n,k)::r,cs,x,h=>by
  unfold Zmq
  refine Zph env r _ x ?_
  by_cases hk:k=.free
  ·rw[if_pos hk]
   cases e:env.cells.lookup n with
   | none =>
    rcases h with h | ⟨h,h2⟩
    ·exact .inl h
    ·rcases Xh.mp h with h | h
     ·cases h; rw[e] at h2; cases h2
     ·exact .inr ⟨h,h2⟩
   | some a =>
    dsimp only
    rw[Wav]
    by_cases hx:x=n
    ·subst hx; simp
    ·have:(x==n)=false:=by simpa using hx
     rw[this]
     rcases h with h | ⟨h,h2⟩
     ·exact .inl h
     ·rcases Xh.mp h with h | h
      ·cases h; exact absurd rfl hx
      ·exact .inr ⟨h,h2⟩
  ·rw[if_neg hk]
   rcases h with h | ⟨h,h2⟩
   ·exact .inl h
   ·rcases Xh.mp h with h | h
    ·cases h; exact absurd rfl hk
    ·exact .inr ⟨h,h2⟩
theorem Zjo {env:Env}:∀ {names:List (Str×Uaz)} {x:Str},names.lookup x=some .free ->
  ((names.map fun(n,k)=>if (k==Ue&&env.scope.kind==.function&&env.kindOf n==some .cell) then (n,Tac) else (n,k)).lookup x=some .cell \/
   (names.map fun(n,k)=>if (k==Ue&&env.scope.kind==.function&&env.kindOf n==some .cell) then (n,Tac) else (n,k)).lookup x=some .free)
 | [],_,h=>by simp at h
 | (n,k)::r,x,h=>by
  have ih:=@Zjo env r x
  show Wen x ((if (k==Ue&&env.scope.kind==.function&&env.kindOf n==some .cell)=true then (n,Tac) else (n,k))::_)=_\/Wen x ((if (k==Ue&&env.scope.kind==.function&&env.kindOf n==some .cell)=true then (n,Tac) else (n,k))::_)=_
  cases hx:x==n with
  | true =>
   simp only[Wav,hx] at h
   cases h
   by_cases hc:(Ue==Ue&&env.scope.kind==.function&&env.kindOf n==some .cell)=true
   ·rw[if_pos hc]; simp only[Wav,hx]; simp
   ·rw[if_neg hc]; simp only[Wav,hx]; simp
  | false =>
   simp only[Wav,hx] at h
   by_cases hc:(k==Ue&&env.scope.kind==.function&&env.kindOf n==some .cell)=true
   ·rw[if_pos hc]; simp only[Wav,hx]; exact ih h
   ·rw[if_neg hc]; simp only[Wav,hx]; exact ih h
theorem Zh6 {env:Env}:∀ {names:List (Str×Uaz)} {x:Str},(∀ y∈names,y.2≠.cell) ->
  ((names.map fun(n,k)=>if (k==Ue&&env.scope.kind==.function&&env.kindOf n==some .cell) then (n,Tac) else (n,k)).lookup x=some .cell \/
   (names.map fun(n,k)=>if (k==Ue&&env.scope.kind==.function&&env.kindOf n==some .cell) then (n,Tac) else (n,k)).lookup x=some .free)->(x,Ue)∈names
 | [],_,_,h=>by simp at h
 | (n,k)::r,x,hn,h=>by
  have ih:=@Zh6 env r x (fun y hy=>hn y (Wag _ hy))
  have h:Wen x ((if (k==Ue&&env.scope.kind==.function&&env.kindOf n==some .cell)=true then (n,Tac) else (n,k))::_)=_\/Wen x ((if (k==Ue&&env.scope.kind==.function&&env.kindOf n==some .cell)=true then (n,Tac) else (n,k))::_)=_:=h
  cases hx:x==n with
  | true =>
   have hx':x=n:=by simpa using hx
   subst hx'
   by_cases hc:(k==Ue&&env.scope.kind==.function&&env.kindOf x==some .cell)=true
   ·have hk:k=.free:=by
     rw[Wad,Wad] at hc
     simpa using hc.1.1
    subst hk; simp
   ·rw[if_neg hc] at h
    simp only[Wav,hx] at h
    rcases h with h | h
    ·cases h; exact absurd rfl (hn (x,.cell) (by simp))
    ·cases h; simp
  | false =>
   refine Wag _ (ih ?_)
   by_cases hc:(k==Ue&&env.scope.kind==.function&&env.kindOf n==some .cell)=true
   ·rw[if_pos hc] at h; simp only[Wav,hx] at h; exact h
   ·rw[if_neg hc] at h; simp only[Wav,hx] at h; exact h
nonrec def blk (X:Cx) (scope:Ucz) (N:List Str) (cl:List (Str×Ve)) (C:Ve) (s:Vd) (H:Hp) (fp:List Ve) (pn:List (Ve×Obj)):Cx where
 prog:=X.prog
 w:=X.w
 K:=X.K
 mg:=X.mg
 base:=X.base
 A:=X.A
 N:=N
 s₀:=s
 H₀:=H
 env:=Uds scope cl C X.env
 outer:=X.stack
 stack:=X.stack
 ex:=fp
 fn:=fun _=>false
 calm:=X.calm
 pn:=pn
 xe:=fun _ _=>False
structure BlkOk (X:Cx) (scope:Ucz) (x:Str) (cn:List Str) (ci:List Nat):Prop where
 kind:scope.kind=.function
 nocell:∀ y∈scope.names,y.2≠.cell
 names:∀ y∈scope.names,y.2=.local->scope.names.lookup y.1=some .local
 tgt:scope.names.lookup x=some .local
 free:∀ y∈scope.names,y.2=.free->(X.env.cells.lookup y.1).isSome=true
 nd:(x::cn).Nodup
 len:ci.length=cn.length
 cap:∀ (j:Nat) (y:Str),cn[j]? = some y->∃ i,ci[j]? = some i/\X.N[i]? = some y/\scope.names.lookup y=some .free/\(X.env.kindOf y=some .cell\/X.env.kindOf y=some .free)
nonrec def Zrv (ci:List Nat) (σ:L2.St):L2.St:=ci.map fun i=>(σ[i]?).join
section
variable {X:Cx} {pins:List (Ve×Obj)} {σ:L2.St} {H:Hp} {s:Vd} {scope:Ucz} {x:Str} {cn:List Str} {ci:List Nat} {fp:List Ve}
theorem Zyr {h₁:Vy} {tk:Nat} {o₁:Obj} (I:Inv X pins σ H s) (B:BlkOk X scope x cn ci) (hf:∀ b∈fp,Zo3 X pins H b) (hlt:∀ b∈fp,b<s.heap.objs.size)
  (hns:h₁.Ns s.heap.objs.size (fun _=>none)) (hsb:Xx s.heap.objs.size (s.heap.push o₁) h₁) :
  Inv (blk X scope (x::cn) (Zmq X.env scope.names []) s.heap.objs.size s H fp (X.pn++pins)) [] (none::Zrv ci σ) H { s with heap:=h₁,toks:=tk }:=by
 have old:∀ b o,s.heap.get? b=some o->h₁.get? b=some o:=fun b o e=>hsb.extBut b o (Xq (Xg e)) (Xa _ e)
 have sub:=Zlt X.env scope.names [] (by intro x c h; simp at h)
 have has:∀ y,(y,Ue)∈scope.names->∃ c,(Zmq X.env scope.names []).lookup y=some c:=fun y hy =>
  Wbj.mp (Zph X.env scope.names [] y (.inr ⟨hy,B.free _ hy rfl⟩))
 refine⟨⟨I.ok.mod,B.kind,I.ok.glob,I.ok.blt,Xe _,fun y z c h1 h2=>I.ok.inj y z c (sub y c h1) (sub z c h2),fun y hy=>has y (Zh6 B.nocell hy),fun y c hy=>absurd hy (by show ¬ (false=true); simp),I.ok.hd,I.ok.frames,.inl rfl,
   fun b hb=>⟨Xq (hlt b hb),fun y c e=>(hf b hb).2.2.2.2.1 y c (sub y c e)⟩,I.bs,Wab I.ok.bsz I.sz,fun b o e hb=>?_,fun b hb z=>?_,I.stack,I.stkFree⟩,
  rfl,I.bare,Un.kept old,⟨_,hns,fun i y v h1 h2 h3=>?_⟩,fun y c e=>?_,I.hok.fresh (Xe _),fun y c e=>I.freeC y c (sub y c e),fun p hp=>?_,I.hok.kept old,?_⟩
 ·rcases(hf b hb).2.2.2.1 with z | z
  ·exact I.ok.noex b o e z
  ·exact absurd (Xu (Xg e) (Wab I.ok.bsz z)) (Wbn _)
 ·exact(Xh.mp (I.stkSub b z)).elim (hf b hb).2.1 (hf b hb).2.2.1
 ·cases i with
  | zero=>simp at h2
  | succ j =>
   have h1':cn[j]? = some y:=by simpa [blk] using h1
   have h2':(Zrv ci σ)[j]? = some (some v):=by simpa using h2
   obtain⟨i,e1,e2,e3,e4⟩:=B.cap j y h1'
   have e5:σ[i]? = some (some v):=by
    unfold Zrv at h2'
    rw[Xv,e1] at h2'
    simp at h2'
    cases e:σ[i]? with
    | none=>rw[e] at h2'; cases h2'
    | some o=>rw[e] at h2'; simp at h2'; rw[h2']
   obtain⟨m,hn,hl⟩:=I.loc
   have hv:Vis X.env.scope y:=by
    rcases e4 with e4 | e4
    ·exact .inr (.inl e4)
    ·exact .inr (.inr e4)
   obtain⟨u,r,l⟩:=hl i y v e2 e5 hv
   refine⟨u,r,.inr ⟨Zjo e3,?_⟩⟩
   obtain⟨c,ec⟩:=has y (Ur e3)
   refine⟨c,ec,?_⟩
   rcases l with ⟨l,_⟩ | ⟨_,c',ec',hc⟩
   ·rcases e4 with e4 | e4<;>rw[e4] at l<;>cases l
   ·rw[sub y c ec] at ec'
    cases ec'
    obtain⟨ob,q1,q2⟩:=hc
    exact⟨ob,old _ _ q1,q2⟩
 ·obtain⟨v,ob,q1,q2⟩:=I.cell y c (sub y c e)
  exact⟨v,ob,old _ _ q1,q2⟩
 ·have hp':p∈X.pn++pins:=by simpa [blk] using hp
  obtain⟨q1,q2,q3,q4,q5⟩:=I.pin p hp'
  refine⟨old _ _ q1,q2,Xq (Xg q1),fun z=>?_,q5⟩
  exact(Xh.mp (I.stkSub p.1 z)).elim q3 q4
 ·simp[blk,Zrv,B.len]
def PTs (X:Cx) (ifs:List Vv) (t:TT):Prop :=
 ∀ (pins:List (Ve×Obj)) (s:Vd) (σ:L2.St) (H:Hp) (Q:Bool->Hp->Prop),Inv X pins σ H s->t σ H Q ->
  Vg (Vn X.prog X.w) X.A (forIn ifs true fun c r=>if r=true then do let ok<-isTrue c X.env (eval c X.env); pure (Tah ok) else pure (Tah r)) (TP X pins σ Q) X.xe s
theorem Zyb:PTs X [] (fun _ H Q=>Q true H):=fun _ _ _ H _ I h=>wpAny_tests_nil ⟨H,I,h⟩
theorem Zzn {c:Vv} {t:TT} (h:PT X c t):PTs X [c] t:=fun pins s σ H Q I q=>wpAny_tests_one (h pins s σ H Q I q)
def LcW (J:It) (ci:List Nat) (tt:TT) (te:TE) (σ:L2.St) (Q:VK) (H1:Hp):Prop:=∀ p,H1 p=none->∃ W:Nat->Nat->List V->Hp->Prop,(∃ m,W 0 m [] (upd H1 p (.lst [])))/\∀ i m ys H,W i m ys H ->
 H p=some (.lst ys)/\((J.stop i H/\Q (.ref p) H)\/(J.go i H/\∀ v H',J.yld i H v H'->tt (some v::Zrv ci σ) H' fun b H2 =>
  if b=true then te (some v::Zrv ci σ) H2 fun y H3=>H3 p=some (.lst ys)/\ys.length<sizeLine/\∃ m',m'<m/\W (i+1) m' (ys++[y]) (upd H3 p (.lst (ys++[y])))
  else ∃ m',m'<m/\W (i+1) m' ys H2))
structure Gone (X:Cx) (pins:List (Ve×Obj)) (H:Hp) (s:Vd) (C:Ve):Prop where
 ns:∃ m,s.heap.Ns C m
 free:H C=none
 nl:C≠X.env.locals
 up:X.s₀.heap.objs.size<=C
 nc:∀ x c,X.env.cells.lookup x=some c->c≠C
 np:∀ p∈X.pn++pins,p.1≠C
theorem Gone.go {σ:L2.St} {h':Vy} {C:Ve} (g:Gone X pins H s C) (I:Inv X pins σ H s) (hs:Xx C s.heap h'):Inv X pins σ H { s with heap:=h' } :=
 I.turned (t':=s.toks) (fun b o hb e=>hs.extBut b o hb e) g.free g.nl (.inr g.up) g.nc g.np
theorem Zp8 {elt iter:Vv} {px pos:Pos} {ifs:List Vv} {tt:TT} {te:TE} {Q:VK} {E:Vb->Vd->Prop} {RR:Vb->Ve->Result->Vd->Prop} {it:Ve} {tn:Nat->Vy->Prop} {J:It}
  (I:Inv X pins σ H s) (hc:X.calm=true) (B:BlkOk X scope x cn ci) (T:Turn X.prog X.w X.K (.Name x px) J fp it tn) (st:tn 0 s.heap) (hf:∀ b∈fp,Zo3 X pins H b)
  (ht:∀ cl C s H fp pn,PTs (blk X scope (x::cn) cl C s H fp pn) ifs tt) (he:∀ cl C s H fp pn,PE (blk X scope (x::cn) cl C s H fp pn) elt te)
  (hw:LcW J ci tt te σ Q H) (hRR:∀ p C H' s',Inv X pins σ H' s'->Gone X pins H' s' C->Q (.ref p) H'->RR (.ref p) C (.ok .next) s') :
  Vg (Vn X.prog X.w) X.A (newList []) (fun acc s₃=>Vg (Vn X.prog X.w) X.A (newFunctionEnv scope X.env.globals (Zmq X.env scope.names []) [] X.env.qual none .none (some X.env)) (fun cenv s₄ =>
   Udw (Vn X.prog X.w) X.A (.compStart (.ListComp elt [⟨.Name x px,iter,ifs,0⟩] scope pos) 0 (.ref it) acc { cenv with scope:=relabel scope X.env }) (RR acc cenv.locals) s₄) E s₃) E s:=by
 have hp0:H s.heap.objs.size=none:=I.hok.fresh (Xe _)
 obtain⟨W,⟨m0,w0⟩,turn⟩:=hw _ hp0
 refine Vt (wpAny_newFunctionEnv B.nocell (by intro y hy; simp at hy) (fun h₁ hns₁ hsb₁=>?_) B.kind)
 dsimp only at hns₁ hsb₁ ⊢
 have I3:Inv X pins σ (upd H s.heap.objs.size (.lst [])) { s with heap:=s.heap.push { cls:=.type "list",dict:=none,data:=.seq ([]:List Vb).toArray } } :=
  I.laid (t':=s.toks) (fun b u e=>Xa _ e) (Xe _) ⟨Wbs _,[],0,.nil,Xf _ rfl⟩
 generalize hH3:s.heap.push { cls:=.type "list",dict:=none,data:=.seq ([]:List Vb).toArray }=hp3 at hns₁ hsb₁ I3 ⊢
 have flt:∀ b∈fp,b<s.heap.objs.size:=fun b hb=>by
  obtain⟨o,e,_⟩:=T.obj 0 _ st b hb
  exact Xg e
 have sz3:hp3.objs.size=s.heap.objs.size+1:=by rw[<- hH3,War]
 have f3:∀ b∈fp,Zo3 X pins (upd H s.heap.objs.size (.lst [])) b:=fun b hb=>⟨by rw[Zak (Xq (flt b hb))]; exact(hf b hb).1,(hf b hb).2⟩
 have old3:∀ b o,s.heap.get? b=some o->hp3.get? b=some o:=fun b o e=>by rw[<- hH3]; exact Xa _ e
 have I4:=Zyr (s:={ s with heap:=hp3 }) (tk:=s.toks+([]:List (Str×Vb)).length) I3 B f3 (fun b hb=>by show b<hp3.objs.size; rw[sz3]; exact Wch (flt b hb)) (by simpa using hns₁) hsb₁
 have old4:∀ b o,hp3.get? b=some o->h₁.get? b=some o:=fun b o e=>hsb₁.extBut b o (Xq (Xg e)) (Xa _ e)
 generalize hX':blk X scope (x::cn) (Zmq X.env scope.names []) hp3.objs.size { s with heap:=hp3 } (upd H s.heap.objs.size (.lst [])) fp (X.pn++pins)=X' at I4
 have ePr:X'.prog=X.prog:=by rw[<- hX']; rfl
 have eW:X'.w=X.w:=by rw[<- hX']; rfl
 have eK:X'.K=X.K:=by rw[<- hX']; rfl
 have eA:X'.A=X.A:=by rw[<- hX']; rfl
 have eEnv:X'.env=Uds scope (Zmq X.env scope.names []) hp3.objs.size X.env:=by rw[<- hX']; rfl
 have eEx:X'.ex=fp:=by rw[<- hX']; rfl
 have ht':PTs X' ifs tt:=by rw[<- hX']; exact ht _ _ _ _ _ _
 have he':PE X' elt te:=by rw[<- hX']; exact he _ _ _ _ _ _
 have eXe:X'.xe=fun _ _=>False:=by rw[<- hX']; rfl
 have hg':PG X' (.Name x px) (Zr2 0):=by
  rw[<- hX']
  exact Zt2 (X:=blk X scope (x::cn) _ _ _ _ _ _) B.nd rfl (.inl (Ucq B.tgt)) (.inr (Ucq B.tgt))
 -- the iterator's objects, seen from the block
 have stat:∀ {H':Hp},(∀ b∈fp,H' b=none)->∀ b∈fp,Zo3 X' [] H' b:=fun {H'} hn b hb=>by
  rw[<- hX']
  refine⟨hn b hb,(by show b≠hp3.objs.size; rw[sz3]; exact Xq (Wch (flt b hb))),fun z=>(Xh.mp (I3.stkSub b z)).elim (hf b hb).2.1 (hf b hb).2.2.1,.inl hb,fun y c e=>?_,fun p hp=>?_⟩
  ·exact(hf b hb).2.2.2.2.1 y c (Zlt X.env scope.names [] (by intro x c h; simp at h) y c e)
  ·exact(hf b hb).2.2.2.2.2 p (by simpa [blk] using hp)
 have back:∀ {σ':L2.St} {H':Hp} {s':Vd},Inv X' [] σ' H' s'->Inv X pins σ H' s'/\Gone X pins H' s' hp3.objs.size:=fun {σ' H' s'} I5=>by
  have u:Un (frs X.stack) fp (upd H s.heap.objs.size (.lst [])) H' hp3 s'.heap:=by
   have:=I5.base
   rw[<- hX'] at this
   exact this
  have hok:HOk X.prog X.w H' s'.heap:=by have:=I5.hok; rw[ePr,eW] at this; exact this
  have ho:s'.os=s.os:=by have:=I5.os; rw[<- hX'] at this; exact this
  refine⟨I3.call' ho u hok I5.bare fun b hb=>⟨(hf b hb).2.2.2.1,(hf b hb).2.1,(hf b hb).2.2.2.2.1,(hf b hb).2.2.2.2.2⟩,?_,?_,?_,?_,fun y c e z=>?_,fun p hp z=>?_⟩
  ·obtain⟨m,hn,_⟩:=I5.loc
   rw[eEnv] at hn
   exact⟨m,hn⟩
  ·have:=I5.free
   rw[eEnv] at this
   exact this
  ·exact Wbu (I3.lt)
  ·exact I3.sz
  ·obtain⟨v,q⟩:=I3.cell y c e
   exact absurd (Xu q.lt (by rw[z]; exact Xe _)) (Wbn _)
  ·have:=Xg (I3.pin p hp).1
   rw[z] at this
   exact Wbn _ this
 have loop:Udw (Vn X.prog X.w) X.A (.compLoop (.ListComp elt [⟨.Name x px,iter,ifs,0⟩] scope pos) 0 (.ref it) (.ref s.heap.objs.size) (Uds scope (Zmq X.env scope.names []) hp3.objs.size X.env))
   (RR (.ref s.heap.objs.size) hp3.objs.size) { s with heap:=h₁,toks:=s.toks+([]:List (Str×Vb)).length }:=by
  refine codeAny_loop rfl (fun n s'=>∃ i o ys H',Inv X' [] (o::Zrv ci σ) H' s'/\tn i s'.heap/\(∀ b∈fp,H' b=none)/\W i n ys H') (fun n s' hI=>?_) m0
   ⟨0,none,[],_,I4,T.keep _ _ _ st (fun b hb o e=>old4 b o (old3 b o e)),fun b hb=>(f3 b hb).1,w0⟩
  obtain⟨i,o,ys,H',I5,st5,fr5,w5⟩:=hI
  show Vg _ X.A ((compTurn (.ListComp elt [⟨.Name x px,iter,ifs,0⟩] scope pos) 0 (.ref it) (.ref s.heap.objs.size) (Uds scope (Zmq X.env scope.names []) hp3.objs.size X.env)).onRaise (fun x=>do noteFrame x (Uds scope (Zmq X.env scope.names []) hp3.objs.size X.env); theTreesLotGoes x)) _ _ s'
  refine wpAny_noted ?_
  rw[compTurn_list,<- eEnv,<- ePr,<- eW,<- eA]
  refine Uau (E:=fun _ _=>False) ?_ (fun _ _ q=>q) (fun _ _ z=>z.elim)
  obtain⟨hpl,wt⟩:=turn i n ys H' w5
  refine Va (Ubv (Va ?_))
  rcases wt with ⟨stop,q⟩ | ⟨go,step⟩
  ·have z:=T.done X' ePr eW eK (by rw[<- hX']; exact hc) i [] s' _ H' (fun _ _=>False) I5 (stat fr5) st5 stop
   rw[<- ePr,<- eW] at z
   refine thn z fun r s6 zz=>?_
   obtain⟨hr,I6⟩:=zz
   subst hr
   obtain⟨J1,g1⟩:=back I6
   exact Vc (hRR _ _ H' s6 J1 g1 q)
  ·have z:=T.item X' ePr eW eK (by rw[<- hX']; exact hc) i [] s' _ H' (fun _ _=>False) I5 (stat fr5) st5 go
   rw[<- ePr,<- eW] at z
   refine thn z fun r s6 zz=>?_
   obtain⟨u,hr,h6⟩:=zz
   subst hr
   refine Va (thn h6 fun _ s7 zz=>?_)
   obtain⟨v,H7,I7,r7,y7,st7,fr7⟩:=zz
   have I7':=I7.pinned (stat fr7) (T.obj _ _ st7)
   rw[<- eXe]
   refine Va (thn (hg' _ s7 _ H7 v u _ I7' r7 (show Zr2 0 v (o::Zrv ci σ) H7 (fun σ8 H8=>σ8=some v::Zrv ci σ/\H8=H7) from⟨rfl,rfl⟩)) fun _ s8 zz=>?_)
   obtain⟨σ8,H8,I8,e8,e8'⟩:=zz
   subst e8 e8'
   refine Va (thn (ht' _ s8 _ _ _ I8 (step v _ y7)) fun b s9 zz=>?_)
   obtain⟨H9,I9,q9⟩:=zz
   have tnK:∀ {σ':L2.St} {H':Hp} {s':Vd},Inv X' (([]:List (Ve×Obj))++Zmj fp s7.heap) σ' H' s'->tn (i+1) s'.heap/\∀ b∈fp,H' b=none:=fun {σ' H' s'} I' =>
    ⟨T.keep _ _ _ st7 fun b hb o e=>(I'.pin (b,o) (Wac _ (Wac _ (Zfm hb e)))).1,fun b hb=>by
     obtain⟨ob,e,d⟩:=T.obj _ _ st7 b hb
     exact(I'.pin (b,ob) (Wac _ (Wac _ (Zfm hb e)))).2.1⟩
   cases b with
   | false =>
    obtain⟨m',hm,w9⟩:=q9
    obtain⟨t9,f9⟩:=tnK I9
    exact Vc ⟨rfl,m',hm,i+1,_,ys,H9,I9.unpinned,t9,f9,w9⟩
   | true =>
    refine Va (Va (thn (he' _ s9 _ _ _ I9 q9) fun yv s10 zz=>?_))
    obtain⟨y,H10,I10,r10,hp10,hz10,m',hm,w10⟩:=zz
    refine Va (thn (Zng (X:=X') _ s10 _ H10 (.ref s.heap.objs.size) [y] (.ref s.heap.objs.size) [yv] (fun _ H11=>H11=upd H10 s.heap.objs.size (.lst (ys++[y]))) I10 rfl (.cons r10 .nil) ⟨_,ys,y,rfl,rfl,hp10,hz10,rfl⟩) fun _ s11 zz=>?_)
    obtain⟨_,H11,I11,_,e11⟩:=zz
    subst e11
    obtain⟨t11,f11⟩:=tnK I11
    exact Vc (Vc ⟨rfl,m',hm,i+1,_,ys++[y],_,I11.unpinned,t11,f11,w10⟩)
 exact codeAny_compStart_list loop (T.self _ 0 _ _ _ (T.keep _ _ _ st (fun b hb o e=>old4 b o (old3 b o e))) loop)
nonrec def tLC (wi:TI) (ci:List Nat) (tt:TT) (te:TE):TE:=fun σ H Q=>wi σ H fun J H1=>LcW J ci tt te σ Q H1
theorem pe_lc {elt iter:Vv} {px pos:Pos} {ifs:List Vv} {wi:TI} {tt:TT} {te:TE} (hc:X.calm=true) (B:BlkOk X scope x cn ci) (hi:PI X (.Name x px) iter wi)
  (ht:∀ cl C s H fp pn,PTs (blk X scope (x::cn) cl C s H fp pn) ifs tt) (he:∀ cl C s H fp pn,PE (blk X scope (x::cn) cl C s H fp pn) elt te)
  (hs:∀ x,Uai iter X.env x=pure x:=by rintro _; rfl):PE X (.ListComp elt [⟨.Name x px,iter,ifs,0⟩] scope pos) (tLC wi ci tt te):=by
 intro pins s σ H Q I h
 rw[eval_ListComp]
 refine Ubt (use:=none) rfl hs (Zkp X.env scope B.free) B.kind B.names ?_
 refine thn (hi pins s σ H _ I h) fun v s1 h1=>thn h1 fun itv s2 h2=>?_
 obtain⟨it,fp,tn,J,H2,e,I2,T,st2,f2,w2⟩:=h2
 subst e
 refine Zp8 (RR:=fun acc C=>compPost (Vn X.prog X.w) X.A X.xe none (EP X pins σ Q) acc C) I2 hc B T st2 f2 ht he w2 fun p C H' s' I' g q=>?_
 obtain⟨m,hn⟩:=g.ns
 exact⟨m,hn,fun h' hs'=>⟨.ref p,H',g.go I' hs',rfl,q⟩⟩
theorem Zvl {elt iter:Vv} {px py pos spos:Pos} {ifs:List Vv} {wi:TI} {tt:TT} {te:TE} {i:Nat} {y:Str} (hc:X.calm=true) (B:BlkOk X scope x cn ci) (hi:PI X (.Name x px) iter wi)
  (ht:∀ cl C s H fp pn,PTs (blk X scope (x::cn) cl C s H fp pn) ifs tt) (he:∀ cl C s H fp pn,PE (blk X scope (x::cn) cl C s H fp pn) elt te)
  (hN:X.N.Nodup) (hiN:X.N[i]? = some y) (hy:X.env.scope.names.lookup y=some .local)
  (hsw:Ucf (.ListComp elt [⟨.Name x px,iter,ifs,0⟩] scope pos) (some (.Name y py)) spos.line X.env=pure true:=by rfl)
  (hs:∀ x,Uai iter X.env x=pure x:=by rintro _; rfl):PS X (.Assign [.Name y py] (.ListComp elt [⟨.Name x px,iter,ifs,0⟩] scope pos) spos) (tAsg (tLC wi ci tt te) (Zr2 i)):=by
 intro pins s σ H E I h
 rw[exec_Assign_Name_used _ _ _ _ hsw]
 refine Va (Ubv (Va ?_))
 show Vg _ X.A (do let _<-comprehension (.ListComp elt [⟨.Name x px,iter,ifs,0⟩] scope pos) scope X.env _ (newList []) false (eval iter X.env) (some (Ucv (.Name y py) X.env))) _ _ s
 refine Va (Uau (Ubt (use:=some (Ucv (.Name y py) X.env)) (Q:=fun _ s'=>SP X pins E .next s') rfl hs (Zkp X.env scope B.free) B.kind B.names ?_) (fun _ s' hq=>Vc (Vc hq)) fun _ _ e=>e)
 refine thn (hi pins s σ H _ I h) fun v s1 h1=>thn h1 fun itv s2 h2=>?_
 obtain⟨it,fp,tn,J,H2,e,I2,T,st2,f2,w2⟩:=h2
 subst e
 refine Zp8 (RR:=fun acc C=>compPost (Vn X.prog X.w) X.A X.xe (some (Ucv (.Name y py) X.env)) (fun _ s'=>SP X pins E .next s') acc C) I2 hc B T st2 f2 ht he w2 fun p C H' s' I' g q=>?_
 show Vg _ X.A (Ucv (.Name y py) X.env (.ref p)) _ _ _
 have hk:X.env.kindOf y=some .local:=hy
 refine wpAny_assign_Name (Zne I' hN hiN (.inl hy) (v:=.ref p) (u:=.ref p) rfl (fun s'' I'' ch=>?_) (.inr hy))
 obtain⟨m,hn⟩:=g.ns
 obtain⟨a,hsb,ha⟩:=ch
 have haC:C≠a:=by
  rcases ha with ha | ha
  ·rw[ha]; exact g.nl
  ·exact Uo (g.nc y a ha)
 have hn2:s''.heap.Ns C m:=hn.sameBut hsb haC
 exact⟨m,hn2,fun h' hs'=>⟨_,H',Gone.go ⟨⟨m,hn2⟩,g.free,g.nl,g.up,g.nc,g.np⟩ I'' hs',q⟩⟩
end
nonrec def Zzq (ci:List Nat) (σd:SD):SD:=ci.map fun i=>(σd[i]?).join
open Classical in
nonrec def Zdt (own:Zhf) (c0:SD) (tt:TF) (te:EF):List D->HD->Option (List D×HD)
 | [],H=>if Zcd own H then some ([],H) else none
 | x::r,H=>if Zcd own H then (tt (some x::c0) H).bind fun t=>if t.1=true then (te (some x::c0) t.2).bind fun e=>(Zdt own c0 tt te r e.2).map fun q=>(e.1::q.1,q.2) else Zdt own c0 tt te r t.2 else none
nonrec def eLC (it:ItF) (ci:List Nat) (tt:TF) (te:EF):EF:=fun σ H=>(it σ H).bind fun p=>(Zdt p.1.2 (Zzq ci σ) tt te p.1.1 p.2).bind fun q=>mkL q.1 q.2
nonrec def Zx5:TF:=fun _ H=>some (true,H)
def PTsf (X:Cx) (ifs:List Vv) (t:TF):Prop:=PTs X ifs (rdT X.K t)
section
variable {X:Cx} {scope:Ucz} {x:Str} {cn:List Str} {ci:List Nat}
theorem Zv3:PTsf X [] Zx5:=by
 rintro pins s σ H Q I ⟨ι,σd,Hd,b,Hd',sr,hr,e,q⟩
 cases e
 exact Zyb pins s σ H Q I (q H ι Le.refl hr)
theorem Zwu {c:Vv} {t:TF} (h:PTf X c t):PTsf X [c] t:=Zzn h
theorem SRep.cap {K:Xb} {H:Hp} {ι:List Ve} {σ:L2.St} {σd:SD} {d:D} {v:V} (s:SRep K H ι σ σd) (r:Rep K H ι d v):SRep K H ι (some v::Zrv ci σ) (some d::Zzq ci σd):=by
 refine⟨by simp[Zrv,Zzq],fun i e h=>?_⟩
 cases i with
 | zero=>simp at h; subst h; exact⟨v,rfl,r⟩
 | succ j =>
  simp only[Wcn,Zrv,Zzq,Xv] at h ⊢
  cases ej:ci[j]? with
  | none=>rw[ej] at h; simp at h
  | some i =>
   rw[ej] at h
   simp only[Option.map_some,Xy.injEq] at h ⊢
   cases es:σd[i]? with
   | none=>rw[es] at h; simp at h
   | some o =>
    rw[es] at h
    simp at h
    subst h
    obtain⟨u,h1,h2⟩:=s.var i e es
    exact⟨u,by rw[h1]; rfl,h2⟩
theorem Ych {K:Xb} {it:ItF} {tt:TF} {te:EF} {σ:L2.St} {H:Hp} {Q:VK} (h:rdE K (eLC it ci tt te) σ H Q):tLC (rdI K it) ci (rdT K tt) (rdE K te) σ H Q:=by
 obtain⟨ι,σd,Hd,d,Hd',s,hr,e,q⟩:=h
 obtain⟨⟨⟨xs,own⟩,H1⟩,e1,e⟩:=Zo e
 obtain⟨⟨ds,H2⟩,e2,e⟩:=Zo e
 obtain⟨hz,e⟩:=Zp6 e
 cases e
 dsimp only at e2 hz
 refine⟨ι,σd,Hd,xs,own,H1,s,hr,e1,fun J H0 ι0 l0 h0 itr p hp=>?_⟩
 have s0:=s.mono l0
 refine⟨fun i m ys H=>m=xs.length - i/\i<=xs.length/\H p=some (.lst ys)/\∃ ι Hd done rest,Le K H0 ι0 H ι/\p∉ι/\HRep K H ι Hd/\Vj (Rep K H ι) done ys/\Zdt own (Zzq ci σd) tt te (xs.drop i) Hd=some (rest,H2)/\ds=done++rest,
  ⟨xs.length,by simp,Wbs _,Zav,ι0,H1,[],ds,Le.fresh hp _,h0.fresh hp,h0.tup hp _,.nil,by simpa using e2,by simp⟩,?_⟩
 rintro i m ys H5 ⟨rfl,hi,hpl,ι5,Hd5,done,rest,l5,np5,h5,pd5,e5,eds⟩
 refine⟨hpl,?_⟩
 by_cases hlt:i<xs.length
 ·have ed:xs.drop i=xs[i]::xs.drop (i+1):=Wbf hlt
  rw[ed,Zdt] at e5
  split at e5
  ·rename_i ok
   obtain⟨⟨b6,H6⟩,e6,e5⟩:=Zo e5
   refine .inr ⟨itr.go i H5 ι5 Hd5 l5 h5 ok hlt,fun v H' y=>?_⟩
   obtain⟨ι6,l6,h6,r6⟩:=itr.yld i H5 ι5 Hd5 xs[i] v H' l5 h5 ok (by simp[hlt]) y
   obtain⟨hp6,np6⟩:=l6.frame p _ hpl np5
   have s6:=SRep.cap (ci:=ci) (s0.mono (l5.trans l6)) r6
   refine⟨ι6,_,Hd5,b6,H6,s6,h6,e6,fun H7 ι7 l7 h7=>?_⟩
   obtain⟨hp7,np7⟩:=l7.frame p _ hp6 np6
   have L7:=(l5.trans l6).trans l7
   cases b6 with
   | true =>
    rw[if_pos rfl]
    dsimp only at e5
    rw[if_pos rfl] at e5
    obtain⟨⟨d8,H8⟩,e8,e5⟩:=Zo e5
    obtain⟨⟨r9,H9⟩,e9,e5⟩:=Zm e5
    cases e5
    refine⟨ι7,_,H6,d8,H8,s6.mono l7,h7,e8,fun v8 H8' ι8 l8 h8 rr8=>?_⟩
    obtain⟨hp8,np8⟩:=l8.frame p _ hp7 np7
    have ly:ys.length<sizeLine:=by
     rw[<- Prd.len pd5]
     rw[eds] at hz
     simp at hz
     omega
    have w8:Lw K H8' ι8 (upd H8' p (.lst (ys++[v8]))) ι8:=Lw.side hp8 _
    refine⟨hp8,ly,xs.length - (i+1),by omega,rfl,hlt,Zav,ι8,H8,done++[d8],r9,(L7.trans l8).side hp hp8 _,np8,h8.keep w8 (fun a ha=>Zak fun z=>by subst z; exact np8 ha),?_,e9,by rw[eds]; simp⟩
    exact Prd.append (Prd.monoW w8 (Prd.mono ((l6.trans l7).trans l8) pd5)) (.cons (Rep.monoW w8 rr8) .nil)
   | false =>
    rw[if_neg (by simp)]
    dsimp only at e5
    rw[if_neg (by simp)] at e5
    exact⟨xs.length - (i+1),by omega,rfl,hlt,hp7,ι7,H6,done,rest,L7,np7,h7,Prd.mono (l6.trans l7) pd5,e5,eds⟩
  ·cases e5
 ·rw[Web (by omega),Zdt] at e5
  split at e5
  ·rename_i ok
   have e6:(([]:List D),Hd5)=(rest,H2):=Xy.inj e5
   obtain⟨rfl,rfl⟩:=Wba.inj e6
   refine .inl ⟨itr.stop i H5 ι5 _ l5 h5 ok (by omega),?_⟩
   have w5:Lw K H5 ι5 H5 (ι5++[p]):=⟨fun _ _ z=>z,fun _ _ z=>z,⟨[p],rfl⟩,fun _ _ _ z=>z⟩
   have L:=l0.trans l5
   simp at eds
   subst eds
   refine q _ H5 (ι5++[p]) ⟨L.toLw.trans w5,fun a o ha na=>?_⟩ (h5.add np5 ⟨ys,hpl,Prd.monoW w5 pd5⟩) (Zat.mpr ⟨p,rfl,by rw[<- h5.len]; simp⟩)
   obtain⟨q1,q2⟩:=L.frame a o ha na
   refine⟨q1,?_⟩
   have:a≠p:=fun z=>by
    subst z
    have:=(l0.frame a o ha na).1
    rw[hp] at this; cases this
   simp[q2,this]
  ·cases e5
theorem Zh4 {elt iter:Vv} {px pos:Pos} {ifs:List Vv} {it:ItF} {tt:TF} {te:EF} (hc:X.calm=true) (B:BlkOk X scope x cn ci) (hi:PIf X (.Name x px) iter it)
  (ht:∀ cl C s H fp pn,PTsf (blk X scope (x::cn) cl C s H fp pn) ifs tt) (he:∀ cl C s H fp pn,PEf (blk X scope (x::cn) cl C s H fp pn) elt te)
  (hs:∀ x,Uai iter X.env x=pure x:=by rintro _; rfl):PEf X (.ListComp elt [⟨.Name x px,iter,ifs,0⟩] scope pos) (eLC it ci tt te) :=
 PEi (pe_lc (tt:=rdT X.K tt) (te:=rdE X.K te) hc B hi ht he hs) fun _ _ _ h=>Ych h
theorem Zcy {elt iter:Vv} {px py pos spos:Pos} {ifs:List Vv} {it:ItF} {tt:TF} {te:EF} {i:Nat} {y:Str} (hc:X.calm=true) (B:BlkOk X scope x cn ci) (hi:PIf X (.Name x px) iter it)
  (ht:∀ cl C s H fp pn,PTsf (blk X scope (x::cn) cl C s H fp pn) ifs tt) (he:∀ cl C s H fp pn,PEf (blk X scope (x::cn) cl C s H fp pn) elt te)
  (hN:X.N.Nodup) (hiN:X.N[i]? = some y) (hy:X.env.scope.names.lookup y=some .local)
  (hsw:Ucf (.ListComp elt [⟨.Name x px,iter,ifs,0⟩] scope pos) (some (.Name y py)) spos.line X.env=pure true:=by rfl)
  (hs:∀ x,Uai iter X.env x=pure x:=by rintro _; rfl):PSf X (.Assign [.Name y py] (.ListComp elt [⟨.Name x px,iter,ifs,0⟩] scope pos) spos) (Za1 i (eLC it ci tt te)):=by
 refine PSi (Zvl (tt:=rdT X.K tt) (te:=rdE X.K te) hc B hi ht he hN hiN hy hsw hs) fun E σ H zz=>?_
 obtain⟨ι,σd,Hd,fl,σd',Hd',s,hr,e,q⟩:=zz
 obtain⟨⟨x,H1⟩,e1,e⟩:=Zm e
 cases e
 exact Ych ⟨ι,σd,Hd,x,H1,s,hr,e1,fun v H' ι' l h r=>q _ H' ι' l h ((s.mono l).set r i)⟩
end
theorem Zyq:fillsNumberSlot (.type "tuple") "mul" = pure false :=
 PySem.fillsNumberSlot_seq (id := "tuple.__mul__") (r:=some (.builtin "tuple.__rmul__")) Tam.lookup (by decide +kernel) F.slot_tuple_rmul.lookup (by decide +kernel)
theorem repT:seqRepeat? (.type "tuple")=pure (some (.builtin "tuple.__mul__")):=by
 unfold seqRepeat?
 rw[Tcr (T := "tuple") (name := "__mul__") (id := "tuple.__mul__") Tam.lookup (by decide +kernel),Tcr (T := "tuple") (name := "__rmul__") (id := "tuple.__rmul__") F.slot_tuple_rmul.lookup (by decide +kernel)]
 rfl
section
variable {dd:Option Ve} {sl:Array (Option Vb)}
theorem rmulT (a:Int) (t:Tok) (l:Ve) (items:Array Vb) (n:Nat) :
  Uea (Builtin.«int.__rmul__» ⟨[.int a t,.ref l],[]⟩) (fun _ R s=>s.heap.get? l=some { cls:=.type "tuple",dict:=dd,data:=.seq items n,slots:=sl }/\R (.ok (.ret Value.notImplemented)) s) :=
 .of_wp fun prog w A R s h=>by obtain⟨hp,g,d,tk,os⟩:=s; obtain⟨hl,h⟩:=h; wp_walk; exact⟨_,rfl,h⟩
theorem Ztq (l:Ve) (items:Array Vb) (n:Nat) (x:Int) (u:Tok) (h1:(decide (x < -(2 ^ 63))||decide (x ≥ 2 ^ 63))=false) (h2:(items.isEmpty||x==1)=true) :
  Uea (Builtin.«tuple.__mul__» ⟨[.ref l,.int x u],[]⟩) (fun _ R s=>s.heap.get? l=some { cls:=.type "tuple",dict:=dd,data:=.seq items n,slots:=sl }/\R (.ok (.ret (.ref l))) s) :=
 .of_wp fun prog w A R s h=>by
  obtain⟨hp,g,d,tk,os⟩:=s; obtain⟨hl,h⟩:=h
  have f1:=Tbx
  wp_walk
  simp only[h1,Wao,if_false]
  wp_walk using Vm hl
  simp only[h2,if_true]
  wp_walk using Vm hl
  exact⟨_,rfl,h⟩
theorem Ztm (l:Ve) (items:Array Vb) (n:Nat) (x:Int) (u:Tok) (h1:(decide (x < -(2 ^ 63))||decide (x ≥ 2 ^ 63))=false) (h2:(items.isEmpty||x==1)=false) (h3:(decide (x<=0)||items.isEmpty)=true) :
  Uea (Builtin.«tuple.__mul__» ⟨[.ref l,.int x u],[]⟩) (fun _ R s=>s.heap.get? l=some { cls:=.type "tuple",dict:=dd,data:=.seq items n,slots:=sl }/\R (.ok (.ret (.ref s.heap.objs.size))) { s with heap:=s.heap.push { cls:=Tbq "tuple",data:=Data.seq #[] } }) :=
 .of_wp fun prog w A R s h=>by
  obtain⟨hp,g,d,tk,os⟩:=s; obtain⟨hl,h⟩:=h
  have f1:=Tbx
  wp_walk
  simp only[h1,Wao,if_false]
  wp_walk using Vm hl
  try simp only[h2,h3,Wao,if_false,if_true]
  try (wp_walk using Vm hl)
  exact⟨_,rfl,h⟩
theorem Zvq (l:Ve) (items:Array Vb) (n:Nat) (x:Int) (u:Tok) (h1:(decide (x < -(2 ^ 63))||decide (x ≥ 2 ^ 63))=false) (h2:(items.isEmpty||x==1)=false) (h3:(decide (x<=0)||items.isEmpty)=false) (h4:¬ (items.size*x:Int) > (2 ^ 63 - 1) / 8) (h5:Tbk (items.size*x)=false)
  (hs:(Wdq (fun x1 x2=>x1++x2) #[] (Xk x.toNat items)).size<=sizeLine) :
  Uea (Builtin.«tuple.__mul__» ⟨[.ref l,.int x u],[]⟩) (fun _ R s=>s.heap.get? l=some { cls:=.type "tuple",dict:=dd,data:=.seq items n,slots:=sl }/\R (.ok (.ret (.ref s.heap.objs.size))) { s with heap:=s.heap.push { cls:=Tbq "tuple",data:=Data.seq (Wdq (fun x1 x2=>x1++x2) #[] (Xk x.toNat items)) } }) :=
 .of_wp fun prog w A R s h=>by
  obtain⟨hp,g,d,tk,os⟩:=s; obtain⟨hl,h⟩:=h
  have f1:=Tbx
  wp_walk
  simp only[h1,Wao,if_false]
  wp_walk using Vm hl
  simp only[h2,h3,h5,Wao,if_false,if_neg h4]
  wp_walk using Vm hl
  exact⟨_,rfl,h⟩
end
theorem Zkx (its:List Vb) (m:Nat):Wdq (fun x1 x2=>x1++x2) #[] (Xk m its.toArray)=(Xk m its).flatten.toArray:=by
 have:=Zip its m []
 rw[Wde] at this
 exact this
section
variable {prog:Vh} {w:Vs} {A:Vw} {E:Vb->Vd->Prop} {s:Vd}
theorem Zza {l:Ve} {its:List Vb} {k:Int} {t:Tok} {Q:Vb->Vd->Prop} (p:Uec s.heap l its.toArray) (h1 : -(2 ^ 63)<=k) (h2:k<2 ^ 63) (hz:its.length*k.toNat<=sizeLine)
  (qs:(its=[]\/k=1)->Q (.ref l) s) (qn:its≠[]->k≠1->Q (.ref s.heap.objs.size) { s with heap:=s.heap.push { cls:=.type "tuple",data:=.seq (Xk k.toNat its).flatten.toArray } }) :
  Vg (Vn prog w) A (Vz .Mult (.ref l) (.int k t)) Q E s:=by
 obtain⟨o,e,hc,n,hd⟩:=p
 obtain⟨c,dd,da,sl⟩:=o
 have hc':c=.type "tuple" := hc
 have hd':da=.seq its.toArray n:=hd
 subst hc' hd'
 have b1:(decide (k < -(2 ^ 63))||decide (k ≥ 2 ^ 63))=false:=by simp; omega
 refine Ubp (T := "tuple") (U := "int") (by decide) ⟨_,e,rfl⟩ (fun s'=>Uco s' k t) Zyq F.fills_int_mul Tbe repT F.slot_int_index.lookup
  (Uav Tbe (Uco s k t) F.entry_int_rmul (Tcm _ _) (rmulT k t l its.toArray n) ⟨e,rfl,⟨_,e,rfl⟩,?_⟩)
 by_cases hs:its=[]\/k=1
 ·exact Uav Tam ⟨_,e,rfl⟩ Tbr (Tbm _ _) (Ztq l its.toArray n k t b1 (by rcases hs with h | h<;>simp[h])) ⟨e,qs hs⟩
 ·have hne:its≠[]:=fun h=>hs (.inl h)
  have hk:k≠1:=fun h=>hs (.inr h)
  have b2:(its.toArray.isEmpty||k==1)=false:=by cases its<;>simp_all
  have new:=qn hne hk
  by_cases h0:k<=0
  ·have z:k.toNat=0:=by omega
   rw[z] at new
   exact Uav Tam ⟨_,e,rfl⟩ Tbr (Tbm _ _) (Ztm l its.toArray n k t b1 b2 (by simp[h0])) ⟨e,new⟩
  ·have sz:sizeLine=16777216:=Um
   have hm:(its.toArray.size:Int)*k<=16777216:=by
    have e1:k=(k.toNat:Int):=by omega
    rw[Xj,e1,<- Int.natCast_mul]
    omega
   have b3:(decide (k<=0)||its.toArray.isEmpty)=false:=by cases its<;>simp_all
   refine Uav Tam ⟨_,e,rfl⟩ Tbr (Tbm _ _) (Zvq l its.toArray n k t b1 b2 b3 (by omega) (by simp only[Tbk,decide_eq_false_iff_not,sz]; omega) ?_) ⟨e,?_⟩
   ·rw[Zkx,Xj,Zn0,Weg]; exact hz
   ·rw[Zkx]; exact new
end
variable {X:Cx}
nonrec def rRepT (K:Xb):R2:=fun x y H Q=>∃ l k xs,x=.ref l/\y=.int k/\SqT K H l xs /\ -(2 ^ 63)<=k/\k<2 ^ 63/\xs.length*k.toNat<=sizeLine/\((xs=[]\/k=1)->Q (.ref l) H) /\
 (xs≠[]->k≠1->∀ p,H p=none->Q (.ref p) (upd H p (.tup (Xk k.toNat xs).flatten)))
theorem Zz6:OpR X (Vz .Mult) (rRepT X.K):=by
 intro pins s σ H x y v u Q I rx ry h
 obtain⟨l,k,xs,rfl,rfl,ha,h1,h2,hz,q1,q2⟩:=h
 cases rx
 obtain⟨t,rfl⟩:=ry
 obtain⟨its,r1,p1,_⟩:=I.tuple ha
 refine Zza p1 h1 h2 (by rw[<- r1.length]; exact hz) (fun z=>⟨.ref l,H,I,rfl,q1 (z.imp r1.nil_iff.mp id)⟩) (fun z zk=>?_)
 refine⟨.ref s.heap.objs.size,_,I.laid (t':=s.toks) (o:=.tup (Xk k.toNat xs).flatten) (fun b ob q=>Xa _ q) (Xe _) ?_,rfl,q2 (fun w=>z (r1.nil_iff.mpr w)) zk _ (I.hok.fresh (Xe _))⟩
 exact⟨by rw[Zn0,Weg]; exact hz,_,r1.rep k.toNat,Zk9.new _ _⟩
section
variable {X:Cx}
nonrec def iiD (C:Int->Int->Prop) [∀ i j,Decidable (C i j)] (g:Int->Int->D):F2:=fun x y H=>match x,y with
 | .int i,.int j=>if C i j then some (g i j,H) else none
 | _,_=>none
theorem Zpa {f:Vb->Vb->Sem Vb} {C:Int->Int->Prop} [∀ i j,Decidable (C i j)] {g:Int->Int->Int} (h:OpR X f (rI C fun i j=>.int (g i j))):OpF X f (iiD C fun i j=>.int (g i j)):=by
 refine OpRi h fun x y H Q zz=>?_
 obtain⟨ι,dx,dy,Hd,d,Hd',hr,r1,r2,e,q⟩:=zz
 cases dx<;>cases dy<;>simp only[iiD] at e<;>try cases e
 rename_i i j
 split at e
 ·rename_i hc
  cases e
  simp at r1 r2
  exact⟨i,j,r1,r2,hc,q _ H ι Le.refl hr (by simp)⟩
 ·cases e
def CT (_ _:Int):Prop:=True
instance:∀ i j,Decidable (CT i j):=fun _ _=>instDecidableTrue
theorem Ybw {f:Vb->Vb->Sem Vb} {g:Int->Int->V} (h:OpR X f (rI0 g)):OpR X f (rI CT g):=OpRi h fun x y H Q ⟨i,j,e1,e2,_,q⟩=>⟨i,j,e1,e2,q⟩
theorem Zp2 {f:Vb->Vb->Sem Vb} {g:Int->Int->Bool} (h:OpR X f (rI0 fun i j=>.bl (g i j))):OpF X f (iiD CT fun i j=>.bl (g i j)):=by
 refine OpRi h fun x y H Q zz=>?_
 obtain⟨ι,dx,dy,Hd,d,Hd',hr,r1,r2,e,q⟩:=zz
 cases dx<;>cases dy<;>simp only[iiD] at e<;>try cases e
 rename_i i j
 simp at r1 r2
 exact⟨i,j,r1,r2,q _ H ι Le.refl hr (by simp)⟩
instance (i j:Int):Decidable (Ybc i j):=by unfold Ybc; exact inferInstance
instance (i j:Int):Decidable (Zxl i j):=by unfold Zxl; exact inferInstance
instance (i j:Int):Decidable (Ycj i j):=by unfold Ycj; exact inferInstance
def Yc2 (_ j:Int):Prop:=0<j
instance (i j:Int):Decidable (Yc2 i j):=by unfold Yc2; exact inferInstance
nonrec def Zl1:F2:=iiD CT fun i j=>.int (i - j)
nonrec def Zk0:F2:=iiD Ybc fun i j=>.int (i / j)
nonrec def Zds:F2:=iiD Yc2 fun i j=>.int (i % j)
nonrec def Yan:F2:=iiD Ycj fun i j=>.int (i ^ j.toNat)
nonrec def ltD:F2:=iiD CT fun i j=>.bl (decide (i<j))
nonrec def leD:F2:=iiD CT fun i j=>.bl (decide (i<=j))
nonrec def gtD:F2:=iiD CT fun i j=>.bl (decide (j<i))
nonrec def geD:F2:=iiD CT fun i j=>.bl (decide (j<=i))
theorem Zgj:OpF X (Vz .Sub) Zl1:=Zpa (Ybw Yaz)
theorem Zfq:OpF X (Vz .FloorDiv) Zk0:=Zpa Zy5
theorem Ze2:OpF X (Vz .Mod) Zds:=Zpa (C:=Yc2) Ybx
theorem Zn8:OpF X (Vz .Pow) Yan:=Zpa Ya8
theorem Znd:OpF X (Vr .Lt) ltD:=Zp2 op_lt
theorem Zpx:OpF X (Vr .LtE) leD:=Zp2 op_le
theorem Zg8:OpF X (Vr .Gt) gtD:=Zp2 op_gt
theorem Ybg:OpF X (Vr .GtE) geD:=Zp2 op_ge
nonrec def Zj3:D->HD->Option (D×HD):=fun x H=>match x with
 | .int i=>some (.int (-i),H)
 | _=>none
theorem Zd2:UnF X (unaryOp .USub) Zj3:=by
 rintro pins s σ H x v Q I rx ⟨ι,dx,Hd,d,Hd',hr,r1,e,q⟩
 cases dx<;>simp only[Zj3] at e<;>try cases e
 simp at r1
 exact Yc0 pins s σ H x v Q I rx ⟨_,r1,q _ H ι Le.refl hr (by simp)⟩
theorem Zv5 {prog:Vh} {w:Vs} {A:Vw} {E:Vb->Vd->Prop} {s:Vd} {t b:Ve} {ws:List Vb} {Q:Vb->Vd->Prop} (ht:Uec s.heap t #[]) (hb:Uec s.heap b ws.toArray)
  (h1:Q (.ref b) s):Vg (Vn prog w) A (Vz .Add (.ref t) (.ref b)) Q E s:=by
 obtain⟨⟨cls,dd,data,sl⟩,ho,hc,n,hd⟩:=id ht
 obtain⟨⟨cls2,dd2,data2,sl2⟩,ho2,hc2,n2,hd2⟩:=id hb
 simp only at hc hd hc2 hd2
 subst hc hd hc2 hd2
 exact Udo ⟨_,ho,rfl⟩ ⟨_,ho2,rfl⟩ Uca Udi Tas Tap (Tan _ _)
   (tuple_addW0 t b #[] ws.toArray n n2 dd dd2 sl sl2 (by simp)) ⟨ho,ho2,h1⟩
nonrec def Zbo:F2:=fun x y H=>match x,y with
 | .int i,.int j=>some (.int (i+j),H)
 | .str a,.str b=>if a.length+b.length<=sizeLine then some (.str (a++b),H) else none
 | .tup a,.tup b=>mkT (a++b) H
 | .ref n,.ref m=>match H[n]?,H[m]? with
  | some (.lst a),some (.lst b)=>mkL (a++b) H
  | _,_=>none
 | _,_=>none
theorem Za3:OpF X (Vz .Add) Zbo:=by
 rintro pins s σ H x y v u Q I rx ry ⟨ι,dx,dy,Hd,d,Hd',hr,r1,r2,e,q⟩
 cases dx<;>cases dy<;>simp only[Zbo] at e<;>try cases e
 ·simp at r1 r2
  exact Yda pins s σ H x y v u Q I rx ry ⟨_,_,r1,r2,q _ H ι Le.refl hr (by simp)⟩
 ·simp at r1 r2
  split at e
  ·rename_i hl
   cases e
   exact Zqh pins s σ H x y v u Q I rx ry ⟨_,_,r1,r2,hl,q _ H ι Le.refl hr (by simp)⟩
  ·cases e
 ·rename_i as bs
  obtain⟨a,vs,rfl,h1,p1⟩:=Za5.mp r1
  obtain⟨b,ws,rfl,h2,p2⟩:=Za5.mp r2
  cases p1 with
  | nil =>
   obtain⟨hl,e⟩:=Zig e
   simp only[Wde,Wba.injEq] at e
   obtain⟨rfl,rfl⟩:=e
   cases rx
   cases ry
   obtain⟨its,q1,t1,_⟩:=I.tuple h1
   obtain⟨its2,q2,t2,_⟩:=I.tuple h2
   cases q1
   exact Zv5 t1 t2 ⟨.ref b,H,I,rfl,q _ H ι Le.refl hr r2⟩
  | cons p p' =>
   have P:=Prd.append (.cons p p') p2
   obtain⟨hl,e'⟩:=Zig e
   cases p2 with
   | nil =>
    simp only[Xw,Wba.injEq] at e'
    obtain⟨rfl,rfl⟩:=e'
    refine Zs4 pins s σ H _ _ v u Q I rx ry ⟨a,b,_,_,rfl,rfl,h1,h2,by simp,?_,fun _=>q _ H ι Le.refl hr r1,fun z=>absurd rfl z⟩
    have:=Prd.len P
    simp only[Xw] at this hl
    simp only[Wam]
    omega
   | cons p3 p4 =>
    obtain⟨k1,k2⟩:=Zi9 hr P e q
    refine Zs4 pins s σ H _ _ v u Q I rx ry ⟨a,b,_,_,rfl,rfl,h1,h2,by simp,?_,fun z=>absurd z (by simp),fun _=>k2⟩
    rw[<- Xz]; exact k1
 ·rename_i n m
  obtain⟨a,rfl,ha⟩:=Zat.mp r1
  obtain⟨b,rfl,hb⟩:=Zat.mp r2
  split at e
  ·rename_i as bs e1 e2
   obtain⟨vs,h1,p1⟩:=hr.obj n a _ ha e1
   obtain⟨ws,h2,p2⟩:=hr.obj m b _ hb e2
   obtain⟨k1,k2⟩:=Zgi hr (Prd.append p1 p2) e q
   exact Ybv pins s σ H _ _ v u Q I rx ry ⟨a,b,vs,ws,rfl,rfl,h1,h2,by rw[<- Xz]; exact k1,k2⟩
  ·cases e
nonrec def Zlx:F2:=fun x y H=>match x,y with
 | .int i,.int j=>if Zxl i j then some (.int (i*j),H) else none
 | .ref n,.int k=>match H[n]? with
  | some (.lst a)=>if -(2 ^ 63)<=k/\k<2 ^ 63/\a.length*k.toNat<=sizeLine then mkL (Xk k.toNat a).flatten H else none
  | _=>none
 | .tup a,.int k=>if -(2 ^ 63)<=k/\k<2 ^ 63/\a.length*k.toNat<=sizeLine then mkT (Xk k.toNat a).flatten H else none
 | _,_=>none
theorem Ze4:OpF X (Vz .Mult) Zlx:=by
 rintro pins s σ H x y v u Q I rx ry ⟨ι,dx,dy,Hd,d,Hd',hr,r1,r2,e,q⟩
 cases dx<;>cases dy<;>simp only[Zlx] at e<;>try cases e
 ·simp at r1 r2
  split at e
  ·rename_i hc
   cases e
   exact Ybk pins s σ H x y v u Q I rx ry ⟨_,_,r1,r2,hc,q _ H ι Le.refl hr (by simp)⟩
  ·cases e
 ·rename_i as k
  obtain⟨a,vs,rfl,h1,p1⟩:=Za5.mp r1
  simp at r2
  split at e
  ·rename_i hc
   have hlen:=Prd.len p1
   obtain⟨k1,k2⟩:=Zi9 hr (Prd.rep p1 k.toNat) e q
   refine Zz6 pins s σ H _ _ v u Q I rx ry ⟨a,k,vs,rfl,r2,h1,hc.1,hc.2.1,by rw[<- hlen]; exact hc.2.2,fun z=>?_,fun _ _=>k2⟩
   obtain⟨_,e'⟩:=Zig e
   have hf:(Xk k.toNat as).flatten=as:=by
    rcases z with z | z
    ·have:as=[]:=List.eq_nil_of_length_eq_zero (by rw[hlen,z]; rfl)
     subst this
     simp
    ·subst z
     simp
   rw[hf] at e'
   cases e'
   exact q _ H ι Le.refl hr r1
  ·cases e
 ·rename_i n k
  obtain⟨a,rfl,ha⟩:=Zat.mp r1
  simp at r2
  split at e
  ·rename_i as e1
   obtain⟨vs,h1,p1⟩:=hr.obj n a _ ha e1
   split at e
   ·rename_i hc
    obtain⟨k1,k2⟩:=Zgi hr (Prd.rep p1 _) e q
    exact Yb6 pins s σ H _ _ v u Q I rx ry ⟨a,k,vs,rfl,r2,h1,hc.1,hc.2.1,by rw[<- Prd.len p1]; exact hc.2.2,k2⟩
   ·cases e
  ·cases e
nonrec def Zl4:D->HD->Option (List D)
 | .tup xs,_=>some xs
 | .fl xs,_=>some xs
 | .ref n,H=>match H[n]? with
  | some (.lst xs)=>some xs
  | _=>none
 | _,_=>none
theorem Zl5 {K:Xb} {H:Hp} {ι:List Ve} {Hd:HD} {d:D} {xs:List D} {v:V} (hr:HRep K H ι Hd) (r:Rep K H ι d v) (e:Zl4 d Hd=some xs):∃ p vs,v=.ref p/\(SqL K H p vs\/SqT K H p vs)/\Vj (Rep K H ι) xs vs:=by
 cases d with
 | tup ys=>cases e; obtain⟨a,vs,rfl,h,p⟩:=Za5.mp r; exact⟨a,vs,rfl,.inr h,p⟩
 | fl ys=>cases e; obtain⟨a,vs,rfl,h,p⟩:=Zg9.mp r; exact⟨a,vs,rfl,.inl h.sq,p⟩
 | ref n =>
  obtain⟨a,rfl,ha⟩:=Zat.mp r
  simp only[Zl4] at e
  split at e
  ·rename_i ys e1
   cases e
   obtain⟨vs,h1,p1⟩:=hr.obj n a _ ha e1
   exact⟨a,vs,rfl,.inl (SqL.of h1),p1⟩
  ·cases e
 | _=>simp[Zl4] at e
theorem Zy6 {α β:Type} {F:α->β->Prop} {xs:List α} {us:List β} {i:Int} {x:α} (r:Vj F xs us) (h:atI xs i=some x):∃ u,atI us i=some u/\F x u:=by
 unfold atI at h ⊢
 rw[<- Prd.len r]
 obtain⟨j,h1,h2⟩:=Zo h
 obtain⟨u,h3,h4⟩:=Prd.get r h2
 exact⟨u,by rw[h1]; exact h3,h4⟩
nonrec def ixD:F2:=fun x y H=>match y with
 | .int i=>(Zl4 x H).bind fun xs=>(atI xs i).map fun d=>(d,H)
 | _=>none
theorem ixf:IxF X ixD:=by
 rintro va sl pins s σ H x y v u Q I rx ry ⟨ι,dx,dy,Hd,d,Hd',hr,r1,r2,e,q⟩ hs
 cases dy<;>simp only[ixD] at e<;>try cases e
 rename_i i
 simp at r2
 obtain⟨xs,e1,e⟩:=Zo e
 obtain⟨d',e2,e⟩:=Zm e
 obtain⟨rfl,rfl⟩:=Wba.inj e
 obtain⟨p,vs,rfl,h,P⟩:=Zl5 hr r1 e1
 obtain⟨z,hz,rz⟩:=Zy6 P e2
 rcases h with h | h
 ·exact Zzv va sl pins s σ H _ _ v u Q I rx ry ⟨p,vs,i,z,rfl,r2,h,hz,q _ H ι Le.refl hr rz⟩ hs
 ·exact Ya4 va sl pins s σ H _ _ v u Q I rx ry ⟨p,vs,i,z,rfl,r2,h,hz,q _ H ι Le.refl hr rz⟩ hs
nonrec def Zlm (xs:List D) (lo hi:Option Int):List D:=(xs.drop (HT.sIx xs.length 0 lo)).take (HT.sIx xs.length xs.length hi - HT.sIx xs.length 0 lo)
theorem Zkz {K:Xb} {H:Hp} {ι:List Ve} {xs:List D} {vs:List V} (P:Vj (Rep K H ι) xs vs) (lo hi:Option Int):Vj (Rep K H ι) (Zlm xs lo hi) (Zxo vs lo hi):=by
 unfold Zlm Zxo
 rw[<- Prd.len P]
 exact Prd.take _ (Prd.drop _ P)
nonrec abbrev OF:=SD->HD->Option (Option Int×HD)
nonrec def rdO (K:Xb) (f:OF):TO:=fun σ H Q=>∃ ι σd Hd o Hd',SRep K H ι σ σd/\HRep K H ι Hd/\f σd Hd=some (o,Hd')/\∀ H' ι',Le K H ι H' ι'->HRep K H' ι' Hd'->Q o H'
def POf (X:Cx) (e:Option Vv) (f:OF):Prop:=PO X e (rdO X.K f)
nonrec def Ze0:OF:=fun _ H=>some (none,H)
nonrec def Zdq (f:EF):OF:=fun σ H=>(f σ H).bind fun p=>match p.1 with
 | .int i=>some (some i,p.2)
 | _=>none
theorem Zck:POf X none Ze0:=by
 rintro pins s σ H Q I ⟨ι,σd,Hd,o,Hd',sr,hr,e,q⟩
 cases e
 exact Zym pins s σ H Q I (q H ι Le.refl hr)
theorem Zg1 {e:Vv} {f:EF} (h:PEf X e f):POf X (some e) (Zdq f):=by
 rintro pins s σ H Q I ⟨ι,σd,Hd,o,Hd',sr,hr,e,q⟩
 obtain⟨⟨d,H1⟩,e1,e⟩:=Zo e
 cases d<;>try cases e
 rename_i i
 exact Zyg h pins s σ H Q I ⟨ι,σd,Hd,_,_,sr,hr,e1,fun v H' ι' l h r=>⟨i,by simpa using r,q H' ι' l h⟩⟩
nonrec def slD (x:D) (lo hi:Option Int) (H:HD):Option (D×HD):=match x with
 | .tup xs=>some (.tup (Zlm xs lo hi),H)
 | .fl xs=>some (.ref H.length,H++[.lst (Zlm xs lo hi)])
 | .ref n=>match H[n]? with
  | some (.lst xs)=>some (.ref H.length,H++[.lst (Zlm xs lo hi)])
  | _=>none
 | _=>none
theorem Zgb {prog:Vh} {w:Vs} {A:Vw} {E:Vb->Vd->Prop} {s:Vd} {t sl:Ve} {items:Array Vb} {vl vu:Vb} {lo hi:Option Int} {Q:Vb->Vd->Prop} (ht:Uec s.heap t items) (hs:s.heap.IsSliceOf sl vl vu .none) (pl:Udj vl lo) (pu:Udj vu hi)
  (hw:HT.sIx items.size 0 lo=0/\HT.sIx items.size items.size hi=items.size) (h:Q (.ref t) s):Vg (Vn prog w) A (Udd (.ref t) (.ref sl)) Q E s:=by
 obtain⟨os,hos,hcs,hds⟩:=id hs
 have hTs:s.TypeIs (.ref sl) "slice" := ⟨os,hos,hcs⟩
 obtain⟨ot,hot,hct,nt,hdt⟩:=id ht
 unfold Udd
 try with_reducible refine Vx ?_
 first | refine Va (Vc ?_) | skip
 refine Va (wpAny_sequenceKey ht.typeIs (by decide) ?_)
 refine Va (Vi (name:=Ub "__getitem__") ht.typeIs Ug
  (Vo Ug ht.typeIs entry_tuple_getitem ?_ (args_tuple_getitem _ _)))
 show Vg _ _ (Tbj (.ref t) >>= _) _ _ s
 refine Va (tupleItemsOf_ ht ?_)
 refine Va (Uci hTs ?_)
 rw[if_pos (by decide)]
 refine Va (HT.sliceApplied_gen hs pl pu ?_)
 show Vg _ _ (if (((HT.sIx items.size 0 lo:Nat):Int)==0&&(1:Int)==1&&(HT.sIx items.size items.size hi - HT.sIx items.size 0 lo)==items.size)=true then _ else _) _ _ s
 rw[if_pos (by rw[hw.1,hw.2]; simp)]
 show Vg _ _ (Tbl (Uy t) >>= _) _ _ s
 unfold Tbl
 refine Va (Va (Uci ht.typeIs (Vc ?_)))
 rw[if_pos (by decide)]
 exact Va (Ubf (Vc ⟨_,rfl,Vc h⟩))
theorem Zqc {xs:List D} {lo hi:Option Int} (h:HT.sIx xs.length 0 lo=0/\HT.sIx xs.length xs.length hi=xs.length):Zlm xs lo hi=xs:=by
 unfold Zlm
 rw[h.1,h.2]; simp
nonrec def rdSl (K:Xb):V->Option Int->Option Int->Hp->VK->Prop:=fun x lo hi H Q=>∃ ι dx Hd d Hd',HRep K H ι Hd/\Rep K H ι dx x/\slD dx lo hi Hd=some (d,Hd')/\QE K H ι d Hd' Q
theorem slf:SlR X (rdSl X.K):=by
 rintro pins s σ H x v vl vu lo hi sl Q I rx hs pl pu ⟨ι,dx,Hd,d,Hd',hr,r,e,q⟩
 have lists:∀ {a:Ve} {xs:List D} {vs:List V},x=.ref a->SqL X.K H a vs->Vj (Rep X.K H ι) xs vs->(D.ref Hd.length,Hd++[DO.lst (Zlm xs lo hi)])=(d,Hd') ->
   ∃ T id,typeLookup (.type T) "__getitem__" = pure (some (.builtin id))/\s.TypeIs v T/\Vg (Vn X.prog X.w) X.A (Udd v (.ref sl)) (EP X pins σ Q) X.xe s:=fun {a xs vs} ex h P e=>by
  obtain⟨_,_,_,hz⟩:=I.list h
  have hz2:(Zlm xs lo hi).length<=sizeLine:=by
   rw[Prd.len (Zkz P lo hi)]
   exact Wab (Zev vs lo hi) hz
  obtain⟨k1,k2⟩:=Zgi hr (Zkz P lo hi) (show mkL (Zlm xs lo hi) Hd=some (d,Hd') by unfold mkL; rw[if_pos hz2,e]) q
  exact Zzh pins s σ H x v vl vu lo hi sl Q I rx hs pl pu ⟨a,vs,ex,h,k2⟩
 cases dx with
 | tup xs =>
  obtain⟨a,vs,rfl,h,P⟩:=Za5.mp r
  simp only[slD,Xy.injEq] at e
  obtain⟨its,rv,ht,hz⟩:=I.tuple h
  have hlen:its.toArray.size=vs.length:=by rw[Xj]; exact rv.length.symm
  by_cases hw:HT.sIx vs.length 0 lo=0/\HT.sIx vs.length vs.length hi=vs.length
  ·cases rx
   refine⟨"tuple",_,Ug.lookup,ht.typeIs,Zgb ht hs pl pu (by rw[hlen]; exact hw) ?_⟩
   rw[Zqc (by rw[Prd.len P]; exact hw)] at e
   obtain⟨rfl,rfl⟩:=Wba.inj e
   exact⟨.ref a,H,I,rfl,q _ H ι Le.refl hr r⟩
  ·have hz2:(Zlm xs lo hi).length<=sizeLine:=by
    rw[Prd.len (Zkz P lo hi)]
    exact Wab (Zev vs lo hi) hz
   obtain⟨k1,k2⟩:=Zi9 hr (Zkz P lo hi) (show mkT (Zlm xs lo hi) Hd=some (d,Hd') by unfold mkT; rw[if_pos hz2,e]) q
   exact Yco pins s σ H _ v vl vu lo hi sl Q I rx hs pl pu ⟨a,vs,rfl,h,hw,k2⟩
 | fl xs =>
  obtain⟨a,vs,rfl,h,P⟩:=Zg9.mp r
  simp only[slD,Xy.injEq] at e
  exact lists rfl h.sq P e
 | ref n =>
  obtain⟨a,rfl,ha⟩:=Zat.mp r
  simp only[slD] at e
  split at e
  ·rename_i xs e1
   obtain⟨vs,h1,P⟩:=hr.obj n a _ ha e1
   exact lists rfl (SqL.of h1) P (Xy.inj e)
  ·cases e
 | _=>simp[slD] at e
nonrec def eSl (fe:EF) (fl fh:OF):EF:=fun σ H=>(fe σ H).bind fun p=>(fl σ p.2).bind fun l=>(fh σ l.2).bind fun h=>slD p.1 l.1 h.1 h.2
theorem Zbd {e:Vv} {lo hi:Option Vv} {fe:EF} {fl fh:OF} {pos p2:Pos} (he:PEf X e fe) (hl:POf X lo fl) (hu:POf X hi fh):PEf X (.Subscript e (.Slice lo hi none p2) pos) (eSl fe fl fh):=by
 refine PEi (Zu9 slf he hl hu) fun σ H Q zz=>?_
 obtain⟨ι,σd,Hd,d,Hd',s,hr,e,q⟩:=zz
 obtain⟨⟨x,H1⟩,e1,e⟩:=Zo e
 obtain⟨⟨y,H2⟩,e2,e⟩:=Zo e
 obtain⟨⟨z,H3⟩,e3,e⟩:=Zo e
 exact⟨ι,σd,Hd,x,H1,s,hr,e1,fun v1 H1' ι1 l1 h1 r1=>⟨ι1,σd,H1,y,H2,s.mono l1,h1,e2,fun H2' ι2 l2 h2=>⟨ι2,σd,H2,z,H3,s.mono (l1.trans l2),h2,e3,fun H3' ι3 l3 h3 =>
  ⟨ι3,x,H3,d,Hd',h3,r1.mono (l2.trans l3),e,fun v H' ι' l h r=>q v H' ι' (((l1.trans l2).trans l3).trans l) h r⟩⟩⟩⟩
nonrec def Zbn:FF:=fun ds H=>match ds with
 | [.str x]=>if x.length<=sizeLine then some (.int x.length,H) else none
 | [d]=>(Zl4 d H).map fun xs=>(.int xs.length,H)
 | _=>none
theorem Zl0 {K:Xb} {H:Hp} {ι:List Ve} {d:D} {vs:List V} (P:Vj (Rep K H ι) [d] vs):∃ v,vs=[v]/\Rep K H ι d v:=by
 cases P with
 | cons r t=>cases t; exact⟨_,rfl,r⟩
theorem Yam {K:Xb} {H:Hp} {ι:List Ve} {d d':D} {vs:List V} (P:Vj (Rep K H ι) [d,d'] vs):∃ v v',vs=[v,v']/\Rep K H ι d v/\Rep K H ι d' v':=by
 cases P with
 | cons r t=>obtain⟨v,rfl,r'⟩:=Zl0 t; exact⟨_,_,rfl,r,r'⟩
theorem Zte:Zj1 X (.builtin "len") Zbn:=by
 rintro pins s σ H xs us Q I rv ⟨ι,ds,Hd,d,Hd',hr,P,e,q⟩
 unfold Zbn at e
 split at e
 ·obtain⟨v,rfl,r⟩:=Zl0 P
  simp at r
  subst r
  split at e
  ·rename_i hl
   cases e
   exact Zm5 pins s σ H _ us Q I rv ⟨_,rfl,hl,q _ H ι Le.refl hr (by simp)⟩
  ·cases e
 ·obtain⟨v,rfl,r⟩:=Zl0 P
  obtain⟨ys,e1,e⟩:=Zm e
  obtain⟨rfl,rfl⟩:=Wba.inj e
  obtain⟨p,vs,rfl,h,P2⟩:=Zl5 hr r e1
  exact Zni pins s σ H _ us Q I rv ⟨p,vs,rfl,h,q _ H ι Le.refl hr (by simp[Prd.len P2])⟩
 ·cases e
nonrec def Zq1:FF:=fun ds H=>match ds with
 | [.int i]=>some (.int (if i<0 then -i else i),H)
 | _=>none
theorem Zsx:Zj1 X (.builtin "abs") Zq1:=by
 rintro pins s σ H xs us Q I rv ⟨ι,ds,Hd,d,Hd',hr,P,e,q⟩
 unfold Zq1 at e
 split at e
 ·obtain⟨v,rfl,r⟩:=Zl0 P
  simp at r
  subst r
  cases e
  exact Zvd pins s σ H _ us Q I rv ⟨_,rfl,q _ H ι Le.refl hr (by simp)⟩
 ·cases e
nonrec def Yct:FF:=fun ds H=>match ds with
 | [.int i]=>some (.int i,H)
 | [.bl b]=>some (.int (if b then 1 else 0),H)
 | _=>none
theorem Zl6:Zj1 X (.type "int") Yct:=by
 rintro pins s σ H xs us Q I rv ⟨ι,ds,Hd,d,Hd',hr,P,e,q⟩
 unfold Yct at e
 split at e
 ·obtain⟨v,rfl,r⟩:=Zl0 P
  simp at r
  subst r
  cases e
  exact Znx pins s σ H _ us Q I rv (.inl ⟨_,rfl,q _ H ι Le.refl hr (by simp)⟩)
 ·obtain⟨v,rfl,r⟩:=Zl0 P
  simp at r
  subst r
  cases e
  exact Znx pins s σ H _ us Q I rv (.inr ⟨_,rfl,q _ H ι Le.refl hr (by simp)⟩)
 ·cases e
nonrec def Znr:FF:=fun ds H=>match ds with
 | [d]=>(Zl4 d H).map fun xs=>(.ref H.length,H++[.lst xs])
 | _=>none
theorem Zp9 {pins:List (Ve×Obj)} {s:Vd} {σ:L2.St} {H:Hp} {p:Ve} {vs:List V} (I:Inv X pins σ H s) (h:SqL X.K H p vs\/SqT X.K H p vs):vs.length<=sizeLine:=by
 rcases h with h | h
 ·obtain⟨_,_,_,z⟩:=I.list h; exact z
 ·obtain⟨_,_,_,z⟩:=I.tuple h; exact z
theorem Zq9:Zj1 X (.type "list") Znr:=by
 rintro pins s σ H xs us Q I rv ⟨ι,ds,Hd,d,Hd',hr,P,e,q⟩
 unfold Znr at e
 split at e
 ·obtain⟨v,rfl,r⟩:=Zl0 P
  obtain⟨ys,e1,e⟩:=Zm e
  obtain⟨p,vs,rfl,h,P2⟩:=Zl5 hr r e1
  obtain⟨k1,k2⟩:=Zgi hr P2 (show mkL ys Hd=some (d,Hd') by unfold mkL; rw[if_pos (by rw[Prd.len P2]; exact Zp9 I h),e]) q
  exact Znk pins s σ H _ us Q I rv ⟨p,vs,rfl,h,k2⟩
 ·cases e
nonrec def Zdz:FF:=fun ds H=>match ds with
 | [d]=>(Zl4 d H).map fun xs=>(.tup xs,H)
 | _=>none
theorem Zn1:Zj1 X (.type "tuple") Zdz:=by
 rintro pins s σ H xs us Q I rv ⟨ι,ds,Hd,d,Hd',hr,P,e,q⟩
 unfold Zdz at e
 split at e
 ·rename_i d0
  obtain⟨v,rfl,r⟩:=Zl0 P
  obtain⟨ys,e1,e⟩:=Zm e
  obtain⟨p,vs,rfl,h,P2⟩:=Zl5 hr r e1
  obtain⟨k1,k2⟩:=Zi9 hr P2 (show mkT ys Hd=some (d,Hd') by unfold mkT; rw[if_pos (by rw[Prd.len P2]; exact Zp9 I h),e]) q
  refine Zlk pins s σ H _ us Q I rv ⟨p,vs,rfl,?_⟩
  rcases h with h | h
  ·exact .inl ⟨h,k2⟩
  ·obtain⟨rfl,rfl⟩:=Wba.inj e
   exact .inr ⟨h,q _ H ι Le.refl hr (Za5.mpr ⟨p,vs,rfl,h,P2⟩)⟩
 ·cases e
nonrec def Zax (x:D) (ds:List D) (H:HD):Option (D×HD):=match x,ds with
 | .ref n,[d]=>match H[n]? with
  | some (.lst xs)=>if xs.length<sizeLine then some (.non,H.set n (.lst (xs++[d]))) else none
  | _=>none
 | _,_=>none
theorem Zca:MtF X "list.append" Zax:=by
 rintro pins s σ H x xs v us Q I rx rv ⟨ι,dx,ds,Hd,d,Hd',hr,r1,P,e,q⟩
 unfold Zax at e
 split at e
 ·rename_i n d1
  obtain⟨a,rfl,ha⟩:=Zat.mp r1
  obtain⟨z,rfl,rz⟩:=Zl0 P
  split at e
  ·rename_i ys e1
   split at e
   ·rename_i hl
    cases e
    obtain⟨vs,h1,P1⟩:=hr.obj n a _ ha e1
    refine Zng pins s σ H _ _ v us Q I rx rv ⟨a,vs,z,rfl,rfl,h1,by rw[<- Prd.len P1]; exact hl,?_⟩
    have L:Le X.K H ι (upd H a (.lst (vs++[z]))) ι:=Le.upd (Wae ha) h1 trivial _
    exact q _ _ ι L (hr.upd ha h1 trivial ⟨_,Zav,Prd.append (Prd.mono L P1) (.cons (rz.mono L) .nil)⟩) (by simp)
   ·cases e
  ·cases e
 ·cases e
end
mutual
noncomputable def toP (H:HD):Nat->D->Option Vu
 | _,.non=>some .none
 | _,.bl b=>some (.bool b)
 | _,.int i=>some (.int i)
 | _,.str x=>some (.str x)
 | _,.ty _=>none
 | n,.tup xs=>(Zrs H n xs).map .tuple
 | n,.fl xs=>(Zrs H n xs).map .list
 | 0,.ref _=>none
 | n+1,.ref k=>match H[k]? with
  | some (.lst xs)=>(Zrs H n xs).map .list
  | _=>none
termination_by n d=>(n,sizeOf d)
noncomputable def Zrs (H:HD):Nat->List D->Option (List Vu)
 | _,[]=>some []
 | n,d::ds=>(toP H n d).bind fun x=>(Zrs H n ds).map fun r=>x::r
termination_by n ds=>(n,sizeOf ds)
end
section
variable {X:Cx} {pins:List (Ve×Obj)} {σ:L2.St} {H:Hp} {s:Vd} {ι:List Ve} {Hd:HD}
mutual
theorem Zcj (I:Inv X pins σ H s) (hr:HRep X.K H ι Hd):∀ (n:Nat) (d:D) {x:Vu} {v:V} {u:Vb},toP Hd n d=some x->Rep X.K H ι d v->Zch v u->∃ as,Reads s.heap u x as
 | n,.non,x,v,u,e,r,q=>by
  rw[toP] at e; cases e; simp at r; subst r; cases q; exact⟨_,.none⟩
 | n,.bl b,x,v,u,e,r,q=>by
  rw[toP] at e; cases e; simp at r; subst r; cases q; exact⟨_,.bool b⟩
 | n,.int i,x,v,u,e,r,q=>by
  rw[toP] at e; cases e; simp at r; subst r; obtain⟨t,rfl⟩:=q; exact⟨_,.int i t⟩
 | n,.str z,x,v,u,e,r,q=>by
  rw[toP] at e; cases e; simp at r; subst r; obtain⟨t,rfl⟩:=q; exact⟨_,.str z t⟩
 | n,.ty _,x,v,u,e,r,q=>by rw[toP] at e; cases e
 | n,.tup xs,x,v,u,e,r,q=>by
  rw[toP] at e
  obtain⟨ps,e1,rfl⟩:=Zm e
  obtain⟨a,vs,rfl,h,P⟩:=Za5.mp r
  cases q
  obtain⟨its,rv,⟨o,ho,hc,m,hd⟩,hz⟩:=I.tuple h
  obtain⟨as,ra⟩:=Zet I hr n xs e1 P rv
  exact⟨_,.tuple ho hc hd (by simpa using ra)⟩
 | n,.fl xs,x,v,u,e,r,q=>by
  rw[toP] at e
  obtain⟨ps,e1,rfl⟩:=Zm e
  obtain⟨a,vs,rfl,h,P⟩:=Zg9.mp r
  cases q
  obtain⟨its,rv,pl,hz⟩:=I.list h.sq
  obtain⟨o,ho,hc,m,hd⟩:=pl.isList
  obtain⟨as,ra⟩:=Zet I hr n xs e1 P rv
  exact⟨_,.list ho hc hd (by simpa using ra)⟩
 | 0,.ref k,x,v,u,e,r,q=>by rw[toP] at e; cases e
 | n+1,.ref k,x,v,u,e,r,q=>by
  rw[toP] at e
  split at e
  ·rename_i xs eo
   obtain⟨ps,e1,rfl⟩:=Zm e
   obtain⟨a,rfl,ha⟩:=Zat.mp r
   cases q
   obtain⟨vs,h1,P⟩:=hr.obj k a _ ha eo
   obtain⟨its,rv,pl,hz⟩:=I.list (SqL.of h1)
   obtain⟨o,ho,hc,m,hd⟩:=pl.isList
   obtain⟨as,ra⟩:=Zet I hr n xs e1 P rv
   exact⟨_,.list ho hc hd (by simpa using ra)⟩
  ·cases e
termination_by n d=>(n,sizeOf d)
theorem Zet (I:Inv X pins σ H s) (hr:HRep X.K H ι Hd):∀ (n:Nat) (ds:List D) {xs:List Vu} {vs:List V} {us:List Vb},Zrs Hd n ds=some xs->Vj (Rep X.K H ι) ds vs->Zb6 vs us->∃ as,ReadsAll s.heap us xs as
 | n,[],xs,vs,us,e,P,q=>by
  rw[Zrs] at e; cases e; cases P; cases q; exact⟨_,.nil⟩
 | n,d::ds,xs,vs,us,e,P,q=>by
  rw[Zrs] at e
  obtain⟨x,e1,e⟩:=Zo e
  obtain⟨r,e2,rfl⟩:=Zm e
  cases P with
  | cons p P =>
   cases q with
   | cons q Q =>
    obtain⟨as,ra⟩:=Zcj I hr n d e1 p q
    obtain⟨bs,rb⟩:=Zet I hr n ds e2 P Q
    exact⟨_,.cons ra rb⟩
termination_by n ds=>(n,sizeOf ds)
end
nonrec def okP (x:Vu):Bool:=x.canLay0&&decide (x.depth<=30)
nonrec def dat (d:D) (H:HD):Option Vu:=(toP H 30 d).bind fun x=>if okP x=true then some x else none
theorem Zcs {d:D} {x:Vu} (e:dat d Hd=some x):toP Hd 30 d=some x/\x.canLay0=true/\x.depth<=30:=by
 obtain⟨y,e1,e⟩:=Zo e
 split at e
 ·rename_i h
  cases e
  rw[okP,Wad,decide_eq_true_eq] at h
  exact⟨e1,h⟩
 ·cases e
nonrec def Zqd:D->D->Option (Str×Str)
 | .str a,.str b=>some (a,b)
 | _,_=>none
theorem Zmk {x y:D} {a b:Str} (h:Zqd x y=some (a,b)):x=.str a/\y=.str b:=by
 unfold Zqd at h
 split at h
 ·cases h; exact⟨rfl,rfl⟩
 ·cases h
nonrec def eqD:F2:=fun x y H=>match Zqd x y with
 | some (a,b)=>some (.bl (a==b),H)
 | none=>(dat x H).bind fun p=>(dat y H).map fun q=>(.bl (Ua p q),H)
nonrec def neD:F2:=fun x y H=>match Zqd x y with
 | some (a,b)=>some (.bl (a != b),H)
 | none=>(dat x H).bind fun p=>(dat y H).map fun q=>(.bl (!Ua p q),H)
theorem Zdb (hu:X.A.units+64<cLine):OpF X (Vr .Eq) eqD:=by
 rintro pins s σ H x y v u Q I rx ry ⟨ι,dx,dy,Hd,d,Hd',hr,r1,r2,e,q⟩
 unfold eqD at e
 split at e
 ·rename_i a b es
  obtain⟨rfl,rfl⟩:=Zmk es
  obtain⟨rfl,rfl⟩:=Wba.inj (Xy.inj e)
  simp at r1 r2
  subst r1 r2
  obtain⟨t1,rfl⟩:=rx
  obtain⟨t2,rfl⟩:=ry
  exact PyProof.Rows.eq_str ⟨.bl _,H,I,rfl,q _ H ι Le.refl hr (by simp)⟩
 ·obtain⟨p,e1,e⟩:=Zo e
  obtain⟨p2,e2,e⟩:=Zm e
  obtain⟨rfl,rfl⟩:=Wba.inj e
  obtain⟨t1,c1,d1⟩:=Zcs e1
  obtain⟨t2,c2,d2⟩:=Zcs e2
  obtain⟨as,ra⟩:=Zcj I hr _ _ t1 r1 rx
  obtain⟨bs,rb⟩:=Zcj I hr _ _ t2 r2 ry
  exact SeqAt.compareEq_reads ra rb c1 c2 (by omega) ⟨.bl _,H,I,rfl,q _ H ι Le.refl hr (by simp)⟩
theorem Zdf (hu:X.A.units+64<cLine):OpF X (Vr .NotEq) neD:=by
 rintro pins s σ H x y v u Q I rx ry ⟨ι,dx,dy,Hd,d,Hd',hr,r1,r2,e,q⟩
 unfold neD at e
 split at e
 ·rename_i a b es
  obtain⟨rfl,rfl⟩:=Zmk es
  obtain⟨rfl,rfl⟩:=Wba.inj (Xy.inj e)
  simp at r1 r2
  subst r1 r2
  obtain⟨t1,rfl⟩:=rx
  obtain⟨t2,rfl⟩:=ry
  exact PyProof.Rows.ne_str ⟨.bl _,H,I,rfl,q _ H ι Le.refl hr (by simp)⟩
 ·obtain⟨p,e1,e⟩:=Zo e
  obtain⟨p2,e2,e⟩:=Zm e
  obtain⟨rfl,rfl⟩:=Wba.inj e
  obtain⟨t1,c1,d1⟩:=Zcs e1
  obtain⟨t2,c2,d2⟩:=Zcs e2
  obtain⟨as,ra⟩:=Zcj I hr _ _ t1 r1 rx
  obtain⟨bs,rb⟩:=Zcj I hr _ _ t2 r2 ry
  exact SeqAt.compareNe_reads ra rb c1 c2 (by omega) ⟨.bl _,H,I,rfl,q _ H ι Le.refl hr (by simp)⟩
nonrec def Zjw:Vu->Option (List Vu)
 | .list xs=>some xs
 | .tuple xs=>some xs
 | _=>none
nonrec def inD:F2:=fun x y H=>(dat x H).bind fun p=>(dat y H).bind fun q=>(Zjw q).map fun xs=>(.bl (xs.any fun z=>Ua z p),H)
nonrec def niD:F2:=fun x y H=>(dat x H).bind fun p=>(dat y H).bind fun q=>(Zjw q).map fun xs=>(.bl (!xs.any fun z=>Ua z p),H)
theorem Zp0 (hu:X.A.units+64<cLine):OpF X (Vr .In) inD:=by
 rintro pins s σ H x y v u Q I rx ry ⟨ι,dx,dy,Hd,d,Hd',hr,r1,r2,e,q⟩
 obtain⟨p,e1,e⟩:=Zo e
 obtain⟨p2,e2,e⟩:=Zo e
 obtain⟨xs,e3,e⟩:=Zm e
 obtain⟨rfl,rfl⟩:=Wba.inj e
 obtain⟨t1,c1,d1⟩:=Zcs e1
 obtain⟨t2,c2,d2⟩:=Zcs e2
 obtain⟨as,ra⟩:=Zcj I hr _ _ t1 r1 rx
 obtain⟨bs,rb⟩:=Zcj I hr _ _ t2 r2 ry
 have fin:EP X pins σ Q (.bool (xs.any fun z=>Ua z p)) s:=⟨.bl _,H,I,rfl,q _ H ι Le.refl hr (by simp)⟩
 cases p2 with
 | list ys =>
  cases e3
  simp only[Tal] at c2
  simp only[Tau] at d2
  exact SeqAt.in_list_reads rb ra c2 c1 (by omega) fin
 | tuple ys =>
  cases e3
  simp only[Tal] at c2
  simp only[Tau] at d2
  exact SeqAt.in_tuple_reads rb ra c2 c1 (by omega) fin
 | _=>simp[Zjw] at e3
theorem Zis (hu:X.A.units+64<cLine):OpF X (Vr .NotIn) niD:=by
 rintro pins s σ H x y v u Q I rx ry ⟨ι,dx,dy,Hd,d,Hd',hr,r1,r2,e,q⟩
 obtain⟨p,e1,e⟩:=Zo e
 obtain⟨p2,e2,e⟩:=Zo e
 obtain⟨xs,e3,e⟩:=Zm e
 obtain⟨rfl,rfl⟩:=Wba.inj e
 obtain⟨t1,c1,d1⟩:=Zcs e1
 obtain⟨t2,c2,d2⟩:=Zcs e2
 obtain⟨as,ra⟩:=Zcj I hr _ _ t1 r1 rx
 obtain⟨bs,rb⟩:=Zcj I hr _ _ t2 r2 ry
 have fin:EP X pins σ Q (.bool (!xs.any fun z=>Ua z p)) s:=⟨.bl _,H,I,rfl,q _ H ι Le.refl hr (by simp)⟩
 cases p2 with
 | list ys =>
  cases e3
  simp only[Tal] at c2
  simp only[Tau] at d2
  exact SeqAt.notIn_list_reads rb ra c2 c1 (by omega) fin
 | tuple ys =>
  cases e3
  simp only[Tal] at c2
  simp only[Tau] at d2
  exact SeqAt.notIn_tuple_reads rb ra c2 c1 (by omega) fin
 | _=>simp[Zjw] at e3
nonrec def isB (x y:D):Option Bool:=match y,x with
 | .non,.non=>some true
 | .non,_=>some false
 | .bl b,.bl c=>some (c==b)
 | .bl _,_=>some false
 | _,_=>none
nonrec def isD:F2:=fun x y H=>(isB x y).map fun b=>(.bl b,H)
nonrec def Zx2:F2:=fun x y H=>(isB x y).map fun b=>(.bl (!b),H)
theorem Zoy {M:Model} {A:Vw} {E:Vb->Vd->Prop} {s:Vd} {Q:Vb->Vd->Prop} {v:Vb} {b:Bool} (hv:∀ i,v≠.builtin i) (h:Q (.bool (v==.bool b)) s):Vg M A (Vr .Is v (.bool b)) Q E s:=by
 cases v<;>first | exact Vc h | exact absurd rfl (hv _)
theorem Zjy {M:Model} {A:Vw} {E:Vb->Vd->Prop} {s:Vd} {Q:Vb->Vd->Prop} {v:Vb} {b:Bool} (hv:∀ i,v≠.builtin i) (h:Q (.bool (!(v==.bool b))) s):Vg M A (Vr .IsNot v (.bool b)) Q E s:=by
 cases v<;>first | exact Vc h | exact absurd rfl (hv _)
theorem Zt7 {x:V} {v:Vb} (r:Zch x v):∀ i,v≠.builtin i:=by
 intro i
 cases x with
 | non=>cases r; intro z; cases z
 | bl _=>cases r; intro z; cases z
 | int _=>obtain⟨t,rfl⟩:=r; intro z; cases z
 | str _=>obtain⟨t,rfl⟩:=r; intro z; cases z
 | byt _=>obtain⟨t,rfl⟩:=r; intro z; cases z
 | flt _=>obtain⟨t,rfl⟩:=r; intro z; cases z
 | ref _=>cases r; intro z; cases z
 | ty _=>cases r; intro z; cases z
theorem Zx4 {dx dy:D} {x y:V} {v u:Vb} {b:Bool} (r1:Rep X.K H ι dx x) (r2:Rep X.K H ι dy y) (rx:Zch x v) (ry:Zch y u) (e:isB dx dy=some b) :
  (u=.none/\b=(v==.none))\/∃ c,u=.bool c/\b=(v==.bool c):=by
 cases dy with
 | non =>
  simp at r2; subst r2; cases ry
  refine .inl ⟨rfl,?_⟩
  cases dx with
  | non=>simp at r1; subst r1; cases rx; cases e; rfl
  | bl _=>simp at r1; subst r1; cases rx; cases e; rfl
  | int _=>simp at r1; subst r1; obtain⟨t,rfl⟩:=rx; cases e; rfl
  | str _=>simp at r1; subst r1; obtain⟨t,rfl⟩:=rx; cases e; rfl
  | ty _=>rw[Rep] at r1; rcases r1 with ⟨_,rfl⟩ | ⟨_,a,rfl,_⟩<;>(cases rx; cases e; rfl)
  | tup _=>obtain⟨a,_,rfl,_⟩:=Za5.mp r1; cases rx; cases e; rfl
  | fl _=>obtain⟨a,_,rfl,_⟩:=Zg9.mp r1; cases rx; cases e; rfl
  | ref _=>obtain⟨a,rfl,_⟩:=Zat.mp r1; cases rx; cases e; rfl
 | bl c =>
  simp at r2; subst r2; cases ry
  refine .inr ⟨c,rfl,?_⟩
  cases dx with
  | non=>simp at r1; subst r1; cases rx; cases e; rfl
  | bl z=>simp at r1; subst r1; cases rx; cases e; cases z<;>cases c<;>rfl
  | int _=>simp at r1; subst r1; obtain⟨t,rfl⟩:=rx; cases e; rfl
  | str _=>simp at r1; subst r1; obtain⟨t,rfl⟩:=rx; cases e; rfl
  | ty _=>rw[Rep] at r1; rcases r1 with ⟨_,rfl⟩ | ⟨_,a,rfl,_⟩<;>(cases rx; cases e; rfl)
  | tup _=>obtain⟨a,_,rfl,_⟩:=Za5.mp r1; cases rx; cases e; rfl
  | fl _=>obtain⟨a,_,rfl,_⟩:=Zg9.mp r1; cases rx; cases e; rfl
  | ref _=>obtain⟨a,rfl,_⟩:=Zat.mp r1; cases rx; cases e; rfl
 | _=>simp[isB] at e
theorem Zya:OpF X (Vr .Is) isD:=by
 rintro pins s σ H x y v u Q I rx ry ⟨ι,dx,dy,Hd,d,Hd',hr,r1,r2,e,q⟩
 obtain⟨b,e1,e⟩:=Zm e
 obtain⟨rfl,rfl⟩:=Wba.inj e
 have fin:EP X pins σ Q (.bool b) s:=⟨.bl _,H,I,rfl,q _ H ι Le.refl hr (by simp)⟩
 rcases Zx4 r1 r2 rx ry e1 with ⟨rfl,rfl⟩ | ⟨c,rfl,rfl⟩
 ·exact is_none_gen fin
 ·exact Zoy (Zt7 rx) fin
theorem Zok:OpF X (Vr .IsNot) Zx2:=by
 rintro pins s σ H x y v u Q I rx ry ⟨ι,dx,dy,Hd,d,Hd',hr,r1,r2,e,q⟩
 obtain⟨b,e1,e⟩:=Zm e
 obtain⟨rfl,rfl⟩:=Wba.inj e
 have fin:EP X pins σ Q (.bool (!b)) s:=⟨.bl _,H,I,rfl,q _ H ι Le.refl hr (by simp)⟩
 rcases Zx4 r1 r2 rx ry e1 with ⟨rfl,rfl⟩ | ⟨c,rfl,rfl⟩
 ·exact isnot_none_gen fin
 ·exact Zjy (Zt7 rx) fin
nonrec def tyD:D->HD->Option String
 | .non,_=>some "NoneType"
 | .bl _,_=>some "bool"
 | .int _,_=>some "int"
 | .str _,_=>some "str"
 | .tup _,_=>some "tuple"
 | .fl _,_=>some "list"
 | .ref n,H=>match H[n]? with
  | some (.lst _)=>some "list"
  | _=>none
 | _,_=>none
nonrec def Ztw (c:String):Bool:=c == "bool" || c == "int" || c == "str" || c == "tuple" || c == "list"
nonrec def Zp1:FF:=fun ds H=>match ds with
 | [x,.ty c]=>if Ztw c=true then (tyD x H).map fun t=>(.bl (t==c||(t == "bool" && c == "int")),H) else none
 | _=>none
nonrec def tys:List String:=["NoneType","bool","int","str","tuple","list"]
theorem Zzx {d:D} {t:String} (e:tyD d Hd=some t):t∈tys:=by
 cases d with
 | ref n =>
  simp only[tyD] at e
  split at e
  ·cases e; decide
  ·cases e
 | ty n=>simp[tyD] at e
 | _=>simp only[tyD] at e; cases e; decide
theorem Ybi (K:Xb) {t c:String} (ht:t∈tys) (hc:Ztw c=true):PySem.W.kitOne K (.type t) (.type c)=some (t==c||(t == "bool" && c == "int")):=by
 have hc':c = "bool" \/ c = "int" \/ c = "str" \/ c = "tuple" \/ c = "list" := by
  simpa [Ztw,or_assoc] using hc
 simp only[tys,Xh,Wda,or_false] at ht
 rcases ht with rfl | rfl | rfl | rfl | rfl | rfl<;>rcases hc' with rfl | rfl | rfl | rfl | rfl<;>first | rfl | (with_unfolding_all rfl) | kernel_rfl
theorem Zuc:Zj1 X (.builtin "isinstance") Zp1:=by
 rintro pins s σ H xs us Q I rv ⟨ι,ds,Hd,d,Hd',hr,P,e,q⟩
 unfold Zp1 at e
 split at e
 ·rename_i x c
  split at e
  ·rename_i hc
   obtain⟨t,e1,e⟩:=Zm e
   obtain⟨rfl,rfl⟩:=Wba.inj e
   obtain⟨v,v',rfl,r,r'⟩:=Yam P
   obtain⟨u,u',rfl,ru,ru'⟩:=Zz4 rv
   have r':=(Zw7 (show Zxj c=true from hc)).mp r'
   subst r'
   cases ru'
   have k:=Ybi X.K (Zzx e1) hc
   have fin:∀ tk,EP X pins σ Q (.bool (t==c||(t == "bool" && c == "int"))) { s with toks:=tk }:=fun tk=>⟨.bl _,H,I.tok tk,rfl,q _ H ι Le.refl hr (by simp)⟩
   cases x with
   | non=>simp at r; subst r; cases ru; cases e1; exact Wbx PySem.W.kitx_none I.kIn Tbd k (fun z=>nomatch z) fin
   | bl y=>simp at r; subst r; cases ru; cases e1; exact Wbx PySem.W.kitx_bool I.kIn Tbd k (fun z=>nomatch z) fin
   | int y=>simp at r; subst r; obtain⟨t,rfl⟩:=ru; cases e1; exact Wbx PySem.W.kitx_int I.kIn Tbd k (fun z=>nomatch z) fin
   | str y=>simp at r; subst r; obtain⟨t,rfl⟩:=ru; cases e1; exact Wbx PySem.W.kitx_str I.kIn Tbd k (fun z=>nomatch z) fin
   | ty _=>simp[tyD] at e1
   | tup ys =>
    obtain⟨a,vs,rfl,h,_⟩:=Za5.mp r
    cases ru; cases e1
    obtain⟨its,_,⟨o,ho,hcl,_⟩,_⟩:=I.tuple h
    exact Wbx PySem.W.kitx_tuple I.kIn ⟨o,ho,hcl⟩ k (fun z=>nomatch z) fin
   | fl ys =>
    obtain⟨a,vs,rfl,h,_⟩:=Zg9.mp r
    cases ru; cases e1
    obtain⟨its,_,pl,_⟩:=I.list h.sq
    obtain⟨o,ho,hcl,_⟩:=pl.isList
    exact Wbx Wex I.kIn ⟨o,ho,hcl⟩ k (fun z=>nomatch z) fin
   | ref n =>
    obtain⟨a,rfl,ha⟩:=Zat.mp r
    cases ru
    simp only[tyD] at e1
    split at e1
    ·rename_i ys eo
     cases e1
     obtain⟨vs,h1,_⟩:=hr.obj n a _ ha eo
     obtain⟨its,_,pl,_⟩:=I.list (SqL.of h1)
     obtain⟨o,ho,hcl,_⟩:=pl.isList
     exact Wbx Wex I.kIn ⟨o,ho,hcl⟩ k (fun z=>nomatch z) fin
    ·cases e1
  ·cases e
 ·cases e
nonrec def Zfr:List D->Option (List Int)
 | []=>some []
 | .int i::r=>(Zfr r).map fun s=>i::s
 | _=>none
theorem Zms:∀ {xs ys:List Int},xs.Perm ys->xs.Pairwise (· <= ·)->ys.Pairwise (· <= ·)->xs=ys
 | [],ys,p,_,_=>by simpa using p.symm
 | x::xs,[],p,_,_=>by simpa using p
 | x::xs,y::ys,p,h1,h2=>by
  rw[Wdj] at h1 h2
  have a1:y∈x::xs:=p.symm.subset (by simp)
  have a2:x∈y::ys:=p.subset (by simp)
  have e:x=y:=by
   rcases Xh.mp a1 with z | z
   ·exact z.symm
   ·rcases Xh.mp a2 with w | w
    ·exact w
    ·have:=h1.1 y z
     have:=h2.1 x w
     omega
  subst e
  rw[Zms (List.Perm.cons_inv p) h1.2 h2.2]
theorem Zi2 {K:Xb}:∀ {xs:List D} {ns:List Int} {vs:List V},Zfr xs=some ns->Vj (Rep K H ι) xs vs->vs=ns.map V.int
 | [],ns,vs,e,P=>by cases P; cases e; rfl
 | .int i::r,ns,vs,e,P=>by
  simp only[Zfr] at e
  obtain⟨s,e1,rfl⟩:=Zm e
  cases P with
  | cons p P =>
   simp at p
   subst p
   rw[Zi2 e1 P]
   rfl
 | .non::_,_,_,e,_=>by simp[Zfr] at e
 | .bl _::_,_,_,e,_=>by simp[Zfr] at e
 | .str _::_,_,_,e,_=>by simp[Zfr] at e
 | .ty _::_,_,_,e,_=>by simp[Zfr] at e
 | .tup _::_,_,_,e,_=>by simp[Zfr] at e
 | .fl _::_,_,_,e,_=>by simp[Zfr] at e
 | .ref _::_,_,_,e,_=>by simp[Zfr] at e
theorem Zl8:∀ {ns:List Int} {us:List Vb},Uba us ns->Zb6 (ns.map V.int) us:=by
 intro ns us h
 induction h with
 | nil=>exact .nil
 | cons n t _ ih=>exact .cons ⟨t,rfl⟩ ih
theorem Zm6 {K:Xb} (ns:List Int):Vj (Rep K H ι) (ns.map D.int) (ns.map V.int):=by
 induction ns with
 | nil=>exact .nil
 | cons n r ih=>exact .cons (by simp) ih
end
section
variable {X:Cx} {tg:Vv}
nonrec def Zjq:D->HD->Option (List D×Zhf)
 | .tup xs,_=>some (xs,[])
 | .fl xs,_=>some (xs,[])
 | .ref n,H=>match H[n]? with
  | some (.lst xs)=>some (xs,[(n,.lst xs)])
  | _=>none
 | _,_=>none
def Zg6 (i:Int):Prop := -(2 ^ 62)<=i/\i<2 ^ 62
instance (i:Int):Decidable (Zg6 i):=by unfold Zg6; exact inferInstance
nonrec def Zan (lo:Int) (n:Nat):List D:=(Wcl n).map fun k:Nat=>.int (lo+(k:Int))
theorem Zre {lo:Int} {n i:Nat} {d:D} (h:(Zan lo n)[i]? = some d):i<n/\d=.int (lo+i):=by
 unfold Zan at h
 rw[Xv] at h
 obtain⟨k,h1,rfl⟩:=Zm h
 rw[Xc] at h1
 obtain⟨hl,h1⟩:=h1
 simp at h1 hl
 subst h1
 exact⟨hl,rfl⟩
theorem Zmd {K:Xb} {H0:Hp} {ι0:List Ve} (lo:Int) (n:Nat):ItRep K (Itr lo n) (Zan lo n) [] H0 ι0:=by
 refine⟨fun i H2 ι2 Hd2 l2 h2 _ hi=>(show i<n by simpa [Zan] using hi),fun i H2 ι2 Hd2 d x H3 l2 h2 _ hd y=>?_,fun i H2 ι2 Hd2 l2 h2 _ hi=>(show n<=i by simpa [Zan] using hi)⟩
 obtain⟨rfl,rfl⟩:=y
 obtain⟨_,rfl⟩:=Zre hd
 exact⟨ι2,Le.refl,h2,by simp⟩
nonrec def iR1 (f:AF):ItF:=fun σ H=>(f σ H).bind fun p=>match p.1 with
 | [.int j]=>if Zg6 j then some ((Zan 0 j.toNat,[]),p.2) else none
 | _=>none
nonrec def iR2 (f:AF):ItF:=fun σ H=>(f σ H).bind fun p=>match p.1 with
 | [.int i,.int j]=>if Zg6 i/\Zg6 j then some ((Zan i (j - i).toNat,[]),p.2) else none
 | _=>none
theorem Zq3 {a:Vv} {f:AF} {p pos:Pos} (hg:Gl X "range") (hm:X.mg "range" = none) (ha:PAf X [a] f) (hs:Vf [a] X.env=[(false,eval a X.env)]:=by rfl):PIf X tg (.Call (.Name "range" p) [a] [] pos) (iR1 f):=by
 refine PIi (Zr8 hg hm ha hs) fun σ H R zz=>?_
 obtain⟨ι,σd,Hd,xs,own,Hd',s,hr,e,q⟩:=zz
 obtain⟨⟨ds,H1⟩,e1,e⟩:=Zo e
 dsimp only at e
 split at e
 ·rename_i j
  split at e
  ·rename_i hj
   cases e
   refine⟨ι,σd,Hd,_,_,s,hr,e1,fun vs H' ι' l h P=>?_⟩
   obtain⟨v,rfl,r⟩:=Zl0 P
   simp at r
   subst r
   exact⟨j,rfl,hj.1,hj.2,q _ H' ι' l h (Zmd 0 _)⟩
  ·cases e
 ·cases e
theorem Zki {a b:Vv} {f:AF} {p pos:Pos} (hg:Gl X "range") (hm:X.mg "range" = none) (ha:PAf X [a,b] f) (hs:Vf [a,b] X.env=[(false,eval a X.env),(false,eval b X.env)]:=by rfl) (hs2:Vf [b] X.env=[(false,eval b X.env)]:=by rfl) :
  PIf X tg (.Call (.Name "range" p) [a,b] [] pos) (iR2 f):=by
 refine PIi (Zs5 hg hm ha hs hs2) fun σ H R zz=>?_
 obtain⟨ι,σd,Hd,xs,own,Hd',s,hr,e,q⟩:=zz
 obtain⟨⟨ds,H1⟩,e1,e⟩:=Zo e
 dsimp only at e
 split at e
 ·rename_i i j
  split at e
  ·rename_i hj
   cases e
   refine⟨ι,σd,Hd,_,_,s,hr,e1,fun vs H' ι' l h P=>?_⟩
   obtain⟨v,v',rfl,r,r'⟩:=Yam P
   simp at r r'
   subst r r'
   exact⟨i,j,rfl,⟨hj.1.1,hj.1.2,hj.2.1,hj.2.2⟩,q _ H' ι' l h (Zmd _ _)⟩
  ·cases e
 ·cases e
end
open Builtin.SmallTypes (nextOf)
section
variable {prog:Vh} {w:Vs} {A:Vw} {E:Vb->Vd->Prop} {s:Vd}
theorem Zps {j t:Ve} {i:Nat} {its:Array Vb} {x:Vb} {Q:Vb->Vd->Prop} (hj:s.heap.IsTupleIter j t i) (ht:s.heap.IsTuple t its) (hx:its[i]? = some x)
  (hQ:∀ h',h'.IsTupleIter j t (i+1)->Xx j s.heap h'->Q x { s with heap:=h' }):Vg (Vn prog w) A (nextOf (.ref j)) Q E s:=by
 obtain⟨oj,ho,hcj,hdj⟩:=id hj
 obtain⟨ot,hot,_,nt,hdt⟩:=ht
 unfold nextOf
 refine Va (Vi (name:=Ub "__next__") hj.typeIs Ut (Vo Ut hj.typeIs Tbf ?_ (Tba _)))
 show Vg _ _ (Udf (.ref j) 0 >>= _) _ _ s
 refine Va (Vl ho hdj (x:=.ref t) rfl ?_)
 show Vg _ _ (if (Uy t==Uu)=true then _ else _) _ _ s
 rw[if_neg (show ¬ ((Uy t==Uu)=true) by intro z; cases z)]
 show Vg _ _ (Udf (.ref j) 1 >>= _) _ _ s
 refine Va (Vl ho hdj (x:=.int i 0) rfl ?_)
 show Vg _ _ (seqItems? (.ref t) >>= _) _ _ s
 refine Va (Uaf hot hdt ?_)
 simp only[Xr,hx]
 refine Va (Ubq ho hdj (by simp) (Vc ⟨x,rfl,Vc (hQ _ ⟨_,Wcy _ ho (Tca (Taq hdj _)),(Tco ..).trans hcj,?_⟩ (Xx.update ..))⟩))
 rw[Taq hdj]; simp[Uap]
theorem Zr5 {j t:Ve} {i:Nat} {its:Array Vb} {Q:Vb->Vd->Prop} (hh:A.handled=none) (hj:s.heap.IsTupleIter j t i) (ht:s.heap.IsTuple t its) (hx:its[i]? = none)
  (hE:∀ h' e,Wdf j s.heap h'->(∃ o,h'.get? e=some o/\o.cls=.type "StopIteration")->E (.ref e) { s with heap:=h' }):Vg (Vn prog w) A (nextOf (.ref j)) Q E s:=by
 obtain⟨oj,ho,hcj,hdj⟩:=id hj
 obtain⟨ot,hot,_,nt,hdt⟩:=ht
 unfold nextOf
 refine Va (Vi (name:=Ub "__next__") hj.typeIs Ut (Vo Ut hj.typeIs Tbf ?_ (Tba _)))
 show Vg _ _ (Udf (.ref j) 0 >>= _) _ _ s
 refine Va (Vl ho hdj (x:=.ref t) rfl ?_)
 show Vg _ _ (if (Uy t==Uu)=true then _ else _) _ _ s
 rw[if_neg (show ¬ ((Uy t==Uu)=true) by intro z; cases z)]
 show Vg _ _ (Udf (.ref j) 1 >>= _) _ _ s
 refine Va (Vl ho hdj (x:=.int i 0) rfl ?_)
 show Vg _ _ (seqItems? (.ref t) >>= _) _ _ s
 refine Va (Uaf hot hdt ?_)
 simp only[Xr,hx]
 refine Va (Ubf (Va (Ubq ho hdj (by simp) ?_)))
 show Vg _ _ (newExc (.type "StopIteration") [] >>= _) _ _ _
 refine Va ?_
 simp only[newExc,newTuple]
 refine Va (Vt ?_ (by size_fits))
 refine Va (m:=Ubr _ _) (Udx (a:=Uu) (by first | rfl | (simp only[Ubr]; rfl)) (Vt ?_ (by size_fits)))
 simp only[raiseNew]
 refine Va (wpAny_handled ?_)
 first | rw[show A.in1.handled=none from hh] | rw[hh]
 exact Va (Vc (wpAny_throw (hE _ _ (((Xx.update ..).extBut.push _).push _) ⟨_,Xf _ rfl,rfl⟩)))
theorem Zut {e j t:Ve} {i:Nat} {c:Int} {its:Array Vb} {x old:Vb} {Q:Option Vb->Vd->Prop} (he:Uaq s.heap e j c old) (hj:s.heap.IsTupleIter j t i) (ht:s.heap.IsTuple t its) (hx:its[i]? = some x) (hne:e≠j)
  (hQ:∀ h' tk,Ucj h' e j (c+1) x s.heap.objs.size->h'.IsTupleIter j t (i+1)->h'.get? s.heap.objs.size=some { cls:=.type "tuple",data:=.seq #[.int c tk,x] }->h'.objs.size=s.heap.objs.size+1 ->
   (∀ b o,b≠e->b≠j->s.heap.get? b=some o->h'.get? b=some o)->Q (some (.ref s.heap.objs.size)) { s with heap:=h',toks:=s.toks+1 }) :
  Vg (Vn prog w) A (Ubh (.ref e)) Q E s:=by
 have hT:s.TypeIs (.ref e) "enumerate" := ⟨_,he,rfl⟩
 unfold Ubh
 refine Va (Uaj (Vi (name:=Ub "__next__") hT Uj (Vo Uj hT Tae ?_ (Tad _))))
 obtain⟨hp,g,d,tk,os⟩:=s
 show Vg _ _ (Udf (.ref e) 2 >>= _) _ _ _
 refine Va (Vl he rfl (x:=.ref j) rfl (Va (Zps hj ht hx fun h1 j1 s1=>?_)))
 replace s1:Xx j hp h1:=s1
 have e1:Uaq h1 e j c old:=(s1.2 e hne).trans he
 show Vg _ _ (Udf (.ref e) 3 >>= _) _ _ ⟨h1,g,d,tk,os⟩
 refine Va (Vl e1 rfl (x:=Uap c) rfl ?_)
 show Vg _ _ (Udf (.ref e) 4 >>= _) _ _ ⟨h1,g,d,tk,os⟩
 refine Va (Vl e1 rfl (x:=.none) rfl ?_)
 show Vg _ _ (mkInt c >>= _) _ _ ⟨h1,g,d,tk,os⟩
 refine Va (Udy ?_)
 show Vg _ _ (Udk (.ref e) 3 (Uap (c+1)) >>= _) _ _ ⟨h1,g,d,tk+1,os⟩
 refine Va (Vk e1 (by simp) fun h2 e2 s2=>?_)
 replace s2:Xx e h1 h2:=s2
 replace e2:Uaq h2 e j (c+1) old:=e2
 show Vg _ _ (Udk (.ref e) 4 .none >>= _) _ _ ⟨h2,g,d,tk+1,os⟩
 refine Va (Vk e2 (by simp) fun h3 e3 s3=>?_)
 replace s3:Xx e h2 h3:=s3
 replace e3:Uaq h3 e j (c+1) old:=e3
 show Vg _ _ (newTuple [.int c tk,x] >>= _) _ _ ⟨h3,g,d,tk+1,os⟩
 refine Va (Ucw ?_)
 have e4:Uaq (h3.push { cls:=.type "tuple",data:=.seq #[.int c tk,x] }) e j (c+1) old:=Xa _ e3
 generalize q4:h3.push { cls:=.type "tuple",data:=.seq #[.int c tk,x] }=h4 at e4
 have zz:h3.objs.size=hp.objs.size:=by rw[s3.1,s2.1,s1.1]
 have lt:e<hp.objs.size:=Xg he
 have t4:h4.get? hp.objs.size=some { cls:=.type "tuple",data:=.seq #[.int c tk,x] }:=by rw[<- q4,<- zz]; exact Xf _ rfl
 have z4:h4.objs.size=hp.objs.size+1:=by rw[<- q4,War,zz]
 have k4:∀ b o,b≠e->b≠j->hp.get? b=some o->h4.get? b=some o:=fun b o n1 n2 q=>by
  rw[<- q4]; exact Xa _ (s3.extBut b o n1 (s2.extBut b o n1 (s1.extBut b o n2 q)))
 have j4:h4.IsTupleIter j t (i+1):=by
  obtain⟨o,ho,r⟩:=id j1
  exact⟨o,by rw[<- q4]; exact Xa _ (s3.extBut j o (Uo hne) (s2.extBut j o (Uo hne) ho)),r⟩
 show Vg _ _ (Uc (.ref e) >>= _) _ _ ⟨h4,g,d,tk+1,os⟩
 rw[zz]
 clear q4 e3 s3 e2 s2 e1 s1 j1 zz h3 h2 h1
 refine Va ?_
 unfold Uc
 refine Va (Vl e4 rfl (x:=.none) rfl (Vc ?_))
 simp only[if_true]
 refine Va (Ubf (Va (Vl e4 rfl (x:=old) rfl (Va (Vk e4 (by simp) fun h5 e5 s5=>?_)))))
 replace s5:Xx e h4 h5:=s5
 replace e5:Uaq h5 e j (c+1) x:=e5
 show Vg _ _ (Ud (.ref e) (.ref hp.objs.size) >>= _) _ _ ⟨h5,g,d,tk+1,os⟩
 refine Va ?_
 unfold Ud
 refine Va (Vk e5 (by simp) fun h6 e6 s6=>?_)
 replace s6:Xx e h5 h6:=s6
 replace e6:Ucj h6 e j (c+1) x hp.objs.size:=e6
 refine Vk e6 (by simp) fun h7 e7 s7=>?_
 replace s7:Xx e h6 h7:=s7
 replace e7:Ucj h7 e j (c+1) x hp.objs.size:=e7
 have up:∀ b o,b≠e->h4.get? b=some o->h7.get? b=some o:=fun b o n q=>s7.extBut b o n (s6.extBut b o n (s5.extBut b o n q))
 refine Va (Ubn (Vc ⟨_,rfl,Vc (hQ h7 tk e7 ?_ (up _ _ (Wbu lt) t4) (by rw[s7.1,s6.1,s5.1,z4]) fun b o n1 n2 q=>up b o n1 (k4 b o n1 n2 q))⟩))
 obtain⟨o,ho,r⟩:=id j4
 exact⟨o,up j o (Uo hne) ho,r⟩
theorem Zur {e j t:Ve} {i:Nat} {c:Int} {its:Array Vb} {old:Vb} {Q:Option Vb->Vd->Prop} (hh:A.handled=none) (he:Uaq s.heap e j c old) (hj:s.heap.IsTupleIter j t i) (ht:s.heap.IsTuple t its) (hx:its[i]? = none)
  (hQ:∀ h',Wdf j s.heap h'->Q none { s with heap:=h' }):Vg (Vn prog w) A (Ubh (.ref e)) Q E s:=by
 have hT:s.TypeIs (.ref e) "enumerate" := ⟨_,he,rfl⟩
 unfold Ubh
 refine Va (Uaj (Vi (name:=Ub "__next__") hT Uj (Vo Uj hT Tae ?_ (Tad _))))
 show Vg _ _ (Udf (.ref e) 2 >>= _) _ _ _
 refine Va (Vl he rfl (x:=.ref j) rfl (Va (Zr5 hh hj ht hx fun h' z he' zz=>?_)))
 obtain⟨o,ho,hc⟩:=zz
 exact Va (Ubj (T := "StopIteration") (b:=true) ⟨o,ho,hc⟩ Ubs (Vc (hQ _ he')))
open AutoSeq1 (wpAny_loadPart') in
theorem Zsk (t:Ve) (its:Array Vb) (n:Nat) (dct:Option Ve) (sl:Array (Option Vb)) :
  Uea (Builtin.«enumerate.__new__» ⟨[.type "enumerate",.ref t],[]⟩) (fun _ R s=>s.heap.get? t=some { cls:=.type "tuple",dict:=dct,data:=.seq its n,slots:=sl } /\
   R (.ok (.ret (.ref (s.heap.push { cls:=.type "tuple_iterator",data:=.fields #[.ref t,.int 0 0] }).objs.size)))
    { s with heap:=(s.heap.push { cls:=.type "tuple_iterator",data:=.fields #[.ref t,.int 0 0] }).push { cls:=.type "enumerate",data:=.fields #[.none,.bool false,.ref s.heap.objs.size,Uap 0,.none,.none] } }) :=
 .of_wp fun prog w A R s h=>by
  obtain⟨hp,g,d,tk,os⟩:=s; obtain⟨hl,h⟩:=h
  have hsub:=Udl
  have hL:Heap.IsTuple (Tbu ⟨hp,g,d,tk,os⟩) t its:=⟨_,hl,rfl,n,rfl⟩
  wp_walk using Vm hl
  refine Uck fun st=>Vc ?_
  split
  ·rename_i k _ _ _ _ _
   cases (k==Tbq "enumerate")<;>(wp_walk using Vm hl,Uad hL; exact⟨_,rfl,h⟩)
  ·wp_walk using Vm hl,Uad hL
   exact⟨_,rfl,h⟩
theorem Zqk {t:Ve} {its:Array Vb} {Q:Vb->Vd->Prop} (hL:s.heap.IsTuple t its)
  (h:∀ h',Uaq h' (s.heap.objs.size+1) s.heap.objs.size 0 .none->h'.IsTupleIter s.heap.objs.size t 0->h'.objs.size=s.heap.objs.size+2 ->
   (∀ b o,s.heap.get? b=some o->h'.get? b=some o)->Q (.ref (s.heap.objs.size+1)) { s with heap:=h' }) :
  Vg (Vn prog w) A (call (.type "enumerate") [.ref t]) Q E s:=by
 obtain⟨⟨k,dct,dt,sl⟩,hl,hc,n,hd⟩:=hL
 replace hc:k=.type "tuple" := hc
 replace hd:dt=.seq its n:=hd
 subst hc hd
 refine Udp Taf (by decide) (Tbz _) (Tcb _) (fun obj=>Tcg obj _) Tav (Zsk t its n dct sl) ⟨hl,?_⟩
 have hz:(s.heap.push { cls:=.type "tuple_iterator",data:=.fields #[.ref t,.int 0 0] }).objs.size=s.heap.objs.size+1:=War ..
 show _/\_
 rw[hz]
 have he:Uaq ((s.heap.push { cls:=.type "tuple_iterator",data:=.fields #[.ref t,.int 0 0] }).push { cls:=.type "enumerate",data:=.fields #[.none,.bool false,.ref s.heap.objs.size,Uap 0,.none,.none] }) (s.heap.objs.size+1) s.heap.objs.size 0 .none:=by
  have q:=Xf (s.heap.push { cls:=.type "tuple_iterator",data:=.fields #[.ref t,.int 0 0] }) (o:={ cls:=.type "enumerate",data:=.fields #[.none,.bool false,.ref s.heap.objs.size,Uap 0,.none,.none] }) rfl
  rw[hz] at q; exact q
 exact⟨⟨_,he,rfl⟩,h _ he ⟨_,Xa _ (Xf _ rfl),rfl,rfl⟩ (by rw[War,hz]) fun b o x=>Xa _ (Xa _ x)⟩
end
nonrec def Yao (K:Xb) (c:Int) (a:Ve):It :=
 ⟨fun i H=>∃ xs x,SqT K H a xs/\xs[i]? = some x,fun i H v H'=>∃ p x,H p=none/\v=.ref p/\H'=upd H p (.tup [.int (c+i),x])/\∀ xs,SqT K H a xs->xs[i]? = some x,fun i H=>∃ xs,SqT K H a xs/\xs.length<=i⟩
theorem Zku {P:Vh} {w:Vs} {K:Xb} {es:List Vv} {k:Nat} {pos:Pos} (a e j:Ve) (c:Int) (hne:e≠j):Turn P w K (.Tuple es k pos) (Yao K c a) [e,j] e (fun i h=>∃ old,Uaq h e j (c+i) old/\h.IsTupleIter j a i) where
 mem:=by simp
 obj:=fun i h st b hb=>by
  obtain⟨old,he,o,ho,hc,hd⟩:=st
  rcases Xh.mp hb with rfl | hb
  ·exact⟨_,he,fun v z=>by cases z⟩
  ·have:b=j:=by simpa using hb
   subst this
   exact⟨o,ho,fun v z=>by rw[hd] at z; cases z⟩
 keep:=fun i h h' st kk=>by
  obtain⟨old,he,o,ho,r⟩:=st
  exact⟨old,kk e (by simp) _ he,o,kk j (by simp) o ho,r⟩
 item:=by
  intro X hP hw hK hc i pins s σ H E I hf st hg
  subst hP hw hK
  obtain⟨xs,x,hq,hx⟩:=hg
  obtain⟨old,he,hj⟩:=st
  obtain⟨its,rv,p,hz⟩:=I.tuple hq
  obtain⟨u,hu,ru⟩:=rv.get hx
  have fe:=hf e (by simp)
  have fj:=hf j (by simp)
  refine Zut he hj (show s.heap.IsTuple a its.toArray from p) (x:=u) (by simpa using hu) hne fun h' tk eo j' t' z' kk=>?_
  refine⟨_,rfl,Ubo (s:={ s with heap:=h',toks:=s.toks+1 }) eo fun h2 e2 s2=>?_⟩
  replace s2:Xx e h' h2:=s2
  have le:e<s.heap.objs.size:=Xg he
  have ne2:s.heap.objs.size≠e:=Wbu le
  -- the iterator's two records have turned, the pair is new
  have t2:h2.get? s.heap.objs.size=some { cls:=.type "tuple",data:=.seq #[.int (c+i) tk,u] }:=s2.extBut _ _ ne2 t'
  have hp0:H s.heap.objs.size=none:=I.hok.fresh (Xe _)
  have up:∀ b o,b∉[e,j]->s.heap.get? b=some o->h2.get? b=some o:=fun b o hb q =>
   s2.extBut b o (fun z=>hb (by simp[z])) (kk b o (fun z=>hb (by simp[z])) (fun z=>hb (by simp[z])) q)
  have I2:Inv X pins σ (upd H s.heap.objs.size (.tup [.int (c+i),x])) { s with heap:=h2,toks:=s.toks+1 }:=by
   refine I.step (g':=s.gens) (d':=s.drawn) (t':=s.toks+1) (ch:=[e,j]) (fun b hb=>?_) (fun b o _ _ hb q n=>up b o hb q) (fun b o _ _ hb q n=>⟨o.slots,up b o hb q⟩) (fun b o _ q n=>?_) (fun b o hb q=>⟨o,up b o hb q⟩) (fun b ys q=>?_) (fun b o y q=>?_) (fun b ps q=>⟨#[],?_⟩) (fun m hm=>?_) (fun b o q=>?_) I.bare
   ·have:=hf b hb; exact⟨this.2.2.2.1,this.2.1,this.2.2.2.2.1,this.2.2.2.2.2⟩
   ·rw[Zak (Xq (Xg q))]; exact n
   ·rw[Zak (Zai q hp0)]; exact q
   ·rw[Zak (Zai q hp0)]; exact q
   ·rw[Zak (Zai q hp0),q]; simp
   ·obtain⟨o,es',ep,ho,r⟩:=hm
    exact⟨o,es',ep,s2.extBut _ o (Uo fe.2.1) (kk _ o (Uo fe.2.1) (Uo fj.2.1) ho),r⟩
   ·by_cases hb:b=s.heap.objs.size
    ·subst hb
     rw[Zav] at q
     cases q
     exact⟨(by show 2<=sizeLine; decide),[.int (c+i) tk,u],.cons ⟨tk,rfl⟩ (.cons ru .nil),_,t2,rfl,⟨_,rfl⟩,rfl⟩
    ·rw[Zak hb] at q
     refine(I.hok b o q).stay (fun d v hd z=>up d v (fun hm=>?_) z) (fun d z=>by rw[Zak (Zai z hp0)]; exact z) fun d ys z=>by rw[Zak (Zai z hp0)]; exact z
     have:H d≠none:=by
      rcases hd with rfl | hd
      ·rw[q]; simp
      ·rw[hd]; simp
     exact this (hf d hm).1
  refine⟨.ref s.heap.objs.size,_,I2,rfl,⟨_,x,hp0,rfl,rfl,fun ys hy=>by rw[I.tuple_inj hy hq]; exact hx⟩,?_,fun b hb=>?_⟩
  ·obtain⟨o,ho,r⟩:=id j'
   have ec:c+((i+1:Nat):Int)=c+(i:Int)+1:=by push_cast; omega
   exact⟨u,by rw[ec]; exact e2,o,s2.extBut j o (Uo hne) ho,r⟩
  ·have hb2:b≠s.heap.objs.size:=by
    rcases Xh.mp hb with rfl | hb
    ·exact Xq le
    ·have:b=j:=by simpa using hb
     subst this
     obtain⟨o,ho,_⟩:=id hj
     exact Xq (Xg ho)
   rw[Zak hb2]; exact(hf b hb).1
 done:=by
  intro X hP hw hK hc i pins s σ H E I hf st hg
  subst hP hw hK
  obtain⟨xs,hq,hx⟩:=hg
  obtain⟨old,he,hj⟩:=st
  obtain⟨its,rv,p,hz⟩:=I.tuple hq
  obtain⟨f0,f1,f2,f3,f4,f5⟩:=hf j (by simp)
  have hl:=rv.length
  exact Zur (I.ok.hd hc) he hj (show s.heap.IsTuple a its.toArray from p) (by simp; omega) fun h' eb=>⟨rfl,I.turned (t':=s.toks) (fun b o hb q=>eb b o hb q) f0 f1 f3 f4 f5⟩
 self:=fun _ _ _ _ _ st h=>by
  obtain⟨old,he,_⟩:=st
  exact Uam he h
section
variable {X:Cx}
nonrec def Zb5 (c:Int):List D->List D
 | []=>[]
 | x::r=>.tup [.int c,x]::Zb5 (c+1) r
theorem Ze1:∀ (xs:List D) (c:Int),(Zb5 c xs).length=xs.length
 | [],_=>rfl
 | x::r,c=>by simp[Zb5,Ze1 r]
theorem Zix:∀ {xs:List D} {c:Int} {i:Nat} {d:D},(Zb5 c xs)[i]? = some d->∃ x,xs[i]? = some x/\d=.tup [.int (c+i),x]
 | [],c,i,d,h=>by simp[Zb5] at h
 | x::r,c,0,d,h=>by simp[Zb5] at h; exact⟨x,rfl,by rw[<- h]; simp⟩
 | x::r,c,i+1,d,h=>by
  simp only[Zb5,Wcn] at h
  obtain⟨y,h1,h2⟩:=Zix h
  refine⟨y,by simpa using h1,?_⟩
  rw[h2]
  have:c+1+(i:Int)=c+((i+1:Nat):Int):=by push_cast; omega
  rw[this]
theorem Zpf {K:Xb} {H0:Hp} {ι0:List Ve} {a:Ve} {c:Int} {xs:List D} {vs:List V} (hS:SqT K H0 a vs) (P:Vj (Rep K H0 ι0) xs vs)
  (inj:∀ (i:Nat) (H:Hp) (x:V),(∀ ys,SqT K H a ys->ys[i]? = some x)->SqT K H a vs->vs[i]? = some x):ItRep K (Yao K c a) (Zb5 c xs) [] H0 ι0:=by
 refine⟨fun i H2 ι2 Hd2 l2 h2 _ hi=>?_,fun i H2 ι2 Hd2 d v H3 l2 h2 _ hd y=>?_,fun i H2 ι2 Hd2 l2 h2 _ hi=>⟨vs,l2.tup a vs hS,by rw[<- Prd.len P,<- Ze1 xs c]; exact hi⟩⟩
 ·exact⟨vs,vs[i]'(by rw[<- Prd.len P,<- Ze1 xs c]; exact hi),l2.tup a vs hS,by simp⟩
 ·obtain⟨p,x,hp,rfl,rfl,y⟩:=y
  obtain⟨x',hx',rfl⟩:=Zix hd
  obtain⟨u,hu,ru⟩:=Prd.get P hx'
  have:=y vs (l2.tup a vs hS)
  rw[hu] at this
  cases this
  refine⟨ι2,Le.fresh hp _,h2.tup hp _,Za5.mpr ⟨p,_,rfl,SqT.of Zav,.cons (by simp) (.cons ((ru.mono l2).mono (Le.fresh hp _)) .nil)⟩⟩
nonrec def Znz (f:AF):ItF:=fun σ H=>(f σ H).bind fun p=>match p.1 with
 | [.tup xs]=>some ((Zb5 0 xs,[]),p.2)
 | _=>none
theorem Zly {es:List Vv} {k:Nat} {tp p pos:Pos} {a:Vv} {f:AF} (hg:Gl X "enumerate") (hm:X.mg "enumerate" = none) (ha:PAf X [a] f) (hs:Vf [a] X.env=[(false,eval a X.env)]:=by rfl):PIf X (.Tuple es k tp) (.Call (.Name "enumerate" p) [a] [] pos) (Znz f):=by
 rintro pins s σ H R I ⟨ι,σd,Hd,xs,own,Hd',sr,hr,e,q⟩
 obtain⟨⟨ds,H1⟩,e1,e⟩:=Zo e
 dsimp only at e
 split at e
 ·rename_i ys
  cases e
  refine Call_ (Zdw I hg hm Ucx (Uf (thn (ha pos pins s σ H (fun vs H'=>∃ a ws,vs=[.ref a]/\SqT X.K H' a ws/\∀ (J:It) (H2:Hp),H2=H'->J=Yao X.K 0 a->R J H2) I ⟨ι,σd,Hd,_,_,sr,hr,e1,fun vs H' ι' l h P=>?_⟩) fun us s1 ⟨vs,H2,I2,r2,q2⟩=>?_) hs rfl))
  ·obtain⟨v,rfl,r⟩:=Zl0 P
   obtain⟨ad,ws,rfl,hS,P2⟩:=Za5.mp r
   refine⟨ad,ws,rfl,hS,fun J H2 e2 e3=>?_⟩
   subst e2 e3
   exact q _ _ ι' l h (Zpf hS P2 fun i H x y h=>y ws h)
  ·obtain⟨ad,ws,rfl,hS,q2⟩:=q2
   obtain⟨u,rfl,ru⟩:=Zic r2
   cases ru
   obtain⟨its,rv,p,hz⟩:=I2.tuple hS
   refine Zqk (show s1.heap.IsTuple ad its.toArray from p) fun h' he hj z' kk=>?_
   have I3:Inv X pins σ H2 { s1 with heap:=h' }:=I2.kept (t':=s1.toks) kk
   refine Uam (s:={ s1 with heap:=h' }) he ?_
   have ne:s1.heap.objs.size+1≠s1.heap.objs.size:=Wdy _
   refine⟨s1.heap.objs.size+1,[s1.heap.objs.size+1,s1.heap.objs.size],_,Yao X.K 0 ad,H2,rfl,I3,Zku ad _ _ 0 ne,⟨.none,by simpa using he,hj⟩,fun b hb=>?_,q2 _ _ rfl rfl⟩
   have:s1.heap.objs.size<=b:=by
    rcases Xh.mp hb with rfl | hb
    ·exact Wdg _
    ·have:b=s1.heap.objs.size:=by simpa using hb
     rw[this]; exact Xe _
   have fp:=I2.fpOk (b:=b) (H':=H2) this (I2.hok.fresh this)
   exact fp
 ·cases e
theorem Zwg {pins:List (Ve×Obj)} {σ:L2.St} {H:Hp} {s:Vd} {ch:List Ve} {h2:Vy} {tk:Nat} {vs:List V} {us:List Vb} {n:Nat} (I:Inv X pins σ H s) (hf:∀ b∈ch,Zo3 X pins H b)
  (up:∀ b o,b∉ch->s.heap.get? b=some o->h2.get? b=some o) (t2:h2.get? s.heap.objs.size=some { cls:=.type "tuple",data:=.seq us.toArray n }) (r:Zb6 vs us) (hz:vs.length<=sizeLine) :
  Inv X pins σ (upd H s.heap.objs.size (.tup vs)) { s with heap:=h2,toks:=tk }:=by
 have hp0:H s.heap.objs.size=none:=I.hok.fresh (Xe _)
 refine I.step (g':=s.gens) (d':=s.drawn) (t':=tk) (ch:=ch) (fun b hb=>?_) (fun b o _ _ hb q n=>up b o hb q) (fun b o _ _ hb q n=>⟨o.slots,up b o hb q⟩) (fun b o _ q n=>?_) (fun b o hb q=>⟨o,up b o hb q⟩) (fun b ys q=>?_) (fun b o y q=>?_) (fun b ps q=>⟨#[],?_⟩) (fun m hm=>?_) (fun b o q=>?_) I.bare
 ·have:=hf b hb; exact⟨this.2.2.2.1,this.2.1,this.2.2.2.2.1,this.2.2.2.2.2⟩
 ·rw[Zak (Xq (Xg q))]; exact n
 ·rw[Zak (Zai q hp0)]; exact q
 ·rw[Zak (Zai q hp0)]; exact q
 ·rw[Zak (Zai q hp0),q]; simp
 ·obtain⟨o,es',ep,ho,r⟩:=hm
  exact⟨o,es',ep,up _ o (fun z=>(hf _ z).2.1 rfl) ho,r⟩
 ·by_cases hb:b=s.heap.objs.size
  ·subst hb
   rw[Zav] at q
   cases q
   exact⟨hz,us,r,_,t2,rfl,⟨_,rfl⟩,rfl⟩
  ·rw[Zak hb] at q
   refine(I.hok b o q).stay (fun d v hd z=>up d v (fun hm=>?_) z) (fun d z=>by rw[Zak (Zai z hp0)]; exact z) fun d ys z=>by rw[Zak (Zai z hp0)]; exact z
   have:H d≠none:=by
    rcases hd with rfl | hd
    ·rw[q]; simp
    ·rw[hd]; simp
   exact this (hf d hm).1
theorem Zvc {pins:List (Ve×Obj)} {σ:L2.St} {H:Hp} {s:Vd} {ch:List Ve} {h2:Vy} {tk:Nat} (I:Inv X pins σ H s) (hf:∀ b∈ch,Zo3 X pins H b)
  (up:∀ b o,b∉ch->s.heap.get? b=some o->h2.get? b=some o):Inv X pins σ H { s with heap:=h2,toks:=tk }:=by
 refine I.step (g':=s.gens) (d':=s.drawn) (t':=tk) (ch:=ch) (fun b hb=>?_) (fun b o _ _ hb q n=>up b o hb q) (fun b o _ _ hb q n=>⟨o.slots,up b o hb q⟩) (fun b o _ q n=>n) (fun b o hb q=>⟨o,up b o hb q⟩) (fun b ys q=>q) (fun b o y q=>q) (fun b ps q=>⟨#[],by rw[q]; simp⟩) (fun m hm=>?_) (fun b o q=>?_) I.bare
 ·have:=hf b hb; exact⟨this.2.2.2.1,this.2.1,this.2.2.2.2.1,this.2.2.2.2.2⟩
 ·obtain⟨o,es',ep,ho,r⟩:=hm
  exact⟨o,es',ep,up _ o (fun z=>(hf _ z).2.1 rfl) ho,r⟩
 ·refine(I.hok b o q).stay (fun d v hd z=>up d v (fun hm=>?_) z) (fun d z=>z) fun d ys z=>z
  have:H d≠none:=by
   rcases hd with rfl | hd
   ·rw[q]; simp
   ·rw[hd]; simp
  exact this (hf d hm).1
end
structure Five (z a b c d:Ve):Prop where
 az:a≠z
 bz:b≠z
 cz:c≠z
 dz:d≠z
 ab:a≠b
 ac:a≠c
 ad:a≠d
 bc:b≠c
 bd:b≠d
 cd:c≠d
section
variable {X:Cx}
nonrec def Zpd:List D->List D->List D
 | x::xs,y::ys=>.tup [x,y]::Zpd xs ys
 | _,_=>[]
theorem Zk4:∀ (xs ys:List D),(Zpd xs ys).length=min xs.length ys.length
 | [],_=>by simp[Zpd]
 | _::_,[]=>by simp[Zpd]
 | x::xs,y::ys=>by simp[Zpd,Zk4 xs ys]
theorem Zp5:∀ {xs ys:List D} {i:Nat} {d:D},(Zpd xs ys)[i]? = some d->∃ x y,xs[i]? = some x/\ys[i]? = some y/\d=.tup [x,y]
 | [],_,i,d,h=>by simp[Zpd] at h
 | _::_,[],i,d,h=>by simp[Zpd] at h
 | x::xs,y::ys,0,d,h=>by simp[Zpd] at h; exact⟨x,y,rfl,rfl,h.symm⟩
 | x::xs,y::ys,i+1,d,h=>by
  simp only[Zpd,Wcn] at h
  obtain⟨u,v,h1,h2,h3⟩:=Zp5 h
  exact⟨u,v,by simpa using h1,by simpa using h2,h3⟩
nonrec def It3 (lo c:Int) (n:Nat):It:=⟨fun i _=>i<n,fun i H x H'=>H'=H/\x=.int (lo+i*c),fun i _=>n<=i⟩
theorem Zof {P:Vh} {w:Vs} {K:Xb} {tg:Vv} (it:Ve) (lo c:Int) (n:Nat):Turn P w K tg (It3 lo c n) [it] it (fun i h=>Udc h it (lo+(i:Nat)*c) ((n:Int) - (i:Nat)) c) where
 mem:=by simp
 obj:=fun i h st b hb=>by
  have e:b=it:=by simpa using hb
  subst e
  exact⟨_,st,fun v z=>by
   have z':Data.fields _=Data.cell v:=z
   cases z'⟩
 keep:=fun i h h' st k=>k it (by simp) _ st
 item:=by
  intro X hP hw hK hc i pins s σ H E I hf st hg
  subst hP hw hK
  obtain⟨f0,f1,f2,f3,f4,f5⟩:=hf it (by simp)
  have W:=Walks.range (prog:=X.prog) (w:=X.w) (I.ok.hd hc) it lo c n
  refine W.item i s _ _ hg st fun v h' tk hv st' kk=>?_
  obtain⟨t,rfl⟩:=hv
  have I1:Inv X pins σ H { s with heap:=h',toks:=tk }:=I.turned (fun b o hb e=>kk b o (by simpa using hb) e) f0 f1 f3 f4 f5
  exact⟨_,rfl,Zts (s:={ s with heap:=h',toks:=tk }) (n := "range_iterator") st' rfl rfl (by decide) ⟨.int (lo+i*c),H,I1,⟨t,rfl⟩,⟨rfl,rfl⟩,st',fun b hb=>(hf b hb).1⟩⟩
 done:=by
  intro X hP hw hK hc i pins s σ H E I hf st hg
  subst hP hw hK
  obtain⟨f0,f1,f2,f3,f4,f5⟩:=hf it (by simp)
  exact Ucb (I.ok.hd hc) st (by have:n<=i:=hg; omega) fun h' eb=>⟨rfl,I.turned (t':=s.toks) (fun b o hb e=>eb b o hb e) f0 f1 f3 f4 f5⟩
 self:=fun _ _ _ _ _ st h=>Ucc st h
nonrec def Zf5 (lo c:Int) (n:Nat):List D:=(Wcl n).map fun k:Nat=>.int (lo+(k:Int)*c)
end
structure Fn (P:Vh) (w:Vs) (K:Xb) (mg:Str->Option Vb) (base:Vy) (k:Nat) (x:Str) (ps:List Str) (F:FF):Prop where
 ex:∃ f fd,FnOk P w K mg base CX0 k f fd ps (spF K ps.length F)/\Zj2 K fd ps []/\Wcb K (.ref f)=true/\mg x=some (.ref f)/\∃ (oc:Vb) (od:Option Ve) (osl:Array (Option Vb)),K.lookup f=some ⟨oc,od,.func fd,osl⟩
theorem Zam {X:Cx} {k n:Nat} {ps:List Str} {x:Str} {p pos:Pos} {F:FF} {fa:AF} {e:Vv} {es:List Vv} (G:Fn X.prog X.w X.K X.mg X.base k x ps F) (hr:Room k X.A) (hg:Gl X x)
  (ha:PAf X (e::es) fa) (hdb:(x==("__debug__" : Str))=false:=by decide) (he:Vf (e::es) X.env=(false,eval e X.env)::Vf es X.env:=by exact Zbr rfl) (hpl:(Uag pos (Vf es X.env)).any (·.1)=false:=by exact Zct rfl) (hn:ps.length=n:=by rfl) :
  PEf X (.Call (.Name x p) (e::es) [] pos) (Zal n F fa):=by
 subst hn
 obtain⟨f,fd,G1,hb,hk,hm,_⟩:=G.ex
 exact Zwh G1 hr hg hm hk hb ha hdb he hpl
def Tf (K:Xb) (mg:Str->Option Vb) (x:Str) (st:Uae):Prop:=∃ f fd,Fun K x x st f fd/\mg x=some (.ref f)
theorem us0 {us:List Vb} (h:us.length=0):us=[]:=List.length_eq_zero_iff.mp h
theorem us1 {us:List Vb} (h:us.length=1):∃ a,us=[a]:=by
 obtain⟨a,r⟩:=Wal h
 obtain⟨t,rfl⟩:=r
 rw[us0 (us:=t) (by simpa using h)]
 exact⟨a,rfl⟩
theorem us2 {us:List Vb} (h:us.length=2):∃ a b,us=[a,b]:=by
 obtain⟨a,t,rfl⟩:=Wal h
 obtain⟨b,rfl⟩:=us1 (us:=t) (by simpa using h)
 exact⟨a,b,rfl⟩
theorem us3 {us:List Vb} (h:us.length=3):∃ a b c,us=[a,b,c]:=by
 obtain⟨a,t,rfl⟩:=Wal h
 obtain⟨b,c,rfl⟩:=us2 (us:=t) (by simpa using h)
 exact⟨a,b,c,rfl⟩
theorem us4 {us:List Vb} (h:us.length=4):∃ a b c d,us=[a,b,c,d]:=by
 obtain⟨a,t,rfl⟩:=Wal h
 obtain⟨b,c,d,rfl⟩:=us3 (us:=t) (by simpa using h)
 exact⟨a,b,c,d,rfl⟩
theorem us5 {us:List Vb} (h:us.length=5):∃ a b c d e,us=[a,b,c,d,e]:=by
 obtain⟨a,t,rfl⟩:=Wal h
 obtain⟨b,c,d,e,rfl⟩:=us4 (us:=t) (by simpa using h)
 exact⟨a,b,c,d,e,rfl⟩
theorem tf_mk {K:Xb} {h:Vy} {mg:Str->Option Vb} {x:Str} {st:Uae} {f:Ve} {oc:Vb} {od an:Option Ve} {osl:Array (Option Vb)} {kV doc pm cdv ct:Vb} (X:K.In h) (G:h.Ns Vp mg)
  (a:Wcx K Vp x=some (some (.ref f))) (l:K.lookup f=some ⟨oc,od,.func (Wby x x (Zgd st) (Zdl st) (Zad st) .none kV doc pm an cdv ct),osl⟩)
  (c:Wdn K cdv x=true) (k:Wcb K (.ref f)=true):Tf K mg x st:=⟨f,_,Ydb l c k,Wfo X G a⟩
theorem Zay {P:Vh} {w:Vs} {K:Xb} {mg:Str->Option Vb} {base:Vy} {x:Str} {st:Uae} {N ps:List Str} {k:Nat} {b:SF} (T:Tf K mg x st) (S:FnScope N ps (Zad st))
  (hbd:∀ (kV doc pm:Vb) (an:Option Ve) (cdv ct:Vb) (us:List Vb),us.length=ps.length->bindArgs (Wby x x (Zgd st) (Zdl st) (Zad st) .none kV doc pm an cdv ct) ⟨us,[]⟩=pure (ps.zip us))
  (hb:∀ (f:Ve) (cdv:Vb) (A:Vw) (outer:List Env) (s:Vd) (H:Hp) (E:XK),Room k (A.deeper (Uch x (Zad st) s.heap.objs.size f cdv)) ->
   Zrr (Zu1 CX0 P w K mg base N x (Zad st) f cdv A outer s H E).nox (Zdl st) b):Fn P w K mg base (k+1) x ps (Zaw ps.length N.length b):=by
 obtain⟨f,fd,F,hm⟩:=T
 refine⟨f,fd,fn_f F S fun cdv A outer s H E hr=>hb f cdv A outer s H E hr,F.binds hbd,F.kp,hm,?_⟩
 obtain⟨oc,od,kV,doc,pm,an,cdv,ct,osl,rfl,lk,hcd⟩:=F.ex
 exact⟨oc,od,osl,lk⟩
nonrec def blkB (sc scope:Ucz) (N:List Str) (x:Str) (cn:List Str) (ci:List Nat):Bool :=
 (scope.kind==.function)&&scope.names.all (fun y=>y.2 != .cell)&&scope.names.all (fun y=>y.2 != .local||scope.names.lookup y.1==some .local)&&(scope.names.lookup x==some .local) &&
 scope.names.all (fun y=>y.2 != .free||sc.names.lookup y.1==some .cell)&&decide (x::cn).Nodup&&(ci.length==cn.length) &&
 (cn.zip ci).all (fun p=>N[p.2]? == some p.1&&scope.names.lookup p.1==some .free&&sc.names.lookup p.1==some .cell)
theorem Zdd {P:Vh} {w:Vs} {K:Xb} {mg:Str->Option Vb} {base:Vy} {N:List Str} {qual:Str} {sc scope:Ucz} {f:Ve} {cdv:Vb} {A:Vw} {outer:List Env} {s:Vd} {H:Hp} {E:XK} {x:Str} {cn:List Str} {ci:List Nat}
  (h:blkB sc scope N x cn ci=true):BlkOk (Zu1 CX0 P w K mg base N qual sc f cdv A outer s H E).nox scope x cn ci:=by
 unfold blkB at h
 simp only[Wad,Waf,Wfg,bne_iff_ne,ne_eq,beq_iff_eq,decide_eq_true_eq] at h
 obtain⟨⟨⟨⟨⟨⟨⟨h1,h2⟩,h3⟩,h4⟩,h5⟩,h6⟩,h7⟩,h8⟩:=h
 refine⟨h1,fun y hy=>h2 y hy,fun y hy hl=>(h3 y hy).resolve_left fun z=>z hl,h4,fun y hy hf=>?_,h6,h7,fun j y hj=>?_⟩
 ·have:=(h5 y hy).resolve_left fun z=>z hf
  obtain⟨c,hc⟩:=Zld (n:=s.heap.objs.size+1) this
  exact Wbj.mpr ⟨c,hc⟩
 ·have hl:j<ci.length:=by rw[h7]; exact(Xc.mp hj).1
  have hm:(y,ci[j])∈cn.zip ci:=by
   refine Weh.mpr ⟨j,?_⟩
   rw[List.getElem?_zip_eq_some]
   exact⟨hj,by simp[hl]⟩
  obtain⟨⟨k1,k2⟩,k3⟩:=h8 _ hm
  exact⟨ci[j],by simp[hl],k1,k2,.inl k3⟩
theorem Zxi:Vq "len" = some (.builtin "len"):=by decide +kernel
theorem Ztf:Vq "abs" = some (.builtin "abs"):=by decide +kernel
theorem Ybj:Vq "max" = some (.builtin "max"):=by decide +kernel
theorem Znv:Vq "sorted" = some (.builtin "sorted"):=by decide +kernel
theorem Zlp:Vq "isinstance" = some (.builtin "isinstance"):=by decide +kernel
theorem Zpo:Vq "int" = some (.type "int"):=by decide +kernel
theorem Zk8:Vq "tuple" = some (.type "tuple"):=by decide +kernel
theorem Zs1:Vq "list" = some (.type "list"):=by decide +kernel
theorem Zoe:Vq "bool" = some (.type "bool"):=by decide +kernel
theorem Ycg:Vq "str" = some (.type "str"):=by decide +kernel
section
variable {X:Cx} {tg:Vv}
theorem Zzs {K:Xb} {H0:Hp} {ι0:List Ve} {a:Ve} {xs:List D} {vs:List V} (hS:SqT K H0 a vs) (P:Vj (Rep K H0 ι0) xs vs):ItRep K (Itt K a) xs [] H0 ι0:=by
 refine⟨fun i H2 ι2 Hd2 l2 h2 _ hi=>?_,fun i H2 ι2 Hd2 d x H3 l2 h2 _ hd y=>?_,fun i H2 ι2 Hd2 l2 h2 _ hi=>⟨vs,l2.tup a vs hS,by rw[<- Prd.len P]; exact hi⟩⟩
 ·exact⟨vs,vs[i]'(by rw[<- Prd.len P]; exact hi),l2.tup a vs hS,by simp⟩
 ·obtain⟨rfl,y⟩:=y
  obtain⟨u,hu,ru⟩:=Prd.get P hd
  have:=y vs (l2.tup a vs hS)
  rw[hu] at this
  cases this
  exact⟨ι2,Le.refl,h2,ru.mono l2⟩
theorem Ycx {K:Xb} {H0:Hp} {ι0:List Ve} {a:Ve} {xs:List D} {vs:List V} (hS:FzL K H0 a vs) (P:Vj (Rep K H0 ι0) xs vs):ItRep K (Itl K a) xs [] H0 ι0:=by
 refine⟨fun i H2 ι2 Hd2 l2 h2 _ hi=>?_,fun i H2 ι2 Hd2 d x H3 l2 h2 _ hd y=>?_,fun i H2 ι2 Hd2 l2 h2 _ hi=>⟨vs,(l2.fz a vs hS).sq,by rw[<- Prd.len P]; exact hi⟩⟩
 ·exact⟨vs,vs[i]'(by rw[<- Prd.len P]; exact hi),(l2.fz a vs hS).sq,by simp⟩
 ·obtain⟨rfl,y⟩:=y
  obtain⟨u,hu,ru⟩:=Prd.get P hd
  have:=y vs (l2.fz a vs hS).sq
  rw[hu] at this
  cases this
  exact⟨ι2,Le.refl,h2,ru.mono l2⟩
theorem Yaf {K:Xb} {H0:Hp} {ι0:List Ve} {a:Ve} {n:Nat} {xs:List D} (ha:ι0[n]? = some a):ItRep K (Itl K a) xs [(n,.lst xs)] H0 ι0:=by
 have now:∀ {H2:Hp} {ι2:List Ve} {Hd2:HD},Le K H0 ι0 H2 ι2->HRep K H2 ι2 Hd2->Zcd [(n,DO.lst xs)] Hd2->∃ ws,H2 a=some (.lst ws)/\Vj (Rep K H2 ι2) xs ws:=fun {H2 ι2 Hd2} l2 h2 ok =>
  h2.obj n a _ (l2.get ha) (ok (n,.lst xs) (by simp))
 refine⟨fun i H2 ι2 Hd2 l2 h2 ok hi=>?_,fun i H2 ι2 Hd2 d x H3 l2 h2 ok hd y=>?_,fun i H2 ι2 Hd2 l2 h2 ok hi=>?_⟩
 ·obtain⟨ws,h3,P3⟩:=now l2 h2 ok
  exact⟨ws,ws[i]'(by rw[<- Prd.len P3]; exact hi),SqL.of h3,by simp⟩
 ·obtain⟨ws,h3,P3⟩:=now l2 h2 ok
  obtain⟨rfl,y⟩:=y
  obtain⟨u,hu,ru⟩:=Prd.get P3 hd
  have:=y ws (SqL.of h3)
  rw[hu] at this
  cases this
  exact⟨ι2,Le.refl,h2,ru⟩
 ·obtain⟨ws,h3,P3⟩:=now l2 h2 ok
  exact⟨ws,SqL.of h3,by rw[<- Prd.len P3]; exact hi⟩
nonrec def iSq (f:EF):ItF:=fun σ H=>(f σ H).bind fun p=>(Zjq p.1 p.2).map fun r=>(r,p.2)
theorem Zer {l:Vv} {f:EF} (hl:PEf X l f):PIf X tg l (iSq f):=by
 rintro pins s σ H R I ⟨ι,σd,Hd,xs,own,Hd',sr,hr,e,q⟩
 obtain⟨⟨d,H1⟩,e1,e⟩:=Zo e
 obtain⟨⟨ys,ow⟩,e2,e⟩:=Zm e
 obtain⟨e3,rfl⟩:=Wba.inj e
 obtain⟨rfl,rfl⟩:=Wba.inj e3
 refine thn (hl pins s σ H (fun v H1=>∃ a,v=.ref a/\(((∃ xs,SqL X.K H1 a xs)/\R (Itl X.K a) H1)\/((∃ xs,SqT X.K H1 a xs)/\R (Itt X.K a) H1))) I ⟨ι,σd,Hd,_,_,sr,hr,e1,fun v H' ι' l h r=>?_⟩) fun v s1 ⟨x,H2,I2,r2,q2⟩=>?_
 ·cases d with
  | tup zs =>
   cases e2
   obtain⟨a,vs,rfl,hS,P⟩:=Za5.mp r
   exact⟨a,rfl,.inr ⟨⟨vs,hS⟩,q _ H' ι' l h (Zzs hS P)⟩⟩
  | fl zs =>
   cases e2
   obtain⟨a,vs,rfl,hS,P⟩:=Zg9.mp r
   exact⟨a,rfl,.inl ⟨⟨vs,hS.sq⟩,q _ H' ι' l h (Ycx hS P)⟩⟩
  | ref n =>
   simp only[Zjq] at e2
   split at e2
   ·rename_i zs eo
    obtain⟨e5,e6⟩:=Wba.inj (Xy.inj e2)
    subst e5 e6
    obtain⟨a,rfl,ha⟩:=Zat.mp r
    obtain⟨vs,h1,P⟩:=h.obj n a _ ha eo
    exact⟨a,rfl,.inl ⟨⟨vs,SqL.of h1⟩,q _ H' ι' l h (Yaf ha)⟩⟩
   ·cases e2
  | _=>simp[Zjq] at e2
 ·obtain⟨a,rfl,q2⟩:=q2
  cases r2
  have fp:∀ b∈[s1.heap.objs.size],Zo3 X pins H2 b:=fun b hb=>by
   have e:b=s1.heap.objs.size:=by simpa using hb
   subst e
   exact I2.fpOk (Xe _) (I2.hok.fresh (Xe _))
  rcases q2 with ⟨⟨xs,hq⟩,q2⟩ | ⟨⟨xs,hq⟩,q2⟩
  ·obtain⟨its,rv,p,hz⟩:=I2.list hq
   exact Uan p.isList ⟨s1.heap.objs.size,[s1.heap.objs.size],_,_,H2,rfl,I2.kept (t':=s1.toks) fun b o e=>Xa _ e,Ztj a _,⟨_,Xf _ rfl,rfl,rfl⟩,fp,q2⟩
  ·obtain⟨its,rv,p,hz⟩:=I2.tuple hq
   exact Uad (show s1.heap.IsTuple a its.toArray from p) ⟨s1.heap.objs.size,[s1.heap.objs.size],_,_,H2,rfl,I2.kept (t':=s1.toks) fun b o e=>Xa _ e,Zrl a _,⟨_,Xf _ rfl,rfl,rfl⟩,fp,q2⟩
end
theorem paf_c {X:Cx} {e:Vv} {es:List Vv} {f:EF} {g:AF} (ha:PEf X e f) (hr:PAf X es g) (hs:Zpk e=true):PAf X (e::es) (Zaa f g):=Zvt ha hr (Zbr hs)
nonrec def Yat (F:FF) (K:Xb):Sp:=spF K 1 F
theorem Zr6 {F:FF} (h:∀ ns:List Int,ns.length<=63->∃ Hd',F [.fl (ns.map .int)] []=some (.bl true,Hd')) :
  ∀ (K:Xb) (H:Hp) (a:Ve) (ns:List Int),ns.length<=63->Yau H->SqL K H a (ns.map V.int)->Yat F K [.ref a] H (fun v _=>v=.bl true) fun _ _ _=>False:=by
 intro K H a ns hl hO hS
 obtain⟨Hd',e⟩:=h ns hl
 have fz:FzL K H a (ns.map V.int):=by
  rcases hS with (h | h) | h
  ·rcases hO a with z | ⟨o,xs,z⟩
   ·rw[h] at z; cases z
   ·rw[h] at z; cases z
  ·exact .inl h
  ·exact .inr h
 have P:Vj (Rep K H []) (ns.map D.int) (ns.map V.int):=by
  generalize ns=ks
  induction ks with
  | nil=>exact .nil
  | cons k ks ih=>exact .cons (by simp) ih
 refine⟨[],[.fl (ns.map .int)],[],.bl true,Hd',rfl,⟨rfl,Wfm,fun n a o h1 h2=>by simp at h1⟩,.cons (Zg9.mpr ⟨a,_,rfl,fz,P⟩) .nil,e,fun v H' ι' l h r=>by simpa using r⟩
variable {X:Cx}
variable {X:Cx}
section
variable {a b c:Vv} {pos:Pos}
nonrec def eCh (g g':F2) (fa fb fc:EF):EF:=fun σ H=>(fa σ H).bind fun p=>(fb σ p.2).bind fun q=>(g p.1 q.1 q.2).bind fun z=>(blD z.1).bind fun k=>if k=true then (fc σ z.2).bind fun w=>g' q.1 w.1 w.2 else some (.bl false,z.2)
theorem Zu8 {fa fb fc:EF} {g g':F2} {σ:L2.St} {H:Hp} {Q:VK} {K:Xb} (h:rdE K (eCh g g' fa fb fc) σ H Q):Zxr (rd2 K g) (rd2 K g') (rdE K fa) (rdE K fb) (rdE K fc) σ H Q:=by
 obtain⟨ι,σd,Hd,d,Hd',s,hr,e,q⟩:=h
 obtain⟨⟨x,H1⟩,e1,e⟩:=Zo e
 obtain⟨⟨y,H2⟩,e2,e⟩:=Zo e
 obtain⟨⟨z,H3⟩,e3,e⟩:=Zo e
 obtain⟨k,e4,e⟩:=Zo e
 refine⟨ι,σd,Hd,x,H1,s,hr,e1,fun v1 H1' ι1 l1 h1 r1=>⟨ι1,σd,H1,y,H2,s.mono l1,h1,e2,fun v2 H2' ι2 l2 h2 r2=>⟨ι2,x,y,H2,z,H3,h2,r1.mono l2,r2,e3,fun v3 H3' ι3 l3 h3 r3=>⟨k,Zlr e4 r3,?_⟩⟩⟩⟩
 cases k with
 | true =>
  rw[if_pos rfl] at e ⊢
  obtain⟨⟨u,H4⟩,e5,e⟩:=Zo e
  exact⟨ι3,σd,H3,u,H4,s.mono ((l1.trans l2).trans l3),h3,e5,fun v4 H4' ι4 l4 h4 r4=>⟨ι4,y,u,H4,d,Hd',h4,r2.mono (l3.trans l4),r4,e,fun v H' ι' l h r=>q v H' ι' ((((l1.trans l2).trans l3).trans l4).trans l) h r⟩⟩
 | false =>
  rw[if_neg (by simp)] at e ⊢
  obtain⟨rfl,rfl⟩:=Wba.inj (Xy.inj e)
  exact q _ H3' ι3 ((l1.trans l2).trans l3) h3 (by simp)
theorem Zjm {op op':CmpOp} {g g':F2} {fa fb fc:EF} (ho:OpF X (Vr op) g) (ho':OpF X (Vr op') g') (ha:PEf X a fa) (hb:PEf X b fb) (hc:PEf X c fc)
  (hm:lastMarks [op,op'] [b,c]=false):PEf X (.Compare a [op,op'] [b,c] pos) (eCh g g' fa fb fc) :=
 PEi (Zv1 ho ho' ha hb hc hm) fun _ _ _ h=>Zu8 h
end
def Gc (K:Xb) (mg:Str->Option Vb) (x:Str) (d:D):Prop:=∃ u v,mg x=some u/\Zch v u/\∀ H ι,Rep K H ι d v
theorem Zxn {x:Str} {d:D} {pos:Pos} (hg:Gl X x) (h:Gc X.K X.mg x d) (hd:(x==("__debug__" : Str))=false:=by decide):PEf X (.Name x pos) (eC d):=by
 obtain⟨u,v,hm,r,rp⟩:=h
 exact Zov (Zum (v:=v) hg hm r hd) rp
variable {X:Cx}
nonrec def Zbf (kvs:List (D×D)) (k:List Int):Option D:=(kvs.find? fun p=>nk p.1==some k).map (·.2)
nonrec def Zrn (kvs:List (D×D)) (kd:D) (k:List Int) (vd:D):List (D×D) :=
 if (Zbf kvs k).isSome then kvs.map (fun p=>if nk p.1=some k then (p.1,vd) else p) else kvs++[(kd,vd)]
section
variable {K:Xb} {H:Hp} {ι:List Ve}
theorem Zje {kvs:List (D×D)} {xs:List (List Int×Ve×Vb)} (h:Vj (Zrt K H ι) kvs xs) (k:List Int) :
  (Zbf kvs k=none/\atKey xs k=none)\/∃ vd b u v,Zbf kvs k=some vd/\atKey xs k=some (b,u)/\Zch v u/\Rep K H ι vd v:=by
 unfold Zbf atKey
 induction h with
 | nil=>exact .inl ⟨rfl,rfl⟩
 | @cons p x ps ys r t ih =>
  obtain⟨r1,r2,v,r3,r4⟩:=r
  by_cases hk:x.1=k
  ·have e1:(nk p.1==some k)=true:=by rw[r1,hk]; simp
   refine .inr ⟨p.2,x.2.1,x.2.2,v,?_,?_,r3,r4⟩
   ·rw[Wco]; simp only[e1]; rfl
   ·rw[Wco]; simp only[hk,decide_true]; rfl
  ·have e1:¬ (nk p.1==some k)=true:=by rw[r1]; simpa using hk
   have e1':(nk p.1==some k)=false:=by simpa using e1
   have e2':decide (x.1=k)=false:=decide_eq_false hk
   rw[Wco,Wco]
   simp only[e1',e2']
   exact ih
theorem Zw4 {kvs:List (D×D)} {xs:List (List Int×Ve×Vb)} {kd vd:D} {k:List Int} {b:Ve} {u:Vb} {v:V} (h:Vj (Zrt K H ι) kvs xs) (h1:nk kd=some k) (h2:Rep K H ι kd (.ref b)) (rv:Zch v u) (r:Rep K H ι vd v) :
  Vj (Zrt K H ι) (Zrn kvs kd k vd) (Udz xs k b u):=by
 have all:∀ {ls:List (D×D)} {ys:List (List Int×Ve×Vb)},Vj (Zrt K H ι) ls ys->Vj (Zrt K H ι) (ls.map (fun p=>if nk p.1=some k then (p.1,vd) else p)) (ys.map (putAt k u)):=by
  intro ls ys q
  induction q with
  | nil=>exact .nil
  | @cons p x ps zs r' t ih =>
   refine .cons ?_ ih
   obtain⟨r1,r2,r3⟩:=r'
   unfold putAt
   by_cases hk:x.1=k
   ·have e:nk p.1=some k:=by rw[r1,hk]
    show Zrt K H ι (if nk p.1=some k then (p.1,vd) else p) (if x.1=k then (x.1,x.2.1,u) else x)
    rw[if_pos hk,if_pos e]
    exact⟨r1,r2,v,rv,r⟩
   ·have e:¬ nk p.1=some k:=by rw[r1]; simpa using hk
    show Zrt K H ι (if nk p.1=some k then (p.1,vd) else p) (if x.1=k then (x.1,x.2.1,u) else x)
    rw[if_neg hk,if_neg e]
    exact⟨r1,r2,r3⟩
 unfold Zrn Udz
 rcases Zje h k with ⟨e1,e2⟩ | ⟨_,_,_,_,e1,e2,_⟩
 ·rw[e1,e2]
  exact Prd.append h (.cons ⟨h1,h2,v,rv,r⟩ .nil)
 ·rw[e1,e2]
  exact all h
theorem Zu6 (kvs:List (D×D)) (kd:D) (k:List Int) (vd:D):(Zrn kvs kd k vd).length<=kvs.length+1:=by
 unfold Zrn; split<;>simp
end
section
variable {pins:List (Ve×Obj)} {σ:L2.St} {H:Hp} {s:Vd} {ι:List Ve} {Hd:HD}
theorem Yc4 {d:D} {v:V} {u:Vb} {k:Int} {K:Xb} (e:nkOf d=some k) (r:Rep K H ι d v) (q:Zch v u):Zm1 k u=true:=by
 cases d with
 | bl b=>cases e; simp at r; subst r; cases q; simp[Zm1,Zr7]
 | int i=>cases e; simp at r; subst r; obtain⟨t,rfl⟩:=q; simp[Zm1,Zr7]
 | _=>cases e
theorem Zmz {P:Vh} {w:Vs} {K:Xb}:∀ {ds:List D} {vs:List V} {us:List Vb} {ks:List Int},Zn6 ds=some ks->Vj (Rep K H ι) ds vs->Zb6 vs us->ItemsAre (Zcn P w) ks us
 | [],vs,us,ks,e,p,q=>by cases e; cases p; cases q; exact .nil
 | d::ds,vs,us,ks,e,p,q=>by
  cases p with
  | cons p1 p2 =>
   cases q with
   | cons q1 q2 =>
    simp only[Zn6] at e
    obtain⟨k,e1,e⟩:=Zo e
    obtain⟨r,e2,rfl⟩:=Zm e
    exact .cons (Yc4 e1 p1 q1) (Zmz e2 p2 q2)
theorem Zpq (I:Inv X pins σ H s) {d:D} {k:List Int} {b:Ve} (e:nk d=some k) (r:Rep X.K H ι d (.ref b)):(Ubg (Zcn X.prog X.w)).is s.heap k b:=by
 cases d<;>simp only[nk] at e<;>try cases e
 rename_i ds
 obtain⟨a,vs,ea,h,P⟩:=Za5.mp r
 cases ea
 obtain⟨its,rv,ht,hz⟩:=I.tuple h
 obtain⟨o,h1,h2,n,h3⟩:=ht
 exact⟨o,its.toArray,n,h1,h2,h3,by simpa using Zmz e P rv⟩
theorem Zkf (I:Inv X pins σ H s) {a:Ve} {kvs:List (D×D)} {fz:Bool} (h:Zrp X.K H ι a (.dic kvs fz)):(a==Uab)=false/\kvs.length<=sizeLine/\∃ xs,(if fz=true then ∃ o,H a=some (.frz o (.ext (Zcv a xs))) else H a=some (.ext (Zcv a xs)))/\Vj (Zrt X.K H ι) kvs xs/\s.heap.DictOfH (Ubg (Zcn X.prog X.w)) a xs:=by
 obtain⟨h1,h2,xs,e,p⟩:=h
 have rd:Rd H a (.ext (Zcv a xs)):=by
  cases fz with
  | true=>rw[if_pos rfl] at e; exact .inr e
  | false=>rw[if_neg (by simp)] at e; exact .inl e
 obtain⟨⟨o,es,ep,g1,g2,g3,g4,g5⟩,_⟩:=(show Zc8 X.prog X.w H s.heap a (.ext (Zcv a xs)) from rd.ok I.hok)
 refine⟨h1,h2,xs,e,p,o,es,ep,g1,g2,g3,g4,?_,g5⟩
 have all:∀ {l:List (D×D)} {m:List (List Int×Ve×Vb)},Vj (Zrt X.K H ι) l m->∀ x∈m,(Ubg (Zcn X.prog X.w)).is s.heap x.1 x.2.1:=by
  intro l m q
  induction q with
  | nil=>intro x hx; exact nomatch hx
  | @cons p x ps qs hq t ih =>
   intro y hy
   rcases Xh.mp hy with e | hy
   ·subst e
    exact Zpq I hq.1 hq.2.1
   ·exact ih y hy
 exact all p
end
nonrec def Zx7 (x:D) (H:HD):Option (List (D×D)):=match x with
 | .ref n=>match H[n]? with
  | some (.dic kvs _)=>some kvs
  | _=>none
 | _=>none
theorem Zir {x:D} {Hd:HD} {kvs:List (D×D)} (e:Zx7 x Hd=some kvs):∃ n fz,x=.ref n/\Hd[n]? = some (.dic kvs fz):=by
 cases x<;>simp only[Zx7] at e<;>try cases e
 rename_i n
 split at e
 ·rename_i fz h; cases e; exact⟨n,fz,rfl,h⟩
 ·cases e
nonrec def Zn2:F2:=fun x y H=>(Zx7 x H).bind fun kvs=>(nk y).bind fun k=>(Zbf kvs k).map fun v=>(v,H)
theorem Zs3 {K:Xb} {H:Hp} {ι:List Ve} {d:D} {k:List Int} {v:V} (e:nk d=some k) (r:Rep K H ι d v):∃ b,v=.ref b:=by
 cases d<;>simp only[nk] at e<;>try cases e
 obtain⟨a,vs,rfl,_⟩:=Za5.mp r
 exact⟨a,rfl⟩
theorem Yba (hu:X.A.units+64<cLine):IxF X Zn2:=by
 rintro va sl pins s σ H x y v u Q I rx ry ⟨ι,dx,dy,Hd,d,Hd',hr,r1,r2,e,q⟩ hs
 obtain⟨kvs,e1,e⟩:=Zo e
 obtain⟨k,e2,e⟩:=Zo e
 obtain⟨vd,e3,e⟩:=Zm e
 obtain⟨rfl,rfl⟩:=Wba.inj e
 obtain⟨n,fz,rfl,hn⟩:=Zir e1
 obtain⟨a,rfl,ha⟩:=Zat.mp r1
 obtain⟨b,rfl⟩:=Zs3 e2 r2
 cases rx
 cases ry
 obtain⟨h1,h2,xs,h3,P,dd⟩:=Zkf I (hr.obj n a _ ha hn)
 have key:=Zpq I e2 r2
 rcases Zje P k with ⟨z,_⟩ | ⟨vd',b',u',v',z1,z2,z3,z4⟩
 ·rw[z] at e3; cases e3
 ·rw[z1] at e3; cases e3
  have ty:s.TypeIs (.ref a) "dict" := dd.typeIs
  refine tail_any (ops:=[.ref a,.ref b]) ty PySem.F.slot_dict_getitem.lookup (wpAny_getItem_heap (knd:=Ubg (Zcn X.prog X.w)) (tupleKind_room_in1 (by omega)) key dd z2 ?_) hs
  exact⟨v',H,I.tok _,z3,q _ H ι Le.refl hr z4⟩
nonrec def dinD:F2:=fun x y H=>(Zx7 y H).bind fun kvs=>(nk x).map fun k=>(.bl (Zbf kvs k).isSome,H)
theorem dinf (hu:X.A.units+64<cLine):OpF X (Vr .In) dinD:=by
 rintro pins s σ H x y v u Q I rx ry ⟨ι,dx,dy,Hd,d,Hd',hr,r1,r2,e,q⟩
 obtain⟨kvs,e1,e⟩:=Zo e
 obtain⟨k,e2,e⟩:=Zm e
 obtain⟨rfl,rfl⟩:=Wba.inj e
 obtain⟨n,fz,rfl,hn⟩:=Zir e1
 obtain⟨a,rfl,ha⟩:=Zat.mp r2
 obtain⟨b,rfl⟩:=Zs3 e2 r1
 cases rx
 cases ry
 obtain⟨h1,h2,xs,h3,P,dd⟩:=Zkf I (hr.obj n a _ ha hn)
 refine wpAny_in_heap (knd:=Ubg (Zcn X.prog X.w)) (tupleKind_room_in1 (by omega)) (Zpq I e2 r1) h1 dd ?_
 have e3:(atKey xs k).isSome=(Zbf kvs k).isSome:=by
  rcases Zje P k with ⟨z1,z2⟩ | ⟨_,_,_,_,z1,z2,_⟩<;>rw[z1,z2]<;>rfl
 rw[e3]
 exact⟨.bl _,H,I.tok _,rfl,q _ H ι Le.refl hr (by simp)⟩
nonrec def eDN:EF:=fun _ H=>some (.ref H.length,H++[.dic [] false])
theorem Zpi {pos:Pos}:PEf X (.Dict [] [] pos) eDN:=by
 rintro pins s σ H Q I ⟨ι,σd,Hd,d,Hd',sr,hr,e,q⟩
 cases e
 have hb:Uab<s.heap.objs.size:=Nat.lt_trans (by decide) (show Vp<s.heap.objs.size from(I.mod.glob.keeps I.bk).lt)
 have hp:=I.hok.fresh (Xe s.heap.objs.size)
 have ok:Zc8 X.prog X.w (upd H s.heap.objs.size (.ext (Zcv s.heap.objs.size []))) (s.heap.push { cls:=.type "dict",data:=.dict #[] }) s.heap.objs.size (.ext (Zcv s.heap.objs.size [])) :=
  ⟨⟨_,#[],0,Xf _ rfl,⟨rfl,rfl,rfl⟩,rfl,rfl,Wfm⟩,⟨_,Xf _ rfl⟩,fun h1 h2 d k=>Zcv.keep d k⟩
 refine wpAny_Dict_empty ⟨.ref s.heap.objs.size,_,I.laid (a:=s.heap.objs.size) (o:=.ext (Zcv s.heap.objs.size [])) (t':=s.toks) (fun _ _ q=>Xa _ q) (Xe _) ok,rfl,?_⟩
 have hl:ι.length=Hd.length:=hr.len
 refine q _ _ (ι++[s.heap.objs.size]) (Le.fresh1 hp _) (hr.new hp ⟨beq_eq_false_iff_ne.mpr (Uo (Xq hb)),Wbs _,[],by rw[if_neg (by simp)]; exact Zav,.nil⟩) (Zat.mpr ⟨_,rfl,by rw[<- hl]; simp⟩)
theorem Zuf {pins:List (Ve×Obj)} {σ:L2.St} {H:Hp} {s:Vd} {a:Ve} {xs xs':List (List Int×Ve×Vb)} {h':Vy} {t':Nat} (I:Inv X pins σ H s) (h3:H a=some (.ext (Zcv a xs))) (dd:h'.DictOfH (Ubg (Zcn X.prog X.w)) a xs') (hs:Xx a s.heap h') :
  Inv X pins σ (upd H a (.ext (Zcv a xs'))) { s with heap:=h',toks:=t' }:=by
 obtain⟨o,es,ep,g1,g2,g3,g4,_,g5⟩:=dd
 have ok:Zc8 X.prog X.w (upd H a (.ext (Zcv a xs'))) h' a (.ext (Zcv a xs')):=⟨⟨o,es,ep,g1,g2,g3,g4,g5⟩,⟨o,g1⟩,fun h1 h2 d k=>Zcv.keep d k⟩
 exact I.write (x:=a) (e:=a) (by rw[h3]; exact Tbd) (.inl rfl) (fun b q hb z=>(hs.2 b hb).trans z) ⟨o,g1⟩ ok
theorem Zzw {H:Hp} {ι:List Ve} {Hd:HD} {n:Nat} {a:Ve} {kvs:List (D×D)} {xs:List (List Int×Ve×Vb)} {kd vd:D} {k:List Int} {b:Ve} {u:Vb} {v:V} (hr:HRep X.K H ι Hd) (ha:ι[n]? = some a) (h1:(a==Uab)=false) (hl:kvs.length<sizeLine) (h3:H a=some (.ext (Zcv a xs))) (P:Vj (Zrt X.K H ι) kvs xs) (e2:nk kd=some k) (r2:Rep X.K H ι kd (.ref b)) (rv:Zch v u) (r3:Rep X.K H ι vd v) :
  Le X.K H ι (upd H a (.ext (Zcv a (Udz xs k b u)))) ι/\HRep X.K (upd H a (.ext (Zcv a (Udz xs k b u)))) ι (Hd.set n (.dic (Zrn kvs kd k vd) false)):=by
 have L:Le X.K H ι (upd H a (.ext (Zcv a (Udz xs k b u)))) ι:=Le.upd (Wae ha) h3 trivial _
 refine⟨L,hr.upd ha h3 trivial ⟨h1,?_,_,by rw[if_neg (by simp)]; exact Zav,?_⟩⟩
 ·have:=Zu6 kvs kd k vd; omega
 ·refine Zw4 (Prd.imp P fun p x _ z=>⟨z.1,z.2.1.mono L,let ⟨v,z1,z2⟩:=z.2.2; ⟨v,z1,z2.mono L⟩⟩) e2 (r2.mono L) rv (r3.mono L)
section
variable {prog:Vh} {w:Vs} {kd:HeapKind prog w (List Int)} {A:Vw} {E:Vb->Vd->Prop} {s:Vd}
theorem Zoi {d b:Ve} {xs:List (List Int×Ve×Vb)} {k:List Int} {v:Vb} {Q:Vb->Vd->Prop} (rm:kd.room A) (key:kd.is s.heap k b) (dm:s.heap.DictOfH kd d xs) (sz:xs.length<=sizeLine)
  (old:∀ p,atKey xs k=some p->Q p.2 { s with toks:=s.toks+kd.draws k })
  (new:atKey xs k=none->∀ h2,h2.DictOfH kd d (Udz xs k b v)->Xx d s.heap h2->Q v { s with heap:=h2,toks:=s.toks+kd.draws k }) :
  Vg (Vn prog w) A (Ucy d (.ref b) v) Q E s:=by
 obtain⟨ob,es,ep,g1,g2,g3,g4,g5,g6⟩:=dm
 unfold Ucy
 refine Vx (Va (kd.pyHash rm key (Va (wpAny_dictFind_heap (s:={ s with toks:=s.toks+kd.draws k }) rm key g1 g3 g4 g5 g6 (fun no=>?_) (fun j p hj=>?_)))))
 ·have em:=atKey_none_of_get no
  have sm:∀ f,Xx d s.heap (s.heap.update d f):=fun f=>Xx.update ..
  have len:=size_of_entries g4
  refine Va (Ubf (Va (wpAny_updateDictKeys (s:={ s with toks:=s.toks+kd.draws k }) (hz:=by omega) g1 g3 (Vc (new em _ ?_ (sm _))))))
  refine⟨_,_,ep+1,Wcy _ g1 (Obj.isFreed_of_dict (Tch g3 _)),g2.mapDictKeys _,Tch g3 _,?_⟩
  rw[storedH_new em]
  refine⟨by simp[g4,entryOfKey],fun x hx=>?_,?_⟩
  ·have one:kd.is s.heap x.1 x.2.1:=by
    rcases Xn.mp hx with hx | hx
    ·exact g5 x hx
    ·rw[Wbc.mp hx]; exact key
   exact kd.keeps one g1 g3 (sm _)
  ·have nm:=not_mem_keys_of_get no
   rw[Wah,Wbq]
   refine⟨g6,by simp,fun x hx y hy e=>nm ?_⟩
   have yk:y=k:=by simpa using hy
   rw[<- yk,<- e]
   exact hx
 ·have ae:=entry_at g4 j
  rw[hj] at ae
  refine Va (Uao (s:={ s with toks:=s.toks+kd.draws k }) g1 g3 ?_)
  rw[ae]
  exact Va (Ubf (Vc (old p (atKey_of_get g6 hj))))
end
nonrec def Zj4 (x:D) (ds:List D) (H:HD):Option (D×HD):=match x,ds with
 | .ref n,[y,v]=>match H[n]? with
  | some (.dic kvs false)=>(nk y).bind fun k=>if kvs.length<sizeLine then match Zbf kvs k with
   | some z=>some (z,H)
   | none=>some (v,H.set n (.dic (Zrn kvs y k v) false))
   else none
  | _=>none
 | _,_=>none
theorem Zy9 (hu:X.A.units+64<cLine):MtF X "dict.setdefault" Zj4:=by
 rintro pins s σ H x xs v us Q I rx rv ⟨ι,dx,ds,Hd,d,Hd',hr,r1,P1,e,q⟩
 unfold Zj4 at e
 split at e
 ·rename_i n y vd
  split at e
  ·rename_i kvs hn
   obtain⟨k,e2,e⟩:=Zo e
   split at e
   ·rename_i hl
    obtain⟨a,rfl,ha⟩:=Zat.mp r1
    obtain⟨v1,v2,rfl,ry,rd⟩:=Yam P1
    obtain⟨b,rfl⟩:=Zs3 e2 ry
    cases rx
    cases rv with
    | cons q1 rv =>
     cases rv with
     | cons q2 rv =>
      cases rv
      cases q1
      rename_i u2
      obtain⟨h1,h2,ys,h3,P,dd⟩:=Zkf I (hr.obj n a _ ha hn)
      rw[if_neg (by simp)] at h3
      have hz:ys.length<=sizeLine:=by rw[<- Prd.len P]; exact h2
      have ty:s.TypeIs (.ref a) "dict" := dd.typeIs
      have body:Vg (Vn X.prog X.w) X.A.in1 (Builtin.«dict.setdefault» ⟨[.ref a,.ref b,u2],[]⟩) (fun fin s'=>∃ r,fin=.done (.ret r)/\EP X pins σ Q r s') X.xe s:=by
       unfold Builtin.«dict.setdefault» Builtin.Dict.keyAndDefault
       refine Va (Va (Ucl ty (Vc ?_)))
       show Vg _ _ (if (a==Uab)=true then _ else (Ucy a (.ref b) u2 >>= _)) _ _ s
       rw[if_neg (by rw[h1]; decide)]
       refine Va (Zoi (kd:=Ubg (Zcn X.prog X.w)) (show (Ubg (Zcn X.prog X.w)).room X.A.in1 from(by show X.A.units+1<cLine; omega)) (Zpq I e2 ry) dd hz (fun p hp=>?_) (fun hp h2' dd' hs=>?_))
       ·rcases Zje P k with ⟨_,z⟩ | ⟨vd',b',u',v',z1,z2,z3,z4⟩
        ·rw[z] at hp; cases hp
        ·rw[z2] at hp; cases hp
         rw[z1] at e; cases e
         exact Vc ⟨_,rfl,v',H,I.tok _,z3,q _ H ι Le.refl hr z4⟩
       ·rcases Zje P k with ⟨z,_⟩ | ⟨vd',b',u',v',z1,z2,z3,z4⟩
        ·rw[z] at e; cases e
         obtain⟨L,hr'⟩:=Zzw hr ha h1 hl h3 P e2 ry q2 rd
         exact Vc ⟨_,rfl,v2,_,Zuf I h3 dd' hs,q2,q _ _ ι L hr' (rd.mono L)⟩
        ·rw[z2] at hp; cases hp
      exact Vo Uq ty PySem.F.entry_dict_setdefault body (PySem.F.args_dict_setdefault_3 _ _ _)
   ·cases e
  ·cases e
 ·cases e
nonrec def Zox:D->HD->Bool
 | .ref n,H=>match H[n]? with
  | some (.dic _ _)=>true
  | _=>false
 | _,_=>false
nonrec def eDM (g:D->List D->HD->Option (D×HD)) (fo:EF) (f:AF):EF:=fun σ H=>(fo σ H).bind fun o=>if Zox o.1 o.2=true then (f σ o.2).bind fun p=>g o.1 p.1 p.2 else none
theorem Zwf {pins:List (Ve×Obj)} {σ:L2.St} {H:Hp} {s:Vd} {ι:List Ve} {Hd:HD} {x:D} {v:V} {u:Vb} (I:Inv X pins σ H s) (hr:HRep X.K H ι Hd) (r:Rep X.K H ι x v) (rv:Zch v u) (e:Zox x Hd=true) :
  s.TypeIs u "dict" /\ ∀ b,u=.ref b->∃ ob,s.heap.get? b=some ob/\ob.dict=none:=by
 cases x<;>simp only[Zox] at e<;>try cases e
 rename_i n
 split at e
 ·rename_i kvs fz hn
  obtain⟨a,rfl,ha⟩:=Zat.mp r
  cases rv
  obtain⟨_,_,xs,_,_,dd⟩:=Zkf I (hr.obj n a _ ha hn)
  refine⟨dd.typeIs,fun b eb=>?_⟩
  cases eb
  obtain⟨ob,_,_,g1,g2,_⟩:=dd
  exact⟨ob,g1,g2.2.1⟩
 ·cases e
theorem Zsc {e o:Vv} {es:List Vv} {name:Str} {apos cpos:Pos} {id:String} {g:D->List D->HD->Option (D×HD)} {fo:EF} {f:AF} (slot:Slot "dict" name id) (hty:typeOf (.builtin id)=pure (.type "method_descriptor")) (hm:MtF X id g) (ho:PEf X o fo) (ha:PAf X (e::es) f)
  (hbase:Ubw o name X.env (eval o X.env)=eval o X.env:=by rfl)
  (hfew:((Uag cpos (Vf (e::es) X.env)).all (fun x => !x.1)&&(Ubx cpos (Uat [] X.env)).all (fun x=>x.1.isSome)
   && decide ((e::es).length+([]:List Ubm).length+(if ([]:List Ubm).isEmpty then 0 else 1)<30))=true:=by exact Zlj rfl (by decide))
  (hline:(apos.endLine==cpos.line)=true:=by rfl) (hs:Vf (e::es) X.env=(false,eval e X.env)::Vf es X.env:=by exact Zbr rfl) (hplain:(Uag cpos (Vf es X.env)).any (·.1)=false:=by exact Zct rfl) :
  PEf X (.Call (.Attribute o name apos) (e::es) [] cpos) (eDM g fo f):=by
 rintro pins s σ H Q I ⟨ι,σd,Hd,d,Hd',sr,hr,e0,q⟩
 obtain⟨⟨x,H1⟩,e1,e0⟩:=Zo e0
 dsimp only at e0
 split at e0
 ·rename_i hl
  obtain⟨⟨y,H2⟩,e2,e0⟩:=Zo e0
  let P1:VK:=fun v1 H1'=>∃ ι1,Le X.K H ι H1' ι1/\HRep X.K H1' ι1 H1/\Rep X.K H1' ι1 x v1
  refine Ubc hbase hfew hline rfl (thn (ho pins s σ H P1 I ⟨ι,σd,Hd,x,H1,sr,hr,e1,fun v1 H1' ι1 l1 h1 r1=>⟨ι1,l1,h1,r1⟩⟩) fun v s1 zz=>?_)
  obtain⟨xv,H1',I1,rx,ι1,l1,h1,r1⟩:=zz
  obtain⟨t1,t2⟩:=Zwf I1 h1 r1 rx hl
  refine⟨"dict",id,Tbv,slot,hty,t1,t2,?_⟩
  let P2:List V->Hp->Prop:=fun vs H2'=>∃ ι2,Le X.K H ι H2' ι2/\HRep X.K H2' ι2 H2/\Rep X.K H2' ι2 x xv/\Vj (Rep X.K H2' ι2) y vs
  have hA:=ha cpos pins s1 σ H1' P2 I1 ⟨ι1,σd,H1,y,H2,sr.mono l1,h1,e2,fun vs H2' ι2 l2 h2 r2=>⟨ι2,l1.trans l2,h2,r1.mono l2,r2⟩⟩
  rw[hs] at hA ⊢
  refine Tat (by show (false||(Uag cpos (Vf es X.env)).any (·.1))=false; rw[hplain]<;>rfl) (Taz ?_)
  exact thn hA fun us s2 ⟨vs,H2',I2,r2,ι2,l2,h2,rx2,rp⟩=>hm pins s2 σ H2' xv vs v us Q I2 rx r2 ⟨ι2,x,y,H2,d,Hd',h2,rx2,rp,e0,fun v H' ι' l h r=>q v H' ι' (l2.trans l) h r⟩
 ·cases e0
nonrec def Zq0:FF:=fun ds H=>match ds with
 | [x]=>(Zx7 x H).map fun kvs=>(.int kvs.length,H)
 | _=>none
theorem Zqm:Zj1 X (.builtin "len") Zq0:=by
 rintro pins s σ H xs us Q I rv ⟨ι,ds,Hd,d,Hd',hr,P,e,q⟩
 unfold Zq0 at e
 split at e
 ·rename_i x
  obtain⟨kvs,e1,e⟩:=Zm e
  obtain⟨rfl,rfl⟩:=Wba.inj e
  obtain⟨n,fz,rfl,hn⟩:=Zir e1
  obtain⟨v,rfl,r⟩:=Zl0 P
  obtain⟨a,rfl,ha⟩:=Zat.mp r
  cases rv with
  | cons q1 rv =>
   cases rv
   cases q1
   obtain⟨h1,h2,ys,_,PK,dd⟩:=Zkf I (hr.obj n a _ ha hn)
   have ty:s.TypeIs (.ref a) "dict" := dd.typeIs
   obtain⟨ob,es,ep,g1,g2,g3,g4,_⟩:=dd
   have sz:es.size=kvs.length:=by
    have a1:=size_of_entries g4
    have a2:=Prd.len PK
    omega
   have l63:(kvs.length:Int)<2 ^ 63:=by rw[Um] at h2; omega
   have ask:∀ A' E',Vg (Vn X.prog X.w) A' (Builtin.«dict.__len__» ⟨[.ref a],[]⟩) (fun fin s'=>∃ r,fin=.done (.ret r)/\r=.int kvs.length s.toks/\s'={ s with toks:=s.toks+1 }) E' s:=by
    intro A' E'
    show Vg _ _ (dictSize a >>= _) _ _ s
    unfold dictSize
    refine Va (Va (Uao g1 g3 (Vc (Va (wpAny_pendingCount_other h1 (wpAny_ret_mkInt ?_))))))
    rw[Nat.add_zero,sz]
    exact⟨rfl,rfl⟩
   refine Calls.call_function_entry kind_len plain_len entry_len (args_len1 _) ?_
   unfold Builtin.«len»
   refine Va (m:=oneArg "len" _) (Vc (Va (m:=callSpecial? (.ref a) (Ub "__len__")) (Vi (name:=Ub "__len__") ty Tcc
    (Vo Tcc ty PySem.F.entry_dict_len (thn (ask _ _) fun fin s' ⟨r,f1,f2,f3⟩=>⟨r,f1,?_⟩) (PySem.F.args_dict_len_1 _)))))
   subst f2 f3
   refine Va (Vx (Vc (Va (Ubn ?_))))
   show Vg _ _ (if ((kvs.length:Nat):Int)<0 then _ else if ((kvs.length:Nat):Int) ≥ 2 ^ 63 then _ else _) _ _ _
   rw[if_neg (by omega),if_neg (by omega)]
   exact Va (Udy (Vc ⟨_,rfl,.int kvs.length,H,I.tok _,⟨_,rfl⟩,q _ H ι Le.refl hr (by simp)⟩))
 ·cases e
section
variable {prog:Vh} {w:Vs} {A:Vw} {E:Vb->Vd->Prop} {s:Vd}
theorem Zpu {d:Ve} {ob:Obj} {es:Array Uac} {ep:Nat} {Q:Vb->Vd->Prop} (h0:(d==Uab)=false) (g1:s.heap.get? d=some ob) (g2:ob.ExactDict) (g3:ob.data=.dict es ep)
  (q:Q (.ref s.heap.objs.size) { s with heap:=s.heap.push { cls:=.type "dict_keyiterator",data:=.fields #[.ref d,.int 0 0,.int es.size 0,.int ep 0] } }):Vg (Vn prog w) A (pyIter (.ref d)) Q E s:=by
 have ty:s.TypeIs (.ref d) "dict" := ⟨ob,g1,g2.1⟩
 refine wpAny_pyIter_slot ty F.slot_dict_iter (Vo F.slot_dict_iter ty F.entry_dict_iter ?_ (F.args_dict_iter_1 _))
 unfold Builtin.«dict.__iter__» Builtin.Dict.dictSlotNone
 refine Va (Va (Ucl ty (Vc ?_)))
 show Vg _ _ (Tcd d >>= _) _ _ s
 unfold Tcd
 rw[if_neg (by rw[h0]; decide)]
 refine Va (Vc (Va (Uao g1 g3 (Va (Ucm g1 g3 (Va (Vt (Vc ?_))))))))
 exact⟨_,rfl,"dict_keyiterator",_,⟨_,Xf _ rfl,rfl⟩,Uk.lookup,by simpa [Uap] using q⟩
theorem Zsj {d it:Ve} {ob:Obj} {es:Array Uac} {i ep:Nat} {Q:Option Vb->Vd->Prop} (hit:s.heap.IsKeyIter it d i es.size ep) (g1:s.heap.get? d=some ob) (g3:ob.data=.dict es ep) (lt:i<es.size)
  (q:∀ h2,h2.IsKeyIter it d (i+1) es.size ep->Xx it s.heap h2->Q (some es[i].key) { s with heap:=h2 }):Vg (Vn prog w) A (Ubh (.ref it)) Q E s:=by
 have ty:=hit.typeIs
 obtain⟨oi,i1,i2,i3⟩:=id hit
 have own:Tbb "dict_keyiterator" = false:=by decide
 unfold Ubh
 refine Va (Uaj (Vi (name:=Ub "__next__") ty Uk (Vo Uk ty Tay ?_ (Taw _))))
 refine Va (Vc (Va (Va ?_)))
 refine Va (Uaa ty (Vc (Va (wpAny_fieldsOf i1 i3 ?_))))
 simp only[own,Wao,if_false]
 show Vg _ _ (if (Uy d==Uu)=true then _ else _) _ _ s
 have nn:¬ ((Uy d==Uu)=true):=Wbi
 rw[if_neg nn]
 refine Va (Vc (Va (Uao g1 g3 ?_)))
 rw[if_neg (by simp)]
 refine Va (Vc (Va (Ucm g1 g3 ?_)))
 rw[if_neg (by simp)]
 refine Vc ?_
 have neg:¬ ((i:Int)<0):=by omega
 simp only[neg,if_false,Xr,Wcj lt]
 refine Va (Va (Uaa ty (Vc (Va (Ucn ty ?_)))))
 show Vg _ _ (Udk (.ref it) 1 (Uap ((i:Int)+1)) >>= _) _ _ s
 let h2:=s.heap.update it (Obj.mapFields (·.setIfInBounds 1 (Uap ((i:Int)+1))))
 have it2:h2.IsKeyIter it d (i+1) es.size ep :=
  ⟨_,Wcy _ i1 (Tca (Taq i3 _)),(Tco ..).trans i2,by rw[Taq i3]; simp[Uap]⟩
 refine Va (Ubq i1 i3 (by simp) (Va (Vx (Va (Ucn (s:={ s with heap:=h2 }) it2.typeIs ?_)))))
 show Vg _ _ (pure es[i].key) _ _ _
 exact Vc (Vc ⟨_,rfl,Vc (q h2 it2 (Xx.update ..))⟩)
theorem Zpe {d it:Ve} {ob:Obj} {es:Array Uac} {i ep:Nat} {Q:Option Vb->Vd->Prop} (hh:A.handled=none) (hit:s.heap.IsKeyIter it d i es.size ep) (g1:s.heap.get? d=some ob) (g3:ob.data=.dict es ep) (ge:es.size<=i)
  (q:∀ h2,Wdf it s.heap h2->Q none { s with heap:=h2 }):Vg (Vn prog w) A (Ubh (.ref it)) Q E s:=by
 have ty:=hit.typeIs
 obtain⟨oi,i1,i2,i3⟩:=id hit
 have own:Tbb "dict_keyiterator" = false:=by decide
 unfold Ubh
 refine Va (Uaj (Vi (name:=Ub "__next__") ty Uk (Vo Uk ty Tay ?_ (Taw _))))
 refine Va (Vc (Va (Va ?_)))
 refine Va (Uaa ty (Vc (Va (wpAny_fieldsOf i1 i3 ?_))))
 simp only[own,Wao,if_false]
 show Vg _ _ (if (Uy d==Uu)=true then _ else _) _ _ s
 have nn:¬ ((Uy d==Uu)=true):=Wbi
 rw[if_neg nn]
 refine Va (Vc (Va (Uao g1 g3 ?_)))
 rw[if_neg (by simp)]
 refine Va (Vc (Va (Ucm g1 g3 ?_)))
 rw[if_neg (by simp)]
 refine Vc ?_
 have neg:¬ ((i:Int)<0):=by omega
 simp only[neg,if_false,Xr,Wcs ge]
 refine Va (Va (Uaa ty (Vc ?_)))
 show Vg _ _ (Udk (.ref it) 0 .none >>= _) _ _ s
 refine Va (Ubq i1 i3 (by simp) ?_)
 show Vg _ _ (newExc (.type "StopIteration") [] >>= _) _ _ _
 simp only[newExc,newTuple]
 refine Va (Va (Vt (Va (m:=Ubr _ _) (Udx (a:=Uu) (by first | rfl | (simp only[Ubr]; rfl)) (Vt ?_ (by size_fits)))) (by size_fits)))
 simp only[raiseNew]
 refine Va (wpAny_handled ?_)
 have hh1:A.in1.handled=none:=hh
 rw[hh1]
 refine Va (Vc (wpAny_throw ?_))
 refine Va (Ubj (T := "StopIteration") (b:=true) (by exact⟨_,Xf _ rfl,rfl⟩) Ubs ?_)
 exact Vc (q _ (((Xx.update ..).extBut.push _).push _))
end
nonrec def Itd (a:Ve) (ob:Obj) (u:HO) (ks:List Ve):It :=
 ⟨fun i H=>H a=some (.frz ob u)/\i<ks.length,fun i H x H'=>H'=H/\∃ b,ks[i]? = some b/\x=.ref b,fun i H=>H a=some (.frz ob u)/\ks.length<=i⟩
theorem Zv4 {P:Vh} {w:Vs} {K:Xb} {tg:Vv} (a it:Ve) {ob:Obj} {u:HO} {es:Array Uac} {ep:Nat} {ks:List Ve} (g3:ob.data=.dict es ep) (hk:es.toList.map (·.key)=ks.map Uy) :
  Turn P w K tg (Itd a ob u ks) [it] it (fun i h=>h.IsKeyIter it a i es.size ep) where
 mem:=by simp
 obj:=fun i h st b hb=>by
  have e:b=it:=by simpa using hb
  subst e
  obtain⟨o,e,c,d⟩:=st
  exact⟨o,e,fun v z=>by rw[d] at z; cases z⟩
 keep:=fun i h h' st k=>st.at fun o e=>k it (by simp) o e
 item:=by
  intro X hP hw hK hc i pins s σ H E I hf st hg
  subst hP hw hK
  obtain⟨hq,hx⟩:=hg
  obtain⟨g1,_⟩:=(show Zc8 X.prog X.w H s.heap a (.frz ob u) from I.hok a _ hq)
  obtain⟨f0,f1,f2,f3,f4,f5⟩:=hf it (by simp)
  have hl:es.size=ks.length:=by
   have:=congrArg Wbv hk
   simpa using this
  have lt:i<es.size:=by omega
  have key:es[i].key=Uy ks[i]:=by
   have e1:(es.toList.map (·.key))[i]? = some es[i].key:=by simp[lt]
   rw[hk,Xv,Xd hx] at e1
   exact(Xy.inj e1).symm
  refine Zsj st g1 g3 lt fun h' st' sb=>?_
  have I1:Inv X pins σ H { s with heap:=h' }:=I.turned (t':=s.toks) (fun b o hb e=>(sb.2 b hb).trans e) f0 f1 f3 f4 f5
  obtain⟨o,e,c,d⟩:=id st'
  exact⟨_,rfl,Zts (s:={ s with heap:=h' }) e c d (by decide) ⟨.ref ks[i],H,I1,key,⟨rfl,ks[i],Xd hx,rfl⟩,st',fun b hb=>(hf b hb).1⟩⟩
 done:=by
  intro X hP hw hK hc i pins s σ H E I hf st hg
  subst hP hw hK
  obtain⟨hq,hx⟩:=hg
  obtain⟨g1,_⟩:=(show Zc8 X.prog X.w H s.heap a (.frz ob u) from I.hok a _ hq)
  obtain⟨f0,f1,f2,f3,f4,f5⟩:=hf it (by simp)
  have hl:es.size=ks.length:=by
   have:=congrArg Wbv hk
   simpa using this
  exact Zpe (I.ok.hd hc) st g1 g3 (by omega) fun h' eb=>⟨rfl,I.turned (t':=s.toks) (fun b o hb e=>eb b o hb e) f0 f1 f3 f4 f5⟩
 self:=fun _ _ _ _ _ st h=>Ucr st h
variable {X:Cx} {tg:Vv}
nonrec def iDic (f:EF):ItF:=fun σ H=>(f σ H).bind fun p=>match p.1 with
 | .ref n=>match p.2[n]? with
  | some (.dic kvs _)=>some ((kvs.map (·.1),[(n,.dic kvs true)]),p.2.set n (.dic kvs true))
  | _=>none
 | _=>none
theorem Zsw {K:Xb} {H:Hp} {ι:List Ve} {kvs:List (D×D)} {xs:List (List Int×Ve×Vb)} (h:Vj (Zrt K H ι) kvs xs):Vj (Rep K H ι) (kvs.map (·.1)) (xs.map fun x=>V.ref x.2.1):=by
 induction h with
 | nil=>exact .nil
 | cons r t ih=>exact .cons r.2.1 ih
theorem Zy0 {l:Vv} {f:EF} (hl:PEf X l f):PIf X tg l (iDic f):=by
 rintro pins s σ H R I ⟨ι,σd,Hd,xs,own,Hd',sr,hr,e,q⟩
 obtain⟨⟨x,H1⟩,e1,e⟩:=Zo e
 obtain⟨n,rfl⟩:∃ n,x=.ref n:=by cases x<;>first | exact⟨_,rfl⟩ | cases e
 let P1:VK:=fun v1 H1'=>∃ ι1,Le X.K H ι H1' ι1/\HRep X.K H1' ι1 H1/\Rep X.K H1' ι1 (.ref n) v1
 refine thn (hl pins s σ H P1 I ⟨ι,σd,Hd,.ref n,H1,sr,hr,e1,fun v1 H1' ι1 l1 h1 r1=>⟨ι1,l1,h1,r1⟩⟩) fun v s1 zz=>?_
 obtain⟨xv,H1',I1,rx,ι1,l1,h1,r1⟩:=zz
 simp only at e
 split at e
 ·rename_i kvs fz hn
  cases e
  obtain⟨a,rfl,ha⟩:=Zat.mp r1
  cases rx
  obtain⟨z1,z2,ys,z3,PK,dd⟩:=Zkf I1 (h1.obj n a _ ha hn)
  obtain⟨ob,es,ep,g1,g2,g3,g4,g5,g6⟩:=dd
  refine Zpu z1 g1 g2 g3 ?_
  let u:HO:=.ext (Zcv a ys)
  let H2:Hp:=upd H1' a (.frz ob u)
  have keys:es.toList.map (·.key)=(ys.map fun x=>x.2.1).map Uy:=by rw[g4,Wbb,Wbb]; rfl
  have da:Zcv a ys s1.heap:=⟨ob,es,ep,g1,g2,g3,g4,g6⟩
  have okN:∀ Hx,Zc8 X.prog X.w Hx s1.heap a (.frz ob u):=fun Hx=>⟨g1,da,⟨ob,g1⟩,fun h1 h2 d k=>Zcv.keep d k⟩
  have froz:Inv X pins σ H2 s1/\Le X.K H1' ι1 H2 ι1:=by
   cases fz with
   | false =>
    rw[if_neg (by simp)] at z3
    exact⟨I1.write (t':=s1.toks) (h':=s1.heap) (x:=a) (e:=a) (by rw[z3]; exact Tbd) (.inl rfl) (fun b q hb z=>z) ⟨ob,g1⟩ (okN _),Le.upd (Wae ha) z3 trivial _⟩
   | true =>
    rw[if_pos rfl] at z3
    obtain⟨o2,z3⟩:=z3
    obtain⟨g1',_⟩:=(show Zc8 X.prog X.w H1' s1.heap a (.frz o2 (.ext (Zcv a ys))) from I1.hok a _ z3)
    have eo:o2=ob:=Xy.inj (g1'.symm.trans g1)
    have eH:H2=H1':=by
     funext b
     by_cases hb:b=a
     ·subst hb; show upd H1' b (.frz ob u) b=H1' b; rw[Zav,z3,eo]
     ·exact Zak hb
    rw[eH]
    exact⟨I1,Le.refl⟩
  obtain⟨I2,L2'⟩:=froz
  have hr2:HRep X.K H2 ι1 (H1.set n (.dic kvs true)):=by
   refine⟨by simp[h1.len],h1.nd,fun m b oc m1 m2=>?_⟩
   by_cases hm:n=m
   ·subst hm
    rw[ha] at m1; cases m1
    rw[Wdr] at m2
    rw[if_pos rfl] at m2
    split at m2
    ·cases m2
     exact⟨z1,z2,ys,by rw[if_pos rfl]; exact⟨ob,Zav⟩,Prd.imp PK fun p x _ z=>⟨z.1,z.2.1.mono L2',let ⟨v,w1,w2⟩:=z.2.2; ⟨v,w1,w2.mono L2'⟩⟩⟩
    ·cases m2
   ·rw[Waj hm] at m2
    have hb:b≠a:=fun z=>by
     subst z
     exact hm ((Wew (Xc.mp ha).1 h1.nd).mp (ha.trans m1.symm))
    exact(h1.obj m b oc m1 m2).step L2'.toLw (Zak hb)
  have I3:Inv X pins σ H2 { s1 with heap:=s1.heap.push { cls:=.type "dict_keyiterator",data:=.fields #[.ref a,.int 0 0,.int es.size 0,.int ep 0] } }:=I2.kept (t':=s1.toks) fun b o e=>Xa _ e
  refine⟨s1.heap.objs.size,[s1.heap.objs.size],_,Itd a ob u (ys.map fun x=>x.2.1),H2,rfl,I3,Zv4 a _ g3 keys,⟨_,Xf _ rfl,rfl,rfl⟩,fun b hb=>?_,?_⟩
  ·have e:b=s1.heap.objs.size:=by simpa using hb
   subst e
   exact I2.fpOk (Xe _) (I2.hok.fresh (Xe _))
  ·have fa:H2 a=some (.frz ob u):=Zav
   have pk:=Zsw PK
   refine q _ H2 ι1 (l1.trans L2') hr2 ⟨fun i H3 ι3 Hd3 l3 h3 _ hi=>⟨l3.fr _ _ _ fa,?_⟩,fun i H3 ι3 Hd3 d x H4 l3 h3 _ hd y=>?_,fun i H3 ι3 Hd3 l3 h3 _ hi=>⟨l3.fr _ _ _ fa,?_⟩⟩
   ·have:=Prd.len PK; simp only[Xi] at hi ⊢; omega
   ·obtain⟨rfl,b,hb,rfl⟩:=y
    obtain⟨v,hv,rv⟩:=Prd.get pk hd
    have ev:v=.ref b:=by
     rw[Xv] at hv hb
     cases hy:ys[i]? with
     | none=>rw[hy] at hv; cases hv
     | some yv=>rw[hy] at hv hb; cases hv; cases hb; rfl
    subst ev
    exact⟨ι3,Le.refl,h3,(rv.mono L2').mono l3⟩
   ·have:=Prd.len PK; simp only[Xi] at hi ⊢; omega
 ·cases e
nonrec def Yac (n N:Nat) (b:FF->SF):Nat->FF
 | 0=>Zaw n N fun _ _=>none
 | j+1=>Zaw n N (b (Yac n N b j))
theorem Zxu {P:Vh} {w:Vs} {K:Xb} {mg:Str->Option Vb} {base:Vy} {x:Str} {st:Uae} {N ps:List Str} {k:Nat} {b:FF->SF} (T:Tf K mg x st) (S:FnScope N ps (Zad st))
  (hbd:∀ (kV doc pm:Vb) (an:Option Ve) (cdv ct:Vb) (us:List Vb),us.length=ps.length->bindArgs (Wby x x (Zgd st) (Zdl st) (Zad st) .none kV doc pm an cdv ct) ⟨us,[]⟩=pure (ps.zip us))
  (hb:∀ (F:FF) (j:Nat),Fn P w K mg base (k+1+j) x ps F->∀ (f:Ve) (cdv:Vb) (A:Vw) (outer:List Env) (s:Vd) (H:Hp) (E:XK),Room (k+1+j) (A.deeper (Uch x (Zad st) s.heap.objs.size f cdv)) ->
   Zrr (Zu1 CX0 P w K mg base N x (Zad st) f cdv A outer s H E).nox (Zdl st) (b F)):∀ j,Fn P w K mg base (k+1+j) x ps (Yac ps.length N.length b j)
 | 0=>Zay (k:=k) T S hbd fun f cdv A outer s H E _=>by
  rintro pins s' σ H' E' I ⟨ι,σd,Hd,fl,σd',Hd',_,_,e,_⟩
  cases e
 | j+1=>Zay (k:=k+1+j) T S hbd fun f cdv A outer s H E hr=>hb _ j (Zxu T S hbd hb j) f cdv A outer s H E hr
theorem Zub {K:Xb} {h:Vy} {mg:Str->Option Vb} {x:Str} {b1 b2:Bool} {p:Ve} {n:Nat} {osl:Array (Option Vb)} (X:K.In h) (G:h.Ns Vp mg) (a:Wcx K Vp x=some (some (.ref p)))
  (l:K.lookup p=some ⟨.type "tuple",none,.seq #[.bool b1,.bool b2] n,osl⟩):Gc K mg x (.tup [.bl b1,.bl b2]):=by
 refine⟨_,.ref p,Wfo X G a,rfl,fun H ι=>Za5.mpr ⟨p,[.bl b1,.bl b2],rfl,.inr ⟨_,_,_,l,rfl,rfl,?_,?_,rfl⟩,?_⟩⟩
 ·show 2<=sizeLine
  rw[Um]; omega
 ·exact .cons rfl (.cons rfl .nil)
 ·exact .cons (by simp) (.cons (by simp) .nil)
section
variable {prog:Vh} {w:Vs} {A:Vw} {E:Vb->Vd->Prop} {s:Vd}
theorem Zyx {T newId:String} {self a:Vb} {kw:List (Str×Vb)} (hl:typeLookup (.type T) "__init__" = pure (some (.builtin "object.__init__")))
  (hm:Bind.madeBy (.type T)=pure (some newId)) (hne:(some newId != some "object.__new__")=true) :
  Uea (Builtin.«object.__init__» ⟨[self,a],kw⟩) (fun _ R s=>s.TypeIs self T/\R (.ok (.ret .none)) s):=by
 refine Meets.of_wp fun prog w A R s zz=>?_
 obtain⟨hT,hq⟩:=zz
 repeat (any_goals (first | assumption | wp_step))
 exact⟨_,rfl,hq⟩
theorem tc_kw (a v:Vb):checkTypeCall "enumerate" ⟨[a],[("start",v)]⟩=pure ():=by kernel_rfl
theorem nc_kw (a v:Vb):checkBuiltinCall "enumerate.__new__" ⟨[.type "enumerate",a],[("start",v)]⟩=pure ():=by kernel_rfl
open AutoSeq1 (wpAny_loadPart') in
theorem Zsp (t:Ve) (its:Array Vb) (n:Nat) (dct:Option Ve) (sl:Array (Option Vb)) (tk0:Tok) :
  Uea (Builtin.«enumerate.__new__» ⟨[.type "enumerate",.ref t],[("start",.int 1 tk0)]⟩) (fun _ R s=>s.heap.get? t=some { cls:=.type "tuple",dict:=dct,data:=.seq its n,slots:=sl } /\
   R (.ok (.ret (.ref (s.heap.push { cls:=.type "tuple_iterator",data:=.fields #[.ref t,.int 0 0] }).objs.size)))
    { s with heap:=(s.heap.push { cls:=.type "tuple_iterator",data:=.fields #[.ref t,.int 0 0] }).push { cls:=.type "enumerate",data:=.fields #[.none,.bool false,.ref s.heap.objs.size,Uap 1,.none,.none] } }) :=
 .of_wp fun prog w A R s h=>by
  obtain⟨hp,g,d,tk,os⟩:=s; obtain⟨hl,h⟩:=h
  have hsub:=Udl
  have hL:Heap.IsTuple (Tbu ⟨hp,g,d,tk,os⟩) t its:=⟨_,hl,rfl,n,rfl⟩
  wp_walk using Vm hl
  refine Uck fun st=>Vc ?_
  split
  ·rename_i k _ _ _ _ _
   cases (k==Tbq "enumerate")<;>(wp_walk using Vm hl,Uad hL; exact⟨_,rfl,h⟩)
  ·wp_walk using Vm hl,Uad hL
   exact⟨_,rfl,h⟩
end
section
variable {prog:Vh} {w:Vs} {A:Vw} {E:Vb->Vd->Prop} {s:Vd}
theorem Zyp {args:List Vb} {kw:List (Str×Vb)} {newId:String} {Bn:Builtin} {T:String} {S:Uv} {Q:Vb->Vd->Prop} (ft:TypeCalled T newId "object.__init__") (hne:(some newId != some "object.__new__")=true)
  (hct:checkTypeCall T ⟨args,kw⟩=pure ()) (hcn:checkBuiltinCall newId ⟨.type T::args,kw⟩=pure ()) (entryN:entryFor table newId=some Bn) (g:Uea (Bn ⟨.type T::args,kw⟩) S)
  (hok:∀ obj,argsOk "object.__init__" ⟨obj::args,kw⟩) (gi:∀ obj,Uea (Builtin.«object.__init__» ⟨obj::args,kw⟩) (fun _ R s=>s.TypeIs obj T/\R (.ok (.ret .none)) s))
  (h:S A.in1 (wants (fun obj s₁=>s₁.TypeIs obj T/\Q obj s₁) E) s):Vg (Vn prog w) A (call (.type T) args kw) Q E s:=by
 obtain⟨c,tl,hmro⟩:=ft.mro
 have hmade:=ft.made
 have hsub:=ft.sub
 have n1:=ft.notType
 have n2:=ft.canCreate
 refine wpAny_call (codeAny_of_tree (show Vg _ _ (callAny (.type T) _) _ _ _ from Vc ⟨Tbn _ (by decide +kernel),Ubb F.entry_type_call ?_⟩))
 rw[Around.under_plain (weight_type_call_type T args kw) (units_type_call_type T args kw)]
 repeat (any_goals (first | assumption | wp_step))
 refine Ubi (Ucs ft.plain entryN (Udx hcn (g prog w A.in1 _ s h))) fun r s₁ hr=>?_
 cases r with
 | error e=>exact hr
 | ok fl =>
  cases fl with
  | ret obj =>
   obtain⟨hT,hq⟩:s₁.TypeIs obj T/\Q obj s₁:=hr
   have hli:=ft.init.lookup
   have hbi:=ft.init.bind obj
   repeat (any_goals (first | assumption | wp_step))
   refine Ubi (Ucs ft.init.plain F.entry_object_init (ft.init.check _ _ _ _ _ _ _ _ hT (hok obj) (gi obj prog w A.in1 (wants (fun r s₂=>r=.none/\Q obj s₂) E) s₁ ⟨hT,rfl,hq⟩))) fun r₂ s₂ hr₂=>?_
   cases r₂ with
   | error e=>exact hr₂
   | ok fl₂ =>
    cases fl₂ with
    | ret r =>
     obtain⟨rfl,hq2⟩:=hr₂
     repeat (any_goals (first | assumption | wp_step))
    | _=>exact hr₂.elim
  | _=>exact hr.elim
theorem Zj5 {M:Model} {pos:Pos} {T:String} {args:List (Bool×Sem Vb)} {kws:List (Option Str×Sem Vb)} {Q:Vb->Vd->Prop} (h1:args.any (·.1)=false) (h2:kws.any (·.1.isNone)=false)
  (h:Vg M A (evalArgs (.type T) true args kws) (fun a s₁=>Vg M A (call (.type T) a.pos a.kw) Q E s₁) E s):Vg M A (Udt pos (.type T) [] args kws) Q E s:=by
 unfold Udt
 refine Va (Vx (thn h fun a s₁ q=>Va (Ubv ?_)))
 simp only[h1,h2,Bool.or_false]
 exact Va (Vc (Va (thn q fun r s₂ q2=>Va (Vx (wpAny_point (Vc q2))))))
theorem Ztl (a b v:Vb):argsOk "object.__init__" ⟨[a,b],[("start",v)]⟩:=by
 unfold argsOk
 first | decide +kernel | kernel_rfl | (intro _; kernel_rfl)
theorem Zq4 {t:Ve} {its:Array Vb} {tk:Tok} {Q:Vb->Vd->Prop} (hL:s.heap.IsTuple t its)
  (h:∀ h',Uaq h' (s.heap.objs.size+1) s.heap.objs.size 1 .none->h'.IsTupleIter s.heap.objs.size t 0->h'.objs.size=s.heap.objs.size+2 ->
   (∀ b o,s.heap.get? b=some o->h'.get? b=some o)->Q (.ref (s.heap.objs.size+1)) { s with heap:=h' }) :
  Vg (Vn prog w) A (call (.type "enumerate") [.ref t] [("start",.int 1 tk)]) Q E s:=by
 obtain⟨⟨k,dct,dt,sl⟩,hl,hc,n,hd⟩:=hL
 replace hc:k=.type "tuple" := hc
 replace hd:dt=.seq its n:=hd
 subst hc hd
 refine Zyp Taf (by decide) (tc_kw _ _) (nc_kw _ _) Tav (Zsp t its n dct sl tk) (fun obj=>Ztl _ _ _) (fun obj=>Zyx Taf.init.lookup Taf.made (by decide)) ⟨hl,?_⟩
 have hz:(s.heap.push { cls:=.type "tuple_iterator",data:=.fields #[.ref t,.int 0 0] }).objs.size=s.heap.objs.size+1:=War ..
 show _/\_
 rw[hz]
 have he:Uaq ((s.heap.push { cls:=.type "tuple_iterator",data:=.fields #[.ref t,.int 0 0] }).push { cls:=.type "enumerate",data:=.fields #[.none,.bool false,.ref s.heap.objs.size,Uap 1,.none,.none] }) (s.heap.objs.size+1) s.heap.objs.size 1 .none:=by
  have q:=Xf (s.heap.push { cls:=.type "tuple_iterator",data:=.fields #[.ref t,.int 0 0] }) (o:={ cls:=.type "enumerate",data:=.fields #[.none,.bool false,.ref s.heap.objs.size,Uap 1,.none,.none] }) rfl
  rw[hz] at q; exact q
 exact⟨⟨_,he,rfl⟩,h _ he ⟨_,Xa _ (Xf _ rfl),rfl,rfl⟩ (by rw[War,hz]) fun b o x=>Xa _ (Xa _ x)⟩
end
variable {X:Cx}
nonrec def Zpp (f:AF):ItF:=fun σ H=>(f σ H).bind fun p=>match p.1 with
 | [.tup xs]=>some ((Zb5 1 xs,[]),p.2)
 | _=>none
theorem Zt0 {es:List Vv} {k:Nat} {tp p pos kp cp:Pos} {cj:Nat} {a:Vv} {f:AF} (hg:Gl X "enumerate") (hm:X.mg "enumerate" = none) (ha:PAf X [a] f) (hs:Vf [a] X.env=[(false,eval a X.env)]:=by rfl) :
  PIf X (.Tuple es k tp) (.Call (.Name "enumerate" p) [a] [⟨some "start",.Constant (.int 1) cj cp,kp⟩] pos) (Zpp f):=by
 rintro pins s σ H R I ⟨ι,σd,Hd,xs,own,Hd',sr,hr,e,q⟩
 obtain⟨⟨ds,H1⟩,e1,e⟩:=Zo e
 dsimp only at e
 split at e
 ·rename_i ys
  cases e
  show Vg _ _ (do Udt pos (<- eval (.Name "enumerate" p) X.env) [] (Uag pos (Vf [a] X.env)) (Ubx pos (Uat [⟨some "start",.Constant (.int 1) cj cp,kp⟩] X.env))) _ _ _
  let P1:List V->Hp->Prop:=fun vs H'=>∃ ad ws,vs=[.ref ad]/\SqT X.K H' ad ws/\∀ (J:It) (H2:Hp),H2=H'->J=Yao X.K 1 ad->R J H2
  refine Va (Zdw I hg hm Ucx (Zj5 (by rw[hs]; rfl) rfl ?_))
  have hA:=ha pos pins s σ H P1 I ⟨ι,σd,Hd,_,_,sr,hr,e1,fun vs H' ι' l h P=>by
   obtain⟨v,rfl,r⟩:=Zl0 P
   obtain⟨ad,ws,rfl,hS,P2⟩:=Za5.mp r
   refine⟨ad,ws,rfl,hS,fun J H2 e2 e3=>?_⟩
   subst e2 e3
   exact q _ _ ι' l h (Zpf hS P2 fun i H x y h=>y ws h)⟩
  rw[hs] at hA ⊢
  refine Udq rfl (thn hA fun us s1 zz=>?_)
  obtain⟨vs,H2,I2,r2,ad,ws,e2,hS,q2⟩:=zz
  subst e2
  obtain⟨u,rfl,ru⟩:=Zic r2
  cases ru
  refine kws_cons (thn (Zxq pins s1 σ H2 (fun x H'=>x=.int 1/\H'=H2) I2 ⟨rfl,rfl⟩) fun v s2 ⟨x,H3,I3,rx,ex,eH⟩=>kws_nil ?_)
  subst ex eH
  obtain⟨t,rfl⟩:=rx
  obtain⟨its,rv,p,hz⟩:=I3.tuple hS
  show Vg _ _ (call (.type "enumerate") [.ref ad] [("start",.int 1 t)]) _ _ _
  refine Zq4 (show s2.heap.IsTuple ad its.toArray from p) fun h' he hj z' kk=>?_
  have I4:Inv X pins σ H3 { s2 with heap:=h' }:=I3.kept (t':=s2.toks) kk
  refine Uam (s:={ s2 with heap:=h' }) he ?_
  have ne:s2.heap.objs.size+1≠s2.heap.objs.size:=Wdy _
  refine⟨s2.heap.objs.size+1,[s2.heap.objs.size+1,s2.heap.objs.size],_,Yao X.K 1 ad,H3,rfl,I4,Zku ad _ _ 1 ne,⟨.none,by simpa using he,hj⟩,fun b hb=>?_,q2 _ _ rfl rfl⟩
  have:s2.heap.objs.size<=b:=by
   rcases Xh.mp hb with rfl | hb
   ·exact Wdg _
   ·have:b=s2.heap.objs.size:=by simpa using hb
    rw[this]; exact Xe _
  exact I3.fpOk (b:=b) (H':=H3) this (I3.hok.fresh this)
 ·cases e
variable {X:Cx} {tg:Vv}
nonrec def sWh (t:TF) (b:SF):Nat->SF
 | 0=>fun _ _=>none
 | n+1=>fun σ H=>(t σ H).bind fun p=>if p.1=true then (b σ p.2).bind fun q=>match q.1 with
   | .nx=>sWh t b n q.2.1 q.2.2
   | .ct=>sWh t b n q.2.1 q.2.2
   | .bk=>some (.nx,q.2.1,q.2.2)
   | .rt d=>some (.rt d,q.2.1,q.2.2)
  else some (.nx,σ,p.2)
section
variable {X:Cx} {c:Vv} {pos:Pos}
theorem Zsi {body:List Uae} {t:TF} {b:SF} {n:Nat} (hp:Udv (Vn X.prog X.w) X.A X.env X.xe) (hc:PTf X c t) (hb:Zrr X body b):PSf X (.While c body [] pos) (sWh t b n):=by
 refine PSi (Zwe hp hc hb) fun E σ H zz=>?_
 obtain⟨ι,σd,Hd,fl,σf,Hf,s,hr,e,q⟩:=zz
 refine⟨fun m σ' H'=>∃ ι' σd' Hd',Le X.K H ι H' ι'/\SRep X.K H' ι' σ' σd'/\HRep X.K H' ι' Hd'/\sWh t b m σd' Hd'=some (fl,σf,Hf),⟨n,ι,σd,Hd,Le.refl,s,hr,e⟩,?_⟩
 rintro m σ1 H1 ⟨ι1,σd1,Hd1,l1,s1,h1,e1⟩
 cases m with
 | zero=>cases e1
 | succ m =>
  rw[sWh] at e1
  obtain⟨⟨x,H2⟩,e2,e1⟩:=Zo e1
  refine⟨ι1,σd1,Hd1,x,H2,s1,h1,e2,fun H3 ι3 l3 h3=>?_⟩
  cases x with
  | true =>
   rw[if_pos rfl]
   dsimp only at e1
   rw[if_pos rfl] at e1
   obtain⟨⟨f4,σ4,H4⟩,e4,e1⟩:=Zo e1
   refine⟨fun σ' H'=>∃ ι' σd' Hd',Le X.K H ι H' ι'/\SRep X.K H' ι' σ' σd'/\HRep X.K H' ι' Hd'/\sWh t b m σd' Hd'=some (fl,σf,Hf),fun σ' H' p=>⟨m,Wfd m,p⟩,?_⟩
   refine⟨ι3,σd1,H2,f4,σ4,H4,s1.mono l3,h3,e4,fun σ6 H6 ι6 l6 h6 s6=>?_⟩
   have L:Le X.K H ι H6 ι6:=(l1.trans l3).trans l6
   cases f4 with
   | nx=>exact⟨ι6,σ4,H4,L,s6,h6,e1⟩
   | ct=>exact⟨ι6,σ4,H4,L,s6,h6,e1⟩
   | bk=>cases e1; exact q σ6 H6 ι6 L h6 s6
   | rt d=>cases e1; exact q σ6 H6 ι6 L h6 s6
  | false =>
   rw[if_neg (by simp)]
   dsimp only at e1
   rw[if_neg (by simp)] at e1
   cases e1
   exact q σ1 H3 ι3 (l1.trans l3) h3 (s1.mono l3)
end
nonrec def Zkg (h:Vy) (L:Ve):List (Ve×Obj):=(Wcl h.objs.size).filterMap fun a=>if a=L then none else (h.get? a).map fun o=>(a,o)
theorem Zns {h:Vy} {L b:Ve} {o:Obj} (hb:b≠L) (e:h.get? b=some o):(b,o)∈Zkg h L:=by
 refine Wcm.mpr ⟨b,Wan.mpr (Xg e),?_⟩
 rw[if_neg hb,e]; rfl
theorem Zem {h:Vy} {L:Ve} {p:Ve×Obj} (hp:p∈Zkg h L):h.get? p.1=some p.2/\p.1≠L:=by
 obtain⟨a,_,e⟩:=Wcm.mp hp
 split at e
 ·cases e
 ·rename_i ne
  obtain⟨o,e1,rfl⟩:=Zm e
  exact⟨e1,ne⟩
theorem Zhr (b:Ve):({}:Vy).get? b=none:=by
 cases e:({}:Vy).get? b with
 | none=>rfl
 | some o=>exact absurd (Xg e) (Wfh _)
nonrec def Zhd (i:Int):Int:=if i<0 then -i else i
section
variable {prog:Vh} {w:Vs} {A:Vw} {E:Vb->Vd->Prop} {s:Vd}
theorem Zvk {l L:Ve} {vs:List Vb} {ns:List Int} {m:Str->Option Vb} {Q:Vb->Vd->Prop} (hn:s.heap.Ns L m) (hI:Uba vs ns) (h64:vs.length<64)
  (hcol:∀ R:List Vb->Vd->Prop,R vs { s with heap:=(s.heap.push (Uar "list" #[] 0)).update s.heap.objs.size (Tbc (· ++ vs.toArray)) }->Vg (Vn prog w) A.in1 (collect (.ref l)) R E s)
  (h:∀ h' tk out c,h'.Ns L m->(∀ b o,b≠L->s.heap.get? b=some o->h'.get? b=some o)->h'.get? (s.heap.objs.size+1)=some (Uar "list" out c)->KskOut false (ns.map Zhd) vs out.toList->Q (.ref (s.heap.objs.size+1)) { s with heap:=h',toks:=tk }) :
  Vg (Vn prog w) A (call (.builtin "sorted") [.ref l] [(Ub "key",.builtin "abs")]) Q E s:=by
 have sl:vs.length<=sizeLine:=by rw[Ubd]; omega
 have le:ns.length=vs.length:=hI.length.symm
 have lt:=hn.lt
 let h1:Vy:=(s.heap.push (Uar "list" #[] 0)).update s.heap.objs.size (Tbc (· ++ vs.toArray))
 have z1:h1.objs.size=s.heap.objs.size+1:=(Heap.size_update ..).trans (size_push' ..)
 have at2:(h1.push (Uar "list" vs.toArray 0)).get? (s.heap.objs.size+1)=some (Uar "list" vs.toArray 0):=by rw[<- z1]; exact Xf _ rfl
 have kp:∀ b o,s.heap.get? b=some o->(h1.push (Uar "list" vs.toArray 0)).get? b=some o:=fun b o q=>by
  have hb:b<s.heap.objs.size:=Xg q
  refine Xa _ ?_
  show Heap.get? (Heap.update _ _ _) b=some o
  rw[Heap.get?_update_ne _ _ _ _ (Xq hb)]
  exact Xa _ q
 have F0:Fr {} L s.heap m:=⟨hn,fun b o e=>absurd ((Zhr b).symm.trans e) (by simp),Wbs _⟩
 have N0:News {} L s.heap (Zkg s.heap L):=fun p hp=>⟨(Zem hp).1,(Zem hp).2,Zhr _⟩
 refine Uce kind_sorted plain_sorted entry_sorted (ksk_s1 _ _) ?_
 unfold Builtin.«sorted»
 refine Va (m:=checkCount "sorted" 1 1 _) (Vc (Va (hcol _ (Va (Uby ?_ sl)))))
 show Vg _ _ _ _ _ { s with heap:=h1.push (Uar "list" vs.toArray 0) }
 rw[show ((s.heap.push (Uar "list" #[] 0)).update s.heap.objs.size (Tbc (· ++ vs.toArray))).objs.size=s.heap.objs.size+1 from z1]
 refine Va (Vx (Udg slot_list_sort ⟨_,at2,rfl⟩ entry_list_sort ?body (ksk_l1 _ _)))
 case body =>
  show Vg (Vn prog w) A.in1.in1 (Builtin.«list.sort» ⟨[.ref (s.heap.objs.size+1)],[(Ub "key",.builtin "abs")]⟩) _ _ _
  rw[ksk_t4]
  refine ksk_sort (s:={ s with heap:=h1.push (Uar "list" vs.toArray 0) }) (kz:=ns.map Zhd) (news:=Zkg s.heap L) (F0.kept kp) (N0.grown kp) at2 (Wbu (Wch lt)) (Zhr _) (fun p hp=>Xq (Wch (Xg (Zem hp).1)))
   (by rw[Xi]; exact le) h64 (fun i v k hv hk hh tk own F N=>?_) fun h' tk out c F' N' K'=>⟨_,rfl,?_⟩
  ·obtain⟨n,t,rfl,e⟩:=hI.at i v hv
   rw[Xv,e] at hk
   cases hk
   exact Udn fun u tk'=>Tcy F N fun p hp=>hp
  ·refine Vc ⟨_,rfl,h h' tk out c F'.ns (fun b o hb e=>?_) ?_ K'⟩
   ·exact(N' _ (Wag _ (Zns hb e))).1
   ·exact(N' _ (Wcc ..)).1
theorem Zoo {l:Ve} {vs:List Vb} {R:List Vb->Vd->Prop} (ht:Uec s.heap l vs.toArray) (hz:vs.length<=sizeLine)
  (h:R vs { s with heap:=(s.heap.push (Uar "list" #[] 0)).update s.heap.objs.size (Tbc (· ++ vs.toArray)) }):Vg (Vn prog w) A (collect (.ref l)) R E s:=by
 obtain⟨o,ho,hc,n,hd⟩:=ht
 have ho2:(s.heap.push (Uar "list" #[] 0)).get? l=some o:=Xa _ ho
 have hN:(s.heap.push (Uar "list" #[] 0)).get? s.heap.objs.size=some (Uar "list" #[] 0):=Xf _ rfl
 unfold collect
 refine Va (wpAny_runValue (Ubb Uct (show Vg _ _ (do again (.builtin "list.__iadd__" ⟨[<- newList [],.ref l],[]⟩)) _ _ s from Va (Uby (Vc ⟨Tbn _ (by decide +kernel),Ubb entry_list_iadd' ?_⟩)))))
 show Vg _ _ (Us (.ref s.heap.objs.size) (.ref l) (.ref s.heap.objs.size)) _ _ { s with heap:=_ }
 unfold Us
 refine Va (Uci (T := "tuple") ⟨o,ho2,hc⟩ ?_)
 rw[if_pos (by simp)]
 refine Va (listItems_at ho2 hd (Va (listItems_at (xs := #[]) (n:=0) hN rfl ?_)))
 rw[if_neg (by simp)]
 refine Va (listUpdate_at (xs := #[]) (n:=0) hN rfl (Vc ?_) (Wbs _) (by show ((#[]:Array Vb)++vs.toArray).size<=sizeLine+1; rw[Array.size_append,Xj]; exact Wab (by simp) (Nat.le_succ_of_le hz)))
 refine Va (wpAny_load (get?_update_seq hN _) ?_)
 show Vg _ _ (pure (((#[]:Array Vb)++vs.toArray).toList)) R E _
 rw[Array.empty_append,List.toList_toArray]
 exact Vc h
end
theorem Zzj {vs:List Vb} {ns:List Int} (h:Uba vs ns):∀ p∈(ns.map Zhd).zip vs,∃ n t,p=(Zhd n,.int n t):=by
 induction h with
 | nil=>intro p hp; simp at hp
 | cons n t _ ih =>
  intro p hp
  rw[Xs,Wet] at hp
  rcases Xh.mp hp with rfl | hp
  ·exact⟨n,t,rfl⟩
  ·exact ih p hp
nonrec def Yal (p:Int×Vb):Int:=match p.2 with
 | .int n _=>n
 | _=>0
theorem Zzc {vs:List Vb} {ns:List Int} (h:Uba vs ns):((ns.map Zhd).zip vs).map Yal=ns:=by
 induction h with
 | nil=>rfl
 | cons n t _ ih=>rw[Xs,Wet,Xs,ih]; rfl
theorem Zpw:∀ ps:List (Int×Vb),(∀ p∈ps,∃ n t,p=(Zhd n,.int n t))->Uba (ps.map Prod.snd) (ps.map Yal)/\(ps.map Yal).map Zhd=ps.map Prod.fst
 | [],_=>⟨.nil,rfl⟩
 | p::ps,h=>by
  obtain⟨n,t,rfl⟩:=h p (by simp)
  obtain⟨a,b⟩:=Zpw ps fun q hq=>h q (by simp[hq])
  exact⟨.cons n t a,by rw[Xs,Xs,Xs,b]; rfl⟩
nonrec def Zbw (ns:List Int):List Int:=ns.mergeSort fun a b=>decide (Zhd a<=Zhd b)
theorem Za0 (ns:List Int):(Zbw ns).Perm ns:=List.mergeSort_perm ..
theorem Zpb (ns:List Int):(Zbw ns).Pairwise fun a b=>Zhd a<=Zhd b:=by
 have h:=List.pairwise_mergeSort (le:=fun a b:Int=>decide (Zhd a<=Zhd b)) (by intro a b c h1 h2; simp at *; omega) (by intro a b; simp; omega) ns
 exact h.imp (by intro a b h; simpa using h)
theorem Zye {x y:List Int} (h:x.map Zhd=y.map Zhd) (hi:∀ a∈x,∀ b∈y,Zhd a=Zhd b->a=b):x=y:=by
 induction x generalizing y with
 | nil=>cases y with
  | nil=>rfl
  | cons _ _=>cases h
 | cons a x ih=>cases y with
  | nil=>cases h
  | cons b y =>
   rw[Xs,Xs] at h
   obtain⟨h1,h2⟩:=Wbm.inj h
   rw[hi a (by simp) b (by simp) h1,ih h2 fun c hc d hd=>hi c (by simp[hc]) d (by simp[hd])]
theorem Zu0 {ns:List Int} (h:(ns.map Zhd).Nodup):∀ a∈ns,∀ b∈ns,Zhd a=Zhd b->a=b:=by
 induction ns with
 | nil=>intro a ha; cases ha
 | cons n r ih =>
  rw[Xs,Wbr] at h
  intro a ha b hb e
  rcases Xh.mp ha with h1 | h1<;>rcases Xh.mp hb with h2 | h2
  ·rw[h1,h2]
  ·exact absurd (Xp.mpr ⟨b,h2,by rw[<- e,h1]⟩) h.1
  ·exact absurd (Xp.mpr ⟨a,h1,by rw[e,h2]⟩) h.1
  ·exact ih h.2 a h1 b h2 e
theorem Zxt {vs out:List Vb} {ns:List Int} (h:Uba vs ns) (hn:(ns.map Zhd).Nodup) (k:KskOut false (ns.map Zhd) vs out):Uba out (Zbw ns):=by
 obtain⟨ps,hp,rfl,hw⟩:=k
 obtain⟨a,b⟩:=Zpw ps fun p hp'=>Zzj h p (hp.mem_iff.mp hp')
 have c:(ps.map Yal).Perm ns:=by rw[<- Zzc h]; exact hp.map Yal
 have d:ps.map Yal=Zbw ns:=by
  refine Zye (Zms ((c.map Zhd).trans ((Za0 ns).map Zhd).symm) ?_ ?_) fun x hx y hy e=>Zu0 hn x (c.mem_iff.mp hx) y ((Za0 ns).mem_iff.mp hy) e
  ·rw[b,Wds]; simpa using hw
  ·rw[Wds]; exact Zpb ns
 rw[<- d]; exact a
theorem Zmf {X:Cx} {pins:List (Ve×Obj)} {σ:L2.St} {H:Hp} {s:Vd} {h':Vy} {a:Ve} {o:HO} {t':Nat} (I:Inv X pins σ H s) (k:∀ b u,b≠X.env.locals->s.heap.get? b=some u->h'.get? b=some u)
  (ns:∀ m,s.heap.Ns X.env.locals m->h'.Ns X.env.locals m) (hp:s.heap.objs.size<=a) (new:Zc8 X.prog X.w (upd H a o) h' a o):Inv X pins σ (upd H a o) { s with heap:=h',toks:=t' }:=by
 have hn:=I.hok.fresh hp
 have there:∀ b u,s.heap.get? b=some u->∃ o',h'.get? b=some o':=fun b u e=>by
  by_cases hb:b=X.env.locals
  ·subst hb
   obtain⟨m,hm,_⟩:=I.loc
   obtain⟨o,_,_,ho,_⟩:=ns m hm
   exact⟨o,ho⟩
  ·exact⟨u,k b u hb e⟩
 refine I.step (g':=s.gens) (d':=s.drawn) (ch:=[]) (fun _ z=>nomatch z) (fun b u hb _ _ e _=>k b u hb e) (fun b u hb _ _ e _=>⟨u.slots,k b u hb e⟩) (fun b u _ e n=>?_) (fun b u _ e=>there b u e) (fun b xs q=>?_) (fun b u xs q=>?_) (fun b ps q=>⟨#[],?_⟩) ns (fun b u e=>?_) I.bare
 ·rw[Zak (Xq (Xu (Xg e) hp))]; exact n
 ·rw[Zak (Zai q hn)]; exact q
 ·rw[Zak (Zai q hn)]; exact q
 ·rw[Zak (Zai q hn),q]; simp
 ·by_cases hb:b=a
  ·subst hb; rw[Zav] at e; cases e; exact new
  ·rw[Zak hb] at e
   have nL:∀ c,(c=b\/H c=some (.own b))->c≠X.env.locals:=fun c hc z=>by
    subst z
    have:=I.free
    rcases hc with rfl | hc
    ·rw[this] at e; cases e
    ·rw[this] at hc; cases hc
   exact(I.hok b u e).stay (fun c v hc q=>k c v (nL c hc) q) (fun c q=>by rw[Zak (Zai q hn)]; exact q) fun c xs q=>by rw[Zak (Zai q hn)]; exact q
nonrec def Zj6:FF:=fun ds H=>match ds with
 | [d]=>(Zl4 d H).bind fun xs=>(Zfr xs).bind fun ns=>if ns.length<64/\(ns.map Zhd).Nodup then some (.ref H.length,H++[.lst ((Zbw ns).map .int)]) else none
 | _=>none
theorem Znf {X:Cx} {a:Vv} {f:AF} {p p2 kp pos:Pos} (hg:Gl X "sorted") (hm:X.mg "sorted" = none) (hg2:Gl X "abs") (hm2:X.mg "abs" = none) (ha:PAf X [a] f) (hs:Vf [a] X.env=[(false,eval a X.env)]:=by rfl) :
  PEf X (.Call (.Name "sorted" p) [a] [⟨some "key",.Name "abs" p2,kp⟩] pos) (eCB Zj6 f):=by
 rintro pins s σ H Q I ⟨ι,σd,Hd,d,Hd',sr,hr,e,q⟩
 obtain⟨⟨ds,H1⟩,e1,e⟩:=Zo e
 dsimp only at e
 unfold Zj6 at e
 split at e
 ·rename_i d0
  obtain⟨ys,e2,e⟩:=Zo e
  obtain⟨ns,e3,e⟩:=Zo e
  split at e
  ·rename_i hc
   show Vg _ _ (do Udt pos (<- eval (.Name "sorted" p) X.env) [] (Uag pos (Vf [a] X.env)) (Ubx pos (Uat [⟨some "key",.Name "abs" p2,kp⟩] X.env))) _ _ _
   refine Va (Zdw I hg hm Znv (Ucu (by rw[hs]; rfl) rfl ?_))
   have hA:=ha pos pins s σ H (fun vs H'=>∃ ι',Le X.K H ι H' ι'/\HRep X.K H' ι' H1/\Vj (Rep X.K H' ι') [d0] vs) I ⟨ι,σd,Hd,_,_,sr,hr,e1,fun vs H' ι' l h P=>⟨ι',l,h,P⟩⟩
   rw[hs] at hA ⊢
   refine Udq rfl (thn hA fun us s1 ⟨vs,H2,I2,r2,ι2,l2,h2,P2⟩=>kws_cons (Zdw I2 hg2 hm2 Ztf (kws_nil ?_)))
   obtain⟨v,rfl,r⟩:=Zl0 P2
   obtain⟨u,rfl,ru⟩:=Zic r2
   obtain⟨ad,ws,rfl,hq,P3⟩:=Zl5 h2 r e2
   cases ru
   have ev:=Zi2 e3 P3
   subst ev
   show Vg _ _ (call (.builtin "sorted") [.ref ad] [(Ub "key",.builtin "abs")]) _ _ _
   obtain⟨m,hn,_⟩:=I2.loc
   have Zl3:∃ its:List Vb,Zb6 (ns.map V.int) its/\(∀ R:List Vb->Vd->Prop,R its { s1 with heap:=(s1.heap.push (Uar "list" #[] 0)).update s1.heap.objs.size (Tbc (· ++ its.toArray)) }->Vg (Vn X.prog X.w) X.A.in1 (collect (.ref ad)) R X.xe s1):=by
    rcases hq with hq | hq
    ·obtain⟨its,ri,pl,hz⟩:=I2.list hq
     exact⟨its,ri,fun R hR=>collect_list pl.isList hR (by rw[<- ri.length]; exact hz)⟩
    ·obtain⟨its,ri,pl,hz⟩:=I2.tuple hq
     exact⟨its,ri,fun R hR=>Zoo pl (by rw[<- ri.length]; exact hz) hR⟩
   obtain⟨its,ri,hcol⟩:=Zl3
   have il:its.length=ns.length:=by rw[<- ri.length,Xi]
   refine Zvk hn (Zkt ri) (by omega) hcol fun h' tk out c hn' kk hat K'=>?_
   have hO:=Zxt (Zkt ri) hc.2 K'
   have hl:((Zbw ns).map V.int).length<=sizeLine:=by
    rw[Xi,(Za0 ns).length_eq]
    have:sizeLine=16777216:=Ubd
    omega
   have hp0:H2 (s1.heap.objs.size+1)=none:=I2.hok.fresh (Wdg _)
   refine⟨.ref (s1.heap.objs.size+1),_,Zmf (o:=.lst ((Zbw ns).map V.int)) I2 kk (fun m' hm'=>by rw[hm'.eq_nsMap,<- hn.eq_nsMap]; exact hn') (Wdg _) ⟨hl,out.toList,c,Zl8 hO,by simpa using hat⟩,rfl,?_⟩
   have hz2:((Zbw ns).map D.int).length<=sizeLine:=by simpa using hl
   exact(Zgi h2 (Zm6 (Zbw ns)) (show mkL ((Zbw ns).map D.int) H1=some (d,Hd') by unfold mkL; rw[if_pos hz2,e]) (fun v H' ι' l h r=>q v H' ι' (l2.trans l) h r)).2 _ hp0
  ·cases e
 ·cases e
open Builtin.SmallTypes (nextOf)
def SqI (b:Bool) (h:Vy) (i l:Ve) (n:Nat):Prop:=∃ o,h.get? i=some o/\o.cls=.type (if b then "list_iterator" else "tuple_iterator")/\o.data=.fields #[.ref l,.int n 0]
def SqX (b:Bool) (h:Vy) (l:Ve) (xs:Array Vb):Prop:=∃ o,h.get? l=some o/\o.cls=.type (if b then "list" else "tuple")/\∃ n,o.data=.seq xs n
theorem SqI.mv {b:Bool} {h h':Vy} {i l:Ve} {n:Nat} (x:SqI b h i l n) (k:∀ o,h.get? i=some o->h'.get? i=some o):SqI b h' i l n:=let ⟨o,e,r⟩:=x; ⟨o,k o e,r⟩
theorem SqX.mv {b:Bool} {h h':Vy} {l:Ve} {xs:Array Vb} (x:SqX b h l xs) (k:∀ o,h.get? l=some o->h'.get? l=some o):SqX b h' l xs:=let ⟨o,e,r⟩:=x; ⟨o,k o e,r⟩
theorem SqI.lt {b:Bool} {h:Vy} {i l:Ve} {n:Nat} (x:SqI b h i l n):i<h.objs.size:=let ⟨_,e,_⟩:=x; Xg e
section
variable {prog:Vh} {w:Vs} {A:Vw} {E:Vb->Vd->Prop} {s:Vd}
theorem Zlo {b:Bool} {i l:Ve} {n:Nat} {xs:Array Vb} {x:Vb} {Q:Vb->Vd->Prop} (hi:SqI b s.heap i l n) (hl:SqX b s.heap l xs) (hx:xs[n]? = some x)
  (hQ:∀ h',SqI b h' i l (n+1)->Xx i s.heap h'->Q x { s with heap:=h' }):Vg (Vn prog w) A (nextOf (.ref i)) Q E s:=by
 cases b
 ·exact Zps hi hl hx hQ
 ·exact wpAny_nextOf_list_item hi hl hx hQ
theorem Zt5 {b:Bool} {i l:Ve} {n:Nat} {xs:Array Vb} {Q:Vb->Vd->Prop} (hh:A.handled=none) (hi:SqI b s.heap i l n) (hl:SqX b s.heap l xs) (hx:xs[n]? = none)
  (hE:∀ h' e,Wdf i s.heap h'->(∃ o,h'.get? e=some o/\o.cls=.type "StopIteration")->E (.ref e) { s with heap:=h' }):Vg (Vn prog w) A (nextOf (.ref i)) Q E s:=by
 cases b
 ·exact Zr5 hh hi hl hx hE
 ·exact wpAny_nextOf_list_end hh hi hl hx hE
variable {z TI TO i1 i2 l1 l2:Ve} {k1 k2:Nat} {xs ys:Array Vb} {b1 b2:Bool}
theorem Yci {x y a b:Vb} {Q:Vb->Vd->Prop} (D:Udm z TI TO i1 i2 l1 l2) (hz:Udh s.heap z TI TO .none) (hTI:Uas s.heap TI (.ref i1) (.ref i2)) (hTO:Uas s.heap TO a b)
  (h1:SqI b1 s.heap i1 l1 k1) (h2:SqI b2 s.heap i2 l2 k2) (hl1:SqX b1 s.heap l1 xs) (hl2:SqX b2 s.heap l2 ys) (hx:xs[k1]? = some x) (hy:ys[k2]? = some y)
  (hQ:∀ h',Udh h' z TI TO (Uap s.heap.objs.size)->Uas h' TO x y->SqI b1 h' i1 l1 (k1+1)->SqI b2 h' i2 l2 (k2+1)->Uas h' s.heap.objs.size x y->h'.objs.size=s.heap.objs.size+1 ->
   (∀ c o,c≠z->c≠TO->c≠i1->c≠i2->s.heap.get? c=some o->h'.get? c=some o)->Q (.ref s.heap.objs.size) { s with heap:=h' }) :
  Vg (Vn prog w) A (Builtin.«zip.__next__» ⟨[.ref z],[]⟩) (fun fin s'=>∃ v,fin=.done (.ret v)/\Q v s') E s:=by
 show Vg _ _ (Udf (.ref z) 2 >>= _) _ _ s
 refine Va (Vl hz rfl (x:=.bool false) rfl (show Vg _ _ (Udf (.ref z) 3 >>= _) _ _ _ from Va (Vl hz rfl (x:=.ref TI) rfl (Va (Uaf hTI rfl ?_)))))
 show Vg _ _ (Uc (.ref z) >>= _) _ E s
 unfold Uc
 refine Va (Va (Vl hz rfl (x:=.none) rfl (Vc ?_)))
 simp only[if_true]
 refine Va (Ubf (Va (Vl hz rfl (x:=.ref TO) rfl (Va (Vk hz (by simp) fun g1 (e1:Udh g1 z TI TO .ellipsis) t1=>Va ?_)))))
 simp only[Wfe,Wfi,Wei,Wfn]
 refine Va (Va (Ubz (show Vg _ _ (nextOf (.ref i1) >>= _) _ _ _ from Va (Zlo (h1.mv fun o e=>t1.extBut _ _ D.i1z e) (hl1.mv fun o e=>t1.extBut _ _ D.l1z e) hx fun g2 n2 t2=>Vc ?_))))
 have p2:Uas g2 TO a b:=t2.extBut _ _ D.TOi1 (t1.extBut _ _ D.TOz hTO)
 refine Va (Uaf p2 rfl (Va (Ubk p2 fun g3 (p3:Uas g3 TO x b) t3=>Va (Ubn (Vc ?_)))))
 refine Va (Va (Ubz (show Vg _ _ (nextOf (.ref i2) >>= _) _ _ _ from Va (Zlo (h2.mv fun o e=>t3.extBut _ _ D.TOi2.symm (t2.extBut _ _ D.i12.symm (t1.extBut _ _ D.i2z e))) (hl2.mv fun o e=>t3.extBut _ _ D.l2TO (t2.extBut _ _ D.l2i1 (t1.extBut _ _ D.l2z e))) hy fun g4 n4 t4=>Vc ?_))))
 have p4:Uas g4 TO x b:=t4.extBut _ _ D.TOi2 p3
 refine Va (Uaf p4 rfl (Va (Ubk p4 fun g5 (p5:Uas g5 TO x y) t5=>Va (Ubn (Vc (Vc ?_))))))
 have sz:g5.objs.size=s.heap.objs.size:=by rw[t5.1,t4.1,t3.1,t2.1,t1.1]
 have e5:Udh g5 z TI TO .ellipsis:=t5.extBut _ _ D.TOz.symm (t4.extBut _ _ D.i2z.symm (t3.extBut _ _ D.TOz.symm (t2.extBut _ _ D.i1z.symm e1)))
 have kp5:∀ c o,c≠z->c≠TO->c≠i1->c≠i2->s.heap.get? c=some o->g5.get? c=some o:=fun c o c1 c2 c3 c4 e=>t5.extBut _ _ c2 (t4.extBut _ _ c4 (t3.extBut _ _ c2 (t2.extBut _ _ c3 (t1.extBut _ _ c1 e))))
 have n15:SqI b1 g5 i1 l1 (k1+1):=n2.mv fun o e=>t5.extBut _ _ D.TOi1.symm (t4.extBut _ _ D.i12 (t3.extBut _ _ D.TOi1.symm e))
 have n25:SqI b2 g5 i2 l2 (k2+1):=n4.mv fun o e=>t5.extBut _ _ D.TOi2.symm e
 have zl:z<g5.objs.size:=Xg e5
 refine Va (Uaf p5 rfl (Va (Ucw ?_)))
 show Vg _ _ (Ud (.ref z) (.ref g5.objs.size) >>= _) _ _ { s with heap:=_ }
 have e6:Udh (g5.push { cls:=.type "tuple",data:=.seq #[x,y] }) z TI TO .ellipsis:=Xa _ e5
 unfold Ud
 refine Va (Va (Vk e6 (by simp) fun g7 (e7:Udh g7 z TI TO (Uap g5.objs.size)) t7=>Vk e7 (by simp) fun g8 (e8:Udh g8 z TI TO (Uap g5.objs.size)) t8=>?_))
 have up:∀ c o,c≠z->g5.get? c=some o->g8.get? c=some o:=fun c o c1 e=>t8.extBut _ _ c1 (t7.extBut _ _ c1 (Xa _ e))
 have p8:Uas g8 g5.objs.size x y:=t8.extBut _ _ (Wbu zl) (t7.extBut _ _ (Wbu zl) (Xf _ rfl))
 have s8:g8.objs.size=g5.objs.size+1:=by rw[t8.1,t7.1,War]
 rw[sz] at e8 p8 s8
 refine Vc ⟨.ref g5.objs.size,rfl,?_⟩
 rw[sz]
 exact hQ g8 e8 (up _ _ D.TOz p5) (n15.mv fun o e=>up _ o D.i1z e) (n25.mv fun o e=>up _ o D.i2z e) p8 s8 fun c o c1 c2 c3 c4 e=>up c o c1 (kp5 c o c1 c2 c3 c4 e)
theorem Ycq {a b:Vb} {Q:PySem.Fin->Vd->Prop} (hh:A.handled=none) (D:Udm z TI TO i1 i2 l1 l2) (hz:Udh s.heap z TI TO .none) (hTI:Uas s.heap TI (.ref i1) (.ref i2)) (hTO:Uas s.heap TO a b)
  (h1:SqI b1 s.heap i1 l1 k1) (h2:SqI b2 s.heap i2 l2 k2) (hl1:SqX b1 s.heap l1 xs) (hl2:SqX b2 s.heap l2 ys) (hend:xs[k1]? = none\/ys[k2]? = none)
  (hE:∀ h' e,(∀ c o,c≠z->c≠TO->c≠i1->c≠i2->s.heap.get? c=some o->h'.get? c=some o)->(∃ o,h'.get? e=some o/\o.cls=.type "StopIteration")->E (.ref e) { s with heap:=h' }) :
  Vg (Vn prog w) A (Builtin.«zip.__next__» ⟨[.ref z],[]⟩) Q E s:=by
 show Vg _ _ (Udf (.ref z) 2 >>= _) _ _ s
 refine Va (Vl hz rfl (x:=.bool false) rfl (show Vg _ _ (Udf (.ref z) 3 >>= _) _ _ _ from Va (Vl hz rfl (x:=.ref TI) rfl (Va (Uaf hTI rfl ?_)))))
 show Vg _ _ (Uc (.ref z) >>= _) _ E s
 unfold Uc
 refine Va (Va (Vl hz rfl (x:=.none) rfl (Vc ?_)))
 simp only[if_true]
 refine Va (Ubf (Va (Vl hz rfl (x:=.ref TO) rfl (Va (Vk hz (by simp) fun g1 (e1:Udh g1 z TI TO .ellipsis) t1=>Va ?_)))))
 simp only[Wfe,Wfi,Wei,Wfn]
 refine Va (Va (Ubz (show Vg _ _ (nextOf (.ref i1) >>= _) _ _ _ from ?_)))
 have hi1:=h1.mv (h':=g1) fun o e=>t1.extBut _ _ D.i1z e
 have hq1:=hl1.mv (h':=g1) fun o e=>t1.extBut _ _ D.l1z e
 cases hx:xs[k1]? with
 | none =>
  refine Va (Zt5 hh hi1 hq1 hx fun g2 e t2 zz=>?_)
  obtain⟨oe,ho,hc⟩:=zz
  have e2:Udh g2 z TI TO .ellipsis:=t2 _ _ D.i1z.symm e1
  have ne:e≠z:=fun q=>by subst q; rw[e2] at ho; cases ho; simp at hc
  exact Vk e2 (by simp) fun g3 _ t3=>hE g3 e (fun c o c1 _ c3 _ q=>t3.extBut _ _ c1 (t2 _ _ c3 (t1.extBut _ _ c1 q))) ⟨oe,t3.extBut _ _ ne ho,hc⟩
 | some x =>
  have hy:ys[k2]? = none:=hend.resolve_left fun q=>by rw[hx] at q; cases q
  refine Va (Zlo hi1 hq1 hx fun g2 n2 t2=>Vc ?_)
  have p2:Uas g2 TO a b:=t2.extBut _ _ D.TOi1 (t1.extBut _ _ D.TOz hTO)
  refine Va (Uaf p2 rfl (Va (Ubk p2 fun g3 _ t3=>Va (Ubn (Vc ?_)))))
  refine Va (Va (Ubz (show Vg _ _ (nextOf (.ref i2) >>= _) _ _ _ from Va (Zt5 hh (h2.mv fun o e=>t3.extBut _ _ D.TOi2.symm (t2.extBut _ _ D.i12.symm (t1.extBut _ _ D.i2z e))) (hl2.mv fun o e=>t3.extBut _ _ D.l2TO (t2.extBut _ _ D.l2i1 (t1.extBut _ _ D.l2z e))) hy fun g4 e t4 zz=>?_))))
  obtain⟨oe,ho,hc⟩:=zz
  have e4:Udh g4 z TI TO .ellipsis:=t4 _ _ D.i2z.symm (t3.extBut _ _ D.TOz.symm (t2.extBut _ _ D.i1z.symm e1))
  have ne:e≠z:=fun q=>by subst q; rw[e4] at ho; cases ho; simp at hc
  exact Vk e4 (by simp) fun g5 _ t5=>hE g5 e (fun c o c1 c2 c3 c4 q=>t5.extBut _ _ c1 (t4 _ _ c4 (t3.extBut _ _ c2 (t2.extBut _ _ c3 (t1.extBut _ _ c1 q))))) ⟨oe,t5.extBut _ _ ne ho,hc⟩
theorem Ya1 {x y a b:Vb} {Q:Option Vb->Vd->Prop} (D:Udm z TI TO i1 i2 l1 l2) (hz:Udh s.heap z TI TO .none) (hTI:Uas s.heap TI (.ref i1) (.ref i2)) (hTO:Uas s.heap TO a b)
  (h1:SqI b1 s.heap i1 l1 k1) (h2:SqI b2 s.heap i2 l2 k2) (hl1:SqX b1 s.heap l1 xs) (hl2:SqX b2 s.heap l2 ys) (hx:xs[k1]? = some x) (hy:ys[k2]? = some y)
  (hQ:∀ h',Udh h' z TI TO (Uap s.heap.objs.size)->Uas h' TO x y->SqI b1 h' i1 l1 (k1+1)->SqI b2 h' i2 l2 (k2+1)->Uas h' s.heap.objs.size x y->h'.objs.size=s.heap.objs.size+1 ->
   (∀ c o,c≠z->c≠TO->c≠i1->c≠i2->s.heap.get? c=some o->h'.get? c=some o)->Q (some (.ref s.heap.objs.size)) { s with heap:=h' }):Vg (Vn prog w) A (Ubh (.ref z)) Q E s:=by
 have ty:s.TypeIs (.ref z) "zip" := ⟨_,hz,rfl⟩
 unfold Ubh
 exact Va (Uaj (Vi (name:=Ub "__next__") ty Tbg (Vo Tbg ty F.entry_zip_next (Yci D hz hTI hTO h1 h2 hl1 hl2 hx hy fun h' a1 a2 a3 a4 a5 a6 a7=>Vc (hQ h' a1 a2 a3 a4 a5 a6 a7)) (Tcp _))))
theorem Yb2 {a b:Vb} {Q:Option Vb->Vd->Prop} (hh:A.handled=none) (D:Udm z TI TO i1 i2 l1 l2) (hz:Udh s.heap z TI TO .none) (hTI:Uas s.heap TI (.ref i1) (.ref i2)) (hTO:Uas s.heap TO a b)
  (h1:SqI b1 s.heap i1 l1 k1) (h2:SqI b2 s.heap i2 l2 k2) (hl1:SqX b1 s.heap l1 xs) (hl2:SqX b2 s.heap l2 ys) (hend:xs[k1]? = none\/ys[k2]? = none)
  (hQ:∀ h',(∀ c o,c≠z->c≠TO->c≠i1->c≠i2->s.heap.get? c=some o->h'.get? c=some o)->Q none { s with heap:=h' }):Vg (Vn prog w) A (Ubh (.ref z)) Q E s:=by
 have ty:s.TypeIs (.ref z) "zip" := ⟨_,hz,rfl⟩
 unfold Ubh
 refine Va (Uaj (Vi (name:=Ub "__next__") ty Tbg (Vo Tbg ty F.entry_zip_next (Ycq hh D hz hTI hTO h1 h2 hl1 hl2 hend fun h' e hk ⟨o,ho,hc⟩=>?_) (Tcp _))))
 exact Va (Ubj (T := "StopIteration") (b:=true) ⟨o,ho,hc⟩ Ubs (Vc (hQ _ hk)))
nonrec def itO (b:Bool) (l:Ve):Obj:={ cls:=.type (if b then "list_iterator" else "tuple_iterator"),data:=.fields #[.ref l,.int 0 0] }
theorem Zus {b:Bool} {l:Ve} {xs:Array Vb} {Q:Vb->Vd->Prop} (hl:SqX b s.heap l xs) (h:Q (.ref s.heap.objs.size) { s with heap:=s.heap.push (itO b l) }):Vg (Vn prog w) A (pyIter (.ref l)) Q E s:=by
 cases b
 ·exact Uad hl h
 ·exact Uan hl h
nonrec def zh2 (h:Vy) (b1 b2:Bool) (l1 l2:Ve):Vy:=(h.push (itO b1 l1)).push (itO b2 l2)
nonrec def zh4 (h:Vy) (b1 b2:Bool) (l1 l2:Ve):Vy:=((zh2 h b1 b2 l1 l2).push { cls:=.type "tuple",data:=.seq #[.ref h.objs.size,.ref (h.push (itO b1 l1)).objs.size] }).push { cls:=.type "tuple",data:=.seq #[.none,.none] }
nonrec def zh5 (h:Vy) (b1 b2:Bool) (l1 l2:Ve):Vy:=(zh4 h b1 b2 l1 l2).push { cls:=.type "zip",data:=.fields #[.none,.bool false,.bool false,.ref (zh2 h b1 b2 l1 l2).objs.size,.ref ((zh2 h b1 b2 l1 l2).push { cls:=.type "tuple",data:=.seq #[.ref h.objs.size,.ref (h.push (itO b1 l1)).objs.size] }).objs.size] }
theorem Zww (b1 b2:Bool) (l1 l2:Ve) (xs ys:Array Vb):Uea (Builtin.«zip.__new__» ⟨[.type "zip",.ref l1,.ref l2],[]⟩) (fun _ R s=>SqX b1 s.heap l1 xs/\SqX b2 s.heap l2 ys/\R (.ok (.ret (.ref (zh4 s.heap b1 b2 l1 l2).objs.size))) { s with heap:=zh5 s.heap b1 b2 l1 l2 }) :=
 .of_wp fun prog w A R s h=>by
  obtain⟨hp,g,d,tk,os⟩:=s; obtain⟨m1,m2,h⟩:=h
  have sb:=sub_zip
  have M1:SqX b1 (Tbu ⟨hp,g,d,tk,os⟩) l1 xs:=m1
  have M2:SqX b2 (Tbu ⟨hp.push (itO b1 l1),g,d,tk,os⟩) l2 ys:=m2.mv fun o e=>Xa _ e
  wp_walk using Zus M1,Zus M2
  exact⟨_,rfl,h⟩
theorem Zst {b1 b2:Bool} {l1 l2:Ve} {xs ys:Array Vb} {Q:Vb->Vd->Prop} (m1:SqX b1 s.heap l1 xs) (m2:SqX b2 s.heap l2 ys)
  (h:∀ h',Udh h' (s.heap.objs.size+4) (s.heap.objs.size+2) (s.heap.objs.size+3) .none->Uas h' (s.heap.objs.size+2) (.ref s.heap.objs.size) (.ref (s.heap.objs.size+1))->Uas h' (s.heap.objs.size+3) .none .none ->
   SqI b1 h' s.heap.objs.size l1 0->SqI b2 h' (s.heap.objs.size+1) l2 0->(∀ c o,s.heap.get? c=some o->h'.get? c=some o)->Q (.ref (s.heap.objs.size+4)) { s with heap:=h' }) :
  Vg (Vn prog w) A (call (.type "zip") [.ref l1,.ref l2]) Q E s:=by
 refine Udp F.called_zip (by decide) (F.typeCall_zip_2 _ _) (F.newCall_zip_2 _ _) (fun obj=>F.args_object_init_3 obj _ _) F.entry_zip_new (Zww b1 b2 l1 l2 xs ys) ⟨m1,m2,?_⟩
 let n:=s.heap.objs.size
 have s1:(s.heap.push (itO b1 l1)).objs.size=n+1:=War ..
 have s2:(zh2 s.heap b1 b2 l1 l2).objs.size=n+2:=(War ..).trans (by rw[s1])
 have s3:((zh2 s.heap b1 b2 l1 l2).push { cls:=.type "tuple",data:=.seq #[.ref s.heap.objs.size,.ref (s.heap.push (itO b1 l1)).objs.size] }).objs.size=n+3:=(War ..).trans (by rw[s2])
 have s4:(zh4 s.heap b1 b2 l1 l2).objs.size=n+4:=(War ..).trans (by rw[s3])
 have g5:(zh5 s.heap b1 b2 l1 l2).get? (zh4 s.heap b1 b2 l1 l2).objs.size=some _:=Xf _ rfl
 have g4:(zh5 s.heap b1 b2 l1 l2).get? ((zh2 s.heap b1 b2 l1 l2).push { cls:=.type "tuple",data:=.seq #[.ref s.heap.objs.size,.ref (s.heap.push (itO b1 l1)).objs.size] }).objs.size=some _:=Xa _ (Xf _ rfl)
 have g3:(zh5 s.heap b1 b2 l1 l2).get? (zh2 s.heap b1 b2 l1 l2).objs.size=some _:=Xa _ (Xa _ (Xf _ rfl))
 have g2:(zh5 s.heap b1 b2 l1 l2).get? (s.heap.push (itO b1 l1)).objs.size=some (itO b2 l2):=Xa _ (Xa _ (Xa _ (Xf _ rfl)))
 have g1:(zh5 s.heap b1 b2 l1 l2).get? s.heap.objs.size=some (itO b1 l1):=Xa _ (Xa _ (Xa _ (Xa _ (Xf _ rfl))))
 show _/\_
 rw[s2,s3,s4] at g5
 rw[s1,s2] at g3
 rw[s3] at g4
 rw[s1] at g2
 rw[s4]
 exact⟨⟨_,g5,rfl⟩,h _ g5 g3 g4 ⟨_,g1,rfl,rfl⟩ ⟨_,g2,rfl,rfl⟩ fun c o e=>Xa _ (Xa _ (Xa _ (Xa _ (Xa _ e))))⟩
end
def SqB (K:Xb) (b:Bool) (H:Hp) (l:Ve) (xs:List V):Prop:=if b=true then H l=some (.lst xs) else SqT K H l xs
nonrec def Zu5 (d:D) (H:HD):Option (List D×Zhf):=match d with
 | .tup xs=>some (xs,[])
 | .ref n=>match H[n]? with
  | some (.lst xs)=>some (xs,[(n,.lst xs)])
  | _=>none
 | _=>none
theorem Zp4 {d:D} {H:HD} {xs:List D} {own:Zhf} (e:Zu5 d H=some (xs,own)):Zcd own H:=by
 unfold Zu5 at e
 split at e
 ·cases e; intro p hp; cases hp
 ·split at e
  ·rename_i eo
   cases e
   intro p hp
   simp at hp; subst hp; exact eo
  ·cases e
 ·cases e
theorem Zxb {K:Xb} {H:Hp} {ι:List Ve} {Hd:HD} {d:D} {v:V} {xs:List D} {own:Zhf} (r:Rep K H ι d v) (e:Zu5 d Hd=some (xs,own)) :
  ∃ b l,v=.ref l/\∀ H2 ι2 Hd2,Le K H ι H2 ι2->HRep K H2 ι2 Hd2->Zcd own Hd2->∃ ws,SqB K b H2 l ws/\Vj (Rep K H2 ι2) xs ws:=by
 unfold Zu5 at e
 split at e
 ·cases e
  obtain⟨a,vs,rfl,h,p⟩:=Za5.mp r
  refine⟨false,a,rfl,fun H2 ι2 Hd2 l2 h2 _=>?_⟩
  obtain⟨a',ws,ea,h',p'⟩:=Za5.mp (r.mono l2)
  cases ea
  exact⟨ws,h',p'⟩
 ·rename_i n
  split at e
  ·rename_i ys eo
   cases e
   obtain⟨a,rfl,ha⟩:=Zat.mp r
   refine⟨true,a,rfl,fun H2 ι2 Hd2 l2 h2 ok=>?_⟩
   obtain⟨ws,g,p⟩:=h2.obj n a _ (l2.get ha) (ok (n,.lst xs) (by simp))
   exact⟨ws,g,p⟩
  ·cases e
 ·cases e
section
variable {X:Cx} {pins:List (Ve×Obj)} {σ:L2.St} {H:Hp} {s:Vd} {b:Bool} {l:Ve} {xs ys:List V}
theorem Zhi (I:Inv X pins σ H s) (h:SqB X.K b H l xs):∃ its:List Vb,Zb6 xs its/\SqX b s.heap l its.toArray:=by
 cases b with
 | true =>
  obtain⟨its,r,p,_⟩:=I.list (SqL.of (K:=X.K) (show H l=some (.lst xs) from h))
  exact⟨its,r,p.isList⟩
 | false =>
  obtain⟨its,r,p,_⟩:=I.tuple (show SqT X.K H l xs from h)
  exact⟨its,r,p⟩
theorem Ztk (I:Inv X pins σ H s) (h:SqB X.K b H l xs) (h':SqB X.K b H l ys):xs=ys:=by
 cases b with
 | true =>
  have e1:H l=some (.lst xs):=h
  have e2:H l=some (.lst ys):=h'
  rw[e1] at e2; cases e2; rfl
 | false=>exact I.tuple_inj (show SqT X.K H l xs from h) h'
theorem Zpt (I:Inv X pins σ H s) (h:SqB X.K b H l xs) {q:Ve} (f:Zo3 X pins H q):l≠q:=fun e=>by
 subst e
 have n0:=f.1
 cases b with
 | true =>
  have e1:H l=some (.lst xs):=h
  rw[n0] at e1; cases e1
 | false =>
  rcases(show SqT X.K H l xs from h) with h | ⟨o,its,n,hk,_⟩
  ·rcases h with h | ⟨o,h⟩<;>rw[n0] at h<;>cases h
  ·have e1:=I.ok.mod.kin l o hk
   rcases f.2.2.2.1 with z | z
   ·exact I.ok.noex l o e1 z
   ·exact absurd (Xu (Xg (I.ok.bs l o e1).1) z) (Wbn _)
end
nonrec def ItzS (K:Xb) (b1 b2:Bool) (l m:Ve):It :=
 ⟨fun i H=>∃ xs ys x y,SqB K b1 H l xs/\SqB K b2 H m ys/\xs[i]? = some x/\ys[i]? = some y,
  fun i H v H'=>∃ p x y,H p=none/\v=.ref p/\H'=upd H p (.tup [x,y])/\(∀ xs,SqB K b1 H l xs->xs[i]? = some x)/\∀ ys,SqB K b2 H m ys->ys[i]? = some y,
  fun i H=>∃ xs ys,SqB K b1 H l xs/\SqB K b2 H m ys/\(xs.length<=i\/ys.length<=i)⟩
theorem Zs8 {P:Vh} {w:Vs} {K:Xb} {es:List Vv} {k:Nat} {pos:Pos} (b1 b2:Bool) (l m z a b c d:Ve) (F5:Five z a b c d) :
  Turn P w K (.Tuple es k pos) (ItzS K b1 b2 l m) [z,a,b,c,d] z (fun i h=>Udh h z a b .none/\Uas h a (.ref c) (.ref d)/\(∃ u v,Uas h b u v)/\SqI b1 h c l i/\SqI b2 h d m i) where
 mem:=by simp
 obj:=fun i h st y hy=>by
  obtain⟨h1,h2,⟨u,v,h3⟩,⟨o4,h4,_,d4⟩,o5,h5,_,d5⟩:=st
  simp only[Xh,Wda,or_false] at hy
  rcases hy with rfl | rfl | rfl | rfl | rfl
  ·exact⟨_,h1,fun v z=>by cases z⟩
  ·exact⟨_,h2,fun v z=>by cases z⟩
  ·exact⟨_,h3,fun v z=>by cases z⟩
  ·exact⟨o4,h4,fun v z=>by rw[d4] at z; cases z⟩
  ·exact⟨o5,h5,fun v z=>by rw[d5] at z; cases z⟩
 keep:=fun i h h' st kk=>by
  obtain⟨h1,h2,⟨u,v,h3⟩,⟨o4,h4,r4⟩,o5,h5,r5⟩:=st
  exact⟨kk z (by simp) _ h1,kk a (by simp) _ h2,⟨u,v,kk b (by simp) _ h3⟩,⟨o4,kk c (by simp) _ h4,r4⟩,o5,kk d (by simp) _ h5,r5⟩
 item:=by
  intro X hP hw hK hc i pins s σ H E I hf st hg
  subst hP hw hK
  obtain⟨xs,ys,x,y,hl,hm,hx,hy⟩:=hg
  obtain⟨h1,h2,⟨u,v,h3⟩,h4,h5⟩:=st
  obtain⟨its,rv,p1⟩:=Zhi I hl
  obtain⟨jts,rw',p2⟩:=Zhi I hm
  obtain⟨ux,hux,rux⟩:=rv.get hx
  obtain⟨uy,huy,ruy⟩:=rw'.get hy
  have nl:∀ q∈[z,a,b,c,d],l≠q:=fun q hq=>Zpt I hl (hf q hq)
  have nm:∀ q∈[z,a,b,c,d],m≠q:=fun q hq=>Zpt I hm (hf q hq)
  have Ap:Udm z a b c d l m:=⟨F5.az,F5.bz,F5.cz,F5.dz,F5.ab,F5.ac,F5.ad,F5.bc,F5.bd,F5.cd,nl z (by simp),nl b (by simp),nl c (by simp),nl d (by simp),nm z (by simp),nm b (by simp),nm c (by simp),nm d (by simp)⟩
  refine Ya1 Ap h1 h2 h3 h4 h5 p1 p2 (x:=ux) (y:=uy) (by simpa using hux) (by simpa using huy) fun h' g1 g3 g4 g5 g6 g7 kk=>?_
  refine⟨_,rfl,wpAny_letOwnedTupleGo_zip (s:={ s with heap:=h' }) g1 fun h2' g1' s2=>?_⟩
  replace s2:Xx z h' h2':=s2
  have up:∀ q o,q∉[z,b,c,d]->s.heap.get? q=some o->h2'.get? q=some o:=fun q o hq e =>
   s2.extBut q o (fun e=>hq (by simp[e])) (kk q o (fun e=>hq (by simp[e])) (fun e=>hq (by simp[e])) (fun e=>hq (by simp[e])) (fun e=>hq (by simp[e])) e)
  have nz:s.heap.objs.size≠z:=Wbu (Xg h1)
  have hf':∀ q∈[z,b,c,d],Zo3 X pins H q:=fun q hq=>hf q (by simp at hq ⊢; rcases hq with rfl | rfl | rfl | rfl<;>simp)
  have t2:h2'.get? s.heap.objs.size=some { cls:=.type "tuple",data:=.seq [ux,uy].toArray 0 }:=s2.extBut _ _ nz g6
  have I2:=Zwg (tk:=s.toks) (vs:=[x,y]) I hf' up t2 (.cons rux (.cons ruy .nil)) (by show 2<=sizeLine; decide)
  have hp0:H s.heap.objs.size=none:=I.hok.fresh (Xe _)
  refine⟨.ref s.heap.objs.size,_,I2,rfl,⟨_,x,y,hp0,rfl,rfl,fun zs hz=>?_,fun zs hz=>?_⟩,⟨g1',?_,⟨ux,uy,?_⟩,?_,?_⟩,fun q hq=>?_⟩
  ·rw[<- Ztk I hl hz]; exact hx
  ·rw[<- Ztk I hm hz]; exact hy
  ·exact up a _ (by simp[F5.az,F5.ab,F5.ac,F5.ad]) h2
  ·exact s2.extBut _ _ F5.bz g3
  ·exact g4.mv fun o e=>s2.extBut _ _ F5.cz e
  ·exact g5.mv fun o e=>s2.extBut _ _ F5.dz e
  ·have hb2:q≠s.heap.objs.size:=by
    have lt:∀ {q o},s.heap.get? q=some o->q≠s.heap.objs.size:=fun e=>Xq (Xg e)
    simp only[Xh,Wda,or_false] at hq
    rcases hq with rfl | rfl | rfl | rfl | rfl
    ·exact lt h1
    ·exact lt h2
    ·exact lt h3
    ·exact Xq h4.lt
    ·exact Xq h5.lt
   rw[Zak hb2]; exact(hf q hq).1
 done:=by
  intro X hP hw hK hc i pins s σ H E I hf st hg
  subst hP hw hK
  obtain⟨xs,ys,hl,hm,hx⟩:=hg
  obtain⟨h1,h2,⟨u,v,h3⟩,h4,h5⟩:=st
  obtain⟨its,rv,p1⟩:=Zhi I hl
  obtain⟨jts,rw',p2⟩:=Zhi I hm
  have nl:∀ q∈[z,a,b,c,d],l≠q:=fun q hq=>Zpt I hl (hf q hq)
  have nm:∀ q∈[z,a,b,c,d],m≠q:=fun q hq=>Zpt I hm (hf q hq)
  have Ap:Udm z a b c d l m:=⟨F5.az,F5.bz,F5.cz,F5.dz,F5.ab,F5.ac,F5.ad,F5.bc,F5.bd,F5.cd,nl z (by simp),nl b (by simp),nl c (by simp),nl d (by simp),nm z (by simp),nm b (by simp),nm c (by simp),nm d (by simp)⟩
  have e1:=rv.length
  have e2:=rw'.length
  refine Yb2 (I.ok.hd hc) Ap h1 h2 h3 h4 h5 p1 p2 (by simp; omega) fun h' kk=>⟨rfl,Zvc (tk:=s.toks) (ch:=[z,b,c,d]) I (fun q hq=>hf q (by simp at hq ⊢; rcases hq with rfl | rfl | rfl | rfl<;>simp)) fun q o hq e=>?_⟩
  exact kk q o (fun e=>hq (by simp[e])) (fun e=>hq (by simp[e])) (fun e=>hq (by simp[e])) (fun e=>hq (by simp[e])) e
 self:=fun _ _ _ _ _ st h=>wpAny_pyIter_zip st.1 h
nonrec def Zvj (f:AF):ItF:=fun σ H=>(f σ H).bind fun p=>match p.1 with
 | [d1,d2]=>(Zu5 d1 p.2).bind fun a=>(Zu5 d2 p.2).map fun b=>((Zpd a.1 b.1,a.2++b.2),p.2)
 | _=>none
theorem Zwc {X:Cx} {es:List Vv} {k:Nat} {tp p pos:Pos} {a b:Vv} {f:AF} (hg:Gl X "zip") (hm:X.mg "zip" = none) (ha:PAf X [a,b] f) (hs:Vf [a,b] X.env=[(false,eval a X.env),(false,eval b X.env)]:=by rfl) (hs2:Vf [b] X.env=[(false,eval b X.env)]:=by rfl) :
  PIf X (.Tuple es k tp) (.Call (.Name "zip" p) [a,b] [] pos) (Zvj f):=by
 rintro pins s σ H R I ⟨ι,σd,Hd,xs,own,Hd',sr,hr,e,q⟩
 obtain⟨⟨ds,H1⟩,e1,e⟩:=Zo e
 dsimp only at e
 split at e
 ·rename_i d1 d2
  obtain⟨⟨us,ow1⟩,en,e⟩:=Zo e
  obtain⟨⟨vs,ow2⟩,em,e⟩:=Zm e
  cases e
  refine Call_ (Zdw I hg hm boot_zip (Uf (thn (ha pos pins s σ H (fun vs H'=>∃ b1 b2 l m xs ys,vs=[.ref l,.ref m]/\SqB X.K b1 H' l xs/\SqB X.K b2 H' m ys/\R (ItzS X.K b1 b2 l m) H') I ⟨ι,σd,Hd,_,_,sr,hr,e1,fun ws H' ι' l h P=>?_⟩) fun us s1 ⟨vs,H2,I2,r2,q2⟩=>?_) (by rw[hs,hs2]) (by rw[hs2]; rfl)))
  ·obtain⟨v,v',rfl,r,r'⟩:=Yam P
   obtain⟨c1,l1,rfl,at1⟩:=Zxb r en
   obtain⟨c2,l2,rfl,at2⟩:=Zxb r' em
   obtain⟨xs1,o1,P1⟩:=at1 H' ι' Hd' Le.refl h (Zp4 en)
   obtain⟨xs2,o2,P2⟩:=at2 H' ι' Hd' Le.refl h (Zp4 em)
   have ok1:∀ {Hd2:HD},Zcd (ow1++ow2) Hd2->Zcd ow1 Hd2:=fun ok p hp=>ok p (by simp[hp])
   have ok2:∀ {Hd2:HD},Zcd (ow1++ow2) Hd2->Zcd ow2 Hd2:=fun ok p hp=>ok p (by simp[hp])
   refine⟨c1,c2,l1,l2,xs1,xs2,rfl,o1,o2,q _ H' ι' l h ⟨fun i H2 ι2 Hd2 l2' h2 ok hi=>?_,fun i H2 ι2 Hd2 d x H3 l2' h2 ok hd y=>?_,fun i H2 ι2 Hd2 l2' h2 ok hi=>?_⟩⟩
   ·obtain⟨ws1,g1,Q1⟩:=at1 H2 ι2 Hd2 l2' h2 (ok1 ok)
    obtain⟨ws2,g2,Q2⟩:=at2 H2 ι2 Hd2 l2' h2 (ok2 ok)
    rw[Zk4] at hi
    dsimp only at hi
    have z1:=Prd.len Q1
    have z2:=Prd.len Q2
    exact⟨ws1,ws2,ws1[i]'(by omega),ws2[i]'(by omega),g1,g2,by simp,by simp⟩
   ·obtain⟨ws1,g1,Q1⟩:=at1 H2 ι2 Hd2 l2' h2 (ok1 ok)
    obtain⟨ws2,g2,Q2⟩:=at2 H2 ι2 Hd2 l2' h2 (ok2 ok)
    obtain⟨p,u1,u2,hp,rfl,rfl,y1,y2⟩:=y
    obtain⟨d1,d2,w1,w2,rfl⟩:=Zp5 hd
    obtain⟨c1,k1,t1⟩:=Prd.get Q1 w1
    obtain⟨c2,k2,t2⟩:=Prd.get Q2 w2
    have x1:=y1 _ g1
    have x2:=y2 _ g2
    rw[k1] at x1
    rw[k2] at x2
    cases x1
    cases x2
    exact⟨ι2,Le.fresh hp _,h2.tup hp _,Za5.mpr ⟨p,_,rfl,SqT.of Zav,.cons (t1.mono (Le.fresh hp _)) (.cons (t2.mono (Le.fresh hp _)) .nil)⟩⟩
   ·obtain⟨ws1,g1,Q1⟩:=at1 H2 ι2 Hd2 l2' h2 (ok1 ok)
    obtain⟨ws2,g2,Q2⟩:=at2 H2 ι2 Hd2 l2' h2 (ok2 ok)
    rw[Zk4] at hi
    dsimp only at hi
    have z1:=Prd.len Q1
    have z2:=Prd.len Q2
    exact⟨ws1,ws2,g1,g2,by omega⟩
  ·obtain⟨c1,c2,l,m,xs,ys,rfl,o1,o2,q2⟩:=q2
   obtain⟨u1,u2,rfl,ru1,ru2⟩:=Zz4 r2
   cases ru1
   cases ru2
   obtain⟨its,_,p1⟩:=Zhi I2 o1
   obtain⟨jts,_,p2⟩:=Zhi I2 o2
   refine Zst p1 p2 fun h' hz ha hb hc hd kk=>?_
   have I3:Inv X pins σ H2 { s1 with heap:=h' }:=I2.kept (t':=s1.toks) kk
   refine wpAny_pyIter_zip (s:={ s1 with heap:=h' }) hz ?_
   have ne:∀ {i j:Nat},i≠j->(s1.heap.objs.size+i:Nat)≠s1.heap.objs.size+j:=fun h z=>h (Nat.add_left_cancel z)
   have F5:Five (s1.heap.objs.size+4) (s1.heap.objs.size+2) (s1.heap.objs.size+3) s1.heap.objs.size (s1.heap.objs.size+1) :=
    ⟨ne (by decide),ne (by decide),ne (i:=0) (by decide),ne (by decide),ne (by decide),ne (j:=0) (by decide),ne (by decide),ne (j:=0) (by decide),ne (by decide),ne (i:=0) (by decide)⟩
   refine⟨s1.heap.objs.size+4,[s1.heap.objs.size+4,s1.heap.objs.size+2,s1.heap.objs.size+3,s1.heap.objs.size,s1.heap.objs.size+1],_,ItzS X.K c1 c2 l m,H2,rfl,I3,Zs8 c1 c2 l m _ _ _ _ _ F5,⟨hz,ha,⟨_,_,hb⟩,hc,hd⟩,fun b hb=>?_,q2⟩
   have:s1.heap.objs.size<=b:=by
    simp only[Xh,Wda,or_false] at hb
    rcases hb with rfl | rfl | rfl | rfl | rfl<;>first | exact Nat.le_add_right _ _ | exact Xe _
   exact I2.fpOk (b:=b) (H':=H2) this (I2.hok.fresh this)
 ·cases e
theorem Ze6:∀ {ns:List Int} {us:List Vb},Zb6 (ns.map V.int) us->us.length=ns.length/\∀ (i:Nat) (v:Vb),us[i]? = some v->∃ t,v=.int ((ns[i]?).getD 0) t
 | [],us,h=>by
  cases h
  exact⟨rfl,by intro i v e; simp at e⟩
 | n::r,us,h=>by
  cases h with
  | cons p Q =>
   obtain⟨h1,h2⟩:=Ze6 Q
   refine⟨by simp[h1],?_⟩
   intro i v e
   cases i with
   | zero =>
    obtain⟨t,rfl⟩:=p
    simp at e
    exact⟨t,by simpa using e.symm⟩
   | succ i =>
    simp at e
    simpa using h2 i v e
section
variable {X:Cx} {e:Vv} {pos:Pos}
nonrec def Zy7:SF:=fun _ _=>none
theorem Zz0 {st:Uae}:PSf X st Zy7:=by
 rintro pins s σ H E I ⟨ι,σd,Hd,fl,σd',Hd',_,_,e,_⟩
 cases e
nonrec def Zwr:D->Option Int
 | .int i=>some i
 | _=>none
nonrec def sAug (g:Int->Int->Int) (i:Nat) (f:EF):SF:=fun σ H=>((σ[i]?).join.bind Zwr).bind fun a=>(f σ H).bind fun p=>(Zwr p.1).map fun b=>(.nx,σ.set i (some (.int (g a b))),p.2)
theorem Zkc {d:D} {i:Int} (h:Zwr d=some i):d=.int i:=by
 cases d<;>simp[Zwr] at h
 rw[h]
theorem Yag {i:Nat} {x:Str} {f:EF} {op:Udr} {g:Int->Int->Int} {pos':Pos} (ho:PIp X op (ipI g)) (hN:X.N.Nodup) (hi:X.N[i]? = some x) (hx:Loc X.env.scope x) (he:PEf X e f)
  (hf:X.fn x=true\/X.env.scope.names.lookup x=some .local:=by first | exact .inl rfl | exact .inr rfl | assumption):PSf X (.AugAssign (.Name x pos') op e pos) (sAug g i f):=by
 refine PSi (Ycs hN hi hx he ho hf) fun E σ H zz=>?_
 obtain⟨ι,σd,Hd,fl,σd',Hd',s,hr,e,q⟩:=zz
 obtain⟨a,e0,e⟩:=Zo e
 obtain⟨d,e1,e2⟩:=Zo e0
 have:=Zkc e2
 subst this
 obtain⟨⟨y,H1⟩,e3,e⟩:=Zo e
 obtain⟨b,e4,e⟩:=Zm e
 have:=Zkc e4
 dsimp only at this e
 subst this
 cases e
 have hv:σd[i]? = some (some (.int a)):=by
  cases hx:σd[i]? with
  | none=>rw[hx] at e1; cases e1
  | some o=>rw[hx] at e1; exact congrArg some e1
 obtain⟨v,h1,h2⟩:=s.var i _ hv
 simp at h2
 subst h2
 refine⟨_,h1,ι,σd,Hd,_,_,s,hr,e3,fun v H' ι' l h r=>?_⟩
 simp at r
 subst r
 refine⟨a,b,rfl,rfl,q _ H' ι' l h ((s.mono l).set (by simp) i)⟩
end
nonrec def Zi7 (x:D) (ds:List D) (H:HD):Option (D×HD):=match x,ds with
 | .ref n,[.int i,d]=>match H[n]? with
  | some (.lst xs)=>if 0<=i/\i<=xs.length/\xs.length<sizeLine then some (.non,H.set n (.lst (xs.take i.toNat++[d]++xs.drop i.toNat))) else none
  | _=>none
 | _,_=>none
theorem Zpg {α β:Type} {F:α->β->Prop}:∀ {xs:List α} {us:List β} (k:Nat),Vj F xs us->Vj F (xs.take k) (us.take k)
 | [],_,k,.nil=>by simpa using Paired.nil
 | _::_,_,0,.cons _ _=>.nil
 | _::_,_,k+1,.cons a b=>.cons a (Zpg k b)
theorem Zp3 {α β:Type} {F:α->β->Prop}:∀ {xs:List α} {us:List β} (k:Nat),Vj F xs us->Vj F (xs.drop k) (us.drop k)
 | [],_,k,.nil=>by simpa using Paired.nil
 | _::_,_,0,h=>h
 | _::_,_,k+1,.cons a b=>Zp3 k b
section
variable {X:Cx}
theorem Zqs:MtF X "list.insert" Zi7:=by
 rintro pins s σ H x xs v us Q I rx rv ⟨ι,dx,ds,Hd,d,Hd',hr,r1,P,e,q⟩
 unfold Zi7 at e
 split at e
 ·rename_i n i d1
  obtain⟨a,rfl,ha⟩:=Zat.mp r1
  split at e
  ·rename_i ys e1
   split at e
   ·rename_i hl
    obtain⟨h0,h1,h2⟩:=hl
    cases e
    obtain⟨vs,hv,P1⟩:=hr.obj n a _ ha e1
    cases P with
    | cons p1 P =>
     cases P with
     | cons p2 P =>
      cases P
      simp at p1
      subst p1
      cases rv with
      | cons q1 rv =>
       cases rv with
       | cons q2 rv =>
        cases rv
        obtain⟨t,rfl⟩:=q1
        cases rx
        rename_i y u
        obtain⟨z,its,m,r,hl,eo⟩:=I.lstM hv
        have hlen:its.length=ys.length:=by rw[<- hl,<- Prd.len P1]
        have ef:Taj i=true:=by
         have sz:sizeLine=16777216:=Um
         simp only[Taj,Wad,decide_eq_true_eq]
         omega
        refine Uav Tbs ⟨_,eo,rfl⟩ PySem.F.entry_list_insert (PySem.F.args_list_insert_3 _ _ _) (PySem.AutoSeq1.list_insert_list_int_val_1 a its.toArray m i t u (by rw[ef]; simp) (by rw[Xj]; omega)) ⟨eo,?_⟩
        have L:Le X.K H ι (upd H a (.lst (vs.take i.toNat++[y]++vs.drop i.toNat))) ι:=Le.upd (Wae ha) hv trivial _
        refine⟨.non,_,I.lset (ys:=vs.take i.toNat++[y]++vs.drop i.toNat) (its':=its.take i.toNat++[u]++its.drop i.toNat) hv eo ?_ (((r.take i.toNat).append (.cons q2 .nil)).append (r.drop i.toNat)) ?_,rfl,q _ _ ι L (hr.upd ha hv trivial ⟨_,Zav,Prd.mono L (Prd.append (Prd.append (Zpg _ P1) (.cons p2 .nil)) (Zp3 _ P1))⟩) (by simp)⟩
        ·have k:(if i<0 then (i+(its.toArray.size:Int)).toNat else min i.toNat its.toArray.size)=i.toNat:=by
          rw[if_neg (by omega),Xj]; omega
         show (its.toArray.extract 0 (if i<0 then (i+(its.toArray.size:Int)).toNat else min i.toNat its.toArray.size)).push u++its.toArray.extract (if i<0 then (i+(its.toArray.size:Int)).toNat else min i.toNat its.toArray.size)=_
         rw[k]
         apply Array.toList_inj.mp
         simp[List.extract_eq_take_drop]
         rw[Wct (by simp)]
        ·have:=Prd.len P1
         simp; omega
   ·cases e
  ·cases e
 ·cases e
end
open Builtin.SmallTypes (nextOf)
section
variable {prog:Vh} {w:Vs} {A:Vw} {E:Vb->Vd->Prop} {s:Vd}
theorem Ztv {j t:Ve} {i:Nat} {its:Array Vb} {x:Vb} {Q:Vb->Vd->Prop} (hj:s.heap.IsListIter j t i) (ht:s.heap.IsList t its) (hx:its[i]? = some x)
  (hQ:∀ h',h'.IsListIter j t (i+1)->Xx j s.heap h'->Q x { s with heap:=h' }):Vg (Vn prog w) A (nextOf (.ref j)) Q E s :=
 Zlo (b:=true) hj ht hx hQ
theorem Zvz {j t:Ve} {i:Nat} {its:Array Vb} {Q:Vb->Vd->Prop} (hh:A.handled=none) (hj:s.heap.IsListIter j t i) (ht:s.heap.IsList t its) (hx:its[i]? = none)
  (hE:∀ h' e,Wdf j s.heap h'->(∃ o,h'.get? e=some o/\o.cls=.type "StopIteration")->E (.ref e) { s with heap:=h' }):Vg (Vn prog w) A (nextOf (.ref j)) Q E s :=
 Zt5 (b:=true) hh hj ht hx hE
theorem Zqj {e j t:Ve} {i:Nat} {c:Int} {its:Array Vb} {x old:Vb} {Q:Option Vb->Vd->Prop} (he:Uaq s.heap e j c old) (hj:s.heap.IsListIter j t i) (ht:s.heap.IsList t its) (hx:its[i]? = some x) (hne:e≠j)
  (hQ:∀ h' tk,Ucj h' e j (c+1) x s.heap.objs.size->h'.IsListIter j t (i+1)->h'.get? s.heap.objs.size=some { cls:=.type "tuple",data:=.seq #[.int c tk,x] }->h'.objs.size=s.heap.objs.size+1 ->
   (∀ b o,b≠e->b≠j->s.heap.get? b=some o->h'.get? b=some o)->Q (some (.ref s.heap.objs.size)) { s with heap:=h',toks:=s.toks+1 }) :
  Vg (Vn prog w) A (Ubh (.ref e)) Q E s:=by
 have hT:s.TypeIs (.ref e) "enumerate" := ⟨_,he,rfl⟩
 unfold Ubh
 refine Va (Uaj (Vi (name:=Ub "__next__") hT Uj (Vo Uj hT Tae ?_ (Tad _))))
 obtain⟨hp,g,d,tk,os⟩:=s
 show Vg _ _ (Udf (.ref e) 2 >>= _) _ _ _
 refine Va (Vl he rfl (x:=.ref j) rfl (Va (Ztv hj ht hx fun h1 j1 s1=>?_)))
 replace s1:Xx j hp h1:=s1
 have e1:Uaq h1 e j c old:=(s1.2 e hne).trans he
 show Vg _ _ (Udf (.ref e) 3 >>= _) _ _ ⟨h1,g,d,tk,os⟩
 refine Va (Vl e1 rfl (x:=Uap c) rfl ?_)
 show Vg _ _ (Udf (.ref e) 4 >>= _) _ _ ⟨h1,g,d,tk,os⟩
 refine Va (Vl e1 rfl (x:=.none) rfl ?_)
 show Vg _ _ (mkInt c >>= _) _ _ ⟨h1,g,d,tk,os⟩
 refine Va (Udy ?_)
 show Vg _ _ (Udk (.ref e) 3 (Uap (c+1)) >>= _) _ _ ⟨h1,g,d,tk+1,os⟩
 refine Va (Vk e1 (by simp) fun h2 e2 s2=>?_)
 replace s2:Xx e h1 h2:=s2
 replace e2:Uaq h2 e j (c+1) old:=e2
 show Vg _ _ (Udk (.ref e) 4 .none >>= _) _ _ ⟨h2,g,d,tk+1,os⟩
 refine Va (Vk e2 (by simp) fun h3 e3 s3=>?_)
 replace s3:Xx e h2 h3:=s3
 replace e3:Uaq h3 e j (c+1) old:=e3
 show Vg _ _ (newTuple [.int c tk,x] >>= _) _ _ ⟨h3,g,d,tk+1,os⟩
 refine Va (Ucw ?_)
 have e4:Uaq (h3.push { cls:=.type "tuple",data:=.seq #[.int c tk,x] }) e j (c+1) old:=Xa _ e3
 generalize q4:h3.push { cls:=.type "tuple",data:=.seq #[.int c tk,x] }=h4 at e4
 have zz:h3.objs.size=hp.objs.size:=by rw[s3.1,s2.1,s1.1]
 have lt:e<hp.objs.size:=Xg he
 have t4:h4.get? hp.objs.size=some { cls:=.type "tuple",data:=.seq #[.int c tk,x] }:=by rw[<- q4,<- zz]; exact Xf _ rfl
 have z4:h4.objs.size=hp.objs.size+1:=by rw[<- q4,War,zz]
 have k4:∀ b o,b≠e->b≠j->hp.get? b=some o->h4.get? b=some o:=fun b o n1 n2 q=>by
  rw[<- q4]; exact Xa _ (s3.extBut b o n1 (s2.extBut b o n1 (s1.extBut b o n2 q)))
 have j4:h4.IsListIter j t (i+1):=by
  obtain⟨o,ho,r⟩:=id j1
  exact⟨o,by rw[<- q4]; exact Xa _ (s3.extBut j o (Uo hne) (s2.extBut j o (Uo hne) ho)),r⟩
 show Vg _ _ (Uc (.ref e) >>= _) _ _ ⟨h4,g,d,tk+1,os⟩
 rw[zz]
 clear q4 e3 s3 e2 s2 e1 s1 j1 zz h3 h2 h1
 refine Va ?_
 unfold Uc
 refine Va (Vl e4 rfl (x:=.none) rfl (Vc ?_))
 simp only[if_true]
 refine Va (Ubf (Va (Vl e4 rfl (x:=old) rfl (Va (Vk e4 (by simp) fun h5 e5 s5=>?_)))))
 replace s5:Xx e h4 h5:=s5
 replace e5:Uaq h5 e j (c+1) x:=e5
 show Vg _ _ (Ud (.ref e) (.ref hp.objs.size) >>= _) _ _ ⟨h5,g,d,tk+1,os⟩
 refine Va ?_
 unfold Ud
 refine Va (Vk e5 (by simp) fun h6 e6 s6=>?_)
 replace s6:Xx e h5 h6:=s6
 replace e6:Ucj h6 e j (c+1) x hp.objs.size:=e6
 refine Vk e6 (by simp) fun h7 e7 s7=>?_
 replace s7:Xx e h6 h7:=s7
 replace e7:Ucj h7 e j (c+1) x hp.objs.size:=e7
 have up:∀ b o,b≠e->h4.get? b=some o->h7.get? b=some o:=fun b o n q=>s7.extBut b o n (s6.extBut b o n (s5.extBut b o n q))
 refine Va (Ubn (Vc ⟨_,rfl,Vc (hQ h7 tk e7 ?_ (up _ _ (Wbu lt) t4) (by rw[s7.1,s6.1,s5.1,z4]) fun b o n1 n2 q=>up b o n1 (k4 b o n1 n2 q))⟩))
 obtain⟨o,ho,r⟩:=id j4
 exact⟨o,up j o (Uo hne) ho,r⟩
theorem Zqi {e j t:Ve} {i:Nat} {c:Int} {its:Array Vb} {old:Vb} {Q:Option Vb->Vd->Prop} (hh:A.handled=none) (he:Uaq s.heap e j c old) (hj:s.heap.IsListIter j t i) (ht:s.heap.IsList t its) (hx:its[i]? = none)
  (hQ:∀ h',Wdf j s.heap h'->Q none { s with heap:=h' }):Vg (Vn prog w) A (Ubh (.ref e)) Q E s:=by
 have hT:s.TypeIs (.ref e) "enumerate" := ⟨_,he,rfl⟩
 unfold Ubh
 refine Va (Uaj (Vi (name:=Ub "__next__") hT Uj (Vo Uj hT Tae ?_ (Tad _))))
 show Vg _ _ (Udf (.ref e) 2 >>= _) _ _ _
 refine Va (Vl he rfl (x:=.ref j) rfl (Va (Zvz hh hj ht hx fun h' z he' zz=>?_)))
 obtain⟨o,ho,hc⟩:=zz
 exact Va (Ubj (T := "StopIteration") (b:=true) ⟨o,ho,hc⟩ Ubs (Vc (hQ _ he')))
open AutoSeq1 (wpAny_loadPart') in
theorem Zsq (t:Ve) (its:Array Vb) (n:Nat) (dct:Option Ve) (sl:Array (Option Vb)) :
  Uea (Builtin.«enumerate.__new__» ⟨[.type "enumerate",.ref t],[]⟩) (fun _ R s=>s.heap.get? t=some { cls:=.type "list",dict:=dct,data:=.seq its n,slots:=sl } /\
   R (.ok (.ret (.ref (s.heap.push { cls:=.type "list_iterator",data:=.fields #[.ref t,.int 0 0] }).objs.size)))
    { s with heap:=(s.heap.push { cls:=.type "list_iterator",data:=.fields #[.ref t,.int 0 0] }).push { cls:=.type "enumerate",data:=.fields #[.none,.bool false,.ref s.heap.objs.size,Uap 0,.none,.none] } }) :=
 .of_wp fun prog w A R s h=>by
  obtain⟨hp,g,d,tk,os⟩:=s; obtain⟨hl,h⟩:=h
  have hsub:=Udl
  have hL:Heap.IsList (Tbu ⟨hp,g,d,tk,os⟩) t its:=⟨_,hl,rfl,n,rfl⟩
  wp_walk using Vm hl
  refine Uck fun st=>Vc ?_
  split
  ·rename_i k _ _ _ _ _
   cases (k==Tbq "enumerate")<;>(wp_walk using Vm hl,Uan hL; exact⟨_,rfl,h⟩)
  ·wp_walk using Vm hl,Uan hL
   exact⟨_,rfl,h⟩
theorem Zqt {t:Ve} {its:Array Vb} {Q:Vb->Vd->Prop} (hL:s.heap.IsList t its)
  (h:∀ h',Uaq h' (s.heap.objs.size+1) s.heap.objs.size 0 .none->h'.IsListIter s.heap.objs.size t 0->h'.objs.size=s.heap.objs.size+2 ->
   (∀ b o,s.heap.get? b=some o->h'.get? b=some o)->Q (.ref (s.heap.objs.size+1)) { s with heap:=h' }) :
  Vg (Vn prog w) A (call (.type "enumerate") [.ref t]) Q E s:=by
 obtain⟨⟨k,dct,dt,sl⟩,hl,hc,n,hd⟩:=hL
 replace hc:k=.type "list" := hc
 replace hd:dt=.seq its n:=hd
 subst hc hd
 refine Udp Taf (by decide) (Tbz _) (Tcb _) (fun obj=>Tcg obj _) Tav (Zsq t its n dct sl) ⟨hl,?_⟩
 have hz:(s.heap.push { cls:=.type "list_iterator",data:=.fields #[.ref t,.int 0 0] }).objs.size=s.heap.objs.size+1:=War ..
 show _/\_
 rw[hz]
 have he:Uaq ((s.heap.push { cls:=.type "list_iterator",data:=.fields #[.ref t,.int 0 0] }).push { cls:=.type "enumerate",data:=.fields #[.none,.bool false,.ref s.heap.objs.size,Uap 0,.none,.none] }) (s.heap.objs.size+1) s.heap.objs.size 0 .none:=by
  have q:=Xf (s.heap.push { cls:=.type "list_iterator",data:=.fields #[.ref t,.int 0 0] }) (o:={ cls:=.type "enumerate",data:=.fields #[.none,.bool false,.ref s.heap.objs.size,Uap 0,.none,.none] }) rfl
  rw[hz] at q; exact q
 exact⟨⟨_,he,rfl⟩,h _ he ⟨_,Xa _ (Xf _ rfl),rfl,rfl⟩ (by rw[War,hz]) fun b o x=>Xa _ (Xa _ x)⟩
end
nonrec def IteL (c:Int) (a:Ve):It :=
 ⟨fun i H=>∃ xs x,H a=some (.lst xs)/\xs[i]? = some x,fun i H v H'=>∃ p x,H p=none/\v=.ref p/\H'=upd H p (.tup [.int (c+i),x])/\∀ xs,H a=some (.lst xs)->xs[i]? = some x,fun i H=>∃ xs,H a=some (.lst xs)/\xs.length<=i⟩
theorem Zq6 {P:Vh} {w:Vs} {K:Xb} {es:List Vv} {k:Nat} {pos:Pos} (a e j:Ve) (c:Int) (hne:e≠j):Turn P w K (.Tuple es k pos) (IteL c a) [e,j] e (fun i h=>∃ old,Uaq h e j (c+i) old/\h.IsListIter j a i) where
 mem:=by simp
 obj:=fun i h st b hb=>by
  obtain⟨old,he,o,ho,hc,hd⟩:=st
  rcases Xh.mp hb with rfl | hb
  ·exact⟨_,he,fun v z=>by cases z⟩
  ·have:b=j:=by simpa using hb
   subst this
   exact⟨o,ho,fun v z=>by rw[hd] at z; cases z⟩
 keep:=fun i h h' st kk=>by
  obtain⟨old,he,o,ho,r⟩:=st
  exact⟨old,kk e (by simp) _ he,o,kk j (by simp) o ho,r⟩
 item:=by
  intro X hP hw hK hc i pins s σ H E I hf st hg
  subst hP hw hK
  obtain⟨xs,x,hq,hx⟩:=hg
  obtain⟨old,he,hj⟩:=st
  obtain⟨its,rv,p,hz⟩:=I.list (SqL.of hq)
  obtain⟨u,hu,ru⟩:=rv.get hx
  have fe:=hf e (by simp)
  have fj:=hf j (by simp)
  refine Zqj he hj p.isList (x:=u) (by simpa using hu) hne fun h' tk eo j' t' z' kk=>?_
  refine⟨_,rfl,Ubo (s:={ s with heap:=h',toks:=s.toks+1 }) eo fun h2 e2 s2=>?_⟩
  replace s2:Xx e h' h2:=s2
  have le:e<s.heap.objs.size:=Xg he
  have ne2:s.heap.objs.size≠e:=Wbu le
  -- the iterator's two records have turned, the pair is new
  have t2:h2.get? s.heap.objs.size=some { cls:=.type "tuple",data:=.seq #[.int (c+i) tk,u] }:=s2.extBut _ _ ne2 t'
  have hp0:H s.heap.objs.size=none:=I.hok.fresh (Xe _)
  have up:∀ b o,b∉[e,j]->s.heap.get? b=some o->h2.get? b=some o:=fun b o hb q =>
   s2.extBut b o (fun z=>hb (by simp[z])) (kk b o (fun z=>hb (by simp[z])) (fun z=>hb (by simp[z])) q)
  have I2:Inv X pins σ (upd H s.heap.objs.size (.tup [.int (c+i),x])) { s with heap:=h2,toks:=s.toks+1 }:=by
   refine I.step (g':=s.gens) (d':=s.drawn) (t':=s.toks+1) (ch:=[e,j]) (fun b hb=>?_) (fun b o _ _ hb q n=>up b o hb q) (fun b o _ _ hb q n=>⟨o.slots,up b o hb q⟩) (fun b o _ q n=>?_) (fun b o hb q=>⟨o,up b o hb q⟩) (fun b ys q=>?_) (fun b o y q=>?_) (fun b ps q=>⟨#[],?_⟩) (fun m hm=>?_) (fun b o q=>?_) I.bare
   ·have:=hf b hb; exact⟨this.2.2.2.1,this.2.1,this.2.2.2.2.1,this.2.2.2.2.2⟩
   ·rw[Zak (Xq (Xg q))]; exact n
   ·rw[Zak (Zai q hp0)]; exact q
   ·rw[Zak (Zai q hp0)]; exact q
   ·rw[Zak (Zai q hp0),q]; simp
   ·obtain⟨o,es',ep,ho,r⟩:=hm
    exact⟨o,es',ep,s2.extBut _ o (Uo fe.2.1) (kk _ o (Uo fe.2.1) (Uo fj.2.1) ho),r⟩
   ·by_cases hb:b=s.heap.objs.size
    ·subst hb
     rw[Zav] at q
     cases q
     exact⟨(by show 2<=sizeLine; decide),[.int (c+i) tk,u],.cons ⟨tk,rfl⟩ (.cons ru .nil),_,t2,rfl,⟨_,rfl⟩,rfl⟩
    ·rw[Zak hb] at q
     refine(I.hok b o q).stay (fun d v hd z=>up d v (fun hm=>?_) z) (fun d z=>by rw[Zak (Zai z hp0)]; exact z) fun d ys z=>by rw[Zak (Zai z hp0)]; exact z
     have:H d≠none:=by
      rcases hd with rfl | hd
      ·rw[q]; simp
      ·rw[hd]; simp
     exact this (hf d hm).1
  refine⟨.ref s.heap.objs.size,_,I2,rfl,⟨_,x,hp0,rfl,rfl,fun ys hy=>by rw[hq] at hy; cases hy; exact hx⟩,?_,fun b hb=>?_⟩
  ·obtain⟨o,ho,r⟩:=id j'
   have ec:c+((i+1:Nat):Int)=c+(i:Int)+1:=by push_cast; omega
   exact⟨u,by rw[ec]; exact e2,o,s2.extBut j o (Uo hne) ho,r⟩
  ·have hb2:b≠s.heap.objs.size:=by
    rcases Xh.mp hb with rfl | hb
    ·exact Xq le
    ·have:b=j:=by simpa using hb
     subst this
     obtain⟨o,ho,_⟩:=id hj
     exact Xq (Xg ho)
   rw[Zak hb2]; exact(hf b hb).1
 done:=by
  intro X hP hw hK hc i pins s σ H E I hf st hg
  subst hP hw hK
  obtain⟨xs,hq,hx⟩:=hg
  obtain⟨old,he,hj⟩:=st
  obtain⟨its,rv,p,hz⟩:=I.list (SqL.of hq)
  obtain⟨f0,f1,f2,f3,f4,f5⟩:=hf j (by simp)
  have hl:=rv.length
  exact Zqi (I.ok.hd hc) he hj p.isList (by simp; omega) fun h' eb=>⟨rfl,I.turned (t':=s.toks) (fun b o hb q=>eb b o hb q) f0 f1 f3 f4 f5⟩
 self:=fun _ _ _ _ _ st h=>by
  obtain⟨old,he,_⟩:=st
  exact Uam he h
section
variable {X:Cx} {scope:Ucz} {x y0:Str} {cn:List Str} {ci:List Nat}
nonrec def Zo9 (f:AF):ItF:=fun σ H=>(f σ H).bind fun p=>match p.1 with
 | [.ref n]=>match p.2[n]? with
  | some (.lst xs)=>some ((Zb5 0 xs,[(n,.lst xs)]),p.2)
  | _=>none
 | _=>none
theorem Zup {K:Xb} {H0:Hp} {ι0:List Ve} {a:Ve} {n:Nat} {c:Int} {xs:List D} (ha:ι0[n]? = some a):ItRep K (IteL c a) (Zb5 c xs) [(n,.lst xs)] H0 ι0:=by
 have now:∀ {H2:Hp} {ι2:List Ve} {Hd2:HD},Le K H0 ι0 H2 ι2->HRep K H2 ι2 Hd2->Zcd [(n,DO.lst xs)] Hd2->∃ ws,H2 a=some (.lst ws)/\Vj (Rep K H2 ι2) xs ws:=fun {H2 ι2 Hd2} l2 h2 ok =>
  h2.obj n a _ (l2.get ha) (ok (n,.lst xs) (by simp))
 refine⟨fun i H2 ι2 Hd2 l2 h2 ok hi=>?_,fun i H2 ι2 Hd2 d v H3 l2 h2 ok hd y=>?_,fun i H2 ι2 Hd2 l2 h2 ok hi=>?_⟩
 ·obtain⟨ws,h3,P3⟩:=now l2 h2 ok
  exact⟨ws,ws[i]'(by rw[<- Prd.len P3,<- Ze1 xs c]; exact hi),h3,by simp⟩
 ·obtain⟨ws,h3,P3⟩:=now l2 h2 ok
  obtain⟨p,x,hp,rfl,rfl,y⟩:=y
  obtain⟨x',hx',rfl⟩:=Zix hd
  obtain⟨u,hu,ru⟩:=Prd.get P3 hx'
  have:=y ws h3
  rw[hu] at this
  cases this
  exact⟨ι2,Le.fresh hp _,h2.tup hp _,Za5.mpr ⟨p,_,rfl,SqT.of Zav,.cons (by simp) (.cons (ru.mono (Le.fresh hp _)) .nil)⟩⟩
 ·obtain⟨ws,h3,P3⟩:=now l2 h2 ok
  exact⟨ws,h3,by rw[<- Prd.len P3,<- Ze1 xs c]; exact hi⟩
theorem Zt3 {es:List Vv} {k:Nat} {tp p pos:Pos} {a:Vv} {f:AF} (hg:Gl X "enumerate") (hm:X.mg "enumerate" = none) (ha:PAf X [a] f) (hs:Vf [a] X.env=[(false,eval a X.env)]:=by rfl):PIf X (.Tuple es k tp) (.Call (.Name "enumerate" p) [a] [] pos) (Zo9 f):=by
 rintro pins s σ H R I ⟨ι,σd,Hd,xs,own,Hd',sr,hr,e,q⟩
 obtain⟨⟨ds,H1⟩,e1,e⟩:=Zo e
 dsimp only at e
 split at e
 ·rename_i n
  split at e
  ·rename_i ys eo
   cases e
   refine Call_ (Zdw I hg hm Ucx (Uf (thn (ha pos pins s σ H (fun vs H'=>∃ a ws,vs=[.ref a]/\H' a=some (.lst ws)/\∀ (J:It) (H2:Hp),H2=H'->J=IteL 0 a->R J H2) I ⟨ι,σd,Hd,_,_,sr,hr,e1,fun vs H' ι' l h P=>?_⟩) fun us s1 ⟨vs,H2,I2,r2,q2⟩=>?_) hs rfl))
   ·obtain⟨v,rfl,r⟩:=Zl0 P
    obtain⟨ad,rfl,had⟩:=Zat.mp r
    obtain⟨ws,hS,P2⟩:=h.obj n ad _ had eo
    refine⟨ad,ws,rfl,hS,fun J H2 e2 e3=>?_⟩
    subst e2 e3
    exact q _ _ ι' l h (Zup had)
   ·obtain⟨ad,ws,rfl,hS,q2⟩:=q2
    obtain⟨u,rfl,ru⟩:=Zic r2
    cases ru
    obtain⟨its,rv,p,hz⟩:=I2.list (SqL.of hS)
    refine Zqt p.isList fun h' he hj z' kk=>?_
    have I3:Inv X pins σ H2 { s1 with heap:=h' }:=I2.kept (t':=s1.toks) kk
    refine Uam (s:={ s1 with heap:=h' }) he ?_
    have ne:s1.heap.objs.size+1≠s1.heap.objs.size:=Wdy _
    refine⟨s1.heap.objs.size+1,[s1.heap.objs.size+1,s1.heap.objs.size],_,IteL 0 ad,H2,rfl,I3,Zq6 ad _ _ 0 ne,⟨.none,by simpa using he,hj⟩,fun b hb=>?_,q2 _ _ rfl rfl⟩
    have:s1.heap.objs.size<=b:=by
     rcases Xh.mp hb with rfl | hb
     ·exact Wdg _
     ·have:b=s1.heap.objs.size:=by simpa using hb
      rw[this]; exact Xe _
    exact I2.fpOk (b:=b) (H':=H2) this (I2.hok.fresh this)
  ·cases e
 ·cases e
end
nonrec def Zhb (kvs:List (Int×D)) (k:Int) (v:D):List (Int×D):=if kvs.any (fun p=>p.1=k)=true then kvs.map (fun p=>if p.1=k then (p.1,v) else p) else kvs++[(k,v)]
nonrec def Zbm (kvs:List (Int×D)) (k:Int):Option D:=(kvs.find? fun p=>p.1=k).map (·.2)
nonrec def Zu3 (x:D) (H:HD):Option (List (Int×D)):=match x with
 | .ref n=>match H[n]? with
  | some (.dci kvs)=>some kvs
  | _=>none
 | _=>none
nonrec def Zit:F2:=fun x y H=>(Zu3 x H).bind fun kvs=>match y with
 | .int k=>(Zbm kvs k).map fun v=>(v,H)
 | _=>none
nonrec def Yap:F2:=fun x y H=>(Zu3 y H).bind fun kvs=>match x with
 | .int k=>some (.bl (Zbm kvs k).isSome,H)
 | _=>none
theorem Zgo {x:D} {Hd:HD} {kvs:List (Int×D)} (e:Zu3 x Hd=some kvs):∃ n,x=.ref n/\Hd[n]? = some (.dci kvs):=by
 cases x<;>simp only[Zu3] at e<;>try cases e
 rename_i n
 split at e
 ·rename_i h; cases e; exact⟨n,rfl,h⟩
 ·cases e
section
variable {K:Xb} {H:Hp} {ι:List Ve}
theorem Zwv {kvs:List (Int×D)} {xs:List (Int×Vb)} (h:Vj (Zwm K H ι) kvs xs) (k:Int):kvs.any (fun p=>p.1=k)=xs.any (fun p=>p.1=k):=by
 induction h with
 | nil=>rfl
 | cons a b ih=>rw[Wcp,Wcp,ih,a.1]
theorem Zvw {kvs:List (Int×D)} {xs:List (Int×Vb)} {k:Int} {d:D} {v:V} {u:Vb} (h:Vj (Zwm K H ι) kvs xs) (r:Zch v u) (q:Rep K H ι d v):Vj (Zwm K H ι) (kvs.map (fun p=>if p.1=k then (p.1,d) else p)) (xs.map (fun p=>if p.1=k then (p.1,u) else p)):=by
 induction h with
 | nil=>exact .nil
 | cons a b ih =>
  refine .cons ?_ ih
  dsimp only
  rw[a.1]
  split
  ·exact⟨rfl,v,r,q⟩
  ·exact a
theorem Zwa {kvs:List (Int×D)} {xs:List (Int×Vb)} {k:Int} {d:D} {v:V} {u:Vb} (h:Vj (Zwm K H ι) kvs xs) (r:Zch v u) (q:Rep K H ι d v):Vj (Zwm K H ι) (Zhb kvs k d) (Ueb xs k u):=by
 unfold Zhb Ueb
 rw[Zwv h k]
 split
 ·exact Zvw h r q
 ·exact Prd.append h (.cons ⟨rfl,v,r,q⟩ .nil)
theorem Zhc {kvs:List (Int×D)} {xs:List (Int×Vb)} (h:Vj (Zwm K H ι) kvs xs) (k:Int):(Zbm kvs k=none/\Uee xs k=none)\/∃ d v u,Zbm kvs k=some d/\Uee xs k=some u/\Zch v u/\Rep K H ι d v:=by
 unfold Zbm Uee
 induction h with
 | nil=>exact .inl ⟨rfl,rfl⟩
 | cons a b ih =>
  rename_i p x ps xs'
  by_cases e:p.1=k
  ·have e2:x.1=k:=by rw[<- a.1]; exact e
   obtain⟨_,v,r,q⟩:=a
   exact .inr ⟨p.2,v,x.2,by rw[Wcu (by simpa using e)]; rfl,by rw[Wcu (by simpa using e2)]; rfl,r,q⟩
  ·have e2:¬ x.1=k:=by rw[<- a.1]; exact e
   rw[Wcv (by simpa using e),Wcv (by simpa using e2)]
   exact ih
end
theorem Zw0 {p p2:Vh} {w w2:Vs} {es:List Uac} {xs:List (Int×Vb)} (e:Pairs (Zqz p w) es xs):Pairs (Zqz p2 w2) es xs:=by
 induction e with
 | nil=>exact .nil
 | cons a b c ih=>exact .cons a b ih
theorem Zro {h:Vy} {a:Ve} {xs:List (Int×Vb)} {p:Vh} {w:Vs} (d:h.DictOf (Zqz p w) a xs):Zey a xs h:=fun p2 w2=>by
 obtain⟨o,es,ep,e1,e2,e3,e4,e5,e6⟩:=d
 refine⟨o,es,ep,e1,e2,e3,e4,?_,e6⟩
 exact Zw0 e5
section
variable {X:Cx}
theorem Zkb {pins:List (Ve×Obj)} {σ:L2.St} {H:Hp} {s:Vd} {ι:List Ve} (I:Inv X pins σ H s) {a:Ve} {kvs:List (Int×D)} (h:Zrp X.K H ι a (.dci kvs)):(a==Uab)=false/\∃ xs,Vj (Zwm X.K H ι) kvs xs/\s.heap.DictOf (Zqz X.prog X.w) a xs:=by
 obtain⟨h1,h2,xs,h3,P⟩:=h
 exact⟨h1,xs,P,(I.hok a _ h3).1 X.prog X.w⟩
theorem Ycb:IxF X Zit:=by
 rintro va sl pins s σ H x y v u Q I rx ry ⟨ι,dx,dy,Hd,d,Hd',hr,r1,r2,e,q⟩ hs
 obtain⟨kvs,e1,e⟩:=Zo e
 split at e
 ·rename_i k _
  obtain⟨vd,e3,e⟩:=Zm e
  obtain⟨rfl,rfl⟩:=Wba.inj e
  obtain⟨n,rfl,hn⟩:=Zgo e1
  obtain⟨a,rfl,ha⟩:=Zat.mp r1
  simp at r2
  subst r2
  obtain⟨tok,rfl⟩:=ry
  cases rx
  obtain⟨h1,xs,P,dd⟩:=Zkb I (hr.obj n a _ ha hn)
  rcases Zhc P _ with ⟨z,_⟩ | ⟨d',v',u',z1,z2,z3,z4⟩
  ·rw[z] at e3; cases e3
  ·rw[z1] at e3; cases e3
   refine tail_any (ops:=[.ref a,.int k tok]) dd.typeIs PySem.F.slot_dict_getitem.lookup (wpAny_getItem_of (knd:=Zqz X.prog X.w) (k:=k) (Ze7 (k:=k) (t:=tok)) dd.mapOf z2 ?_) hs
   exact⟨v',H,I.tok _,z3,q _ H ι Le.refl hr z4⟩
 ·cases e
end
section
variable {X:Cx}
theorem iinf:OpF X (Vr .In) Yap:=by
 rintro pins s σ H x y v u Q I rx ry ⟨ι,dx,dy,Hd,d,Hd',hr,r1,r2,e,q⟩
 obtain⟨kvs,e1,e⟩:=Zo e
 split at e
 ·rename_i k _
  obtain⟨rfl,rfl⟩:=Wba.inj (Xy.inj e)
  obtain⟨n,rfl,hn⟩:=Zgo e1
  obtain⟨a,rfl,ha⟩:=Zat.mp r2
  simp at r1
  subst r1
  obtain⟨tok,rfl⟩:=rx
  cases ry
  obtain⟨h1,xs,P,dd⟩:=Zkb I (hr.obj n a _ ha hn)
  refine wpAny_in_of (knd:=Zqz X.prog X.w) (k:=k) (Ze7 (k:=k) (t:=tok)) h1 dd.mapOf ?_
  have e3:(Uee xs k).isSome=(Zbm kvs k).isSome:=by
   rcases Zhc P k with ⟨z1,z2⟩ | ⟨_,_,_,z1,z2,_⟩<;>rw[z1,z2]<;>rfl
  rw[e3]
  exact⟨.bl _,H,I.tok _,rfl,q _ H ι Le.refl hr (by simp)⟩
 ·cases e
nonrec def Znj (x:D) (ds:List D) (H:HD):Option (D×HD):=match ds with
 | [.int k,v]=>(Zu3 x H).map fun kvs=>((Zbm kvs k).getD v,H)
 | _=>none
theorem Ycm:MtF X "dict.get" Znj:=by
 rintro pins s σ H x xs v us Q I rx rv ⟨ι,dx,ds,Hd,d,Hd',hr,r1,P1,e,q⟩
 unfold Znj at e
 split at e
 ·rename_i k vd
  obtain⟨kvs,e1,e⟩:=Zm e
  obtain⟨rfl,rfl⟩:=Wba.inj e
  obtain⟨n,rfl,hn⟩:=Zgo e1
  obtain⟨a,rfl,ha⟩:=Zat.mp r1
  obtain⟨v1,v2,rfl,rk,rd⟩:=Yam P1
  simp at rk
  subst rk
  cases rx
  cases rv with
  | cons q1 rv =>
   cases rv with
   | cons q2 rv =>
    cases rv
    obtain⟨tok,rfl⟩:=q1
    rename_i u2
    obtain⟨h1,ys,P,dd⟩:=Zkb I (hr.obj n a _ ha hn)
    refine call_meetsIn Tce dd.typeIs PySem.F.entry_dict_get (PySem.F.args_dict_get_3 _ _ _) (meets_dict_get_default (Zqz X.prog X.w) a (k:=k) (show (Zqz X.prog X.w).is k (.int k tok)=true from Ze7 (t:=tok)) h1 u2) ⟨_,dd.mapOf,?_⟩
    rcases Zhc P k with ⟨z1,z2⟩ | ⟨d',v',u',z1,z2,z3,z4⟩
    ·rw[z1] at q; rw[z2]
     exact⟨v2,H,I.tok _,q2,q _ H ι Le.refl hr rd⟩
    ·rw[z1] at q; rw[z2]
     exact⟨v',H,I.tok _,z3,q _ H ι Le.refl hr z4⟩
 ·cases e
nonrec def Zqe:D->HD->Bool
 | .ref n,H=>match H[n]? with
  | some (.dci _)=>true
  | _=>false
 | _,_=>false
nonrec def eIM (g:D->List D->HD->Option (D×HD)) (fo:EF) (f:AF):EF:=fun σ H=>(fo σ H).bind fun o=>if Zqe o.1 o.2=true then (f σ o.2).bind fun p=>g o.1 p.1 p.2 else none
theorem Zwp {pins:List (Ve×Obj)} {σ:L2.St} {H:Hp} {s:Vd} {ι:List Ve} {Hd:HD} {x:D} {v:V} {u:Vb} (I:Inv X pins σ H s) (hr:HRep X.K H ι Hd) (r:Rep X.K H ι x v) (rv:Zch v u) (e:Zqe x Hd=true) :
  s.TypeIs u "dict" /\ ∀ b,u=.ref b->∃ ob,s.heap.get? b=some ob/\ob.dict=none:=by
 cases x<;>simp only[Zqe] at e<;>try cases e
 rename_i n
 split at e
 ·rename_i kvs hn
  obtain⟨a,rfl,ha⟩:=Zat.mp r
  cases rv
  obtain⟨_,xs,_,dd⟩:=Zkb I (hr.obj n a _ ha hn)
  refine⟨dd.typeIs,fun b eb=>?_⟩
  cases eb
  obtain⟨ob,_,_,g1,g2,_⟩:=dd
  exact⟨ob,g1,g2.2.1⟩
 ·cases e
theorem Ycw {e o:Vv} {es:List Vv} {name:Str} {apos cpos:Pos} {id:String} {g:D->List D->HD->Option (D×HD)} {fo:EF} {f:AF} (slot:Slot "dict" name id) (hty:typeOf (.builtin id)=pure (.type "method_descriptor")) (hm:MtF X id g) (ho:PEf X o fo) (ha:PAf X (e::es) f)
  (hbase:Ubw o name X.env (eval o X.env)=eval o X.env:=by rfl)
  (hfew:((Uag cpos (Vf (e::es) X.env)).all (fun x => !x.1)&&(Ubx cpos (Uat [] X.env)).all (fun x=>x.1.isSome)
   && decide ((e::es).length+([]:List Ubm).length+(if ([]:List Ubm).isEmpty then 0 else 1)<30))=true:=by exact Zlj rfl (by decide))
  (hline:(apos.endLine==cpos.line)=true:=by rfl) (hs:Vf (e::es) X.env=(false,eval e X.env)::Vf es X.env:=by exact Zbr rfl) (hplain:(Uag cpos (Vf es X.env)).any (·.1)=false:=by exact Zct rfl) :
  PEf X (.Call (.Attribute o name apos) (e::es) [] cpos) (eIM g fo f):=by
 rintro pins s σ H Q I ⟨ι,σd,Hd,d,Hd',sr,hr,e0,q⟩
 obtain⟨⟨x,H1⟩,e1,e0⟩:=Zo e0
 dsimp only at e0
 split at e0
 ·rename_i hl
  obtain⟨⟨y,H2⟩,e2,e0⟩:=Zo e0
  let P1:VK:=fun v1 H1'=>∃ ι1,Le X.K H ι H1' ι1/\HRep X.K H1' ι1 H1/\Rep X.K H1' ι1 x v1
  refine Ubc hbase hfew hline rfl (thn (ho pins s σ H P1 I ⟨ι,σd,Hd,x,H1,sr,hr,e1,fun v1 H1' ι1 l1 h1 r1=>⟨ι1,l1,h1,r1⟩⟩) fun v s1 zz=>?_)
  obtain⟨xv,H1',I1,rx,ι1,l1,h1,r1⟩:=zz
  obtain⟨t1,t2⟩:=Zwp I1 h1 r1 rx hl
  refine⟨"dict",id,Tbv,slot,hty,t1,t2,?_⟩
  let P2:List V->Hp->Prop:=fun vs H2'=>∃ ι2,Le X.K H ι H2' ι2/\HRep X.K H2' ι2 H2/\Rep X.K H2' ι2 x xv/\Vj (Rep X.K H2' ι2) y vs
  have hA:=ha cpos pins s1 σ H1' P2 I1 ⟨ι1,σd,H1,y,H2,sr.mono l1,h1,e2,fun vs H2' ι2 l2 h2 r2=>⟨ι2,l1.trans l2,h2,r1.mono l2,r2⟩⟩
  rw[hs] at hA ⊢
  refine Tat (by show (false||(Uag cpos (Vf es X.env)).any (·.1))=false; rw[hplain]<;>rfl) (Taz ?_)
  exact thn hA fun us s2 ⟨vs,H2',I2,r2,ι2,l2,h2,rx2,rp⟩=>hm pins s2 σ H2' xv vs v us Q I2 rx r2 ⟨ι2,x,y,H2,d,Hd',h2,rx2,rp,e0,fun v H' ι' l h r=>q v H' ι' (l2.trans l) h r⟩
 ·cases e0
end
section
variable {X:Cx}
nonrec def Zhq (i j:Int):Nat:=(i - j).toNat
def Zko (i j c:Int):Prop := -(2 ^ 60)<=i/\i<2 ^ 60 /\ -(2 ^ 60)<=j/\j<2 ^ 60/\c = -1
instance (i j c:Int):Decidable (Zko i j c):=by unfold Zko; exact inferInstance
nonrec def iRB (f:AF):ItF:=fun σ H=>(f σ H).bind fun p=>match p.1 with
 | [.int i,.int j,.int c]=>if Zko i j c then some ((Zf5 i c (Zhq i j),[]),p.2) else none
 | _=>none
theorem Zqb {i j c:Int} (h:Zko i j c):Tab i j c=(Zhq i j:Nat):=by
 obtain⟨_,_,_,_,rfl⟩:=h
 unfold Tab Zhq
 rw[if_neg (by decide)]
 split
 ·rw[show -(-1:Int)=1 from rfl,Int.ediv_one]; omega
 ·omega
theorem Zs0 {i j c:Int} (h:Zko i j c):Tci i j c=true:=by
 have e:=Zqb h
 obtain⟨h1,h2,h3,h4,rfl⟩:=h
 have hb:(Zhq i j:Int)<=2 ^ 61:=by unfold Zhq; omega
 unfold Tci
 rw[e]
 have hp:¬ ((-1:Int) > 0):=by decide
 simp only[Builtin.Range.rangeFitsLong,Wad,Wfg,decide_eq_true_eq,beq_iff_eq,hp,if_false]
 unfold Zhq
 omega
theorem Zq2 {tg:Vv} {a b c:Vv} {f:AF} {p pos:Pos} (hg:Gl X "range") (hm:X.mg "range" = none) (ha:PAf X [a,b,c] f) (hs:Vf [a,b,c] X.env=(false,eval a X.env)::Vf [b,c] X.env:=by rfl) (hpl:(Uag pos (Vf [b,c] X.env)).any (·.1)=false:=by rfl) :
  PIf X tg (.Call (.Name "range" p) [a,b,c] [] pos) (iRB f):=by
 rintro pins s σ H R I ⟨ι,σd,Hd,xs,own,Hd',sr,hr,e,q⟩
 obtain⟨⟨ds,H1⟩,e1,e⟩:=Zo e
 dsimp only at e
 split at e
 ·rename_i i j k
  split at e
  ·rename_i hk
   cases e
   refine Call_ (Zdw I hg hm boot_range (Uf (thn (ha pos pins s σ H (fun vs H'=>vs=[.int i,.int j,.int k]/\R (It3 i k (Zhq i j)) H') I ⟨ι,σd,Hd,_,_,sr,hr,e1,fun ws H' ι' l h P=>?_⟩) fun us s1 ⟨vs,H2,I2,r2,q2⟩=>?_) hs hpl))
   ·cases P with
    | cons r1 P =>
     obtain⟨v,v',rfl,r,r'⟩:=Yam P
     simp at r1 r r'
     subst r1 r r'
     refine⟨rfl,q _ H' ι' l h ⟨fun i H2 ι2 Hd2 l2 h2 _ hi=>(show i<_ by simpa [Zf5] using hi),fun i' H2 ι2 Hd2 d x H3 l2 h2 _ hd y=>?_,fun i H2 ι2 Hd2 l2 h2 _ hi=>(show _<=i by simpa [Zf5] using hi)⟩⟩
     obtain⟨rfl,rfl⟩:=y
     unfold Zf5 at hd
     rw[Xv] at hd
     obtain⟨k',h1',rfl⟩:=Zm hd
     rw[Xc] at h1'
     obtain⟨hl',h1'⟩:=h1'
     simp at h1'
     subst h1'
     exact⟨ι2,Le.refl,h2,by simp⟩
   ·obtain⟨rfl,q2⟩:=q2
    cases r2 with
    | cons r1 r2 =>
     obtain⟨u1,u2,rfl,ru1,ru2⟩:=Zz4 r2
     obtain⟨t1,rfl⟩:=r1
     obtain⟨t2,rfl⟩:=ru1
     obtain⟨t3,rfl⟩:=ru2
     have hc:=hk
     obtain⟨b1,b2,b3,b4,b5⟩:=hk
     refine call_range_3 (by omega) ?_ (.inl (Tby (by omega)))
     refine wpAny_pyIter_range (Tcz ..) (Zs0 hc) ?_
     have I1:Inv X pins σ H2 { s1 with heap:=s1.heap.push { cls:=.type "range",data:=.fields #[.int i t1,.int j t2,.int k t3] } }:=I2.kept (t':=s1.toks) fun b o e=>Xa _ e
     refine⟨_,[_],_,It3 i k (Zhq i j),H2,rfl,I1.kept (t':=s1.toks) fun b o e=>Xa _ e,Zof _ i k _,?_,fun b hb=>?_,q2⟩
     ·have z1:i+((0:Nat):Int)*k=i:=by simp
      have z2:((Zhq i j:Nat):Int) - ((0:Nat):Int)=Tab i j k:=by rw[Zqb hc]; simp
      show Udc _ _ (i+((0:Nat):Int)*k) (((Zhq i j:Nat):Int) - ((0:Nat):Int)) k
      rw[z1,z2]
      exact Xf _ rfl
     ·have e:b=(s1.heap.push { cls:=.type "range",data:=.fields #[.int i t1,.int j t2,.int k t3] }).objs.size:=by simpa using hb
      subst e
      exact I1.fpOk (Xe _) (I1.hok.fresh (Xe _))
  ·cases e
 ·cases e
end
end DL
namespace DL
open PySem PySem.Spec PyProof.Rows L2 PySem.W
structure ExcL (K:Xb) (C:Ve):Prop where
 ga:findIn K (.ref C) "__getattribute__" = some (some (.builtin "BaseException.__getattribute__"))
 gr:findIn K (.ref C) "__getattr__" = some none
 cl:findIn K (.ref C) "__class__" = some (some (.builtin "object.__class__"))
 gt:specialIn K (.builtin "object.__class__") "__get__" = some (some (.builtin "getset_descriptor.__get__"))
 tk:takesIn K (.builtin "object.__class__")=some true
 mr:mroIn K C (.type "object")=some true
 sb:subIn K (.ref C) (.type "BaseException")=some true
 cs:(clsIn K C).isSome=true
end DL
namespace DL
open PySem PySem.Spec PyProof.Rows L2
theorem Zen (kvs:List (Int×D)) (k:Int) (v:D):(Zhb kvs k v).length<=kvs.length+1:=by unfold Zhb; split<;>simp
nonrec def Zgg:Yar:=fun o i v H=>match o,i with
 | .ref n,.int k=>match H[n]? with
  | some (.dci kvs)=>if kvs.length<sizeLine then some (H.set n (.dci (Zhb kvs k v))) else none
  | _=>none
 | _,_=>none
section
variable {X:Cx}
theorem Zrc:Ya7 X Zgg:=by
 rintro pins s σ H o i v ov iv u Q I ro ri rv ⟨ι,od,id,vd,Hd,Hd',hr,r1,r2,r3,e,q⟩
 have hx:∃ n k kvs,od=.ref n/\id=.int k/\Hd[n]? = some (.dci kvs)/\kvs.length<sizeLine/\Hd'=Hd.set n (.dci (Zhb kvs k vd)):=by
  unfold Zgg at e
  split at e
  ·rename_i n k
   split at e
   ·rename_i kvs hn
    split at e
    ·rename_i hl; cases e; exact⟨n,k,kvs,rfl,rfl,hn,hl,rfl⟩
    ·cases e
   ·cases e
  ·cases e
 obtain⟨n,k,kvs,rfl,rfl,hn,hl,rfl⟩:=hx
 obtain⟨a,rfl,ha⟩:=Zat.mp r1
 have r2:i=.int k:=by simpa using r2
 subst r2
 cases ro
 obtain⟨tk,rfl⟩:=ri
 obtain⟨h1,h2,xs,h3,P⟩:=hr.obj n a _ ha hn
 have dd:Zey a xs s.heap:=((show Zc8 X.prog X.w H s.heap a (.ext (Zey a xs)) from I.hok a _ h3)).1
 have hz:xs.length<=sizeLine:=by rw[<- Prd.len P]; exact h2
 refine wpAny_setItem_pairs (knd:=Zqz X.prog X.w) (k:=k) (hsz:=hz) (Ze7 (k:=k) (t:=tk)) (dd X.prog X.w) fun h' dd' hs=>?_
 have L:Le X.K H ι (upd H a (.ext (Zey a (Ueb xs k u)))) ι:=Le.upd (Wae ha) h3 trivial _
 have dA:Zey a (Ueb xs k u) h':=Zro dd'
 obtain⟨ob,es,ep,g1,_⟩:=id dd'
 have ok:Zc8 X.prog X.w (upd H a (.ext (Zey a (Ueb xs k u)))) h' a (.ext (Zey a (Ueb xs k u))):=⟨dA,⟨ob,g1⟩,fun h1 h2 d k=>Zey.keep d k⟩
 have hr':HRep X.K (upd H a (.ext (Zey a (Ueb xs k u)))) ι (Hd.set n (.dci (Zhb kvs k vd))):=by
  refine hr.upd ha h3 trivial ⟨h1,?_,_,Zav,?_⟩
  ·have:=Zen kvs k vd; omega
  ·exact Zwa (Prd.imp P fun p x _ z=>⟨z.1,let ⟨v,z1,z2⟩:=z.2; ⟨v,z1,z2.mono L⟩⟩) rv (r3.mono L)
 exact⟨_,I.write (x:=a) (e:=a) (by rw[h3]; exact Tbd) (.inl rfl) (fun b q hb z=>(hs.2 b hb).trans z) ⟨ob,g1⟩ ok,q _ ι L hr'⟩
nonrec def eDI:EF:=fun _ H=>some (.ref H.length,H++[.dci []])
theorem Zg4 {pos:Pos}:PEf X (.Dict [] [] pos) eDI:=by
 rintro pins s σ H Q I ⟨ι,σd,Hd,d,Hd',sr,hr,e,q⟩
 cases e
 have hb:Uab<s.heap.objs.size:=Nat.lt_trans (by decide) (show Vp<s.heap.objs.size from(I.mod.glob.keeps I.bk).lt)
 have hp:=I.hok.fresh (Xe s.heap.objs.size)
 have dn:Zey s.heap.objs.size [] (s.heap.push { cls:=.type "dict",data:=.dict #[] }):=fun p w=>Heap.DictOf.new (knd:=Zqz p w) s.heap
 have ok:Zc8 X.prog X.w (upd H s.heap.objs.size (.ext (Zey s.heap.objs.size []))) (s.heap.push { cls:=.type "dict",data:=.dict #[] }) s.heap.objs.size (.ext (Zey s.heap.objs.size [])):=⟨dn,⟨_,Xf _ rfl⟩,fun h1 h2 d k=>Zey.keep d k⟩
 refine wpAny_Dict_empty ⟨.ref s.heap.objs.size,_,I.laid (a:=s.heap.objs.size) (o:=.ext (Zey s.heap.objs.size [])) (t':=s.toks) (fun _ _ q=>Xa _ q) (Xe _) ok,rfl,?_⟩
 have hl:ι.length=Hd.length:=hr.len
 exact q _ _ (ι++[s.heap.objs.size]) (Le.fresh1 hp _) (hr.new hp ⟨beq_eq_false_iff_ne.mpr (Uo (Xq hb)),Wbs _,[],Zav,.nil⟩) (Zat.mpr ⟨_,rfl,by rw[<- hl]; simp⟩)
end
open PySem.W (KasT kas_rev kas_asc kas_desc kas_tail3 kas_descPart kas_count kas_place kas_bin kas_sort)
section
variable {n:Nat}
variable (h0:0<n)
include h0
end
open PySem.W (KdlSrc)
def Zyl (d:Ve) (es:Array Uac) (ep:Nat) (h:Vy):Prop:=(d==Uab)=false/\∃ o,h.get? d=some o/\o.ExactDict/\o.data=.dict es ep
theorem Zyl.mv {d:Ve} {es:Array Uac} {ep:Nat} {h h':Vy} (x:Zyl d es ep h) (k:∀ o,h.get? d=some o->h'.get? d=some o):Zyl d es ep h':=let ⟨a,o,e,r⟩:=x; ⟨a,o,k o e,r⟩
section
variable {prog:Vh} {w:Vs} {A:Vw} {E:Vb->Vd->Prop} {s:Vd}
theorem Zv2 (hh:A.handled=none) (I d:Ve) (ne:d≠I) (es:Array Uac) (ep:Nat) :
  Walks prog w A I [I,d] [I] es.size (fun i v=>∃ e,es[i]? = some e/\v=e.key) (fun i h=>h.IsKeyIter I d i es.size ep/\Zyl d es ep h) where
 sub:=fun b hb=>by simp at hb; simp[hb]
 frame:=fun _ _ _ st hk=>⟨st.1.at fun o e=>hk I (by simp) o e,st.2.mv fun o e=>hk d (by simp) o e⟩
 item:=fun i s _ _ hi st hQ=>by
  obtain⟨_,ob,g1,g2,g3⟩:=st.2
  refine Zsj st.1 g1 g3 hi fun h' hit' hs'=>?_
  exact hQ _ h' s.toks ⟨es[i],by simp[hi],rfl⟩ ⟨hit',st.2.mv fun o e=>hs'.extBut d o ne e⟩ fun b o hb e=>hs'.extBut b o (fun h=>hb (by simp[h])) e
 done:=fun s Q E st hQ=>by
  obtain⟨_,ob,g1,g2,g3⟩:=st.2
  exact Zpe hh st.1 g1 g3 (Xe _) fun h' he'=>hQ h' s.toks fun b o hb e=>he' b o (fun h=>hb (by simp[h])) e
 self:=fun _ _ _ _ st r=>Ucr st.1 r
theorem Ybf {d:Ve} {es:Array Uac} {ep:Nat}:KdlSrc prog w "dict" d d es.size (fun i v=>∃ e,es[i]? = some e/\v=e.key) (Zyl d es ep) where
 type:=fun _ ⟨_,o,e,x,_⟩=>⟨o,e,x.1⟩
 there:=fun _ ⟨_,o,e,_⟩=>⟨Xg e,Xg e⟩
 keep:=fun _ _ x k=>x.mv fun o e=>k d (.inl rfl) o e
 notList:=by decide
 notTuple:=by decide
 hint:=fun _ _ _ _ ⟨_,o,e,x,_⟩ r=>PySem.W.kdl_hint_dict ⟨o,e,x.1⟩ r
 iter:=fun _ s hh x=>by
  obtain⟨h0,ob,g1,g2,g3⟩:=id x
  exact⟨_,_,(fun _ _ hq=>Zpu h0 g1 g2 g3 hq),Zv2 hh _ d (Xq (Xg g1)) es ep,⟨⟨_,Xf _ rfl,rfl,rfl⟩,x.mv fun o e=>Xa _ e⟩⟩
theorem Zod {d:Ve} {es:Array Uac} {ep:Nat} {R:List Vb->Vd->Prop} (hh:A.handled=none) (x:Zyl d es ep s.heap) (hz:es.size<=sizeLine)
  (h:∀ h' tk,(∀ b o,s.heap.get? b=some o->h'.get? b=some o)->s.heap.objs.size<=h'.objs.size->R (es.toList.map (·.key)) { s with heap:=h',toks:=tk }):Vg (Vn prog w) A (collect (.ref d)) R E s:=by
 have hN:(s.heap.push (Uar "list" #[] 0)).get? s.heap.objs.size=some (Uar "list" #[] 0):=Xf _ rfl
 have dl:d<s.heap.objs.size:=let ⟨_,_,e,_⟩:=x; Xg e
 unfold collect
 refine Va (wpAny_runValue (Ubb Uct (show Vg _ _ (do again (.builtin "list.__iadd__" ⟨[<- newList [],.ref d],[]⟩)) _ _ s from Va (Uby (Vc ⟨Tbn _ (by decide +kernel),Ubb entry_list_iadd' ?_⟩)))))
 show Vg _ _ (Us (.ref s.heap.objs.size) (.ref d) (.ref s.heap.objs.size)) _ _ { s with heap:=s.heap.push (Uar "list" #[] 0) }
 rw[Around.under_plainId (show plainId "list.__iadd__" = true by decide +kernel)]
 have E1:Vg (Vn prog w) A.in1 (Us (.ref s.heap.objs.size) (.ref d) (.ref s.heap.objs.size)) _ _ { s with heap:=s.heap.push (Uar "list" #[] 0) }:=PySem.W.kdl_extend (s:={ s with heap:=s.heap.push (Uar "list" #[] 0) }) (R:=fun r s'=>r=.ok (.ret (.ref s.heap.objs.size))/\Vg (Vn prog w) A (load s.heap.objs.size) (fun o s2=>∃ xs ep,o.data=.seq xs ep/\R xs.toList s2) E s') (Ybf (ep:=ep)) hh (x.mv fun o e=>Xa _ e) s.heap.objs.size (Uo (Xq dl)) (Uo (Xq dl)) (.ref s.heap.objs.size) 0 hN (fun h' tk acc c k1 k2 hi=>by
  have ea:acc.toList=es.toList.map (·.key):=by
   apply List.ext_getElem?
   intro i
   rw[Xv,Wej,Wej]
   by_cases hl:i<es.size
   ·have la:i<acc.size:=by rw[hi.1]; exact hl
    obtain⟨e,e1,e2⟩:=hi.2 i acc[i] (Wcj la)
    rw[Wcj la,e1,e2]
    rfl
   ·rw[Wcs (by rw[hi.1]; omega),Wcs (by omega)]
    rfl
  refine⟨rfl,wpAny_load k2 ⟨acc,c,rfl,?_⟩⟩
  rw[ea]
  exact h h' tk (fun b o e=>k1 b o (Xq (Xg e)) (Xa _ e)) (Wee (Xg k2))) hz
 have fin:∀ s',Vg (Vn prog w) A (load s.heap.objs.size) (fun o s2=>∃ xs ep,o.data=.seq xs ep/\R xs.toList s2) E s'->Vg (Vn prog w) A (do match (<- load s.heap.objs.size).data with | .seq xs _=>pure xs.toList | _=>unsupported "internal:collect") R E s':=fun s' z=>by
  refine Va (Uau z (fun o s2 ⟨xs,ep,e1,e2⟩=>?_) fun _ _ x=>x)
  rw[e1]
  exact Vc e2
 refine Uau E1 (fun f s' z=>?_) (fun e s' z=>?_)
 ·cases f with
  | done f =>
   obtain⟨z1,z2⟩:=z
   cases z1
   exact fin s' z2
  | again c =>
   refine⟨z.1,Ubi z.2 fun r s2 z=>?_⟩
   obtain⟨rfl,z2⟩:=z
   exact fin s2 z2
 ·cases z.1
end
section
variable {X:Cx}
theorem Zvp {h:Vy} {vs:Array Vb} {xs:List Vu} {as:List Ve} {d:Vu} (rs:ReadsAll h vs.toList xs as) (hxs:Taa xs=true) :
  vs.toList.map (fun y=>Ua (SeqAt.readOf h y) d)=xs.map fun z=>Ua z d:=by
 have e:=SeqAt.readsAll_map xs _ _ hxs rs
 rw[<- e,Wbb]
 rfl
nonrec def Ze8 (x:D) (ds:List D) (H:HD):Option (D×HD):=match x,ds with
 | .ref n,[d]=>match H[n]? with
  | some (.lst _)=>(dat (.ref n) H).bind fun p=>(dat d H).bind fun q=>(Zjw p).bind fun ps=>(ps.findIdx? fun z=>Ua z q).bind fun j=>if j<=1000000 then some (.int (j:Nat),H) else none
  | _=>none
 | _,_=>none
theorem Zkl (hu:X.A.units+64<cLine):MtF X "list.index" Ze8:=by
 rintro pins s σ H x xs v us Q I rx rv ⟨ι,dx,ds,Hd,d,Hd',hr,r1,P,e,q⟩
 unfold Ze8 at e
 split at e
 ·rename_i n d1
  split at e
  ·rename_i zs hn
   obtain⟨z,rfl,rz⟩:=Zl0 P
   obtain⟨u,rfl,ru⟩:=rv.one
   obtain⟨p,e1,e⟩:=Zo e
   obtain⟨p2,e2,e⟩:=Zo e
   obtain⟨ys,e3,e⟩:=Zo e
   obtain⟨j,e4,e⟩:=Zo e
   split at e
   ·rename_i hj
    cases e
    obtain⟨t1,c1,k1⟩:=Zcs e1
    obtain⟨t2,c2,k2⟩:=Zcs e2
    obtain⟨as,ra⟩:=Zcj I hr _ _ t1 r1 rx
    obtain⟨bs,rb⟩:=Zcj I hr _ _ t2 rz ru
    obtain⟨ws,rfl⟩:∃ ws,p=.list ws:=by
     rw[toP] at t1
     simp only[hn] at t1
     obtain⟨ws,_,rfl⟩:=Zm t1
     exact⟨ws,rfl⟩
    cases e3
    simp only[Tal] at c1
    simp only[Tau] at k1
    cases ra with
    | list h1 h2 h3 h4 =>
     rename_i a o its m as2
     obtain⟨cl,dd,dt,sl⟩:=o
     cases h2
     cases h3
     obtain⟨hj2,f1,f2⟩:=Wcq.mp e4
     have em:=Zvp (d:=p2) h4 c1
     have hsz:its.size=ys.length:=by
      have:=congrArg Wbv em
      simpa using this
     have at':∀ k (hk:k<its.size),Ua (SeqAt.readOf s.heap its[k]) p2=Ua (ys[k]'(by omega)) p2:=by
      intro k hk
      have:=congrArg (fun l=>l[k]?) em
      simp only[Xv] at this
      rw[Xd (by simpa using hk),Xd (by omega)] at this
      simpa using this
     refine Uav Tar ⟨_,h1,rfl⟩ PySem.F.entry_list_index (PySem.F.args_list_index_2 _ _) (SeqAt.list_indexAt _ _ _ dd sl u _ j (by omega) (by omega) ?_ ?_) ⟨h1,SeqAt.items_eqAt h4 rb c1 c2 (by omega),?_⟩
     ·rw[at' j (by omega)]; exact f1
     ·intro m hm hmj
      rw[at' m hm]
      have:=f2 m hmj
      simpa using this
     ·exact⟨.int _,H,I.tok _,⟨_,rfl⟩,q _ H ι Le.refl hr (by simp)⟩
   ·cases e
  ·cases e
 ·cases e
end
end DL
namespace DL
open PySem PySem.Spec PyProof.Rows L2 PySem.W
def TrD (h B:Vy) (e:Ve) (C:Vb) (dx:Option Ve) (fl:Vb):Prop :=
 ∃ oe vs T oT ts,(h.get? e=some oe/\oe.cls=C/\oe.dict=dx/\oe.data=.fields vs/\vs[1]? = some (.ref T))/\B.get? T=none/\T≠e/\h.get? T=some oT/\oT.data=.fields ts/\ts[3]? = some fl
structure FlyD (B:Vy) (l:List Env) (e:Ve) (C:Vb) (dx:Option Ve) (fl:Vb) (h:Vy):Prop where
 st:B.StaysIn h
 no:B.get? e=none
 ff:h.FunFrames B l
 tr:TrD h B e C dx fl
theorem FlyD.first {B:Vy} {l:List Env} {e:Ve} {C:Vb} {dx:Option Ve} {fl:Vb} {h:Vy} (x:FlyD B l e C dx fl h):∃ oe vs,h.get? e=some oe/\oe.cls=C/\oe.data=.fields vs/\oe.dict=dx:=by
 obtain⟨oe,vs,_,_,_,⟨h1,h2,h3,h4,_⟩,_⟩:=x.tr
 exact⟨oe,vs,h1,h2,h4,h3⟩
theorem FlyD.tail {B:Vy} {env:Env} {l:List Env} {e:Ve} {C:Vb} {dx:Option Ve} {fl:Vb} {h:Vy} (x:FlyD B (env::l) e C dx fl h):FlyD B l e C dx fl h:=⟨x.st,x.no,x.ff.2.2,x.tr⟩
nonrec def vE:List Vb:=[.type "ValueError",.type "Exception",.type "BaseException",.type "object"]
nonrec def iniIn (K:Frag) (C Cl:Ve):Bool:=match K.lookup C with
 | some ⟨.type "type",_,.cls c,l⟩=>(match l.toList with
  | [_,_,_,_,some (.builtin n),_]=>n == "ValueError.__new__" && !c.hasDel&&c.hasDict&&c.mro==.ref C::.ref Cl::vE&&tailIn K vE (.ref Cl::vE)
  | _=>false)
 | _=>false
structure IniC (h:Vy) (C Cl:Ve) (c:ClassData):Prop where
 obj:∃ nm q N bs sn sub ab col dd k0 k1 k2 k3 k5,h.get? C=some (excClassObj nm q C N bs (.ref Cl::vE) true sn sub ab col dd k0 k1 k2 k3 k5 "ValueError.__new__")/\c={ name:=nm,bases:=bs,mro:=.ref C::.ref Cl::vE,ns:=N,qualname:=q,hasDict:=true,slotNames:=sn,subclasses:=sub,abstract:=ab,collection:=col,hasDel:=false }
 tail:OwnTail h vE (.ref Cl::vE)
section
variable {prog:Vh} {w:Vs} {A:Vw} {R:Result->Vd->Prop} {h:Vy} {g:Array GenState} {d:Drawn} {t:Nat} {os:OsState} {C Cl fI:Ve} {c:ClassData} {rest:List Vb}
nonrec abbrev xObj (C:Ve) (dx:Option Ve) (t:Ve):Obj:={ cls:=.ref C,dict:=dx,data:=.fields #[.ref t,.none,.none,.none,.bool false,.none] }
end
structure FlyY (l:List Env) (H H1:Hp) (h0 h1:Vy) (a:Ve) (C:Vb) (dx:Option Ve):Prop where
 new:h0.get? a=none
 fly:∃ B:Vy,FlyD B l a C dx .none h1/\(∀ b o,h0.get? b=some o->b∉frs l->∃ o',B.get? b=some o'/\(H b=none->o'=o))/\∀ b ho,H1 b=some ho->∃ o,h1.get? b=some o/\B.get? b=some o
nonrec def CXy (P:Vh) (w:Vs):CXT:=fun outer H s E e s'=>∃ (a:Ve) (C:Vb) (dx:Option Ve) (H1:Hp),e=.ref a/\E C dx H1/\s'.os=s.os/\Ubu s'.gens/\Un (frs outer) [] H H1 s.heap s'.heap/\HOk P w H1 s'.heap/\FlyY outer H H1 s.heap s'.heap a C dx
nonrec def XE (C:Ve) (dx:Option Ve) (e:Ve):HO:=.ext fun h=>∃ t,h.get? e=some (xObj C dx t)
structure ExI (K:Frag) (C Cl fI:Ve) (f:Str):Prop where
 xin:iniIn K C Cl=true
 init:findIn K (.ref C) "__init__" = some (some (.ref fI))
 fn:typeIn K (.ref fI)=some (.type "function")
 sa:findIn K (.ref C) "__setattr__" = some (some (.builtin "object.__setattr__"))
 nf:findIn K (.ref C) f=some none
 ga:specialIn K (.ref Cl) "__getattribute__" = some (some (.builtin "type.__getattribute__"))
 rd:readsIn K Cl (.type "type")=true
 fc:findCls K (.ref Cl) (.type "type") "__init__" = some (.val (.builtin "ValueError.__init__"))
nonrec def spI (C:Ve) (f:Str):Sp:=fun vs H Q _=>∃ (e:Ve) (n:Int),vs=[.ref e,.int n]/\n.natAbs<1000000/\H e=some (XE C none e)/\∀ dx,H dx=none->dx≠e->Q .non (upd (upd H dx (.xd [(f,.int n)])) e (XE C (some dx) e))
section
variable {X:Cx} {C Cl fI:Ve} {f:Str}
theorem Inv.drop {pins:List (Ve×Obj)} {σ:L2.St} {H:Hp} {s:Vd} {e:Ve} {φ:Vy->Prop} (I:Inv X pins σ H s) (he:H e=some (.ext φ)) (new:X.s₀.heap.get? e=none):Inv X pins σ (fun b=>if b=e then none else H b) s:=by
 have k:∀ b ho,H b=some ho->b≠e->(if b=e then none else H b)=some ho:=fun b ho z n=>by rw[if_neg n]; exact z
 have fr:∀ b,H b=none->(if b=e then none else H b)=none:=fun b z=>by split<;>first | rfl | exact z
 refine⟨I.ok,I.os,I.bare,⟨I.base.keep,I.base.slot,fun b o eb n hx=>fr b (I.base.free b o eb n hx),I.base.there,fun b xs z=>?_,fun b o u z=>?_,fun b ps z=>?_⟩,I.loc,I.cell,fr _ I.free,fun x c z=>fr c (I.freeC x c z),fun p hp=>?_,fun b ho z=>?_,I.len⟩
 ·have z:=I.base.tups b xs z
  exact k b _ z fun q=>by rw[q,he] at z; cases z
 ·have z:=I.base.frzs b o u z
  exact k b _ z fun q=>by rw[q,he] at z; cases z
 ·obtain⟨m,z⟩:=I.base.tbls b ps z
  exact⟨m,k b _ z fun q=>by rw[q,he] at z; cases z⟩
 ·obtain⟨a1,a2,a3⟩:=I.pin p hp
  exact⟨a1,fr _ a2,a3⟩
 ·split at z
  ·cases z
  ·rename_i n
   exact(I.hok b ho z).stay (fun c v _ r=>r) (fun c r=>k c _ r fun q=>by rw[q,he] at r; cases r) fun c xs r=>k c _ r fun q=>by rw[q,he] at r; cases r
end
nonrec abbrev YFs:=SD->HD->Option (Int×HD)
nonrec abbrev YFF:=List D->HD->Option (Int×HD)
def XdOk (av:Option Str) (i:Int) (dx:Option Ve) (H:Hp) (ι:List Ve):Prop:=match av with
 | none=>dx=none
 | some f=>∃ d,dx=some d/\H d=some (.xd [(f,.int i)])/\d∉ι
section
variable {X:Cx} {fl:Bool} {C:Ve} {av:Option Str} {st:Uae} {sts:List Uae} {c:Vv} {pos:Pos}
open Classical in
nonrec def Ybl (own:Zhf) (g:GF) (b:SF) (yb:YFs):List D->YFs
 | [],_,_=>none
 | x::r,σ,H=>if Zcd own H then (g x σ H).bind fun p=>match b p.1 p.2 with
   | none=>yb p.1 p.2
   | some q=>match q.1 with
    | .nx=>Ybl own g b yb r q.2.1 q.2.2
    | .ct=>Ybl own g b yb r q.2.1 q.2.2
    | _=>none
  else none
nonrec def spY (K:Xb) (C:Ve) (av:Option Str) (n:Nat) (F:YFF):Sp:=fun vs H _ E=>∃ ι ds Hd i Hd',ds.length=n/\HRep K H ι Hd/\Vj (Rep K H ι) ds vs/\F ds Hd=some (i,Hd')/\∀ H1 ι' dx,Le K H ι H1 ι'->HRep K H1 ι' Hd'->XdOk av i dx H1 ι'->E (.ref C) dx H1
end
section
variable {P:Vh} {w:Vs} {K:Xb} {mg:Str->Option Vb} {base:Vy}
structure FnY (P:Vh) (w:Vs) (K:Xb) (mg:Str->Option Vb) (base:Vy) (k:Nat) (x:Str) (ps:List Str) (xn:Str) (av:Option Str) (F:YFF):Prop where
 ex:∃ f fd,(∀ C,mg xn=some (.ref C)->FnOk P w K mg base (CXy P w) k f fd ps (spY K C av ps.length F))/\Zj2 K fd ps []/\Wcb K (.ref f)=true/\mg x=some (.ref f)
end
structure YCl (K:Frag) (mg:Str->Option Vb) (xn f qual:Str) (st:Uae) (C Cl fI:Ve):Prop where
 bound:mg xn=some (.ref C)
 kp:keepIn K (.ref C)=true
 ini:ExI K C Cl fI f
 base:mg "ClaimError" = some (.ref Cl)
 fn:∃ fd,Fun K "__init__" qual st fI fd
 look:ExcL K C
structure YRs (P:Vh) (w:Vs) (K:Frag) (mg:Str->Option Vb) (base:Vy) (xn f:Str) (k:Nat):Prop where
 ex:∃ C Cl fI fd ps,mg xn=some (.ref C)/\keepIn K (.ref C)=true/\ExI K C Cl fI f/\FnOk P w K mg base CX0 k fI fd ps (spI C f)/\Zj2 K fd ps []/\ExcL K C
section
variable {X:Cx} {C:Ve} {f xn:Str} {k:Nat}
theorem YRs.at {P:Vh} {w:Vs} {K:Frag} {mg:Str->Option Vb} {base:Vy} (R:YRs P w K mg base xn f k) (hE:mg xn=some (.ref C)):∃ Cl fI fd ps,keepIn K (.ref C)=true/\ExI K C Cl fI f/\FnOk P w K mg base CX0 k fI fd ps (spI C f)/\Zj2 K fd ps []/\ExcL K C:=by
 obtain⟨C',Cl,fI,fd,ps,h1,h2,h3,h4,h5,h6⟩:=R.ex
 rw[hE] at h1
 cases h1
 exact⟨Cl,fI,fd,ps,h2,h3,h4,h5,h6⟩
end
end DL
namespace DL
open PySem PySem.Spec PyProof.Rows L2
theorem Zlf {X:Cx} {sts:List Uae}:Zrr X sts Zy7:=by
 rintro pins s σ H E I ⟨ι,σd,Hd,fl,σd',Hd',_,_,e,_⟩
 cases e
end DL
namespace DL
open PySem PySem.Spec PyProof.Rows L2 PySem.W
def Fv (K:Frag) (mg:Str->Option Vb) (x:String):Prop:=∃ f,mg (Ub x)=some (.ref f)/\nsIn K Vp (Ub x)=some (some (.ref f))
theorem fv_mk {K:Frag} {hp:Vy} {mg:Str->Option Vb} {x:String} {f:Ve} (X:K.In hp) (G:hp.Ns Vp mg) (a:nsIn K Vp (Ub x)=some (some (.ref f))):Fv K mg x:=⟨f,mg_of X G a,a⟩
nonrec def Zmt (i n:Nat) (x:String) (F:FF) (f:AF):EF:=fun σ H=>match σ[i]? with
 | some (some (.ty y))=>if y=x then Zal n F f σ H else none
 | _=>none
section
variable {X:Cx} {k n i:Nat} {ps:List Str} {x:String} {v:Str} {p pos:Pos} {F:FF} {fa:AF} {e:Vv} {es:List Vv}
theorem Zto (h:Fv X.K X.mg x) (ht:Zxj x=false:=by decide) (hg:Gl X (Ub x):=by rfl) (hd:(Ub x==("__debug__" : Str))=false:=by decide):PEf X (.Name (Ub x) pos) (eC (.ty x)):=by
 obtain⟨f,h1,h2⟩:=h
 exact Zov (Zum (v:=.ref f) hg h1 rfl hd) fun _ _=>(Zx9 ht).mpr ⟨f,rfl,h2⟩
theorem Ztg (G:Fn X.prog X.w X.K X.mg X.base k (Ub x) ps F) (hf:Fv X.K X.mg x) (hr:Room k X.A) (hv:PE X (.Name v p) (tVar i)) (ha:PAf X (e::es) fa) (ht:Zxj x=false:=by decide)
  (he:Vf (e::es) X.env=(false,eval e X.env)::Vf es X.env:=by exact Zbr rfl) (hpl:(Uag pos (Vf es X.env)).any (·.1)=false:=by exact Zct rfl) (hn:ps.length=n:=by rfl) :
  PEf X (.Call (.Name v p) (e::es) [] pos) (Zmt i n x F fa):=by
 subst hn
 intro pins s σ H Q I z
 obtain⟨ι,σd,Hd,d,Hd',ss,hr0,eq,q⟩:=z
 unfold Zmt at eq
 split at eq
 ·rename_i y hy
  split at eq
  ·rename_i ey
   subst ey
   obtain⟨v0,h1,r⟩:=ss.var i _ hy
   obtain⟨a,rfl,hns⟩:=(Zx9 ht).mp r
   obtain⟨f',hm',hns'⟩:=hf
   rw[hns] at hns'
   cases hns'
   obtain⟨f,fd,G1,hb,hk,hm,_⟩:=G.ex
   rw[hm'] at hm
   cases hm
   refine Uay (thn (hv pins s σ H (fun v' H'=>v'=.ref a/\H'=H) I ⟨_,h1,rfl,rfl⟩) fun u s1 z=>?_)
   obtain⟨v',H',I1,rv,rfl,rfl⟩:=z
   have rv:u=.ref a:=rv
   subst rv
   have t:Yby (spF X.K ps.length F) [] E0 (rdA X.K fa) σ H' Q:=by
    obtain⟨⟨x,H1⟩,e1,e⟩:=Zo eq
    refine⟨ι,σd,Hd,x,H1,ss,hr0,e1,fun vs H' ι' l h r=>?_⟩
    dsimp only at e
    split at e
    ·rename_i hl
     exact⟨ι',x,H1,d,Hd',hl,h,by simpa using r,e,fun v2 H2 ι2 l2 h2 r2=>q v2 H2 ι2 (l.trans l2) h2 r2⟩
    ·cases e
   refine Wer (h₀:=X.base) I1.ok.mod.kin hk (thn (ha pos pins s1 σ H' _ I1 t) fun us s2 ⟨vs,H1,I2,r,q⟩=>⟨I2.kIn,?_⟩) he hpl
   exact Zx3 G1 hr hb .nil Ya3 I2 r q
  ·cases eq
 ·cases eq
end
end DL
namespace DL
open PySem PySem.Spec PyProof.Rows L2
section
variable {prog:Vh} {w:Vs} {A:Vw} {E:Vb->Vd->Prop} {s:Vd}
theorem Ztb {d L:Ve} {m:Str->Option Vb} {es:Array Uac} {ep:Nat} {ns:List Int} {Q:Vb->Vd->Prop} (hn:s.heap.Ns L m) (hh:A.handled=none) (x:Zyl d es ep s.heap) (hI:Uba (es.toList.map (·.key)) ns) (h64:es.size<64)
  (h:∀ h' tk D out c,h'.Ns L m->(∀ b o,b≠L->s.heap.get? b=some o->h'.get? b=some o)->s.heap.objs.size<=D->h'.get? D=some (Uar "list" out c)->KskOut false (ns.map Zhd) (es.toList.map (·.key)) out.toList->Q (.ref D) { s with heap:=h',toks:=tk }) :
  Vg (Vn prog w) A (call (.builtin "sorted") [.ref d] [(Ub "key",.builtin "abs")]) Q E s:=by
 have sz:sizeLine=16777216:=Ubd
 have lt:=hn.lt
 refine Uce kind_sorted plain_sorted entry_sorted (ksk_s1 _ _) ?_
 unfold Builtin.«sorted»
 refine Va (m:=checkCount "sorted" 1 1 _) (Vc (Va (Zod (show A.in1.handled=none from hh) x (by omega) fun h1 tk k1 le=>Va (Uby ?_ (by simp; omega)))))
 generalize ev:es.toList.map (·.key)=vs at *
 have lv:vs.length=es.size:=by rw[<- ev]; simp
 let h2:Vy:=h1.push (Uar "list" vs.toArray 0)
 have at2:h2.get? h1.objs.size=some (Uar "list" vs.toArray 0):=Xf _ rfl
 have kp:∀ b o,s.heap.get? b=some o->h2.get? b=some o:=fun b o e=>Xa _ (k1 b o e)
 have ltD:∀ b o,s.heap.get? b=some o->b≠h1.objs.size:=fun b o e=>Xq (Xu (Xg e) le)
 have LD:h1.objs.size≠L:=Uo (Xq (Xu lt le))
 have F0:Fr {} L s.heap m:=⟨hn,fun b o e=>absurd ((Zhr b).symm.trans e) (by simp),Wbs _⟩
 have N0:News {} L s.heap (Zkg s.heap L):=fun p hp=>⟨(Zem hp).1,(Zem hp).2,Zhr _⟩
 have ln:ns.length=vs.length:=hI.length.symm
 show Vg _ _ _ _ _ { s with heap:=h2,toks:=tk }
 refine Va (Vx (Udg (s:={ s with heap:=h2,toks:=tk }) slot_list_sort ⟨_,at2,rfl⟩ entry_list_sort ?body (ksk_l1 _ _)))
 case body =>
  show Vg (Vn prog w) A.in1.in1 (Builtin.«list.sort» ⟨[.ref h1.objs.size],[(Ub "key",.builtin "abs")]⟩) _ _ _
  rw[ksk_t4]
  refine ksk_sort (s:={ s with heap:=h2,toks:=tk }) (kz:=ns.map Zhd) (news:=Zkg s.heap L) (F0.kept kp) (N0.grown kp) at2 LD (Zhr _) (fun p hp=>ltD _ _ (Zem hp).1)
   (by rw[Xi]; exact ln) (by omega) (fun i v k hv hk hh tk own F N=>?_) fun h' tk out c F' N' K'=>⟨_,rfl,?_⟩
  ·obtain⟨n,t,rfl,e⟩:=hI.at i v hv
   rw[Xv,e] at hk
   cases hk
   exact Udn fun u tk'=>Tcy F N fun p hp=>hp
  ·refine Vc ⟨_,rfl,h h' tk _ out c F'.ns (fun b o hb e=>?_) le ?_ K'⟩
   ·exact(N' _ (Wag _ (Zns hb e))).1
   ·exact(N' _ (Wcc ..)).1
end
nonrec def Zjc:FF:=fun ds H=>match ds with
 | [.ref n]=>match H[n]? with
  | some (.dci kvs)=>if kvs.length<64/\((kvs.map (·.1)).map Zhd).Nodup then some (.ref H.length,H++[.lst ((Zbw (kvs.map (·.1))).map .int)]) else none
  | _=>none
 | _=>none
theorem Zq5 {p:Vh} {w:Vs} {es:List Uac} {xs:List (Int×Vb)} (e:Pairs (Zqz p w) es xs):Uba (es.map (·.key)) (xs.map (·.1)):=by
 induction e with
 | nil=>exact .nil
 | cons a b c ih =>
  obtain⟨t,q⟩:=Zj7 a
  rw[Xs,Xs,q]
  exact .cons _ t ih
theorem Ztc {K:Xb} {H:Hp} {ι:List Ve} {kvs:List (Int×D)} {xs:List (Int×Vb)} (P:Vj (Zwm K H ι) kvs xs):kvs.map (·.1)=xs.map (·.1):=by
 induction P with
 | nil=>rfl
 | cons a b ih=>rw[Xs,Xs,a.1,ih]
theorem Zql {X:Cx} {a:Vv} {f:AF} {p p2 kp pos:Pos} (hcm:X.calm=true) (hg:Gl X "sorted") (hm:X.mg "sorted" = none) (hg2:Gl X "abs") (hm2:X.mg "abs" = none) (ha:PAf X [a] f) (hs:Vf [a] X.env=[(false,eval a X.env)]:=by rfl) :
  PEf X (.Call (.Name "sorted" p) [a] [⟨some "key",.Name "abs" p2,kp⟩] pos) (eCB Zjc f):=by
 rintro pins s σ H Q I ⟨ι,σd,Hd,d,Hd',sr,hr,e,q⟩
 obtain⟨⟨ds,H1⟩,e1,e⟩:=Zo e
 dsimp only at e
 unfold Zjc at e
 split at e
 ·rename_i n
  split at e
  ·rename_i kvs eo
   split at e
   ·rename_i hc
    show Vg _ _ (do Udt pos (<- eval (.Name "sorted" p) X.env) [] (Uag pos (Vf [a] X.env)) (Ubx pos (Uat [⟨some "key",.Name "abs" p2,kp⟩] X.env))) _ _ _
    refine Va (Zdw I hg hm Znv (Ucu (by rw[hs]; rfl) rfl ?_))
    have hA:=ha pos pins s σ H (fun vs H'=>∃ ι',Le X.K H ι H' ι'/\HRep X.K H' ι' H1/\Vj (Rep X.K H' ι') [.ref n] vs) I ⟨ι,σd,Hd,_,_,sr,hr,e1,fun vs H' ι' l h P=>⟨ι',l,h,P⟩⟩
    rw[hs] at hA ⊢
    refine Udq rfl (thn hA fun us s1 ⟨vs,H2,I2,r2,ι2,l2,h2,P2⟩=>kws_cons (Zdw I2 hg2 hm2 Ztf (kws_nil ?_)))
    obtain⟨v,rfl,r⟩:=Zl0 P2
    obtain⟨u,rfl,ru⟩:=Zic r2
    obtain⟨ad,rfl,had⟩:=Zat.mp r
    cases ru
    obtain⟨h3,xs,PK,dd⟩:=Zkb I2 (h2.obj n ad _ had eo)
    obtain⟨o,es,ep,g1,g2,g3,g4,g5,g6⟩:=dd
    show Vg _ _ (call (.builtin "sorted") [.ref ad] [(Ub "key",.builtin "abs")]) _ _ _
    obtain⟨m,hn,_⟩:=I2.loc
    have hI:=Zq5 g5
    rw[<- Ztc PK] at hI
    have les:es.size=kvs.length:=by
     have:=hI.length
     simpa using this
    refine Ztb hn (I2.ok.hd hcm) ⟨h3,o,g1,g2,g3⟩ hI (by omega) fun h' tk Da out c hn' kk hD hat K'=>?_
    have hO:=Zxt hI hc.2 K'
    have hl:((Zbw (kvs.map (·.1))).map V.int).length<=sizeLine:=by
     rw[Xi,(Za0 (kvs.map (·.1))).length_eq,Xi]
     have:sizeLine=16777216:=Ubd
     omega
    refine⟨.ref Da,_,Zmf (o:=.lst ((Zbw (kvs.map (·.1))).map V.int)) I2 kk (fun m' hm'=>by rw[hm'.eq_nsMap,<- hn.eq_nsMap]; exact hn') hD ⟨hl,out.toList,c,Zl8 hO,by simpa using hat⟩,rfl,?_⟩
    have hz2:((Zbw (kvs.map (·.1))).map D.int).length<=sizeLine:=by simpa using hl
    exact(Zgi h2 (Zm6 (Zbw (kvs.map (·.1)))) (show mkL ((Zbw (kvs.map (·.1))).map D.int) H1=some (d,Hd') by unfold mkL; rw[if_pos hz2,e]) (fun v H' ι' l h r=>q v H' ι' (l2.trans l) h r)).2 _ (I2.hok.fresh hD)
   ·cases e
  ·cases e
 ·cases e
section
variable {X:Cx}
nonrec def Zzz:F2:=fun x y H=>(Zu3 y H).bind fun kvs=>match x with
 | .int k=>some (.bl (!(Zbm kvs k).isSome),H)
 | _=>none
theorem inif:OpF X (Vr .NotIn) Zzz:=by
 rintro pins s σ H x y v u Q I rx ry ⟨ι,dx,dy,Hd,d,Hd',hr,r1,r2,e,q⟩
 obtain⟨kvs,e1,e⟩:=Zo e
 split at e
 ·rename_i k _
  obtain⟨rfl,rfl⟩:=Wba.inj (Xy.inj e)
  obtain⟨n,rfl,hn⟩:=Zgo e1
  obtain⟨a,rfl,ha⟩:=Zat.mp r2
  simp at r1
  subst r1
  obtain⟨tok,rfl⟩:=rx
  cases ry
  obtain⟨h1,xs,P,dd⟩:=Zkb I (hr.obj n a _ ha hn)
  refine wpAny_notIn_of (knd:=Zqz X.prog X.w) (k:=k) (Ze7 (k:=k) (t:=tok)) h1 dd.mapOf ?_
  have e3:(Uee xs k).isSome=(Zbm kvs k).isSome:=by
   rcases Zhc P k with ⟨z1,z2⟩ | ⟨_,_,_,z1,z2,_⟩<;>rw[z1,z2]<;>rfl
  rw[e3]
  exact⟨.bl _,H,I.tok _,rfl,q _ H ι Le.refl hr (by simp)⟩
 ·cases e
end
nonrec def Zyn:List Int->Option Int
 | []=>none
 | [x]=>some x
 | x::r=>(Zyn r).map fun m=>if x<m then m else x
nonrec def Zrx:FF:=fun ds H=>match ds with
 | [.ref n]=>match H[n]? with
  | some (.lst xs)=>(Zfr xs).bind fun ns=>(Zyn ns).map fun m=>(.int m,H)
  | _=>none
 | _=>none
theorem Ziw:∀ {ns:List Int} {m:Int},Zyn ns=some m->m∈ns/\∀ x∈ns,x<=m
 | [],_,e=>by cases e
 | [x],m,e=>by cases e; exact⟨by simp,by simp⟩
 | x::y::r,m,e=>by
  rw[Zyn] at e
  ·obtain⟨k,e1,rfl⟩:=Zm e
   obtain⟨h1,h2⟩:=Ziw e1
   split
   ·exact⟨Wag _ h1,fun z hz=>by
     rcases Xh.mp hz with rfl | hz
     ·omega
     ·exact h2 z hz⟩
   ·exact⟨by simp,fun z hz=>by
     rcases Xh.mp hz with rfl | hz
     ·omega
     ·have:=h2 z hz; omega⟩
  ·simp
theorem Zmb:∀ {ns:List Int},ns≠[]->∃ m,Zyn ns=some m
 | [],h=>absurd rfl h
 | [x],_=>⟨x,rfl⟩
 | x::y::r,_=>by
  obtain⟨m,e⟩:=Zmb (ns:=y::r) (by simp)
  exact⟨_,by rw[Zyn,e]; rfl; simp⟩
section
variable {X:Cx}
theorem Zra (hc:X.calm=true):Zj1 X (.builtin "max") Zrx:=by
 rintro pins s σ H xs us Q I rv ⟨ι,ds,Hd,d,Hd',hr,P,e,q⟩
 unfold Zrx at e
 split at e
 ·rename_i n
  split at e
  ·rename_i ys eo
   obtain⟨ns,e1,e⟩:=Zo e
   obtain⟨m,e2,e⟩:=Zm e
   obtain⟨rfl,rfl⟩:=Wba.inj e
   obtain⟨v,rfl,r⟩:=Zl0 P
   obtain⟨a,rfl,ha⟩:=Zat.mp r
   obtain⟨vs,h1,P2⟩:=hr.obj n a _ ha eo
   cases rv with
   | cons rx rv =>
    cases rv
    cases rx
    obtain⟨its,rv2,p,hz⟩:=I.list (SqL.of h1)
    rw[Zi2 e1 P2] at rv2
    obtain⟨hn,hv⟩:=Ze6 rv2
    obtain⟨m1,m2⟩:=Ziw e2
    have hsz:its.toArray.size=ns.length:=by simpa using hn
    have hpos:0<ns.length:=List.length_pos_of_mem m1
    have hlt:a<s.heap.objs.size:=by
     obtain⟨o,ho,_⟩:=p.isList
     exact Xg ho
    have hval:∀ (i:Nat) (v:Vb),its.toArray[i]? = some v->∃ t,v=.int ((ns[i]?).getD 0) t:=fun i v z=>hv i v (by simpa using z)
    refine call_max_walk (Uan p.isList ⟨s.heap.objs.size,[s.heap.objs.size,a],[s.heap.objs.size],its.toArray.size,_,_,_,rfl,
     Walks.list (A:=X.A.in1) (show X.A.in1.handled=none from I.ok.hd hc) s.heap.objs.size a (Xq hlt) its.toArray,⟨⟨_,Xf _ rfl,rfl,rfl⟩,p.isList.at fun o z=>Xa _ z⟩,?_,by rw[hsz]; exact hpos,CmpOf.ints_gt (fun i=>(ns[i]?).getD 0) hval,fun v h' tk hP k=>?_⟩)
    ·intro b hb
     show b<(s.heap.push _).objs.size
     rw[show (s.heap.push _).objs.size=s.heap.objs.size+1 from Array.size_push ..]
     rcases Xh.mp hb with rfl | hb
     ·exact Wfd _
     ·have:b=a:=by simpa using hb
      subst this
      exact Wch hlt
    ·obtain⟨t,rfl⟩:=hval _ _ hP
     obtain⟨b1,b2⟩:=argBest_gt (fun i=>(ns[i]?).getD 0) (its.toArray.size - 1)
     generalize argBest (fun i j=>decide ((ns[j]?).getD 0<(ns[i]?).getD 0)) (its.toArray.size - 1)=z at b1 b2 hP
     have hz':z<ns.length:=by omega
     have hm:(ns[z]?).getD 0=m:=by
      refine(Int.le_antisymm ?_ ?_).symm
      ·obtain⟨i,hi,rfl⟩:=List.getElem_of_mem m1
       have:=b2 i (by omega)
       simpa [hi] using this
      ·have:=m2 _ (Xo hz')
       simpa [hz'] using this
     rw[hm]
     refine⟨.int m,H,I.kept (t':=tk) fun b o z=>k b o ?_ (Xa _ z),⟨t,rfl⟩,q _ H ι Le.refl hr (by simp)⟩
     intro hm
     have:b=s.heap.objs.size:=by simpa using hm
     exact absurd (this ▸ Xg z) (Wbn _)
  ·cases e
 ·cases e
end
end DL
namespace DL
open PySem PySem.Spec PyProof.Rows L2 PySem.W
theorem Zwk {X:Cx} {body:List Uae} {h₀:ExceptHandler} {hs:List ExceptHandler} {b:SF} {pos:Pos} (hb0:Zrr X.nox body b):PSf X (.Try body (h₀::hs) [] [] pos) b:=by
 intro pins s σ H D I z
 obtain⟨ι,σd,Hd,fl,σd',Hd',ss,hh,e,qq⟩:=z
 refine wpAny_Try_except (Uau (hb0 pins s σ H D (I.wish _) ⟨ι,σd,Hd,_,_,_,ss,hh,e,qq⟩) (fun f s1 z=>?_) fun _ _ z=>z.elim)
 have z:SP X pins D f s1:=z.unwish
 cases f with
 | next=>exact Ubl z
 | brk=>exact z
 | cont=>exact z
 | ret u=>exact z
end DL
namespace DL
open PySem L2
theorem Zhp {n:Nat} (h:n<=1000000):n<=sizeLine:=by rw[Um]; omega
theorem Zd8 {xs:List D} {i:Int} {d:D} (h0:0<=i) (h:xs[i.toNat]? = some d):atI xs i=some d:=by
 have:i=(i.toNat:Int):=by omega
 rw[this]; exact Zdo h
end DL
namespace LH
open PySem L2 DL
nonrec def Zao (l:Int):Int:=if l<0 then -l else l
nonrec def Up (m:Int):Int->List Int->Prop
 | _,[]=>True
 | last,l::r=>last<Zao l/\Zao l<=m/\Up m (Zao l) r
theorem Ya9 {m:Int}:∀ (ls:List Int) (last:Int),(ls.map Zao).Pairwise (· < ·)->(∀ x∈ls.map Zao,last<x/\x<=m)->Up m last ls
 | [],_,_,_=>trivial
 | l::r,last,p,h=>by
  rw[Xs,Wdj] at p
  have h1:=h (Zao l) (by simp)
  exact⟨h1.1,h1.2,Ya9 r (Zao l) p.2 fun x hx=>⟨p.1 x hx,(h x (by rw[Xs]; exact Wag _ hx)).2⟩⟩
theorem Zcb {f g:SF} {σ σ1:SD} {H H1:HD} (h:f σ H=some (.nx,σ1,H1)):Zae f g σ H=g σ1 H1:=by
 unfold Zae
 rw[h]
 rfl
theorem Zkq {f g:SF} {σ σ1:SD} {H H1:HD} {d:D} (h:f σ H=some (.rt d,σ1,H1)):Zae f g σ H=some (.rt d,σ1,H1):=by
 unfold Zae
 rw[h]
 rfl
theorem Znw {i:Nat} {f:EF} {σ:SD} {H H1:HD} {d:D} (h:f σ H=some (d,H1)):Za1 i f σ H=some (.nx,σ.set i (some d),H1):=by
 unfold Za1
 rw[h]
 rfl
def Zby (d:D):Prop:=d=.str "all" \/ d=.str "some"
theorem Zhz {H:HD}:Zcd [] H:=by intro x hx; simp at hx
theorem Zua (H:HD) (n:Nat) (i:Int):toP H n (.int i)=some (.int i):=by cases n<;>rw[toP]
theorem Ycr (H:HD) (n:Nat) (b:Bool):toP H n (.bl b)=some (.bool b):=by cases n<;>rw[toP]
theorem Zsf (H:HD) (i:Int):dat (.int i) H=some (.int i):=by
 simp[dat,Zua,okP,Tal,Tau]
theorem Zuh (i j:Int) (H:HD):eqD (.int i) (.int j) H=some (.bl (i==j),H):=by
 simp[eqD,Zqd,Zsf,Ua]
theorem Yb1 (i j:Int) (H:HD):neD (.int i) (.int j) H=some (.bl (!(i==j)),H):=by
 simp[neD,Zqd,Zsf,Ua]
theorem Zoz (H:HD) (n:Nat) (x:Str):toP H n (.str x)=some (.str x):=by cases n<;>rw[toP]
theorem Zht {x:Str} (h:(x.cps.toList.all fun c=>decide (c<0x110000))=true):Tai x=true:=by
 unfold Tai
 rw[<- Array.all_toList]
 exact h
theorem Ztp (xs:List D) (k:Nat):Zlm xs (some (k:Int)) none=xs.drop k:=by
 unfold Zlm
 have h1:HT.sIx xs.length 0 (some (k:Int))=min k xs.length:=by
  show (if (k:Int)<0 then ((k:Int)+(xs.length:Int)).toNat else min (k:Int).toNat xs.length)=min k xs.length
  rw[if_neg (by omega),Xr]
 have h2:HT.sIx xs.length xs.length none=xs.length:=rfl
 rw[h1,h2]
 by_cases h:k<=xs.length
 ·rw[Wfj h]
  exact Wct (by simp)
 ·rw[Nat.min_eq_right (by omega),Wec (Xe _),Wec (by omega)]
  simp
theorem Zx1 (xs:List D) (k:Nat):Zlm xs none (some (k:Int))=xs.take k:=by
 unfold Zlm
 have h1:HT.sIx xs.length 0 none=0:=rfl
 have h2:HT.sIx xs.length xs.length (some (k:Int))=min k xs.length:=by
  show (if (k:Int)<0 then ((k:Int)+(xs.length:Int)).toNat else min (k:Int).toNat xs.length)=min k xs.length
  rw[if_neg (by omega),Xr]
 rw[h1,h2]
 simp
theorem ac {f:EF} {g:AF} {σ:SD} {H H1 H2:HD} {d:D} {ds:List D} (h1:f σ H=some (d,H1)) (h2:g σ H1=some (ds,H2)):Zaa f g σ H=some (d::ds,H2):=by
 unfold Zaa; rw[h1]; simp only[Zb]; rw[h2]; rfl
theorem an {σ:SD} {H:HD}:Zaf σ H=some ([],H):=rfl
theorem cb {g:FF} {f:AF} {σ:SD} {H H1:HD} {ds:List D} {r:Option (D×HD)} (h1:f σ H=some (ds,H1)) (h2:g ds H1=r):eCB g f σ H=r:=by
 unfold eCB; rw[h1]; exact h2
theorem tu {n:Nat} {xs:List D} {H:HD} (h:H[n]? = some (.lst xs)):Zdz [.ref n] H=some (.tup xs,H):=by
 simp[Zdz,Zl4,h]
theorem tp {f:AF} {σ:SD} {H H1:HD} {ds:List D} (h1:f σ H=some (ds,H1)) (h2:ds.length<=1000000):Zez f σ H=some (.tup ds,H1):=by
 unfold Zez; rw[h1]; exact if_pos (Zhp h2)
theorem ls {f:AF} {σ:SD} {H H1:HD} {ds:List D} (h1:f σ H=some (ds,H1)) (h2:ds.length<=1000000):Zd5 f σ H=some (.ref H1.length,H1++[.lst ds]):=by
 unfold Zd5; rw[h1]; exact if_pos (Zhp h2)
theorem ca {n:Nat} {F:FF} {f:AF} {σ:SD} {H H1:HD} {ds:List D} {r:Option (D×HD)} (h1:f σ H=some (ds,H1)) (hl:ds.length=n) (h2:F ds H1=r):Zal n F f σ H=r:=by
 unfold Zal; rw[h1]; simp only[Zb]; rw[if_pos hl]; exact h2
theorem rt {f:EF} {σ:SD} {H H1:HD} {d:D} (h:f σ H=some (d,H1)):Za6 f σ H=some (.rt d,σ,H1):=by
 unfold Za6; rw[h]; rfl
theorem op {g:F2} {fa fb:EF} {σ:SD} {H H1 H2:HD} {d1 d2:D} {r:Option (D×HD)} (h1:fa σ H=some (d1,H1)) (h2:fb σ H1=some (d2,H2)) (h3:g d1 d2 H2=r):eOp g fa fb σ H=r:=by
 unfold eOp; rw[h1]; simp only[Zb]; rw[h2]; exact h3
theorem Zma {t:TF} {f g:SF} {σ:SD} {H H1:HD} {b:Bool} (h:t σ H=some (b,H1)):sIf t f g σ H=if b=true then f σ H1 else g σ H1:=by
 unfold sIf; rw[h]; rfl
theorem tof {f:EF} {σ:SD} {H H1:HD} {b:Bool} (h:f σ H=some (.bl b,H1)):tOf f σ H=some (b,H1):=by
 unfold tOf; rw[h]; rfl
theorem lenT (xs:List D) (H:HD):Zbn [.tup xs] H=some (.int xs.length,H):=by simp[Zbn,Zl4]
theorem lenB (bs:List Bool) (H:HD):Zbn [.tup (bs.map .bl)] H=some (.int bs.length,H):=by simp[Zbn,Zl4]
theorem ixT {xs:List D} {i:Int} {d:D} {H:HD} (h:atI xs i=some d):ixD (.tup xs) (.int i) H=some (d,H):=by simp[ixD,Zl4,h]
theorem skip {t:TF} {f g:SF} {σ:SD} {H H1:HD} (h:t σ H=some (false,H1)):Zae (sIf t f Zah) g σ H=g σ H1:=by
 refine Zcb ?_
 rw[Zma h]
 rfl
theorem hit {t:TF} {f f2 g:SF} {σ σ1:SD} {H H1 H2:HD} {d:D} (h:t σ H=some (true,H1)) (h2:f σ H1=some (.rt d,σ1,H2)):Zae (sIf t (Zae f Zah) f2) g σ H=some (.rt d,σ1,H2):=by
 refine Zkq ?_
 rw[Zma h]
 exact Zkq h2
theorem vr {i:Nat} {σ:SD} {H:HD} {d:D} (h:σ[i]? = some (some d)):Zac i σ H=some (d,H):=by simp[Zac,h]
theorem sl {fe:EF} {fl fh:OF} {σ:SD} {H H1 H2 H3:HD} {d:D} {l h:Option Int} {r:Option (D×HD)} (h1:fe σ H=some (d,H1)) (h2:fl σ H1=some (l,H2)) (h3:fh σ H2=some (h,H3)) (h4:slD d l h H3=r):eSl fe fl fh σ H=r:=by
 unfold eSl; rw[h1]; simp only[Zb]; rw[h2]; simp only[Zb]; rw[h3]; exact h4
theorem os {f:EF} {σ:SD} {H H1:HD} {i:Int} (h:f σ H=some (.int i,H1)):Zdq f σ H=some (some i,H1):=by
 unfold Zdq; rw[h]; rfl
theorem on {σ:SD} {H:HD}:Ze0 σ H=some (none,H):=rfl
theorem slhi {xs:List D} {k:Nat} {H:HD}:slD (.tup xs) none (some (k:Int)) H=some (.tup (xs.take k),H):=by
 rw[<- Zx1]; rfl
theorem sllo {xs:List D} {k:Nat} {H:HD}:slD (.tup xs) (some (k:Int)) none H=some (.tup (xs.drop k),H):=by
 rw[<- Ztp]; rfl
theorem adT {xs ys:List D} {H:HD} (h:xs.length+ys.length<=1000000):Zbo (.tup xs) (.tup ys) H=some (.tup (xs++ys),H) :=
 if_pos (Zhp (by rw[Xz]; exact h))
theorem adI (i j:Int) (H:HD):Zbo (.int i) (.int j) H=some (.int (i+j),H):=rfl
theorem suI (i j:Int) (H:HD):Zl1 (.int i) (.int j) H=some (.int (i - j),H):=by simp[Zl1,iiD,CT]
nonrec def Zas (ls:List Int):D:=.tup (ls.map .int)
theorem orF {t u:TF} {σ:SD} {H H1:HD} (h:t σ H=some (false,H1)):Zjz t u σ H=u σ H1:=by unfold Zjz; rw[h]; rfl
theorem orT {t u:TF} {σ:SD} {H H1:HD} (h:t σ H=some (true,H1)):Zjz t u σ H=some (true,H1):=by unfold Zjz; rw[h]; rfl
theorem anF {t u:TF} {σ:SD} {H H1:HD} (h:t σ H=some (false,H1)):tAn t u σ H=some (false,H1):=by unfold tAn; rw[h]; rfl
theorem anT {t u:TF} {σ:SD} {H H1:HD} (h:t σ H=some (true,H1)):tAn t u σ H=u σ H1:=by unfold tAn; rw[h]; rfl
theorem Zxh:∀ bs:List Bool,(!(bs.map PyData.bool).any fun z=>Ua z (.bool false))=bs.all id
 | []=>rfl
 | b::r=>by
  have ih:=Zxh r
  rw[Xs,Wcp,Bool.not_or,ih,Wdv]
  cases b<;>simp[Ua]
end LH
namespace WP
open PySem L2 DL LH
def wE (r:Option (D×HD)) (Q:D->HD->Prop):Prop:=∃ d H,r=some (d,H)/\Q d H
def wT (r:Option (Bool×HD)) (Q:Bool->HD->Prop):Prop:=∃ d H,r=some (d,H)/\Q d H
def wA (r:Option (List D×HD)) (Q:List D->HD->Prop):Prop:=∃ d H,r=some (d,H)/\Q d H
def wO (r:Option (Option Int×HD)) (Q:Option Int->HD->Prop):Prop:=∃ d H,r=some (d,H)/\Q d H
def wI (r:Option ((List D×Zhf)×HD)) (Q:List D->Zhf->HD->Prop):Prop:=∃ d o H,r=some ((d,o),H)/\Q d o H
def wG (r:Option (SD×HD)) (Q:SD->HD->Prop):Prop:=∃ d H,r=some (d,H)/\Q d H
def wH (r:Option HD) (Q:HD->Prop):Prop:=∃ H,r=some H/\Q H
def wS (r:Option (FD×SD×HD)) (Q:FD->SD->HD->Prop):Prop:=∃ x d H,r=some (x,d,H)/\Q x d H
def wN (n:Nat) (F:FF) (ds:List D) (H:HD) (Q:D->HD->Prop):Prop:=ds.length=n/\wE (F ds H) Q
def br (b:Bool) (P Q:Prop):Prop:=(b=true->P)/\(b=false->Q)
nonrec def Zxw (k:SD->HD->Prop) (Q:FD->SD->HD->Prop):FD->SD->HD->Prop
 | .nx,σ,H=>k σ H
 | r,σ,H=>Q r σ H
nonrec def fin (Q:D->HD->Prop):FD->SD->HD->Prop
 | .rt d,_,H=>Q d H
 | .nx,_,H=>Q .non H
 | _,_,_=>False
section
variable {σ:SD} {H:HD} {Q:D->HD->Prop}
theorem wE_of {r:Option (D×HD)} {d:D} {H:HD} (e:r=some (d,H)) (q:Q d H):wE r Q:=⟨d,H,e,q⟩
theorem wS_of {Q:FD->SD->HD->Prop} {r:Option (FD×SD×HD)} {x:FD} {d:SD} {H:HD} (e:r=some (x,d,H)) (q:Q x d H):wS r Q:=⟨x,d,H,e,q⟩
theorem w_var {i:Nat} {d:D} (h:(σ[i]?).join=some d) (q:Q d H):wE (Zac i σ H) Q:=⟨d,H,by unfold Zac; rw[h]; rfl,q⟩
theorem w_c {d:D} (q:Q d H):wE (eC d σ H) Q:=⟨d,H,rfl,q⟩
theorem w_op {g:F2} {fa fb:EF} (h:wE (fa σ H) fun x H1=>wE (fb σ H1) fun y H2=>wE (g x y H2) Q):wE (eOp g fa fb σ H) Q:=by
 obtain⟨x,H1,e1,y,H2,e2,d,H3,e3,q⟩:=h
 exact⟨d,H3,op e1 e2 e3,q⟩
theorem w_un {g:D->HD->Option (D×HD)} {fa:EF} (h:wE (fa σ H) fun x H1=>wE (g x H1) Q):wE (eUn g fa σ H) Q:=by
 obtain⟨x,H1,e1,d,H3,e3,q⟩:=h
 exact⟨d,H3,by unfold eUn; rw[e1]; exact e3,q⟩
theorem w_ch {g g':F2} {fa fb fc:EF} (h:wE (fa σ H) fun x H1=>wE (fb σ H1) fun y H2=>wE (g x y H2) fun z H3=>∃ k,z=.bl k/\br k (wE (fc σ H3) fun w H4=>wE (g' y w H4) Q) (Q (.bl false) H3)):wE (eCh g g' fa fb fc σ H) Q:=by
 obtain⟨x,H1,e1,y,H2,e2,z,H3,e3,k,rfl,b1,b2⟩:=h
 unfold eCh
 rw[e1]; simp only[Zb]; rw[e2]; simp only[Zb]; rw[e3]; simp only[Zb,blD]
 cases k with
 | true =>
  obtain⟨w,H4,e4,d,H5,e5,q⟩:=b1 rfl
  exact⟨d,H5,by rw[if_pos rfl,e4]; exact e5,q⟩
 | false=>exact⟨.bl false,H3,by rw[if_neg (by simp)],b2 rfl⟩
theorem w_tof {f:EF} {Q:Bool->HD->Prop} (h:wE (f σ H) fun d H1=>∃ b,d=.bl b/\Q b H1):wT (tOf f σ H) Q:=by
 obtain⟨d,H1,e,b,rfl,q⟩:=h
 exact⟨b,H1,tof e,q⟩
theorem w_bl {b:Bool} {P:Bool->Prop} (h:P b):∃ c,D.bl b=.bl c/\P c:=⟨b,rfl,h⟩
theorem w_ttru {f:EF} {Q:Bool->HD->Prop} (h:wE (f σ H) fun d H1=>∃ b,Zun d H1=some b/\Q b H1):wT (Zgm f σ H) Q:=by
 obtain⟨d,H1,e,b,e2,q⟩:=h
 exact⟨b,H1,by unfold Zgm; rw[e]; simp only[Zb]; rw[e2]; rfl,q⟩
theorem w_no {t:TF} {Q:Bool->HD->Prop} (h:wT (t σ H) fun b H1=>Q (!b) H1):wT (tNo t σ H) Q:=by
 obtain⟨b,H1,e,q⟩:=h
 exact⟨!b,H1,by unfold tNo; rw[e]; rfl,q⟩
theorem w_an {t u:TF} {Q:Bool->HD->Prop} (h:wT (t σ H) fun b H1=>br b (wT (u σ H1) Q) (Q false H1)):wT (tAn t u σ H) Q:=by
 obtain⟨b,H1,e,q1,q2⟩:=h
 cases b with
 | true=>obtain⟨c,H2,e2,q⟩:=q1 rfl; exact⟨c,H2,(anT e).trans e2,q⟩
 | false=>exact⟨false,H1,anF e,q2 rfl⟩
theorem w_or {t u:TF} {Q:Bool->HD->Prop} (h:wT (t σ H) fun b H1=>br b (Q true H1) (wT (u σ H1) Q)):wT (Zjz t u σ H) Q:=by
 obtain⟨b,H1,e,q1,q2⟩:=h
 cases b with
 | true=>exact⟨true,H1,orT e,q1 rfl⟩
 | false=>obtain⟨c,H2,e2,q⟩:=q2 rfl; exact⟨c,H2,(orF e).trans e2,q⟩
theorem w_eno {f:EF} (h:wE (f σ H) fun d H1=>∃ b,d=.bl b/\Q (.bl (!b)) H1):wE (eNo f σ H) Q:=by
 obtain⟨d,H1,e,b,rfl,q⟩:=h
 exact⟨.bl (!b),H1,by unfold eNo; rw[e]; rfl,q⟩
theorem w_ean {f g:EF} (h:wE (f σ H) fun d H1=>∃ b,d=.bl b/\br b (wE (g σ H1) Q) (Q (.bl false) H1)):wE (eAn f g σ H) Q:=by
 obtain⟨d,H1,e,b,rfl,q1,q2⟩:=h
 unfold eAn
 rw[e]; simp only[Zb,blD]
 cases b with
 | true=>rw[if_pos rfl]; exact q1 rfl
 | false=>rw[if_neg (by simp)]; exact⟨_,_,rfl,q2 rfl⟩
theorem w_eif {t:TF} {f g:EF} (h:wT (t σ H) fun b H1=>br b (wE (f σ H1) Q) (wE (g σ H1) Q)):wE (eIf t f g σ H) Q:=by
 obtain⟨b,H1,e,q1,q2⟩:=h
 unfold eIf
 rw[e]; simp only[Zb]
 cases b with
 | true=>rw[if_pos rfl]; exact q1 rfl
 | false=>rw[if_neg (by simp)]; exact q2 rfl
theorem w_anil {Q:List D->HD->Prop} (q:Q [] H):wA (Zaf σ H) Q:=⟨[],H,rfl,q⟩
theorem w_acons {f:EF} {g:AF} {Q:List D->HD->Prop} (h:wE (f σ H) fun d H1=>wA (g σ H1) fun ds H2=>Q (d::ds) H2):wA (Zaa f g σ H) Q:=by
 obtain⟨d,H1,e1,ds,H2,e2,q⟩:=h
 exact⟨d::ds,H2,ac e1 e2,q⟩
theorem w_cb {g:FF} {f:AF} (h:wA (f σ H) fun ds H1=>wE (g ds H1) Q):wE (eCB g f σ H) Q:=by
 obtain⟨ds,H1,e1,d,H2,e2,q⟩:=h
 exact⟨d,H2,cb e1 e2,q⟩
theorem w_call {n:Nat} {F:FF} {f:AF} (h:wA (f σ H) fun ds H1=>wN n F ds H1 Q):wE (Zal n F f σ H) Q:=by
 obtain⟨ds,H1,e1,hl,d,H2,e2,q⟩:=h
 exact⟨d,H2,ca e1 hl e2,q⟩
theorem w_n {n:Nat} {F:FF} {ds:List D} (hl:ds.length=n) (h:wE (F ds H) Q):wN n F ds H Q:=⟨hl,h⟩
theorem w_tup {f:AF} (h:wA (f σ H) fun ds H1=>ds.length<=1000000/\Q (.tup ds) H1):wE (Zez f σ H) Q:=by
 obtain⟨ds,H1,e1,hl,q⟩:=h
 exact⟨_,H1,tp e1 hl,q⟩
theorem w_lst {f:AF} (h:wA (f σ H) fun ds H1=>ds.length<=1000000/\Q (.ref H1.length) (H1++[.lst ds])):wE (Zd5 f σ H) Q:=by
 obtain⟨ds,H1,e1,hl,q⟩:=h
 exact⟨_,_,ls e1 hl,q⟩
theorem w_lm {g:D->List D->HD->Option (D×HD)} {fo:EF} {f:AF} (h:wE (fo σ H) fun o H1=>Zol o H1=true/\wA (f σ H1) fun ds H2=>wE (g o ds H2) Q):wE (eLM g fo f σ H) Q:=by
 obtain⟨o,H1,e1,i,ds,H2,e2,d,H3,e3,q⟩:=h
 exact⟨d,H3,by unfold eLM; rw[e1]; simp only[Zb]; rw[if_pos i,e2]; exact e3,q⟩
theorem w_on {Q:Option Int->HD->Prop} (q:Q none H):wO (Ze0 σ H) Q:=⟨none,H,rfl,q⟩
theorem w_os {f:EF} {Q:Option Int->HD->Prop} (h:wE (f σ H) fun d H1=>∃ i,d=.int i/\Q (some i) H1):wO (Zdq f σ H) Q:=by
 obtain⟨d,H1,e,i,rfl,q⟩:=h
 exact⟨some i,H1,os e,q⟩
theorem w_int {i:Int} {P:Int->Prop} (h:P i):∃ c,D.int i=.int c/\P c:=⟨i,rfl,h⟩
theorem w_sl {fe:EF} {fl fh:OF} (h:wE (fe σ H) fun x H1=>wO (fl σ H1) fun l H2=>wO (fh σ H2) fun u H3=>wE (slD x l u H3) Q):wE (eSl fe fl fh σ H) Q:=by
 obtain⟨x,H1,e1,l,H2,e2,u,H3,e3,d,H4,e4,q⟩:=h
 exact⟨d,H4,sl e1 e2 e3 e4,q⟩
variable {R:FD->SD->HD->Prop}
theorem w_snil (q:R .nx σ H):wS (Zah σ H) R:=⟨_,_,_,rfl,q⟩
theorem w_seq {f g:SF} (h:wS (f σ H) (Zxw (fun σ1 H1=>wS (g σ1 H1) R) R)):wS (Zae f g σ H) R:=by
 obtain⟨x,σ1,H1,e,k⟩:=h
 unfold Zae
 rw[e]; simp only[Zb]
 cases x with
 | nx=>exact k
 | bk=>exact⟨_,_,_,rfl,k⟩
 | ct=>exact⟨_,_,_,rfl,k⟩
 | rt d=>exact⟨_,_,_,rfl,k⟩
theorem w_kn {k:SD->HD->Prop} (h:k σ H):Zxw k R .nx σ H:=h
theorem w_kr {k:SD->HD->Prop} {d:D} (h:R (.rt d) σ H):Zxw k R (.rt d) σ H:=h
theorem Zk3 {r:Option (FD×SD×HD)} {k:SD->HD->Prop} (J:SD->HD->Prop) (h:wS r fun x σ H=>x=.nx/\J σ H) (q:∀ σ H,J σ H->k σ H):wS r (Zxw k R):=by
 obtain⟨x,s,H,e,rfl,j⟩:=h
 exact⟨_,s,H,e,q s H j⟩
theorem w_fr {d:D} (h:Q d H):fin Q (.rt d) σ H:=h
theorem w_ret {f:EF} (h:wE (f σ H) fun d H1=>R (.rt d) σ H1):wS (Za6 f σ H) R:=by
 obtain⟨d,H1,e,q⟩:=h; exact⟨_,_,_,rt e,q⟩
theorem w_expr {f:EF} (h:wE (f σ H) fun d H1=>R .nx σ H1):wS (Zbq f σ H) R:=by
 obtain⟨d,H1,e,q⟩:=h; exact⟨_,_,_,by unfold Zbq; rw[e]; rfl,q⟩
theorem w_if {t:TF} {f g:SF} (h:wT (t σ H) fun b H1=>br b (wS (f σ H1) R) (wS (g σ H1) R)):wS (sIf t f g σ H) R:=by
 obtain⟨b,H1,e,q1,q2⟩:=h
 rw[Zma e]
 cases b with
 | true=>rw[if_pos rfl]; exact q1 rfl
 | false=>rw[if_neg (by simp)]; exact q2 rfl
theorem w_set {i:Nat} {f:EF} (h:wE (f σ H) fun d H1=>R .nx (σ.set i (some d)) H1):wS (Za1 i f σ H) R:=by
 obtain⟨d,H1,e,q⟩:=h; exact⟨_,_,_,by unfold Za1; rw[e]; rfl,q⟩
theorem w_asg {f:EF} {g:GF} (h:wE (f σ H) fun d H1=>wG (g d σ H1) fun σ2 H2=>R .nx σ2 H2):wS (Zmx f g σ H) R:=by
 obtain⟨d,H1,e,σ2,H2,e2,q⟩:=h; exact⟨_,_,_,by unfold Zmx; rw[e]; simp only[Zb]; rw[e2]; rfl,q⟩
theorem w_gnm {i:Nat} {d:D} {Q:SD->HD->Prop} (h:Q (σ.set i (some d)) H):wG (gNm i d σ H) Q:=⟨_,_,rfl,h⟩
theorem w_gsb {fo fi:EF} {g:Yar} {d:D} {Q:SD->HD->Prop} (h:wE (fo σ H) fun o H1=>wE (fi σ H1) fun i H2=>wH (g o i d H2) fun H3=>Q σ H3):wG (gSb fo fi g d σ H) Q:=by
 obtain⟨o,H1,e1,i,H2,e2,H3,e3,q⟩:=h
 exact⟨σ,H3,by unfold gSb; rw[e1]; simp only[Zb]; rw[e2]; simp only[Zb]; rw[e3]; rfl,q⟩
theorem w_gtp {n:Nat} {g:GFs} {ds:List D} {Q:SD->HD->Prop} (hl:ds.length=n) (h:wG (g ds σ H) Q):wG (gTp n g (.tup ds) σ H) Q:=by
 obtain⟨s,H1,e,q⟩:=h
 exact⟨s,H1,by unfold gTp; simp only[if_pos hl]; exact e,q⟩
theorem w_gnl {Q:SD->HD->Prop} (h:Q σ H):wG (gNl [] σ H) Q:=⟨_,_,rfl,h⟩
theorem w_gcn {g:GF} {h:GFs} {d:D} {r:List D} {Q:SD->HD->Prop} (q:wG (g d σ H) fun σ1 H1=>wG (h r σ1 H1) Q):wG (gCn g h (d::r) σ H) Q:=by
 obtain⟨s,H1,e,s2,H2,e2,q⟩:=q
 exact⟨s2,H2,by unfold gCn; simp only; rw[e]; exact e2,q⟩
theorem w_for {it:ItF} {g:GF} {b:SF} (h:wI (it σ H) fun xs own H1=>wS (Zhe own g b xs σ H1) R):wS (Zd1 it g b σ H) R:=by
 obtain⟨xs,own,H1,e,q⟩:=h
 unfold Zd1; rw[e]; exact q
theorem Za4 {n N:Nat} {b:SF} {ds:List D} (hl:ds.length=n) (h:wS (b (ds.map some++Xk (N - ds.length) none) H) (fin Q)):wE (Zaw n N b ds H) Q:=by
 obtain⟨x,s,H1,e,q⟩:=h
 unfold Zaw
 rw[if_pos hl,e]
 simp only[Zb]
 cases x with
 | nx=>exact⟨_,_,rfl,q⟩
 | rt d=>exact⟨_,_,rfl,q⟩
 | bk=>exact q.elim
 | ct=>exact q.elim
theorem w_lc {it:ItF} {ci:List Nat} {tt:TF} {te:EF} (h:wI (it σ H) fun xs own H1=>wA (Zdt own (Zzq ci σ) tt te xs H1) fun ds H2=>ds.length<=1000000/\Q (.ref H2.length) (H2++[.lst ds])):wE (eLC it ci tt te σ H) Q:=by
 obtain⟨xs,own,H1,e,ds,H2,e2,hl,q⟩:=h
 exact⟨_,_,by unfold eLC; rw[e]; simp only[Zb]; rw[e2]; exact if_pos (Zhp hl),q⟩
theorem w_bt {P S:Prop} (h:P):br true P S:=⟨fun _=>h,nofun⟩
theorem w_bf {P S:Prop} (h:S):br false P S:=⟨nofun,fun _=>h⟩
theorem w_bnt {P S:Prop} (h:P):br (!false) P S:=⟨fun _=>h,nofun⟩
theorem w_bnf {P S:Prop} (h:S):br (!true) P S:=⟨nofun,fun _=>h⟩
theorem w_bT {b:Bool} {P S:Prop} (e:b=true) (h:P):br b P S:=by subst e; exact w_bt h
theorem w_bF {b:Bool} {P S:Prop} (e:b=false) (h:S):br b P S:=by subst e; exact w_bf h
theorem w_sz {ds:List D} {P:Prop} (h:ds.length<=1000000) (q:P):ds.length<=1000000/\P:=⟨h,q⟩
theorem w_addI {i j:Int} (q:Q (.int (i+j)) H):wE (Zbo (.int i) (.int j) H) Q:=⟨_,_,rfl,q⟩
theorem w_addT {a b:List D} (h:a.length+b.length<=1000000) (q:Q (.tup (a++b)) H):wE (Zbo (.tup a) (.tup b) H) Q:=⟨_,_,adT h,q⟩
theorem w_subI {i j:Int} (q:Q (.int (i - j)) H):wE (Zl1 (.int i) (.int j) H) Q:=⟨_,_,suI i j H,q⟩
theorem w_lt {i j:Int} (q:Q (.bl (decide (i<j))) H):wE (ltD (.int i) (.int j) H) Q:=⟨_,_,by simp[ltD,iiD,CT],q⟩
theorem w_le {i j:Int} (q:Q (.bl (decide (i<=j))) H):wE (leD (.int i) (.int j) H) Q:=⟨_,_,by simp[leD,iiD,CT],q⟩
theorem w_gt {i j:Int} (q:Q (.bl (decide (j<i))) H):wE (gtD (.int i) (.int j) H) Q:=⟨_,_,by simp[gtD,iiD,CT],q⟩
theorem w_ge {i j:Int} (q:Q (.bl (decide (j<=i))) H):wE (geD (.int i) (.int j) H) Q:=⟨_,_,by simp[geD,iiD,CT],q⟩
theorem w_mod {i j:Int} (h:0<j) (q:Q (.int (i % j)) H):wE (Zds (.int i) (.int j) H) Q:=⟨_,_,by have c:Yc2 i j:=h; simp[Zds,iiD,c],q⟩
theorem w_fdiv {i j:Int} (h:0<j) (h2:j<1073741824) (q:Q (.int (i / j)) H):wE (Zk0 (.int i) (.int j) H) Q:=⟨_,_,by have c:Ybc i j:=⟨h,h2⟩; simp[Zk0,iiD,c],q⟩
theorem w_mulL {i j:Int} (h1 : -(2 ^ 64)<i) (h2:i<2 ^ 64) (q:Q (.int (i*j)) H):wE (Zlx (.int i) (.int j) H) Q:=⟨_,_,by have c:Zxl i j:=.inl ⟨h1,h2⟩; simp[Zlx,c],q⟩
theorem w_mulR {i j:Int} (h1 : -(2 ^ 64)<j) (h2:j<2 ^ 64) (q:Q (.int (i*j)) H):wE (Zlx (.int i) (.int j) H) Q:=⟨_,_,by have c:Zxl i j:=.inr ⟨h1,h2⟩; simp[Zlx,c],q⟩
theorem Zzd {i j:Int} (h1:0<=j) (h2:j<=1000000) (h3:i.natAbs<2 ^ 64) (q:Q (.int (i ^ j.toNat)) H):wE (Yan (.int i) (.int j) H) Q:=⟨_,_,by have c:Ycj i j:=⟨h1,h2,h3⟩; simp[Yan,iiD,c],q⟩
theorem w_neg {i:Int} (q:Q (.int (-i)) H):wE (Zj3 (.int i) H) Q:=⟨_,_,rfl,q⟩
theorem w_eqI {i j:Int} (q:Q (.bl (i==j)) H):wE (eqD (.int i) (.int j) H) Q:=⟨_,_,Zuh _ _ _,q⟩
theorem w_eqS {a b:Str} (q:Q (.bl (a==b)) H):wE (eqD (.str a) (.str b) H) Q:=⟨_,_,rfl,q⟩
theorem w_neS {a b:Str} (q:Q (.bl (a != b)) H):wE (neD (.str a) (.str b) H) Q:=⟨_,_,rfl,q⟩
theorem w_lenT {xs:List D} (q:Q (.int xs.length) H):wE (Zbn [.tup xs] H) Q:=⟨_,_,lenT xs H,q⟩
theorem w_lenR {n:Nat} {xs:List D} (h:H[n]? = some (.lst xs)) (q:Q (.int xs.length) H):wE (Zbn [.ref n] H) Q:=⟨_,_,by simp[Zbn,Zl4,h],q⟩
theorem w_lenF {xs:List D} (q:Q (.int xs.length) H):wE (Zbn [.fl xs] H) Q:=⟨_,_,by simp[Zbn,Zl4],q⟩
theorem w_abs {i:Int} (q:Q (.int (Zao i)) H):wE (Zq1 [.int i] H) Q:=⟨_,_,rfl,q⟩
theorem w_ixT {xs:List D} {i:Int} {d:D} (h:atI xs i=some d) (q:Q d H):wE (ixD (.tup xs) (.int i) H) Q:=⟨_,_,ixT h,q⟩
theorem w_ixR {n:Nat} {xs:List D} {i:Int} {d:D} (g:H[n]? = some (.lst xs)) (h:atI xs i=some d) (q:Q d H):wE (ixD (.ref n) (.int i) H) Q:=⟨_,_,by simp[ixD,Zl4,g,h],q⟩
theorem w_ixF {xs:List D} {i:Int} {d:D} (h:atI xs i=some d) (q:Q d H):wE (ixD (.fl xs) (.int i) H) Q:=⟨_,_,by simp[ixD,Zl4,h],q⟩
theorem w_intB {b:Bool} (q:Q (.int (if b then 1 else 0)) H):wE (Yct [.bl b] H) Q:=⟨_,_,rfl,q⟩
theorem w_tupR {n:Nat} {xs:List D} (h:H[n]? = some (.lst xs)) (q:Q (.tup xs) H):wE (Zdz [.ref n] H) Q:=⟨_,_,tu h,q⟩
theorem Zek {n:Nat} {xs:List D} {d:D} (h:H[n]? = some (.lst xs)) (hl:xs.length<1000000) (q:Q .non (H.set n (.lst (xs++[d])))):wE (Zax (.ref n) [d] H) Q :=
 ⟨_,_,by simp[Zax,h,Xu hl (Zhp (Xe _))],q⟩
theorem w_isi {d:D} {c t:String} (ha:Ztw c=true) (h:tyD d H=some t) (q:Q (.bl (t==c||(t == "bool" && c == "int"))) H):wE (Zp1 [d,.ty c] H) Q:=⟨_,_,by simp[Zp1,ha,h],q⟩
theorem w_isN {d:D} {b:Bool} (h:isB d .non=some b) (q:Q (.bl b) H):wE (isD d .non H) Q:=⟨_,_,by simp[isD,h],q⟩
theorem w_isnN {d:D} {b:Bool} (h:isB d .non=some b) (q:Q (.bl (!b)) H):wE (Zx2 d .non H) Q:=⟨_,_,by simp[Zx2,h],q⟩
theorem w_isnBl {d:D} {c b:Bool} (h:isB d (.bl c)=some b) (q:Q (.bl (!b)) H):wE (Zx2 d (.bl c) H) Q:=⟨_,_,by simp[Zx2,h],q⟩
theorem w_truB {b:Bool} {P:Bool->Prop} (h:P b):∃ c,Zun (.bl b) H=some c/\P c:=⟨b,rfl,h⟩
theorem w_isi' {d:D} {c t:String} {r:Bool} (ha:Ztw c=true) (h:tyD d H=some t) (hr:(t==c||(t == "bool" && c == "int"))=r) (q:Q (.bl r) H):wE (Zp1 [d,.ty c] H) Q:=w_isi ha h (by rw[hr]; exact q)
theorem w_eqS' {a b:Str} {r:Bool} (hr:(a==b)=r) (q:Q (.bl r) H):wE (eqD (.str a) (.str b) H) Q:=w_eqS (by rw[hr]; exact q)
theorem w_neS' {a b:Str} {r:Bool} (hr:(a==b)=r) (q:Q (.bl (!r)) H):wE (neD (.str a) (.str b) H) Q:=w_neS (by rw[bne,hr]; exact q)
theorem w_eqI' {a b:Int} {r:Bool} (hr:(a==b)=r) (q:Q (.bl r) H):wE (eqD (.int a) (.int b) H) Q:=w_eqI (by rw[hr]; exact q)
theorem w_slhi {xs:List D} {k:Nat} (q:Q (.tup (xs.take k)) H):wE (slD (.tup xs) none (some (k:Int)) H) Q:=⟨_,_,slhi,q⟩
theorem w_sllo {xs:List D} {k:Nat} (q:Q (.tup (xs.drop k)) H):wE (slD (.tup xs) (some (k:Int)) none H) Q:=⟨_,_,sllo,q⟩
variable {I:List D->Zhf->HD->Prop}
theorem w_isq {f:EF} (h:wE (f σ H) fun d H1=>∃ xs own,Zjq d H1=some (xs,own)/\I xs own H1):wI (iSq f σ H) I:=by
 obtain⟨d,H1,e,xs,own,e2,q⟩:=h
 exact⟨xs,own,H1,by unfold iSq; rw[e]; simp only[Zb]; rw[e2]; rfl,q⟩
theorem w_itT {xs:List D} {P:List D->Zhf->Prop} (h:P xs []):∃ ys own,Zjq (.tup xs) H=some (ys,own)/\P ys own:=⟨_,_,rfl,h⟩
theorem w_itR {n:Nat} {xs:List D} {P:List D->Zhf->Prop} (g:H[n]? = some (.lst xs)) (h:P xs [(n,.lst xs)]):∃ ys own,Zjq (.ref n) H=some (ys,own)/\P ys own:=⟨_,_,by simp[Zjq,g],h⟩
theorem w_ir1 {f:AF} (h:wA (f σ H) fun ds H1=>∃ j,ds=[.int j]/\Zg6 j/\I (Zan 0 j.toNat) [] H1):wI (iR1 f σ H) I:=by
 obtain⟨ds,H1,e,j,rfl,s,q⟩:=h
 exact⟨_,_,H1,by unfold iR1; rw[e]; exact if_pos s,q⟩
theorem w_ir2 {f:AF} (h:wA (f σ H) fun ds H1=>∃ i j,ds=[.int i,.int j]/\Zg6 i/\Zg6 j/\I (Zan i (j - i).toNat) [] H1):wI (iR2 f σ H) I:=by
 obtain⟨ds,H1,e,i,j,rfl,s1,s2,q⟩:=h
 exact⟨_,_,H1,by unfold iR2; rw[e]; exact if_pos ⟨s1,s2⟩,q⟩
theorem w_enum {f:AF} (h:wA (f σ H) fun ds H1=>∃ xs,ds=[.tup xs]/\I (Zb5 0 xs) [] H1):wI (Znz f σ H) I:=by
 obtain⟨ds,H1,e,xs,rfl,q⟩:=h
 exact⟨_,_,H1,by unfold Znz; rw[e]; rfl,q⟩
theorem w_zip {f:AF} (h:wA (f σ H) fun ds H1=>∃ d1 d2 a b,ds=[d1,d2]/\Zu5 d1 H1=some a/\Zu5 d2 H1=some b/\I (Zpd a.1 b.1) (a.2++b.2) H1):wI (Zvj f σ H) I:=by
 obtain⟨ds,H1,e,d1,d2,a,b,rfl,e1,e2,q⟩:=h
 exact⟨_,_,H1,by unfold Zvj; rw[e]; simp only[Zb]; rw[e1]; simp only[Zb]; rw[e2]; rfl,q⟩
theorem Zsy {own:Zhf} {g:GF} {b:SF} (h:Zcd own H) (q:R .nx σ H):wS (Zhe own g b [] σ H) R:=⟨_,_,_,by rw[Zhe,if_pos h],q⟩
nonrec def again (k:SD->HD->Prop) (R:FD->SD->HD->Prop):FD->SD->HD->Prop
 | .nx,σ,H=>k σ H
 | .ct,σ,H=>k σ H
 | .bk,σ,H=>R .nx σ H
 | .rt d,σ,H=>R (.rt d) σ H
theorem Zk7 {own:Zhf} {g:GF} {b:SF} {x:D} {r:List D} (h:Zcd own H) (q:wG (g x σ H) fun σ1 H1=>wS (b σ1 H1) (again (fun σ2 H2=>wS (Zhe own g b r σ2 H2) R) R)):wS (Zhe own g b (x::r) σ H) R:=by
 obtain⟨σ1,H1,e1,y,σ2,H2,e2,q⟩:=q
 rw[Zhe,if_pos h,e1]
 simp only[Zb]
 rw[e2]
 cases y with
 | nx=>exact q
 | ct=>exact q
 | bk=>exact⟨_,_,_,rfl,q⟩
 | rt d=>exact⟨_,_,_,rfl,q⟩
theorem w_agn {k:SD->HD->Prop} (h:k σ H):again k R .nx σ H:=h
theorem w_agr {k:SD->HD->Prop} {d:D} (h:R (.rt d) σ H):again k R (.rt d) σ H:=h
theorem Zbj {own:Zhf} {g:GF} {b:SF} (Inv:List D->List D->SD->HD->Prop) (ho:∀ d t σ H,Inv d t σ H->Zcd own H)
  (st:∀ d x t σ H,Inv d (x::t) σ H->wG (g x σ H) fun σ1 H1=>wS (b σ1 H1) (again (fun σ2 H2=>Inv (d++[x]) t σ2 H2) R))
  (q:∀ d σ H,Inv d [] σ H->R .nx σ H):∀ (t d:List D) (σ:SD) (H:HD),Inv d t σ H->wS (Zhe own g b t σ H) R
 | [],d,σ,H,i=>Zsy (ho _ _ _ _ i) (q d σ H i)
 | x::t,d,σ,H,i=>by
  refine Zk7 (ho _ _ _ _ i) ?_
  obtain⟨σ1,H1,e1,y,σ2,H2,e2,k⟩:=st d x t σ H i
  refine⟨σ1,H1,e1,y,σ2,H2,e2,?_⟩
  cases y with
  | nx=>exact Zbj Inv ho st q t _ σ2 H2 k
  | ct=>exact Zbj Inv ho st q t _ σ2 H2 k
  | bk=>exact k
  | rt d=>exact k
theorem Znc {own:Zhf} {g:GF} {b:SF} (Inv:SD->HD->Prop) (ho:∀ σ H,Inv σ H->Zcd own H):∀ (xs:List D) (st:∀ x∈xs,∀ σ H,Inv σ H->wG (g x σ H) fun σ1 H1=>wS (b σ1 H1) (again Inv R)) (σ:SD) (H:HD),Inv σ H->(∀ σ H,Inv σ H->R .nx σ H)->wS (Zhe own g b xs σ H) R
 | [],st,σ,H,i,q=>Zsy (ho _ _ i) (q σ H i)
 | x::t,st,σ,H,i,q=>by
  refine Zk7 (ho _ _ i) ?_
  obtain⟨σ1,H1,e1,y,σ2,H2,e2,k⟩:=st x (by simp) σ H i
  refine⟨σ1,H1,e1,y,σ2,H2,e2,?_⟩
  cases y with
  | nx=>exact Znc Inv ho t (fun z hz=>st z (by simp[hz])) σ2 H2 k q
  | ct=>exact Znc Inv ho t (fun z hz=>st z (by simp[hz])) σ2 H2 k q
  | bk=>exact k
  | rt d=>exact k
theorem w_wh {t:TF} {b:SF} {n:Nat} (h:wT (t σ H) fun x H1=>br x (wS (b σ H1) (again (fun σ2 H2=>wS (sWh t b n σ2 H2) R) R)) (R .nx σ H1)):wS (sWh t b (n+1) σ H) R:=by
 obtain⟨x,H1,e,q1,q2⟩:=h
 rw[sWh]
 dsimp only
 rw[e]
 simp only[Zb]
 cases x with
 | true =>
  rw[if_pos rfl]
  obtain⟨y,σ2,H2,e2,q⟩:=q1 rfl
  rw[e2]
  cases y with
  | nx=>exact q
  | ct=>exact q
  | bk=>exact⟨_,_,_,rfl,q⟩
  | rt d=>exact⟨_,_,_,rfl,q⟩
 | false=>rw[if_neg (by simp)]; exact⟨_,_,_,rfl,q2 rfl⟩
theorem Zop {t:TF} {b:SF} (Inv:Nat->SD->HD->Prop) (st:∀ m σ H,Inv m σ H->wT (t σ H) fun x H1=>br x (∃ m',m=m'+1/\wS (b σ H1) (again (Inv m') R)) (R .nx σ H1)):∀ (n m:Nat) (σ:SD) (H:HD),m<n->Inv m σ H->wS (sWh t b n σ H) R
 | 0,m,σ,H,h,i=>by omega
 | n+1,m,σ,H,h,i=>by
  refine w_wh ?_
  obtain⟨x,H1,e,q1,q2⟩:=st m σ H i
  refine⟨x,H1,e,fun hx=>?_,q2⟩
  obtain⟨m',rfl,y,σ2,H2,e2,q⟩:=q1 hx
  refine⟨y,σ2,H2,e2,?_⟩
  cases y with
  | nx=>exact Zop Inv st n m' σ2 H2 (by omega) q
  | ct=>exact Zop Inv st n m' σ2 H2 (by omega) q
  | bk=>exact q
  | rt d=>exact q
theorem Zmr {own:Zhf} {c0:SD} {tt:TF} {te:EF} {Q:List D->HD->Prop} (h:Zcd own H) (q:Q [] H):wA (Zdt own c0 tt te [] H) Q:=⟨_,_,by rw[Zdt,if_pos h],q⟩
theorem Zin {own:Zhf} {c0:SD} {tt:TF} {te:EF} {x:D} {r:List D} {Q:List D->HD->Prop} (h:Zcd own H)
  (q:wT (tt (some x::c0) H) fun b H1=>br b (wE (te (some x::c0) H1) fun e H2=>wA (Zdt own c0 tt te r H2) fun es H3=>Q (e::es) H3) (wA (Zdt own c0 tt te r H1) Q)):wA (Zdt own c0 tt te (x::r) H) Q:=by
 obtain⟨b,H1,e1,q1,q2⟩:=q
 rw[Zdt,if_pos h,e1]
 simp only[Zb]
 cases b with
 | true =>
  obtain⟨e,H2,e2,es,H3,e3,q⟩:=q1 rfl
  exact⟨e::es,H3,by rw[if_pos rfl,e2]; simp only[Zb]; rw[e3]; rfl,q⟩
 | false=>rw[if_neg (by simp)]; exact q2 rfl
theorem w_yes {Q:Bool->HD->Prop} (q:Q true H):wT (Zx5 σ H) Q:=⟨_,_,rfl,q⟩
theorem Zsu {own:Zhf} {c0:SD} {tt:TF} {te:EF} (Inv:List D->List D->List D->HD->Prop) (ho:∀ d t o H,Inv d t o H->Zcd own H)
  (st:∀ d x t o H,Inv d (x::t) o H->wT (tt (some x::c0) H) fun b H1=>br b (wE (te (some x::c0) H1) fun e H2=>Inv (d++[x]) t (o++[e]) H2) (Inv (d++[x]) t o H1))
  {Q:List D->HD->Prop}:∀ (t d o:List D) (H:HD),Inv d t o H->(∀ d o' H',Inv d [] (o++o') H'->Q o' H')->wA (Zdt own c0 tt te t H) Q
 | [],d,o,H,i,q=>Zmr (ho _ _ _ _ i) (q d [] H (by rw[Xw]; exact i))
 | x::t,d,o,H,i,q=>by
  refine Zin (ho _ _ _ _ i) ?_
  obtain⟨b,H1,e1,q1,q2⟩:=st d x t o H i
  refine⟨b,H1,e1,fun h=>?_,fun h=>?_⟩
  ·obtain⟨e,H2,e2,k⟩:=q1 h
   refine⟨e,H2,e2,?_⟩
   refine Zsu Inv ho st t _ _ H2 k fun d' o' H' i'=>q d' (e::o') H' ?_
   rw[Wax] at i'; exact i'
  ·exact Zsu Inv ho st t _ _ H1 (q2 h) fun d' o' H' i'=>q d' o' H' i'
theorem Zb1 {own:Zhf} {c0:SD} {tt:TF} (f:D->Bool) (J:HD->Prop) (ho:∀ H,J H->Zcd own H) {Q:List D->HD->Prop}:∀ (xs:List D) (st:∀ x∈xs,∀ H,J H->wT (tt (some x::c0) H) fun b H1=>b=f x/\J H1) (H:HD),J H->(∀ H',J H'->Q (xs.filter f) H')->wA (Zdt own c0 tt (Zac 0) xs H) Q
 | [],st,H,j,q=>Zmr (ho H j) (q H j)
 | x::xs,st,H,j,q=>by
  refine Zin (ho H j) ?_
  obtain⟨b,H1,e,rfl,j1⟩:=st x (by simp) H j
  refine⟨_,H1,e,fun h=>?_,fun h=>?_⟩
  ·refine⟨x,H1,rfl,?_⟩
   refine Zb1 f J ho xs (fun y hy=>st y (by simp[hy])) H1 j1 fun H' j'=>?_
   have:=q H' j'
   rwa [Wbz h] at this
  ·refine Zb1 f J ho xs (fun y hy=>st y (by simp[hy])) H1 j1 fun H' j'=>?_
   have:=q H' j'
   rwa [Wbd (by rw[h]; simp)] at this
theorem Zmh {own:Zhf} {c0:SD} {te:EF} (g:D->D) (J:HD->Prop) (ho:∀ H,J H->Zcd own H) {Q:List D->HD->Prop}:∀ (xs:List D) (st:∀ x∈xs,∀ H,J H->wE (te (some x::c0) H) fun d H1=>d=g x/\J H1) (H:HD),J H->(∀ H',J H'->Q (xs.map g) H')->wA (Zdt own c0 Zx5 te xs H) Q
 | [],st,H,j,q=>Zmr (ho H j) (q H j)
 | x::xs,st,H,j,q=>by
  refine Zin (ho H j) (w_yes (w_bt ?_))
  obtain⟨b,H1,e,rfl,j1⟩:=st x (by simp) H j
  exact⟨_,H1,e,Zmh g J ho xs (fun y hy=>st y (by simp[hy])) H1 j1 q⟩
theorem Yaj {own:Zhf} {c0:SD} {tt:TF} {te:EF} (f:D->Bool) (g:D->D) (J:HD->Prop) (ho:∀ H,J H->Zcd own H) {Q:List D->HD->Prop}:∀ (xs:List D) (st:∀ x∈xs,∀ H,J H->wT (tt (some x::c0) H) fun b H1=>b=f x/\J H1) (st2:∀ x∈xs,f x=true->∀ H,J H->wE (te (some x::c0) H) fun d H1=>d=g x/\J H1) (H:HD),J H->(∀ H',J H'->Q ((xs.filter f).map g) H')->wA (Zdt own c0 tt te xs H) Q
 | [],st,st2,H,j,q=>Zmr (ho H j) (q H j)
 | x::xs,st,st2,H,j,q=>by
  refine Zin (ho H j) ?_
  obtain⟨b,H1,e,rfl,j1⟩:=st x (by simp) H j
  refine⟨_,H1,e,fun h=>?_,fun h=>?_⟩
  ·obtain⟨d,H2,e2,rfl,j2⟩:=st2 x (by simp) h H1 j1
   refine⟨_,H2,e2,?_⟩
   refine Yaj f g J ho xs (fun y hy=>st y (by simp[hy])) (fun y hy=>st2 y (by simp[hy])) H2 j2 fun H' j'=>?_
   have:=q H' j'
   rwa [Wbz h] at this
  ·refine Yaj f g J ho xs (fun y hy=>st y (by simp[hy])) (fun y hy=>st2 y (by simp[hy])) H1 j1 fun H' j'=>?_
   have:=q H' j'
   rwa [Wbd (by rw[h]; simp)] at this
theorem Zoa {own:Zhf} {c0:SD} {tt:TF} (J:HD->Prop) (ho:∀ H,J H->Zcd own H) {Q:List D->HD->Prop}:∀ (xs:List D) (st:∀ x∈xs,∀ H,J H->wT (tt (some x::c0) H) fun b H1=>J H1) (H:HD),J H->(∀ ys H',J H'->(∀ y∈ys,y∈xs)->ys.length<=xs.length->Q ys H')->wA (Zdt own c0 tt (Zac 0) xs H) Q
 | [],st,H,j,q=>Zmr (ho H j) (q [] H j (by simp) (Xe _))
 | x::xs,st,H,j,q=>by
  refine Zin (ho H j) ?_
  obtain⟨b,H1,e,j1⟩:=st x (by simp) H j
  refine⟨_,H1,e,fun h=>?_,fun h=>?_⟩
  ·refine⟨x,H1,rfl,?_⟩
   refine Zoa J ho xs (fun y hy=>st y (by simp[hy])) H1 j1 fun ys H' j' m l=>q (x::ys) H' j' (fun y hy=>?_) (by simp; exact l)
   rcases Xh.mp hy with rfl | hy
   ·simp
   ·simp[m y hy]
  ·exact Zoa J ho xs (fun y hy=>st y (by simp[hy])) H1 j1 fun ys H' j' m l=>q ys H' j' (fun y hy=>by simp[m y hy]) (by simp; omega)
end
structure Fm (S:List Nat) (H H':HD):Prop where
 old:∀ (m:Nat) (o:DO),m∉S->H[m]? = some o->H'[m]? = some o\/∃ kvs,o=.dic kvs false/\H'[m]? = some (.dic kvs true)
 len:H.length<=H'.length
theorem Fm.refl {S:List Nat} {H:HD}:Fm S H H:=⟨fun _ _ _ h=>.inl h,Xe _⟩
theorem Fm.trans {S:List Nat} {H H1 H2:HD} (a:Fm S H H1) (b:Fm S H1 H2):Fm S H H2:=by
 refine⟨fun m o hm h=>?_,Wab a.len b.len⟩
 rcases a.old m o hm h with h1 | ⟨kvs,rfl,h1⟩
 ·exact b.old m o hm h1
 ·rcases b.old m _ hm h1 with h2 | ⟨k2,e,_⟩
  ·exact .inr ⟨kvs,rfl,h2⟩
  ·cases e
theorem Fm.sub {S T:List Nat} {H H':HD} (a:Fm S H H') (h:∀ m∈S,m∈T):Fm T H H':=⟨fun m o hm q=>a.old m o (fun z=>hm (h m z)) q,a.len⟩
theorem Fm.app {S:List Nat} {H:HD} (L:HD):Fm S H (H++L):=⟨fun m o _ q=>.inl (by
 have:m<H.length:=(Xc.mp q).1
 rw[Xm this]; exact q),by simp⟩
theorem Fm.set {S:List Nat} {H:HD} {p:Nat} {o:DO} (h:p∈S):Fm S H (H.set p o):=⟨fun m u hm q=>.inl (by rw[Waj (fun z=>hm (by rw[<- z]; exact h))]; exact q),by simp⟩
theorem Fm.new {S T:List Nat} {H H1 H':HD} (a:Fm S H H1) (b:Fm T H1 H') (h:∀ m∈T,m∉S->H.length<=m):Fm S H H':=by
 refine⟨fun m o hm q=>?_,Wab a.len b.len⟩
 have lt:m<H.length:=(Xc.mp q).1
 have ht:m∉T:=fun z=>by have:=h m z hm; omega
 rcases a.old m o hm q with h1 | ⟨kvs,rfl,h1⟩
 ·exact b.old m o ht h1
 ·rcases b.old m _ ht h1 with h2 | ⟨k2,e,_⟩
  ·exact .inr ⟨kvs,rfl,h2⟩
  ·cases e
theorem Fm.lst {S:List Nat} {H H':HD} (x:Fm S H H') {m:Nat} {xs:List D} (hm:m∉S) (h:H[m]? = some (.lst xs)):H'[m]? = some (.lst xs):=by
 rcases x.old m _ hm h with h1 | ⟨k2,e,_⟩
 ·exact h1
 ·cases e
theorem isl {H:HD} {n:Nat} {xs:List D} (h:H[n]? = some (.lst xs)):Zol (.ref n) H=true:=by simp[Zol,h]
theorem Zru {H:HD} {n:Nat} {o:DO} (h:H[n]? = some o):Zcd [(n,o)] H:=by intro p hp; simp at hp; subst hp; exact h
theorem tyR {H:HD} {n:Nat} {xs:List D} (h:H[n]? = some (.lst xs)):tyD (.ref n) H=some "list" := by simp[tyD,h]
theorem Zga {H:HD}:Zcd [] H:=by intro p hp; cases hp
theorem last {H:HD} {o:DO}:(H++[o])[H.length]? = some o:=by simp
theorem appL {H:HD} {n:Nat} {o u:DO} (h:H[n]? = some o):(H++[u])[n]? = some o:=by
 rw[Xm (Xc.mp h).1]; exact h
theorem Zjx {H:HD} {n m:Nat} {o u:DO} (hn:n≠m) (h:H[m]? = some o):(H.set n u)[m]? = some o:=by rw[Waj hn]; exact h
theorem Zib {H:HD} {n:Nat} {o u:DO} (h:H[n]? = some u):(H.set n o)[n]? = some o:=Waz (Xc.mp h).1
structure Fine (d:D) (x:Vu) (h:Nat):Prop where
 to:∀ H n,toP H n d=some x
 lay:x.canLay0=true
 dep:x.depth<=h
theorem Fine.int (i:Int):Fine (.int i) (.int i) 0:=⟨fun H n=>Zua H n i,rfl,Xe _⟩
theorem Fine.bl (b:Bool):Fine (.bl b) (.bool b) 0:=⟨fun H n=>Ycr H n b,rfl,Xe _⟩
theorem Fine.str {s:Str} (h:Tai s=true):Fine (.str s) (.str s) 0:=⟨fun H n=>Zoz H n s,h,Xe _⟩
structure Fines (ds:List D) (xs:List Vu) (h:Nat):Prop where
 to:∀ H n,Zrs H n ds=some xs
 lay:Taa xs=true
 dep:Tcf xs<=h
 len:xs.length=ds.length
theorem Fines.nil {h:Nat}:Fines [] [] h:=⟨fun H n=>by rw[Zrs],rfl,Wbs _,rfl⟩
theorem Fines.cons {d:D} {x:Vu} {ds:List D} {xs:List Vu} {h:Nat} (a:Fine d x h) (b:Fines ds xs h):Fines (d::ds) (x::xs) h :=
 ⟨fun H n=>by rw[Zrs,a.to,b.to]; rfl,by simp[Taa,a.lay,b.lay],by simp only[Tcf]; exact Nat.max_le.mpr ⟨a.dep,b.dep⟩,by simp[b.len]⟩
theorem Fines.of {h:Nat}:∀ ds:List D,(∀ d∈ds,∃ x,Fine d x h)->∃ xs,Fines ds xs h
 | [],_=>⟨[],.nil⟩
 | d::ds,f=>by
  obtain⟨x,a⟩:=f d (by simp)
  obtain⟨xs,b⟩:=Fines.of ds fun e he=>f e (by simp[he])
  exact⟨x::xs,.cons a b⟩
theorem Fine.tup {ds:List D} {xs:List Vu} {h:Nat} (f:Fines ds xs h):Fine (.tup ds) (.tuple xs) (h+1) :=
 ⟨fun H n=>by cases n<;>rw[toP,f.to]<;>rfl,f.lay,Wff f.dep⟩
theorem Fine.dat {d:D} {x:Vu} {h:Nat} (f:Fine d x h) (l:h<=30) (H:HD):DL.dat d H=some x:=by
 unfold DL.dat
 rw[f.to]
 have:x.depth<=30:=Wab f.dep l
 simp[okP,f.lay,this]
theorem Fines.dat {ds:List D} {xs:List Vu} {h:Nat} (f:Fines ds xs h) (l:h<30) {H:HD} {p:Nat} (g:H[p]? = some (.lst ds)):DL.dat (.ref p) H=some (.list xs):=by
 unfold DL.dat
 rw[toP]
 simp only[g]
 rw[f.to]
 have:(Tcj xs).depth<=30:=Wab (Wff f.dep) l
 have h2:(Tcj xs).canLay0=true:=f.lay
 simp[okP,h2,this]
mutual
theorem Zie:∀ x:Vu,x.canLay0=true->Ua x x=true
 | .none,_=>by simp[Ua]
 | .bool _,_=>by simp[Ua]
 | .int _,_=>by simp[Ua]
 | .str _,_=>by simp[Ua]
 | .list xs,h=>by rw[Ua]; exact Zgk xs h
 | .tuple xs,h=>by rw[Ua]; exact Zgk xs h
 | .dict _,h=>by cases h
theorem Zgk:∀ xs:List Vu,Taa xs=true->Ul xs xs=true
 | [],_=>by rw[Ul]
 | x::xs,h=>by
  simp only[Taa,Wad] at h
  rw[Ul,Zie x h.1,Zgk xs h.2]; rfl
end
theorem Zr4 {a b:D} {x y:Vu} {H:HD} (h1:dat a H=some x) (h2:dat b H=some y):eqD a b H=some (.bl (Ua x y),H):=by
 unfold eqD
 cases e:Zqd a b with
 | none=>rw[h1,h2]; rfl
 | some p =>
  obtain⟨s,t⟩:=p
  unfold Zqd at e
  split at e
  ·cases e
   unfold dat at h1 h2
   rw[Zoz] at h1 h2
   simp only[Zb] at h1 h2
   split at h1
   ·split at h2
    ·cases h1; cases h2; simp[Ua]
    ·cases h2
   ·cases h1
  ·cases e
theorem Zo1 {a b:D} {x y:Vu} {H:HD} (h1:dat a H=some x) (h2:dat b H=some y):neD a b H=some (.bl (!Ua x y),H):=by
 unfold neD
 cases e:Zqd a b with
 | none=>rw[h1,h2]; rfl
 | some p =>
  obtain⟨s,t⟩:=p
  unfold Zqd at e
  split at e
  ·cases e
   unfold dat at h1 h2
   rw[Zoz] at h1 h2
   simp only[Zb] at h1 h2
   split at h1
   ·split at h2
    ·cases h1; cases h2; simp[Ua]; rfl
    ·cases h2
   ·cases h1
  ·cases e
variable {H:HD} {Q:D->HD->Prop}
theorem Ybe {a b:D} {x y:Vu} {h k:Nat} (f:Fine a x h) (g:Fine b y k) (hh:h<=30) (hk:k<=30) (q:Q (.bl (Ua x y)) H):wE (eqD a b H) Q:=⟨_,_,Zr4 (f.dat hh H) (g.dat hk H),q⟩
theorem Zv6 {a b:D} {x y:Vu} {h k:Nat} (f:Fine a x h) (g:Fine b y k) (hh:h<=30) (hk:k<=30) (q:Q (.bl (!Ua x y)) H):wE (neD a b H) Q:=⟨_,_,Zo1 (f.dat hh H) (g.dat hk H),q⟩
theorem Zvu {a:D} {x:Vu} {h:Nat} (f:Fine a x h) (hh:h<=30) (q:Q (.bl false) H):wE (neD a a H) Q:=Zv6 f f hh hh (by rw[Zie x f.lay]; exact q)
theorem Ztd {xs:List D} {ys:List Vu} {h:Nat} (f:Fines xs ys h):Ua (.tuple ys) (.tuple [])=xs.isEmpty:=by
 have:=f.len
 cases ys with
 | nil=>cases xs with
  | nil=>rfl
  | cons _ _=>simp at this
 | cons p ps=>cases xs with
  | nil=>simp at this
  | cons _ _=>simp[Ua,Ul]
theorem Ztz {xs:List D} {ys:List Vu} {h:Nat} (f:Fines xs ys h) (hh:h<30) (q:Q (.bl xs.isEmpty) H):wE (eqD (.tup xs) (.tup []) H) Q :=
 Ybe (Fine.tup f) (Fine.tup (Fines.nil (h:=0))) (by omega) (by omega) (by rw[Ztd f]; exact q)
theorem Zsz {xs:List D} {ys:List Vu} {h:Nat} (f:Fines xs ys h) (hh:h<30) (q:Q (.bl (!xs.isEmpty)) H):wE (neD (.tup xs) (.tup []) H) Q :=
 Zv6 (Fine.tup f) (Fine.tup (Fines.nil (h:=0))) (by omega) (by omega) (by rw[Ztd f]; exact q)
theorem w_niL {a:D} {x:Vu} {h k p:Nat} {ds:List D} {xs:List Vu} (f:Fine a x h) (g:Fines ds xs k) (hh:h<=30) (hk:k<30) (hp:H[p]? = some (.lst ds)) (q:Q (.bl (!xs.any fun z=>Ua z x)) H):wE (niD a (.ref p) H) Q :=
 ⟨_,_,by unfold niD; rw[f.dat hh,Zb,g.dat hk hp]; rfl,q⟩
theorem Ycl {a:D} {x:Vu} {h k p:Nat} {ds:List D} {xs:List Vu} (f:Fine a x h) (g:Fines ds xs k) (hh:h<=30) (hk:k<30) (hp:H[p]? = some (.lst ds)) (q:Q (.bl (xs.any fun z=>Ua z x)) H):wE (inD a (.ref p) H) Q :=
 ⟨_,_,by unfold inD; rw[f.dat hh,Zb,g.dat hk hp]; rfl,q⟩
theorem w_niT {a:D} {x:Vu} {h k:Nat} {ds:List D} {xs:List Vu} (f:Fine a x h) (g:Fines ds xs k) (hh:h<=30) (hk:k<30) (q:Q (.bl (!xs.any fun z=>Ua z x)) H):wE (niD a (.tup ds) H) Q :=
 ⟨_,_,by unfold niD; rw[f.dat hh,Zb,(Fine.tup g).dat hk]; rfl,q⟩
theorem w_inT {a:D} {x:Vu} {h k:Nat} {ds:List D} {xs:List Vu} (f:Fine a x h) (g:Fines ds xs k) (hh:h<=30) (hk:k<30) (q:Q (.bl (xs.any fun z=>Ua z x)) H):wE (inD a (.tup ds) H) Q :=
 ⟨_,_,by unfold inD; rw[f.dat hh,Zb,(Fine.tup g).dat hk]; rfl,q⟩
theorem w_neI {i j:Int} (q:Q (.bl (!(i==j))) H):wE (neD (.int i) (.int j) H) Q:=Zv6 (.int i) (.int j) (by omega) (by omega) (by simpa [Ua] using q)
theorem w_neI' {i j:Int} {r:Bool} (hr:(i==j)=r) (q:Q (.bl (!r)) H):wE (neD (.int i) (.int j) H) Q:=w_neI (by rw[hr]; exact q)
end WP
set_option maxHeartbeats 8000000
namespace K08
open PySem L2 DL
nonrec def k_TRUTHS:D:=(.tup [(.bl false),(.bl true)])
nonrec def Zej:SF :=
 (Zae (Za6 (eAn (eCB Zp1 (Zaa (Zac 0) (Zaa (eC (.ty "int")) Zaf))) (eNo (eCB Zp1 (Zaa (Zac 0) (Zaa (eC (.ty "bool")) Zaf))))))
 Zah)
nonrec def Zfj:FF:=Zaw 1 1 Zej
nonrec def Zfa:SF :=
 (Zae (Za6 (eOp gtD (eCB Zq1 (Zaa (Zac 0) Zaf)) (eCB Zbn (Zaa (Zac 1) Zaf))))
 Zah)
nonrec def Zgp:FF:=Zaw 2 2 Zfa
nonrec def Zec:SF :=
 (Zae (Za6 (eAn (eNo (Zal 2 Zgp (Zaa (Zac 0) (Zaa (Zac 1) Zaf)))) (eOp eqD (eOp ixD (Zac 1) (eOp Zl1 (eCB Zq1 (Zaa (Zac 0) Zaf)) (eC (.int 1)))) (eOp gtD (Zac 0) (eC (.int 0))))))
 Zah)
nonrec def Zhg:FF:=Zaw 2 2 Zec
nonrec def Ze5:SF :=
 (Zae (Zd1 (iSq (Zac 0)) (gNm 2) (Zae (sIf (Zjz (Zgm (Zal 2 Zgp (Zaa (Zac 2) (Zaa (Zac 1) Zaf)))) (Zgm (Zal 2 Zhg (Zaa (Zac 2) (Zaa (Zac 1) Zaf))))) (Zae (Za6 (eC (.bl false)))
 Zah) Zah)
 Zah))
 (Zae (Za6 (eC (.bl true)))
 Zah))
nonrec def Zi5:FF:=Zaw 2 3 Ze5
nonrec def Zbv:SF :=
 (Zae (Za1 1 eDN)
 (Zae (Zd1 (Znz (Zaa (Zac 0) Zaf)) (gTp 2 (gCn (gNm 2) (gCn (gNm 3) gNl))) (Zae (Zbq (eDM Zj4 (Zac 1) (Zaa (Zac 3) (Zaa (Zac 2) Zaf))))
 Zah))
 (Zae (Za6 (Zac 1))
 Zah)))
nonrec def Zcl:FF:=Zaw 1 4 Zbv
nonrec def Zcf:SF :=
 (Zae (Za1 3 (eIf (Zgm (Zac 2)) (Zac 1) (eUn Zj3 (Zac 1))))
 (Zae (Za1 4 eDN)
 (Zae (Zd1 (iDic (Zac 0)) (gNm 5) (Zae (Za1 6 (eIf (Zgm (Zac 5)) (eOp ixD (Zac 5) (eC (.int 0))) (eC (.int 0))))
 (Zae (sIf (tOf (eOp eqD (Zac 6) (eUn Zj3 (Zac 3)))) (Zae (Zbq (eDM Zj4 (Zac 4) (Zaa (eSl (Zac 5) (Zdq (eC (.int 1))) Ze0) (Zaa (eOp Zn2 (Zac 0) (Zac 5)) Zaf))))
 Zah) (Zae (sIf (tOf (eOp neD (Zac 6) (Zac 3))) (Zae (Zbq (eDM Zj4 (Zac 4) (Zaa (Zac 5) (Zaa (eOp Zn2 (Zac 0) (Zac 5)) Zaf))))
 Zah) Zah)
 Zah))
 Zah)))
 (Zae (Za6 (Zac 4))
 Zah))))
nonrec def Zaz:FF:=Zaw 3 7 Zcf
nonrec def Zbb:SF :=
 (Zae (Za1 2 (Zal 1 Zcl (Zaa (Zac 0) Zaf)))
 (Zae (Zd1 (Zpp (Zaa (Zac 1) Zaf)) (gTp 2 (gCn (gNm 3) (gCn (gNm 4) gNl))) (Zae (Za1 2 (Zal 3 Zaz (Zaa (Zac 2) (Zaa (Zac 3) (Zaa (Zac 4) Zaf)))))
 Zah))
 (Zae (Za6 (Zac 2))
 Zah)))
nonrec def Zbp:FF:=Zaw 2 5 Zbb
nonrec def Zcz:SF :=
 (Zae (Za6 (eIf (tOf (eOp eqD (Zac 0) (eC (.str "some")))) (eC (.str "all")) (eC (.str "some"))))
 Zah)
nonrec def Zcc:FF:=Zaw 1 1 Zcz
nonrec def Zau (F:FF):SF :=
 (Zae (sIf (tOf (eOp dinD (Zez Zaf) (Zac 1))) (Zae (Za6 (eC (.str "all")))
 Zah) Zah)
 (Zae (sIf (tOf (eOp eqD (eCB Zq0 (Zaa (Zac 1) Zaf)) (eC (.int 0)))) (Zae (Za6 (eC (.str "some")))
 Zah) Zah)
 (Zae (Za1 3 (eOp ixD (Zac 0) (Zac 2)))
 (Zae (Zd1 (iSq (eC k_TRUTHS)) (gNm 4) (Zae (sIf (tOf (eOp eqD (Zal 3 F (Zaa (Zac 0) (Zaa (Zal 3 Zaz (Zaa (Zac 1) (Zaa (eOp Zbo (Zac 2) (eC (.int 1))) (Zaa (Zac 4) Zaf)))) (Zaa (eOp Zbo (Zac 2) (eC (.int 1))) Zaf)))) (Zac 3))) (Zae (Za6 (Zac 3))
 Zah) Zah)
 Zah))
 (Zae (Za6 (Zal 1 Zcc (Zaa (Zac 3) Zaf)))
 Zah)))))
nonrec def Zcg:FF:=Yac 3 5 Zau 10
nonrec def Zgt:SF :=
 (Zae (Za6 (Zal 3 Zcg (Zaa (eOp ixD (Zac 0) (eC (.int 0))) (Zaa (Zal 2 Zbp (Zaa (eOp ixD (Zac 0) (eC (.int 1))) (Zaa (Zac 1) Zaf))) (Zaa (eCB Zbn (Zaa (Zac 1) Zaf)) Zaf)))))
 Zah)
nonrec def Zii:FF:=Zaw 2 2 Zgt
nonrec def Zb2:SF :=
 (Zae (Za6 (eAn (Zal 1 Zfj (Zaa (Zac 0) Zaf)) (eCh leD ltD (eC (.int 0)) (Zac 0) (Zac 1))))
 Zah)
nonrec def Zbl:FF:=Zaw 2 2 Zb2
nonrec def Za9:SF :=
 (Zae (Za6 (eAn (Zal 1 Zfj (Zaa (Zac 2) Zaf)) (eAn (eCh leD leD (eC (.int 1)) (Zac 2) (eCB Zbn (Zaa (Zac 0) Zaf))) (eOp neD (eOp ixD (Zac 0) (eOp Zl1 (Zac 2) (eC (.int 1)))) (Zac 1)))))
 Zah)
nonrec def Zce:FF:=Zaw 3 3 Za9
nonrec def Zel:SF :=
 (Zae (Za1 3 (eCB Zbn (Zaa (Zac 2) Zaf)))
 (Zae (sWh (tAn (tOf (eOp gtD (Zac 3) (eC (.int 0)))) (tOf (eOp eqD (eOp ixD (Zac 0) (eOp Zl1 (eCB Zq1 (Zaa (eOp ixD (Zac 2) (eOp Zl1 (Zac 3) (eC (.int 1)))) Zaf)) (eC (.int 1)))) (Zac 1)))) (Zae (sAug (fun i j=>i - j) 3 (eC (.int 1)))
 Zah) 20)
 (Zae (Za6 (eSl (Zac 2) Ze0 (Zdq (Zac 3))))
 Zah)))
nonrec def Zhy:FF:=Zaw 3 4 Zel
nonrec def Zfc:SF :=
 (Zae (Za6 (eCB Zdz (Zaa (eLC (iSq (Zac 0)) [1] (tOf (eOp neD (Zac 0) (Zac 1))) (Zac 0)) Zaf)))
 Zah)
nonrec def Zgy:FF:=Zaw 2 2 Zfc
nonrec def Zmv:SF :=
 (Zae (Za1 2 (eCB Znr (Zaa (Zac 0) Zaf)))
 (Zae (Zd1 (iSq (Zac 1)) (gNm 3) (Zae (sIf (tOf (eOp inD (eUn Zj3 (Zac 3)) (Zac 0))) (Zae (Za6 (eC .non))
 Zah) Zah)
 (Zae (sIf (tOf (eOp niD (Zac 3) (Zac 0))) (Zae (Zbq (eLM Zax (Zac 2) (Zaa (Zac 3) Zaf)))
 Zah) Zah)
 Zah)))
 (Zae (Za6 (eCB Zdz (Zaa (eCB Zj6 (Zaa (Zac 2) Zaf)) Zaf)))
 Zah)))
nonrec def Zt6:FF:=Zaw 2 4 Zmv
nonrec def Zgu:SF :=
 (Zae (sIf (Zjz (tOf (eOp niD (Zac 2) (Zac 0))) (tOf (eOp niD (eUn Zj3 (Zac 2)) (Zac 1)))) (Zae (Za6 (eC .non))
 Zah) Zah)
 (Zae (Za6 (Zal 2 Zt6 (Zaa (Zal 2 Zgy (Zaa (Zac 0) (Zaa (Zac 2) Zaf))) (Zaa (Zal 2 Zgy (Zaa (Zac 1) (Zaa (eUn Zj3 (Zac 2)) Zaf))) Zaf))))
 Zah))
nonrec def Zlq:FF:=Zaw 3 3 Zgu
nonrec def Zb4:SF :=
 (Zae (sIf (Zjz (tOf (eOp neD (eCB Zbn (Zaa (Zac 3) Zaf)) (eC (.int 2)))) (tNo (Zgm (Zal 2 Zbl (Zaa (eOp ixD (Zac 3) (eC (.int 1))) (Zaa (eCB Zbn (Zaa (Zac 2) Zaf)) Zaf)))))) (Zae (Za6 (eC .non))
 Zah) Zah)
 (Zae (Za6 (Zal 3 Zhy (Zaa (Zac 0) (Zaa (Zac 1) (Zaa (eOp ixD (Zac 2) (eOp ixD (Zac 3) (eC (.int 1)))) Zaf)))))
 Zah))
nonrec def Zfu:FF:=Zaw 4 4 Zb4
nonrec def Zbk:SF :=
 (Zae (sIf (Zjz (tOf (eOp neD (eCB Zbn (Zaa (Zac 3) Zaf)) (eC (.int 4)))) (Zjz (tNo (Zgm (Zal 2 Zbl (Zaa (eOp ixD (Zac 3) (eC (.int 1))) (Zaa (eCB Zbn (Zaa (Zac 2) Zaf)) Zaf))))) (tNo (Zgm (Zal 2 Zbl (Zaa (eOp ixD (Zac 3) (eC (.int 2))) (Zaa (eCB Zbn (Zaa (Zac 2) Zaf)) Zaf))))))) (Zae (Za6 (eC .non))
 Zah) Zah)
 (Zae (sIf (tNo (Zgm (Zal 3 Zce (Zaa (Zac 0) (Zaa (Zac 1) (Zaa (eOp ixD (Zac 3) (eC (.int 3))) Zaf)))))) (Zae (Za6 (eC .non))
 Zah) Zah)
 (Zae (Za6 (Zal 3 Zlq (Zaa (eOp ixD (Zac 2) (eOp ixD (Zac 3) (eC (.int 1)))) (Zaa (eOp ixD (Zac 2) (eOp ixD (Zac 3) (eC (.int 2)))) (Zaa (eOp ixD (Zac 3) (eC (.int 3))) Zaf)))))
 Zah)))
nonrec def Zew:FF:=Zaw 4 4 Zbk
nonrec def Zc0:SF :=
 (Zae (sIf (Zjz (tOf (eOp neD (eCB Zbn (Zaa (Zac 1) Zaf)) (eC (.int 2)))) (Zjz (tOf (eOp neD (eOp ixD (Zac 1) (eC (.int 0))) (eC (.str "row")))) (tNo (Zgm (Zal 2 Zbl (Zaa (eOp ixD (Zac 1) (eC (.int 1))) (Zaa (eCB Zbn (Zaa (eOp ixD (Zac 0) (eC (.int 1))) Zaf)) Zaf))))))) (Zae (Za6 (eC .non))
 Zah) Zah)
 (Zae (Za6 (eOp ixD (eOp ixD (Zac 0) (eC (.int 1))) (eOp ixD (Zac 1) (eC (.int 1)))))
 Zah))
nonrec def Zh0:FF:=Zaw 2 2 Zc0
nonrec def Ze3:SF :=
 (Zae (sIf (Zjz (tNo (Zgm (eCB Zp1 (Zaa (Zac 4) (Zaa (eC (.ty "tuple")) Zaf))))) (tOf (eOp eqD (eCB Zbn (Zaa (Zac 4) Zaf)) (eC (.int 0))))) (Zae (Za6 (eC .non))
 Zah) Zah)
 (Zae (sIf (tOf (eOp eqD (eOp ixD (Zac 4) (eC (.int 0))) (eC (.str "less")))) (Zae (Za6 (Zal 4 Zfu (Zaa (eOp ixD (Zac 0) (eC (.int 0))) (Zaa (Zac 1) (Zaa (Zac 3) (Zaa (Zac 4) Zaf))))))
 Zah) Zah)
 (Zae (sIf (tOf (eOp eqD (eOp ixD (Zac 4) (eC (.int 0))) (eC (.str "joined")))) (Zae (Za6 (Zal 4 Zew (Zaa (eOp ixD (Zac 0) (eC (.int 0))) (Zaa (Zac 1) (Zaa (Zac 3) (Zaa (Zac 4) Zaf))))))
 Zah) Zah)
 (Zae (Za6 (Zmt 2 2 "claims_row" Zh0 (Zaa (Zac 0) (Zaa (Zac 4) Zaf))))
 Zah))))
nonrec def Zg7:FF:=Zaw 5 5 Ze3
nonrec def Zed:SF :=
 (Zae (Za1 4 (Zd5 Zaf))
 (Zae (Zd1 (Zo9 (Zaa (Zac 3) Zaf)) (gTp 2 (gCn (gNm 5) (gCn (gNm 6) gNl))) (Zae (Za1 7 (Zal 5 Zg7 (Zaa (Zac 0) (Zaa (Zac 1) (Zaa (Zac 2) (Zaa (Zac 4) (Zaa (Zac 6) Zaf)))))))
 (Zae (sIf (tOf (eOp isD (Zac 7) (eC .non))) (Zae Zy7
 Zah) Zah)
 (Zae (Zbq (eLM Zax (Zac 4) (Zaa (Zac 7) Zaf)))
 Zah))))
 (Zae (Za6 (Zac 4))
 Zah)))
nonrec def Zeh:FF:=Zaw 4 8 Zed
nonrec def Zeb:SF :=
 (Zae (sIf (tNo (Zgm (eCB Zp1 (Zaa (Zac 3) (Zaa (eC (.ty "list")) Zaf))))) (Zae (Za6 (eC (.bl false)))
 Zah) Zah)
 (Zae (Zae (Za1 4 (Zal 4 Zeh (Zaa (Zac 0) (Zaa (Zac 1) (Zaa (Zac 2) (Zaa (Zac 3) Zaf))))))
 Zah)
 (Zae (Za6 (eAn (eOp gtD (eCB Zbn (Zaa (Zac 4) Zaf)) (eC (.int 0))) (eOp eqD (eOp ixD (Zac 4) (eUn Zj3 (eC (.int 1)))) (Zez Zaf))))
 Zah)))
nonrec def Zkj:FF:=Zaw 4 5 Zeb
nonrec def Zfd:SF :=
 (Zae (Za6 (Zal 4 Zeh (Zaa (Zac 0) (Zaa (eC (.str "all")) (Zaa (eC (.ty "claims_row")) (Zaa (Zac 1) Zaf))))))
 Zah)
nonrec def Zi0:FF:=Zaw 2 2 Zfd
nonrec def Zb3:SF :=
 (Zae (Za6 (Zal 4 Zkj (Zaa (Zac 0) (Zaa (eC (.str "all")) (Zaa (eC (.ty "claims_row")) (Zaa (Zac 1) Zaf))))))
 Zah)
nonrec def Zd3:FF:=Zaw 2 2 Zb3
nonrec def Zc2:SF :=
 (Zae (sIf (tOf (eOp eqD (Zac 0) (eC (.str "all")))) (Zae (Za6 (Zal 2 Zi5 (Zaa (Zac 1) (Zaa (Zac 2) Zaf))))
 Zah) Zah)
 Zy7)
nonrec def Zfi:FF:=Zaw 3 3 Zc2
nonrec def Zbc:SF :=
 (Zae (Za6 (eIf (tOf (eOp eqD (Zac 2) (eOp eqD (Zac 0) (eC (.str "some"))))) (Zac 1) (eUn Zj3 (Zac 1))))
 Zah)
nonrec def Zcq:FF:=Zaw 3 3 Zbc
nonrec def Zd7:SF :=
 (Zae (Za1 5 (Zal 4 Zeh (Zaa (Zac 0) (Zaa (Zac 1) (Zaa (Zac 2) (Zaa (Zac 3) Zaf))))))
 (Zae (Za1 6 (eOp Zbo (eCB Zbn (Zaa (Zac 4) Zaf)) (eC (.int 1))))
 (Zae (Zd1 (Zvj (Zaa (Zac 3) (Zaa (Zac 5) Zaf))) (gTp 2 (gCn (gNm 7) (gCn (gNm 8) gNl))) (Zae (sIf (tAn (tOf (eOp eqD (eOp ixD (Zac 7) (eC (.int 0))) (eC (.str "less")))) (Zgm (Zal 3 Zfi (Zaa (Zac 1) (Zaa (Zac 8) (Zaa (Zac 4) Zaf)))))) (Zae (Zd1 (iSq (eC k_TRUTHS)) (gNm 9) (Zae (sIf (tOf (eOp inD (Zal 3 Zcq (Zaa (Zac 1) (Zaa (Zac 6) (Zaa (Zac 9) Zaf)))) (eOp ixD (Zac 5) (eOp ixD (Zac 7) (eC (.int 1)))))) (Zae (Za6 (Zac 9))
 Zah) Zah)
 Zah))
 Zah) Zah)
 Zah))
 (Zae (Za6 (eC (.bl false)))
 Zah))))
nonrec def Zkd:FF:=Zaw 5 10 Zd7
nonrec def Ze9:SF :=
 (Zae (Za6 (Zal 5 Zkd (Zaa (Zac 0) (Zaa (eC (.str "all")) (Zaa (eC (.ty "claims_row")) (Zaa (Zac 1) (Zaa (Zac 2) Zaf)))))))
 Zah)
nonrec def Zjh:FF:=Zaw 3 3 Ze9
nonrec def Zff:SF :=
 (Zae (Za1 2 (eOp ixD (Zd5 (Zaa (eC (.int 2147483647)) (Zaa (eC (.int 2147483629)) (Zaa (eC (.int 2147483587)) (Zaa (eC (.int 2147483579)) (Zaa (eC (.int 2147483563)) (Zaa (eC (.int 2147483549)) (Zaa (eC (.int 2147483543)) Zaf)))))))) (eOp Zds (Zac 1) (eC (.int 7)))))
 (Zae (Za1 3 (eOp Zds (eOp Zlx (eOp Zbo (eOp Zds (Zac 0) (eC (.int 998244353))) (eOp Zlx (eC (.int 104729)) (eOp Zbo (Zac 1) (eC (.int 1))))) (eOp Zbo (eOp Zbo (eOp Zlx (Zac 1) (Zac 1)) (eOp Zlx (eC (.int 7)) (Zac 1))) (eC (.int 13)))) (Zac 2)))
 (Zae (Za1 3 (eOp Zds (eOp Yan (Zac 3) (eC (.int 5))) (eC (.int 1000000007))))
 (Zae (Za1 3 (eOp Zds (eOp Zbo (eOp Zbo (eOp Zlx (Zac 3) (eC (.int 48271))) (eOp Zlx (eC (.int 31)) (Zac 1))) (eC (.int 5))) (Zac 2)))
 (Zae (Za6 (eOp Zk0 (eOp Zds (eOp Yan (Zac 3) (eC (.int 3))) (eC (.int 998244353))) (eC (.int 8))))
 Zah)))))
nonrec def Zjd:FF:=Zaw 2 4 Zff
nonrec def Zc1:SF :=
 (Zae (Za1 2 (Zd5 Zaf))
 (Zae (Za1 3 (eCB Zq1 (Zaa (Zac 0) Zaf)))
 (Zae (Za1 4 (eOp geD (Zac 3) (eOp Yan (eC (.int 10)) (eC (.int 18)))))
 (Zae (Zd1 (iR1 (Zaa (Zac 1) Zaf)) (gNm 5) (Zae (sIf (tAn (Zgm (Zac 4)) (tOf (eOp gtD (Zac 3) (eC (.int 0))))) (Zae (Zbq (eLM Zax (Zac 2) (Zaa (eOp Zds (Zac 3) (eC (.int 10007))) Zaf)))
 (Zae (Za1 3 (eOp Zk0 (Zac 3) (eC (.int 10007))))
 Zah)) (Zae (Zbq (eLM Zax (Zac 2) (Zaa (Zal 2 Zjd (Zaa (Zac 0) (Zaa (Zac 5) Zaf))) Zaf)))
 Zah))
 Zah))
 (Zae (Za6 (Zac 2))
 Zah)))))
nonrec def Zbt:FF:=Zaw 2 6 Zc1
nonrec def Zeq:SF :=
 (Zae (sIf (tOf (eOp ltD (Zac 1) (eCB Zbn (Zaa (Zac 0) Zaf)))) (Zae (Za6 (eOp ixD (Zac 0) (Zac 1)))
 Zah) Zah)
 (Zae (Za6 (eOp Zbo (eOp Zbo (eOp Zlx (eC (.int 67)) (Zac 1)) (eC (.int 19))) (eCB Zbn (Zaa (Zac 0) Zaf))))
 Zah))
nonrec def Zcr:FF:=Zaw 2 2 Zeq
nonrec def Zdp:SF :=
 (Zae (Za1 2 (Zd5 Zaf))
 (Zae (Zd1 (iR1 (Zaa (Zac 1) Zaf)) (gNm 3) (Zae (Za1 4 (eOp ixD (Zd5 (Zaa (eC (.str "all")) (Zaa (eC (.str "some")) Zaf))) (eOp Zds (eOp ixD (Zac 0) (eOp Zbo (eC (.int 1)) (Zac 3))) (eC (.int 2)))))
 (Zae (sIf (tOf (eOp eqD (eOp Zds (eOp ixD (Zac 0) (eC (.int 0))) (eC (.int 4))) (eC (.int 1)))) (Zae (Za1 4 (eOp ixD (Zd5 (Zaa (eC (.str "some")) (Zaa (eC (.str "all")) Zaf))) (eOp Zds (eOp Zbo (Zac 3) (eOp ixD (Zac 0) (eC (.int 1)))) (eC (.int 2)))))
 Zah) Zah)
 (Zae (sIf (tOf (eOp eqD (eOp Zds (eOp ixD (Zac 0) (eC (.int 0))) (eC (.int 4))) (eC (.int 2)))) (Zae (Za1 4 (eOp ixD (Zd5 (Zaa (eC (.str "all")) (Zaa (eC (.str "some")) Zaf))) (eCB Yct (Zaa (eOp gtD (eOp Zds (eOp ixD (Zac 0) (eOp Zbo (eC (.int 1)) (Zac 3))) (eC (.int 3))) (eC (.int 0))) Zaf))))
 Zah) Zah)
 (Zae (Zbq (eLM Zax (Zac 2) (Zaa (Zac 4) Zaf)))
 Zah)))))
 (Zae (Za6 (eCB Zdz (Zaa (Zac 2) Zaf)))
 Zah)))
nonrec def Zgl:FF:=Zaw 2 5 Zdp
nonrec def Zfe:SF :=
 (Zae (Za1 3 (Zal 2 Zbt (Zaa (Zac 0) (Zaa (eOp Zbo (Zac 1) (eC (.int 1))) Zaf))))
 (Zae (Za1 4 (Zd5 Zaf))
 (Zae (Zd1 (iR1 (Zaa (Zac 1) Zaf)) (gNm 5) (Zae (sIf (tOf (eOp ltD (eOp Zds (eOp ixD (Zac 3) (eOp Zbo (eC (.int 1)) (Zac 5))) (eOp Zbo (Zac 1) (eC (.int 1)))) (eOp Zbo (Zac 2) (eOp Zds (eOp ixD (Zac 3) (eC (.int 0))) (eC (.int 3)))))) (Zae (Zbq (eLM Zax (Zac 4) (Zaa (eOp ixD (Zd5 (Zaa (eOp Zbo (Zac 5) (eC (.int 1))) (Zaa (eOp Zl1 (eOp Zl1 (eC (.int 0)) (Zac 5)) (eC (.int 1))) Zaf))) (eOp Zds (eOp Zk0 (eOp ixD (Zac 3) (eOp Zbo (eC (.int 1)) (Zac 5))) (eOp Zbo (Zac 1) (eC (.int 1)))) (eC (.int 2)))) Zaf)))
 Zah) Zah)
 Zah))
 (Zae (Za6 (eCB Zdz (Zaa (Zac 4) Zaf)))
 Zah))))
nonrec def Zjv:FF:=Zaw 3 6 Zfe
nonrec def Zdg:SF :=
 (Zae (Za6 (eOp eqD (eOp ixD (Zac 1) (eOp Zl1 (eCB Zq1 (Zaa (Zac 0) Zaf)) (eC (.int 1)))) (eOp gtD (Zac 0) (eC (.int 0)))))
 Zah)
nonrec def Zeu:FF:=Zaw 2 2 Zdg
nonrec def Zdh:SF :=
 (Zae (Za1 1 (Zd5 (Zaa (Zez Zaf) Zaf)))
 (Zae (Zd1 (iR1 (Zaa (Zac 0) Zaf)) (gNm 2) (Zae (Za1 3 (Zd5 Zaf))
 (Zae (Zd1 (iSq (Zac 1)) (gNm 4) (Zae (Za1 3 (eOp Zbo (Zac 3) (Zd5 (Zaa (eOp Zbo (Zac 4) (Zez (Zaa (eC (.bl false)) Zaf))) (Zaa (eOp Zbo (Zac 4) (Zez (Zaa (eC (.bl true)) Zaf))) Zaf)))))
 Zah))
 (Zae (Za1 1 (Zac 3))
 Zah))))
 (Zae (Za6 (Zac 1))
 Zah)))
nonrec def Zf4:FF:=Zaw 1 5 Zdh
nonrec def Zee:SF :=
 (Zae (Zd1 (iSq (Zac 0)) (gNm 2) (Zae (sIf (tOf (eOp eqD (eLC (iSq (Zac 2)) [1] (Zgm (Zal 2 Zeu (Zaa (Zac 0) (Zaa (Zac 1) Zaf)))) (Zac 0)) (Zd5 Zaf))) (Zae (Za6 (eC (.bl true)))
 Zah) Zah)
 Zah))
 (Zae (Za6 (eC (.bl false)))
 Zah))
nonrec def Zfl:FF:=Zaw 2 3 Zee
nonrec def Zdi:SF :=
 (Zae (Za6 (eAn (eCB Zp1 (Zaa (Zac 0) (Zaa (eC (.ty "int")) Zaf))) (eAn (eNo (eCB Zp1 (Zaa (Zac 0) (Zaa (eC (.ty "bool")) Zaf)))) (eCh leD ltD (eC (.int 0)) (Zac 0) (Zac 1)))))
 Zah)
nonrec def Zb9:FF:=Zaw 2 2 Zdi
nonrec def Zea:SF :=
 (Zae (Za1 3 (Zd5 Zaf))
 (Zae (Zd1 (Znz (Zaa (Zac 2) Zaf)) (gTp 2 (gCn (gNm 4) (gCn (gNm 5) gNl))) (Zae (Za1 6 (eLC (iSq (eSl (Zac 2) (Zdq (Zac 4)) Ze0)) [0,1] (tOf (eOp neD (eOp ixD (Zac 1) (eOp Zl1 (eCB Zq1 (Zaa (Zac 0) Zaf)) (eC (.int 1)))) (Zac 2))) (Zac 0)))
 (Zae (sIf (tOf (eOp neD (Zac 6) (Zd5 Zaf))) (Zae (Zbq (eLM Zax (Zac 3) (Zaa (Zac 5) Zaf)))
 Zah) Zah)
 Zah)))
 (Zae (Za6 (eCB Zdz (Zaa (Zac 3) Zaf)))
 Zah)))
nonrec def Zhv:FF:=Zaw 3 7 Zea
nonrec def Zcw:SF :=
 (Zae (sIf (Zjz (tOf (eOp niD (Zac 2) (Zac 0))) (tOf (eOp niD (eUn Zj3 (Zac 2)) (Zac 1)))) (Zae (Za6 (eC .non))
 Zah) Zah)
 (Zae (Za1 3 eDI)
 (Zae (Zd1 (iSq (eOp Zbo (Zac 0) (Zac 1))) (gNm 4) (Zae (sIf (tOf (eOp neD (eCB Zq1 (Zaa (Zac 4) Zaf)) (Zac 2))) (Zae (sIf (tOf (eOp Yap (eUn Zj3 (Zac 4)) (Zac 3))) (Zae (Za6 (eC .non))
 Zah) Zah)
 (Zae (Zmx (eC (.bl true)) (gSb (Zac 3) (Zac 4) Zgg))
 Zah)) Zah)
 Zah))
 (Zae (Za6 (eCB Zdz (Zaa (eCB Zjc (Zaa (Zac 3) Zaf)) Zaf)))
 Zah))))
nonrec def Zdv:FF:=Zaw 3 5 Zcw
nonrec def Zdm:SF :=
 (Zae (sIf (tOf (eOp eqD (Zac 1) (eC (.str "all")))) (Zae (sIf (tNo (Zgm (Zal 2 Zb9 (Zaa (Zac 2) (Zaa (eCB Zbn (Zaa (eOp ixD (Zac 0) (eC (.int 1))) Zaf)) Zaf))))) (Zae (Za6 (eC .non))
 Zah) Zah)
 (Zae (Za6 (eOp ixD (eOp ixD (Zac 0) (eC (.int 1))) (Zac 2)))
 Zah)) Zah)
 Zy7)
nonrec def Zji:FF:=Zaw 3 6 Zdm
nonrec def Zeg:SF :=
 (Zae (sIf (Zjz (tNo (Zgm (eCB Zp1 (Zaa (Zac 3) (Zaa (eC (.ty "tuple")) Zaf))))) (Zjz (tOf (eOp eqD (eCB Zbn (Zaa (Zac 3) Zaf)) (eC (.int 0)))) (tNo (Zgm (eCB Zp1 (Zaa (eOp ixD (Zac 3) (eC (.int 0))) (Zaa (eC (.ty "str")) Zaf))))))) (Zae (Za6 (eC .non))
 Zah) Zah)
 (Zae (sIf (tAn (tOf (eOp eqD (eOp ixD (Zac 3) (eC (.int 0))) (eC (.str "less")))) (tAn (tOf (eOp eqD (eCB Zbn (Zaa (Zac 3) Zaf)) (eC (.int 2)))) (Zgm (Zal 2 Zb9 (Zaa (eOp ixD (Zac 3) (eC (.int 1))) (Zaa (eCB Zbn (Zaa (Zac 2) Zaf)) Zaf)))))) (Zae (Za6 (Zal 3 Zhv (Zaa (eOp ixD (Zac 0) (eC (.int 0))) (Zaa (Zac 1) (Zaa (eOp ixD (Zac 2) (eOp ixD (Zac 3) (eC (.int 1)))) Zaf)))))
 Zah) Zah)
 (Zae (sIf (tAn (tOf (eOp eqD (eOp ixD (Zac 3) (eC (.int 0))) (eC (.str "joined")))) (tOf (eOp eqD (eCB Zbn (Zaa (Zac 3) Zaf)) (eC (.int 4))))) (Zae (Za1 4 (eLC (iR1 (Zaa (eCB Zbn (Zaa (eOp ixD (Zac 0) (eC (.int 0))) Zaf)) Zaf)) [0,1] (tOf (eOp neD (eOp ixD (eOp ixD (Zac 1) (eC (.int 0))) (Zac 0)) (Zac 2))) (eOp Zbo (Zac 0) (eC (.int 1)))))
 (Zae (sIf (tOf (eOp inD (eC (.bl false)) (eLC (iSq (eSl (Zac 3) (Zdq (eC (.int 1))) (Zdq (eC (.int 3))))) [2] Zx5 (Zal 2 Zb9 (Zaa (Zac 0) (Zaa (eCB Zbn (Zaa (Zac 1) Zaf)) Zaf)))))) (Zae (Za6 (eC .non))
 Zah) Zah)
 (Zae (sIf (Zjz (tNo (Zgm (Zal 2 Zb9 (Zaa (eOp ixD (Zac 3) (eC (.int 3))) (Zaa (eOp Zbo (eCB Zbn (Zaa (eOp ixD (Zac 0) (eC (.int 0))) Zaf)) (eC (.int 1))) Zaf))))) (tOf (eOp niD (eOp ixD (Zac 3) (eC (.int 3))) (Zac 4)))) (Zae (Za6 (eC .non))
 Zah) Zah)
 (Zae (Za6 (Zal 3 Zdv (Zaa (eOp ixD (Zac 2) (eOp ixD (Zac 3) (eC (.int 1)))) (Zaa (eOp ixD (Zac 2) (eOp ixD (Zac 3) (eC (.int 2)))) (Zaa (eOp ixD (Zac 3) (eC (.int 3))) Zaf)))))
 Zah)))) Zah)
 (Zae (sIf (tAn (tOf (eOp eqD (eOp ixD (Zac 3) (eC (.int 0))) (eOp ixD (Zd5 (Zaa (eC (.str "term")) (Zaa (eC (.str "row")) Zaf))) (eCB Yct (Zaa (eOp eqD (Zac 1) (eC (.str "all"))) Zaf))))) (tOf (eOp eqD (eCB Zbn (Zaa (Zac 3) Zaf)) (eC (.int 2))))) (Zae (Za6 (Zal 3 Zji (Zaa (Zac 0) (Zaa (Zac 1) (Zaa (eOp ixD (Zac 3) (eC (.int 1))) Zaf)))))
 Zah) Zah)
 (Zae (Za6 (eC .non))
 Zah)))))
nonrec def Zfp:FF:=Zaw 4 5 Zeg
nonrec def Zei:SF :=
 (Zae (Za1 3 (Zd5 Zaf))
 (Zae (Zd1 (iSq (Zac 2)) (gNm 4) (Zae (Za1 5 (Zal 4 Zfp (Zaa (Zac 0) (Zaa (Zac 1) (Zaa (Zac 3) (Zaa (Zac 4) Zaf))))))
 (Zae (sIf (tOf (eOp isD (Zac 5) (eC .non))) (Zae (Za6 (Zac 3))
 Zah) Zah)
 (Zae (Zbq (eLM Zax (Zac 3) (Zaa (Zac 5) Zaf)))
 Zah))))
 (Zae (Za6 (Zac 3))
 Zah)))
nonrec def Zho:FF:=Zaw 3 6 Zei
nonrec def Zbh:SF :=
 (Zae (sIf (tAn (tOf (eOp eqD (eOp Zds (eOp ixD (Zac 4) (eC (.int 0))) (eC (.int 4))) (eC (.int 0)))) (tOf (eOp neD (Zac 2) (Zd5 Zaf)))) (Zae (Za6 (Zez (Zaa (eC (.str "less")) (Zaa (eOp Zds (eOp ixD (Zac 4) (eC (.int 1))) (eCB Zbn (Zaa (Zac 2) Zaf))) Zaf))))
 Zah) Zah)
 (Zae (sIf (tAn (tOf (eOp ltD (eOp Zds (eOp ixD (Zac 4) (eC (.int 0))) (eC (.int 4))) (eC (.int 3)))) (tOf (eOp neD (Zac 2) (Zd5 Zaf)))) (Zae (Za1 5 (eLC (iR1 (Zaa (eCB Zbn (Zaa (eOp ixD (Zac 0) (eC (.int 0))) Zaf)) Zaf)) [0,1] (tOf (eOp neD (eOp ixD (eOp ixD (Zac 1) (eC (.int 0))) (Zac 0)) (Zac 2))) (eOp Zbo (Zac 0) (eC (.int 1)))))
 (Zae (Zd1 (iR1 (Zaa (eCB Zbn (Zaa (Zac 2) Zaf)) Zaf)) (gNm 6) (Zae (Za1 7 (eOp Zds (eOp Zbo (eOp ixD (Zac 4) (eC (.int 1))) (Zac 6)) (eCB Zbn (Zaa (Zac 2) Zaf))))
 (Zae (Za1 8 (eOp Zds (eOp Zbo (eOp ixD (Zac 4) (eC (.int 2))) (eOp Zlx (eC (.int 3)) (Zac 6))) (eCB Zbn (Zaa (Zac 2) Zaf))))
 (Zae (Zd1 (iSq (Zac 5)) (gNm 9) (Zae (sIf (tOf (eOp Zx2 (Zal 3 Zdv (Zaa (eOp ixD (Zac 2) (Zac 7)) (Zaa (eOp ixD (Zac 2) (Zac 8)) (Zaa (Zac 9) Zaf)))) (eC .non))) (Zae (Za6 (Zez (Zaa (eC (.str "joined")) (Zaa (Zac 7) (Zaa (Zac 8) (Zaa (Zac 9) Zaf))))))
 Zah) Zah)
 Zah))
 Zah))))
 Zah)) Zah)
 (Zae (sIf (tOf (eOp eqD (Zac 1) (eC (.str "all")))) (Zae (sIf (tOf (eOp eqD (eOp ixD (Zac 0) (eC (.int 1))) (Zez Zaf))) (Zae (Za6 (eC .non))
 Zah) Zah)
 (Zae (Za6 (Zez (Zaa (eC (.str "row")) (Zaa (eOp Zds (eOp ixD (Zac 4) (eC (.int 3))) (eCB Zbn (Zaa (eOp ixD (Zac 0) (eC (.int 1))) Zaf))) Zaf))))
 Zah)) Zah)
 Zy7)))
nonrec def Zc7:FF:=Zaw 5 10 Zbh
nonrec def Zbe:SF :=
 (Zae (Za1 5 (Zd5 Zaf))
 (Zae (Za1 6 (Zd5 Zaf))
 (Zae (Za1 7 (eLC (iSq (Zal 1 Zf4 (Zaa (eCB Zbn (Zaa (eOp ixD (Zac 0) (eC (.int 0))) Zaf)) Zaf))) [0] (tNo (Zgm (Zal 2 Zfl (Zaa (eOp ixD (Zac 1) (eC (.int 1))) (Zaa (Zac 0) Zaf))))) (Zac 0)))
 (Zae (Zd1 (iR1 (Zaa (Zac 4) Zaf)) (gNm 8) (Zae (Za1 9 (eSl (Zal 2 Zbt (Zaa (Zal 2 Zcr (Zaa (Zac 2) (Zaa (eOp Zbo (Zac 3) (Zac 8)) Zaf))) (Zaa (eC (.int 24)) Zaf))) (Zdq (eC (.int 14))) Ze0))
 (Zae (Za1 10 (Zal 5 Zc7 (Zaa (Zac 0) (Zaa (Zac 1) (Zaa (Zac 6) (Zaa (Zac 7) (Zaa (Zac 9) Zaf)))))))
 (Zae (sIf (tOf (eOp Zx2 (Zac 10) (eC .non))) (Zae (Zbq (eLM Zax (Zac 5) (Zaa (Zac 10) Zaf)))
 (Zae (Zbq (eLM Zax (Zac 6) (Zaa (Zal 4 Zfp (Zaa (Zac 0) (Zaa (Zac 1) (Zaa (Zac 6) (Zaa (Zac 10) Zaf))))) Zaf)))
 Zah)) Zah)
 Zah))))
 (Zae (Za6 (Zac 5))
 Zah)))))
nonrec def Zcp:FF:=Zaw 5 11 Zbe
nonrec def Zc3:SF :=
 (Zae (Za1 2 (Zd5 Zaf))
 (Zae (Zd1 (iSq (Zac 0)) (gNm 3) (Zae (sIf (tOf (eOp eqD (eOp ixD (Zac 3) (eC (.int 0))) (eC (.str "less")))) (Zae (Zbq (eLM Zax (Zac 2) (Zaa (Zez (Zaa (eC (.str "less")) (Zaa (eOp Zbo (eOp ixD (Zac 3) (eC (.int 1))) (Zac 1)) Zaf))) Zaf)))
 Zah) (Zae (sIf (tOf (eOp eqD (eOp ixD (Zac 3) (eC (.int 0))) (eC (.str "joined")))) (Zae (Zbq (eLM Zax (Zac 2) (Zaa (Zez (Zaa (eC (.str "joined")) (Zaa (eOp Zbo (eOp ixD (Zac 3) (eC (.int 1))) (Zac 1)) (Zaa (eOp Zbo (eOp ixD (Zac 3) (eC (.int 2))) (Zac 1)) (Zaa (eOp ixD (Zac 3) (eC (.int 3))) Zaf))))) Zaf)))
 Zah) (Zae (Zbq (eLM Zax (Zac 2) (Zaa (Zac 3) Zaf)))
 Zah))
 Zah))
 Zah))
 (Zae (Za6 (Zac 2))
 Zah)))
nonrec def Zdy:FF:=Zaw 2 4 Zc3
nonrec def Zdr:SF :=
 (Zae (Za1 4 (eCB Znr (Zaa (Zac 2) Zaf)))
 (Zae (sIf (tAn (tOf (eOp neD (Zac 2) (Zez Zaf))) (tOf (eOp eqD (eOp ixD (Zac 0) (eOp Zl1 (eCB Zq1 (Zaa (eOp ixD (Zac 2) (eUn Zj3 (eC (.int 1)))) Zaf)) (eC (.int 1)))) (Zac 1)))) (Zae (Za6 (Zac 2))
 Zah) Zah)
 (Zae (Za1 5 (eCB Zrx (Zaa (eOp Zbo (Zd5 (Zaa (eC (.int 0)) Zaf)) (eLC (iSq (Zac 2)) [] Zx5 (eCB Zq1 (Zaa (Zac 0) Zaf)))) Zaf)))
 (Zae (Zd1 (iR2 (Zaa (eOp Zbo (Zac 5) (eC (.int 1))) (Zaa (eOp Zbo (eCB Zbn (Zaa (Zac 0) Zaf)) (eC (.int 1))) Zaf))) (gNm 6) (Zae (sIf (tAn (tOf (eOp eqD (eOp ixD (Zac 0) (eOp Zl1 (Zac 6) (eC (.int 1)))) (Zac 1))) (tOf (eOp gtD (eOp Zds (eOp ixD (Zac 3) (Zac 6)) (eC (.int 3))) (eC (.int 0))))) (Zae (Zbq (eLM Zax (Zac 4) (Zaa (eOp Zlx (Zac 6) (eOp ixD (Zd5 (Zaa (eUn Zj3 (eC (.int 1))) (Zaa (eC (.int 1)) Zaf))) (eOp Zds (eOp Zk0 (eOp ixD (Zac 3) (Zac 6)) (eC (.int 3))) (eC (.int 2))))) Zaf)))
 Zah) Zah)
 Zah))
 (Zae (Za6 (eCB Zdz (Zaa (Zac 4) Zaf)))
 Zah)))))
nonrec def Zf7:FF:=Zaw 4 7 Zdr
nonrec def Zc4:SF :=
 (Zae (Za1 3 (Zd5 (Zaa (Zd5 (Zaa (Zac 1) Zaf)) (Zaa (Zd5 (Zaa (eUn Zj3 (Zac 1)) Zaf)) Zaf))))
 (Zae (Zd1 (Znz (Zaa (Zac 0) Zaf)) (gTp 2 (gCn (gNm 4) (gCn (gNm 5) gNl))) (Zae (sIf (tOf (eOp neD (eOp Zds (eOp ixD (Zac 2) (Zac 4)) (eC (.int 3))) (eC (.int 1)))) (Zae (Zbq (eLM Zax (eOp ixD (Zac 3) (eC (.int 0))) (Zaa (Zac 5) Zaf)))
 Zah) Zah)
 (Zae (sIf (tOf (eOp neD (eOp Zds (eOp ixD (Zac 2) (Zac 4)) (eC (.int 3))) (eC (.int 0)))) (Zae (Zbq (eLM Zax (eOp ixD (Zac 3) (eC (.int 1))) (Zaa (Zac 5) Zaf)))
 Zah) Zah)
 Zah)))
 (Zae (Za6 (eLC (iSq (Zac 3)) [] Zx5 (eCB Zdz (Zaa (eCB Zj6 (Zaa (Zac 0) Zaf)) Zaf))))
 Zah)))
nonrec def Zcx:FF:=Zaw 3 6 Zc4
nonrec def Zdn:SF :=
 (Zae (Za1 4 (Zd5 (Zaa (Zez Zaf) Zaf)))
 (Zae (Za1 5 eDI)
 (Zae (Zd1 (iR1 (Zaa (eC (.int 10)) Zaf)) (gNm 6) (Zae (Za1 7 (eSl (Zal 2 Zbt (Zaa (Zal 2 Zcr (Zaa (Zac 2) (Zaa (eOp Zbo (Zac 3) (Zac 6)) Zaf))) (Zaa (eC (.int 46)) Zaf))) (Zdq (eC (.int 30))) Ze0))
 (Zae (Za1 8 (eLC (iR1 (Zaa (eCB Zbn (Zaa (Zac 4) Zaf)) Zaf)) [5] (tOf (eOp Zzz (Zac 0) (Zac 1))) (Zac 0)))
 (Zae (Za1 9 (eOp ixD (Zac 8) (eOp Zds (eOp ixD (Zac 7) (eC (.int 0))) (eCB Zbn (Zaa (Zac 8) Zaf)))))
 (Zae (Za1 10 (eLC (iSq (eOp ixD (Zac 4) (Zac 9))) [] Zx5 (eCB Zq1 (Zaa (Zac 0) Zaf))))
 (Zae (Za1 11 (eLC (iR2 (Zaa (eC (.int 1)) (Zaa (eOp Zbo (eCB Zbn (Zaa (Zac 0) Zaf)) (eC (.int 1))) Zaf))) [0,1] (tOf (eOp neD (eOp ixD (Zac 1) (eOp Zl1 (Zac 0) (eC (.int 1)))) (Zac 2))) (Zac 0)))
 (Zae (Za1 11 (eLC (iSq (Zac 11)) [10] (tOf (eOp niD (Zac 0) (Zac 1))) (Zac 0)))
 (Zae (Za1 12 (Zal 4 Zf7 (Zaa (Zac 0) (Zaa (Zac 1) (Zaa (eOp ixD (Zac 4) (Zac 9)) (Zaa (eSl (Zac 7) (Zdq (eC (.int 3))) Ze0) Zaf))))))
 (Zae (sIf (tAn (tOf (eOp ltD (eOp Zds (eOp ixD (Zac 7) (eC (.int 1))) (eC (.int 5))) (eC (.int 2)))) (tOf (eOp neD (Zac 12) (eOp ixD (Zac 4) (Zac 9))))) (Zae (Zmx (Zez (Zaa (eC (.str "less")) (Zaa (eCB Zbn (Zaa (Zac 4) Zaf)) Zaf))) (gSb (Zac 5) (Zac 9) Zgg))
 (Zae (Zbq (eLM Zax (Zac 4) (Zaa (Zac 12) Zaf)))
 Zah)) (Zae (sIf (tOf (eOp neD (Zac 11) (Zd5 Zaf))) (Zae (Za1 13 (eOp ixD (Zac 11) (eOp Zds (eOp ixD (Zac 7) (eC (.int 2))) (eCB Zbn (Zaa (Zac 11) Zaf)))))
 (Zae (Zmx (Zez (Zaa (eC (.str "joined")) (Zaa (eCB Zbn (Zaa (Zac 4) Zaf)) (Zaa (eOp Zbo (eCB Zbn (Zaa (Zac 4) Zaf)) (eC (.int 1))) (Zaa (Zac 13) Zaf))))) (gSb (Zac 5) (Zac 9) Zgg))
 (Zae (Za1 4 (eOp Zbo (Zac 4) (Zal 3 Zcx (Zaa (eOp ixD (Zac 4) (Zac 9)) (Zaa (Zac 13) (Zaa (eSl (Zac 7) (Zdq (eC (.int 3))) Ze0) Zaf))))))
 Zah))) Zah)
 Zah))
 Zah)))))))))
 (Zae (Za6 (Zez (Zaa (Zac 4) (Zaa (Zac 5) Zaf))))
 Zah))))
nonrec def Zf9:FF:=Zaw 4 14 Zdn
nonrec def Zde:SF :=
 (Zae (Za1 4 (Zd5 Zaf))
 (Zae (Za1 5 eDI)
 (Zae (Zd1 (iRB (Zaa (eOp Zl1 (eCB Zbn (Zaa (Zac 0) Zaf)) (eC (.int 1))) (Zaa (eUn Zj3 (eC (.int 1))) (Zaa (eUn Zj3 (eC (.int 1))) Zaf)))) (gNm 6) (Zae (Za1 7 (eIM Znj (Zac 2) (Zaa (Zac 6) (Zaa (eC .non) Zaf))))
 (Zae (sIf (tAn (tOf (eOp Yap (Zac 6) (Zac 1))) (tOf (eOp eqD (eOp ixD (eOp Zit (Zac 1) (Zac 6)) (eC (.int 0))) (eC (.str "less"))))) (Zae (Za1 7 (Zez (Zaa (eC (.str "less")) (Zaa (eOp Zit (Zac 5) (eOp ixD (eOp Zit (Zac 1) (Zac 6)) (eC (.int 1)))) Zaf))))
 Zah) (Zae (sIf (tOf (eOp Yap (Zac 6) (Zac 1))) (Zae (Za1 7 (Zez (Zaa (eC (.str "joined")) (Zaa (eOp Zit (Zac 5) (eOp ixD (eOp Zit (Zac 1) (Zac 6)) (eC (.int 1)))) (Zaa (eOp Zit (Zac 5) (eOp ixD (eOp Zit (Zac 1) (Zac 6)) (eC (.int 2)))) (Zaa (eOp ixD (eOp Zit (Zac 1) (Zac 6)) (eC (.int 3))) Zaf))))))
 Zah) Zah)
 Zah))
 (Zae (sIf (tAn (tOf (eOp gtD (Zac 6) (eC (.int 0)))) (tAn (tOf (eOp eqD (eOp Zds (eOp Zk0 (Zac 3) (eOp Zbo (Zac 6) (eC (.int 1)))) (eC (.int 2))) (eC (.int 0)))) (tOf (eOp inD (Zac 7) (Zac 4))))) (Zae (Zmx (eLM Ze8 (Zac 4) (Zaa (Zac 7) Zaf)) (gSb (Zac 5) (Zac 6) Zgg))
 Zah) (Zae (Zmx (eCB Zbn (Zaa (Zac 4) Zaf)) (gSb (Zac 5) (Zac 6) Zgg))
 (Zae (Zbq (eLM Zax (Zac 4) (Zaa (Zac 7) Zaf)))
 Zah)))
 Zah))))
 (Zae (Za6 (Zac 4))
 Zah))))
nonrec def Zgh:FF:=Zaw 4 8 Zde
nonrec def Zbi:SF :=
 (Zae (Za1 4 (eLC (iSq (eSl (Zac 3) (Zdq (eC (.int 2))) (Zdq (eOp Zbo (eC (.int 2)) (eOp Zds (eOp ixD (Zac 3) (eC (.int 0))) (eC (.int 4))))))) [0] Zx5 (Zal 3 Zjv (Zaa (Zac 0) (Zaa (eCB Zbn (Zaa (Zac 1) Zaf)) (Zaa (eC (.int 1)) Zaf))))))
 (Zae (Zd1 (iR1 (Zaa (eCB Zbn (Zaa (Zac 1) Zaf)) Zaf)) (gNm 5) (Zae (sIf (tOf (eOp Zzz (Zac 5) (Zac 2))) (Zae (Zbq (eLM Zi7 (Zac 4) (Zaa (eOp Zds (eOp Zk0 (eOp ixD (Zac 3) (eOp Zbo (eC (.int 3)) (eOp Zds (Zac 5) (eC (.int 7))))) (eOp Zbo (Zac 5) (eC (.int 1)))) (eOp Zbo (eCB Zbn (Zaa (Zac 4) Zaf)) (eC (.int 1)))) (Zaa (eOp ixD (Zac 1) (Zac 5)) Zaf))))
 Zah) Zah)
 Zah))
 (Zae (Za1 6 eDI)
 (Zae (Zd1 (iR1 (Zaa (eCB Zbn (Zaa (Zac 1) Zaf)) Zaf)) (gNm 5) (Zae (sIf (tOf (eOp Zzz (Zac 5) (Zac 2))) (Zae (Zmx (Zez (Zaa (eC (.str "row")) (Zaa (eLM Ze8 (Zac 4) (Zaa (eOp ixD (Zac 1) (Zac 5)) Zaf)) Zaf))) (gSb (Zac 6) (Zac 5) Zgg))
 Zah) Zah)
 Zah))
 (Zae (Za6 (Zez (Zaa (Zez (Zaa (Zac 0) (Zaa (eCB Zdz (Zaa (Zac 4) Zaf)) Zaf))) (Zaa (Zac 6) Zaf))))
 Zah)))))
nonrec def Zc6:FF:=Zaw 4 7 Zbi
nonrec def Za8:SF :=
 (Zae (Za1 1 (eSl (Zal 2 Zbt (Zaa (Zal 2 Zcr (Zaa (Zac 0) (Zaa (eC (.int 0)) Zaf))) (Zaa (eC (.int 34)) Zaf))) (Zdq (eC (.int 14))) Ze0))
 (Zae (Za1 2 (eOp ixD (Zd5 (Zaa (eC (.int 6)) (Zaa (eC (.int 5)) (Zaa (eC (.int 4)) (Zaa (eOp Zbo (eC (.int 1)) (eOp Zds (eOp ixD (Zac 1) (eC (.int 10))) (eC (.int 6)))) Zaf))))) (eOp Zds (eOp ixD (Zac 1) (eC (.int 11))) (eC (.int 4)))))
 (Zae (sIf (tOf (eOp eqD (eOp Zds (eOp ixD (Zac 1) (eC (.int 15))) (eC (.int 8))) (eC (.int 0)))) (Zae (Za1 2 (eOp Zbo (eC (.int 7)) (eOp Zds (eOp ixD (Zac 1) (eC (.int 16))) (eC (.int 2)))))
 Zah) Zah)
 (Zae (Za1 3 (Zal 2 Zgl (Zaa (Zac 1) (Zaa (Zac 2) Zaf))))
 (Zae (Zmx (Zal 4 Zf9 (Zaa (Zac 3) (Zaa (eC (.str "all")) (Zaa (Zac 0) (Zaa (eC (.int 1)) Zaf))))) (gTp 2 (gCn (gNm 5) (gCn (gNm 6) gNl))))
 (Zae (Zmx (Zal 4 Zc6 (Zaa (Zac 3) (Zaa (Zac 5) (Zaa (Zac 6) (Zaa (eSl (Zac 1) (Zdq (eC (.int 8))) Ze0) Zaf))))) (gTp 2 (gCn (gNm 7) (gCn (gNm 8) gNl))))
 (Zae (Za1 4 (Zd5 Zaf))
 (Zae (sIf (tOf (eOp eqD (eOp Zds (eOp ixD (Zac 1) (eC (.int 12))) (eC (.int 2))) (eC (.int 0)))) (Zae (Za1 4 (Zal 5 Zcp (Zaa (Zac 7) (Zaa (eC (.str "all")) (Zaa (Zac 0) (Zaa (eC (.int 2)) (Zaa (eOp Zds (eOp ixD (Zac 1) (eC (.int 13))) (eC (.int 5))) Zaf)))))))
 Zah) Zah)
 (Zae (Za6 (Zez (Zaa (Zac 7) (Zaa (eOp Zbo (Zac 4) (Zal 2 Zdy (Zaa (Zal 4 Zgh (Zaa (Zac 5) (Zaa (Zac 6) (Zaa (Zac 8) (Zaa (eOp ixD (Zac 1) (eC (.int 9))) Zaf))))) (Zaa (eCB Zbn (Zaa (Zac 4) Zaf)) Zaf)))) Zaf))))
 Zah)))))))))
nonrec def Zb8:FF:=Zaw 1 9 Za8
nonrec def Zcu:SF :=
 (Zae (Za1 2 (Zd5 (Zaa (Zez Zaf) Zaf)))
 (Zae (Zd1 (iSq (eOp ixD (Zac 0) (eC (.int 0)))) (gNm 3) (Zae (Za1 4 (Zd5 Zaf))
 (Zae (Zd1 (iSq (Zac 2)) (gNm 5) (Zae (sIf (tOf (eOp eqD (Zac 3) (eC (.str "all")))) (Zae (Za1 6 (Zal 3 Zjh (Zaa (Zac 0) (Zaa (Zac 1) (Zaa (Zac 5) Zaf)))))
 (Zae (sIf (tNo (Zgm (eCB Zp1 (Zaa (Zac 6) (Zaa (eC (.ty "bool")) Zaf))))) (Zae (Za6 (eC (.bl false)))
 Zah) Zah)
 (Zae (Zbq (eLM Zax (Zac 4) (Zaa (eOp Zbo (Zac 5) (Zez (Zaa (Zac 6) Zaf))) Zaf)))
 Zah))) (Zae (Za1 4 (eOp Zbo (Zac 4) (Zd5 (Zaa (eOp Zbo (Zac 5) (Zez (Zaa (eC (.bl false)) Zaf))) (Zaa (eOp Zbo (Zac 5) (Zez (Zaa (eC (.bl true)) Zaf))) Zaf)))))
 Zah))
 Zah))
 (Zae (Za1 2 (Zac 4))
 Zah))))
 (Zae (Za6 (eOp eqD (eLC (iSq (Zac 2)) [0] (tOf (eOp neD (Zal 2 Zfl (Zaa (eOp ixD (Zac 1) (eC (.int 1))) (Zaa (Zac 0) Zaf))) (eC (.bl true)))) (Zac 0)) (Zd5 Zaf)))
 Zah)))
nonrec def Zfg:FF:=Zaw 2 7 Zcu
nonrec def Zsr:SF :=
 (Zae (Zd1 (iR1 (Zaa (eC (.int 4)) Zaf)) (gNm 1) (Zae (Zmx (Zal 1 Zb8 (Zaa (eSl (Zac 0) (Zdq (eOp Zlx (eC (.int 6)) (Zac 1))) Ze0) Zaf)) (gTp 2 (gCn (gNm 4) (gCn (gNm 5) gNl))))
 (Zae (sIf (tAn (tOf (eOp eqD (Zac 1) (eC (.int 0)))) (tAn (tOf (eOp eqD (eOp Zds (eOp ixD (Zal 2 Zbt (Zaa (Zal 2 Zcr (Zaa (Zac 0) (Zaa (eC (.int 1)) Zaf))) (Zaa (eC (.int 44)) Zaf))) (eC (.int 43))) (eC (.int 8))) (eC (.int 3)))) (tOf (eOp ltD (eCB Zbn (Zaa (eOp ixD (Zac 4) (eC (.int 0))) Zaf)) (eC (.int 7)))))) (Zae (Za1 6 (eOp Zlx (eSl (eLC (iSq (Zac 5)) [] (tOf (eOp eqD (eOp ixD (Zac 0) (eC (.int 0))) (eC (.str "row")))) (Zac 0)) Ze0 (Zdq (eC (.int 1)))) (eOp Zl1 (eC (.int 700)) (eCB Zbn (Zaa (Zac 5) Zaf)))))
 (Zae (Za1 5 (eOp Zbo (Zac 6) (Zal 2 Zdy (Zaa (Zac 5) (Zaa (eCB Zbn (Zaa (Zac 6) Zaf)) Zaf)))))
 Zah)) Zah)
 (Zae (Za1 2 (Zal 3 Zho (Zaa (Zac 4) (Zaa (eC (.str "all")) (Zaa (Zac 5) Zaf)))))
 (Zae (sIf (Zjz (tOf (eOp neD (eCB Zbn (Zaa (Zac 2) Zaf)) (eCB Zbn (Zaa (Zac 5) Zaf)))) (tOf (eOp neD (eOp ixD (Zac 2) (eUn Zj3 (eC (.int 1)))) (Zez Zaf)))) (Zae (Za6 (eC (.bl false)))
 Zah) Zah)
 (Zae (Za1 3 (eCB Znr (Zaa (Zac 5) Zaf)))
 (Zae (sIf (tOf (eOp neD (Zal 2 Zi0 (Zaa (Zac 4) (Zaa (Zac 5) Zaf))) (Zac 2))) (Zae (Za6 (eC (.bl false)))
 Zah) Zah)
 (Zae (sIf (Zjz (tOf (eOp Zx2 (Zal 2 Zd3 (Zaa (Zac 4) (Zaa (Zac 5) Zaf))) (eC (.bl true)))) (tOf (eOp neD (Zal 2 Zii (Zaa (Zac 4) (Zaa (Zez Zaf) Zaf))) (eC (.str "all"))))) (Zae (Za6 (eC (.bl false)))
 Zah) Zah)
 (Zae (sIf (Zjz (tNo (Zgm (Zal 2 Zfg (Zaa (Zac 4) (Zaa (Zac 5) Zaf))))) (tOf (eOp neD (Zac 5) (Zac 3)))) (Zae (Za6 (eC (.bl false)))
 Zah) Zah)
 Zah)))))))))
 (Zae (Za6 (eC (.bl true)))
 Zah))
nonrec def Zqo:FF:=Zaw 1 7 Zsr
end K08
set_option maxHeartbeats 4000000
namespace K08
open PySem L2 DL LH
nonrec def opn (bs:List Bool) (l:Int):Bool:=decide ((bs.length:Int)<Zao l)
nonrec def rig (bs:List Bool) (l:Int):Bool:=match bs[(Zao l - 1).toNat]? with
 | some b=>b==decide (0<l)
 | none=>false
nonrec def kept (bs:List Bool) (ls:List Int):Bool:=ls.any (rig bs)
nonrec def rest (bs:List Bool) (ls:List Int):List Int:=ls.filter (opn bs)
nonrec def Zfs (b:Int):List Int->List Int
 | []=>[]
 | l::r=>if Zao l=b+1 then r else l::r
nonrec def Zl3 (b:Int) (t:Bool):List Int->Bool
 | []=>false
 | l::_=>decide (Zao l=b+1)&&(t==decide (0<l))
theorem Zge {m:Int} (bs:List Bool):∀ (ls:List Int) (last:Int),Up m last ls->(bs.length:Int)<=last->rest bs ls=ls/\kept bs ls=false
 | [],_,_,_=>⟨rfl,rfl⟩
 | l::r,last,u,h=>by
  obtain⟨h1,h2,h3⟩:=u
  obtain⟨a,b⟩:=Zge bs r (Zao l) h3 (by omega)
  have o:opn bs l=true:=decide_eq_true (by omega)
  have g:rig bs l=false:=by
   unfold rig
   rw[Wcz (by omega)]
  refine⟨?_,?_⟩
  ·unfold rest; rw[Wbz o]; exact congrArg _ a
  ·unfold kept; rw[Wcp,g]; exact b
theorem Zzg {bs:List Bool} {t:Bool} {l:Int} (h:Zao l<=bs.length) (h0:0<Zao l):rig (bs++[t]) l=rig bs l:=by
 unfold rig
 rw[Xm (by omega)]
theorem Zhk {m:Int} (bs:List Bool) (t:Bool):∀ (ls:List Int) (last:Int),0<=last->Up m last ls->rest (bs++[t]) ls=Zfs bs.length (rest bs ls)/\kept (bs++[t]) ls=(kept bs ls||Zl3 bs.length t (rest bs ls))
 | [],_,_,_=>⟨rfl,rfl⟩
 | l::r,last,h0,u=>by
  obtain⟨h1,h2,h3⟩:=u
  have la:(((bs++[t]).length:Nat):Int)=bs.length+1:=by simp
  by_cases c1:Zao l<=bs.length
  ·obtain⟨a,b⟩:=Zhk bs t r (Zao l) (by omega) h3
   have o1:opn bs l=false:=decide_eq_false (by omega)
   have o2:opn (bs++[t]) l=false:=decide_eq_false (by rw[la]; omega)
   have e:rest bs (l::r)=rest bs r:=by unfold rest; rw[Wbd (by rw[o1]; simp)]
   have e':rest (bs++[t]) (l::r)=rest (bs++[t]) r:=by unfold rest; rw[Wbd (by rw[o2]; simp)]
   rw[e,e']
   refine⟨a,?_⟩
   have k:∀ cs,kept cs (l::r)=(rig cs l||kept cs r):=fun cs=>by unfold kept; rw[Wcp]
   rw[k,k,Zzg c1 (by omega),b,Bool.or_assoc]
  ·have o1:opn bs l=true:=decide_eq_true (by omega)
   obtain⟨a1,a2⟩:=Zge bs r (Zao l) h3 (by omega)
   have e:rest bs (l::r)=l::r:=by unfold rest; rw[Wbz o1]; exact congrArg _ a1
   have g1:rig bs l=false:=by unfold rig; rw[Wcz (by omega)]
   have k:∀ cs,kept cs (l::r)=(rig cs l||kept cs r):=fun cs=>by unfold kept; rw[Wcp]
   by_cases c2:Zao l=bs.length+1
   ·obtain⟨b1,b2⟩:=Zge (bs++[t]) r (Zao l) h3 (by rw[la]; omega)
    have o2:opn (bs++[t]) l=false:=decide_eq_false (by rw[la]; omega)
    have e':rest (bs++[t]) (l::r)=r:=by unfold rest; rw[Wbd (by rw[o2]; simp)]; exact b1
    have g2:rig (bs++[t]) l=(t==decide (0<l)):=by
     unfold rig
     have:(Zao l - 1).toNat=bs.length:=by omega
     rw[this]; simp
    rw[e,e',k,k,g1,g2,a2,b2]
    refine⟨by simp[Zfs,c2],by simp[Zl3,c2]⟩
   ·obtain⟨b1,b2⟩:=Zge (bs++[t]) (l::r) (Zao l - 1) ⟨by omega,h2,h3⟩ (by rw[la]; omega)
    rw[e,b1,k bs,g1,a2,b2]
    refine⟨by simp[Zfs,c2],by simp[Zl3,c2]⟩
theorem Zpc:∀ ls:List Int,Zn6 (ls.map .int)=some ls
 | []=>rfl
 | l::r=>by simp[Zn6,nkOf,Zpc r]
theorem Zja (ls:List Int):nk (Zas ls)=some ls:=Zpc ls
theorem Zwy {kvs:List (D×D)} {kd vd:D} {k k':List Int} (h:nk kd=some k) (h0:Zbf kvs k=none):(Zbf (Zrn kvs kd k vd) k').isSome=((Zbf kvs k').isSome||decide (k'=k)):=by
 have e:Zrn kvs kd k vd=kvs++[(kd,vd)]:=by unfold Zrn; rw[h0]; rfl
 rw[e]
 unfold Zbf
 rw[Wey]
 cases q:kvs.find? (fun p=>nk p.1==some k') with
 | some p=>simp
 | none =>
  by_cases c:k'=k
  ·subst c; simp[h]
  ·have:(nk kd==some k')=false:=by rw[h]; simp; exact fun z=>c z.symm
   simp[Wco,this,c]
structure DR (rss:List (List Int)) (bs:List Bool) (kvs:List (D×D)):Prop where
 key:∀ p∈kvs,∃ ls∈rss,kept bs ls=false/\p.1=Zas (rest bs ls)
 all:∀ ls∈rss,kept bs ls=false->(Zbf kvs (rest bs ls)).isSome=true
 len:kvs.length<=rss.length
 val:∀ p∈kvs,∃ (i:Nat) (ls:List Int),rss[i]? = some ls/\kept bs ls=false/\p=(Zas (rest bs ls),.int i)
structure Fz (H H':HD):Prop where
 old:∀ (m:Nat) (o:DO),H[m]? = some o->H'[m]? = some o\/∃ kvs,o=.dic kvs false/\H'[m]? = some (.dic kvs true)
 len:H.length<=H'.length
theorem Fz.refl {H:HD}:Fz H H:=⟨fun _ _ h=>.inl h,Xe _⟩
theorem Fz.trans {H H1 H2:HD} (a:Fz H H1) (b:Fz H1 H2):Fz H H2:=by
 refine⟨fun m o h=>?_,Wab a.len b.len⟩
 rcases a.old m o h with h1 | ⟨kvs,rfl,h1⟩
 ·exact b.old m o h1
 ·rcases b.old m _ h1 with h2 | ⟨k2,e,_⟩
  ·exact .inr ⟨kvs,rfl,h2⟩
  ·cases e
theorem Fz.app {H:HD} (L:HD):Fz H (H++L):=⟨fun m o q=>.inl (by
 have:m<H.length:=(Xc.mp q).1
 rw[Xm this]; exact q),by simp⟩
theorem Fz.dic {H H':HD} (x:Fz H H') {m:Nat} {kvs:List (D×D)} {fz:Bool} (h:H[m]? = some (.dic kvs fz)):∃ fz',H'[m]? = some (.dic kvs fz'):=by
 rcases x.old m _ h with h1 | ⟨k2,e,h1⟩
 ·exact⟨fz,h1⟩
 ·cases e; exact⟨true,h1⟩
theorem dm {g:D->List D->HD->Option (D×HD)} {fo:EF} {f:AF} {σ:SD} {H H1 H2:HD} {o:D} {ds:List D} {r:Option (D×HD)} (h1:fo σ H=some (o,H1)) (hd:Zox o H1=true) (h2:f σ H1=some (ds,H2)) (h3:g o ds H2=r):eDM g fo f σ H=r:=by
 unfold eDM; rw[h1]; simp only[Zb]; rw[if_pos hd,h2]; exact h3
theorem ex {f:EF} {σ:SD} {H H1:HD} {d:D} (h:f σ H=some (d,H1)):Zbq f σ H=some (.nx,σ,H1):=by unfold Zbq; rw[h]; rfl
nonrec def Zh2 (acc:List (D×D)) (k:List Int) (v:D):List (D×D):=if (Zbf acc k).isSome=true then acc else acc++[(Zas k,v)]
theorem Zot {q:Nat} {acc:List (D×D)} {k:List Int} {v:D} {H:HD} (h:H[q]? = some (.dic acc false)) (hl:acc.length<=100000):∃ z,Zj4 (.ref q) [Zas k,v] H=some (z,H.set q (.dic (Zh2 acc k v) false)):=by
 have sz:acc.length<sizeLine:=by rw[Um]; omega
 unfold Zj4
 simp only[h,Zja,Zb,if_pos sz]
 cases e:Zbf acc k with
 | some z =>
  refine⟨z,?_⟩
  have:Zh2 acc k v=acc:=by unfold Zh2; rw[e]; rfl
  rw[this]
  obtain⟨h1,h2⟩:=Xc.mp h
  rw[<- h2,Wcf h1]
 | none =>
  refine⟨v,?_⟩
  have e1:Zrn acc (Zas k) k v=acc++[(Zas k,v)]:=by unfold Zrn; rw[e]; rfl
  have e2:Zh2 acc k v=acc++[(Zas k,v)]:=by unfold Zh2; rw[e]; rfl
  rw[e1,e2]
theorem Zih {acc:List (D×D)} {k k':List Int} {v:D}:(Zbf (Zh2 acc k v) k').isSome=((Zbf acc k').isSome||decide (k'=k)):=by
 unfold Zh2
 cases e:Zbf acc k with
 | some z =>
  rw[if_pos (by simp)]
  by_cases c:k'=k
  ·subst c; rw[e]; rfl
  ·simp[c]
 | none =>
  have:=Zwy (kvs:=acc) (kd:=Zas k) (vd:=v) (k:=k) (k':=k') (Zja k) e
  have e1:Zrn acc (Zas k) k v=acc++[(Zas k,v)]:=by unfold Zrn; rw[e]; rfl
  rw[e1] at this
  rw[if_neg (by simp)]; exact this
theorem Zs2 (acc:List (D×D)) (k:List Int) (v:D):(Zh2 acc k v).length<=acc.length+1:=by unfold Zh2; split<;>simp
theorem Ztr {acc:List (D×D)} {k:List Int} {v:D} {p:D×D} (h:p∈Zh2 acc k v):p∈acc\/p.1=Zas k:=by
 unfold Zh2 at h
 split at h
 ·exact .inl h
 ·rcases Xn.mp h with h | h
  ·exact .inl h
  ·simp at h; subst h; exact .inr rfl
theorem Zqa {acc:List (D×D)} {k:List Int} {v:D} {p:D×D} (h:p∈Zh2 acc k v):p∈acc\/p=(Zas k,v):=by
 unfold Zh2 at h
 split at h
 ·exact .inl h
 ·rcases Xn.mp h with h | h
  ·exact .inl h
  ·simp at h; subst h; exact .inr rfl
nonrec abbrev fb:SF:=(Zae (Zbq (eDM Zj4 (Zac 1) (Zaa (Zac 3) (Zaa (Zac 2) Zaf)))) Zah)
theorem Zka {q:Nat} {r:D}:∀ (rss:List (List Int)) (c:Int) (acc:List (D×D)) (H:HD) (z2 z3:Option D),H[q]? = some (.dic acc false)->acc.length+rss.length<=100000 ->
  ∃ (acc':List (D×D)) (z2' z3':Option D),Zhe [] (gTp 2 (gCn (gNm 2) (gCn (gNm 3) gNl))) fb (Zb5 c (rss.map Zas)) [some r,some (.ref q),z2,z3] H=some (.nx,[some r,some (.ref q),z2',z3'],H.set q (.dic acc' false)) /\
   (∀ p∈acc',p∈acc\/∃ ls∈rss,p.1=Zas ls)/\(∀ k,(Zbf acc k).isSome=true->(Zbf acc' k).isSome=true)/\(∀ ls∈rss,(Zbf acc' ls).isSome=true)/\acc'.length<=acc.length+rss.length/\(∀ p∈acc',p∈acc\/∃ (i:Nat) (ls:List Int),rss[i]? = some ls/\p=(Zas ls,.int (c+i)))
 | [],c,acc,H,z2,z3,hq,_=>by
  obtain⟨h1,h2⟩:=Xc.mp hq
  refine⟨acc,z2,z3,?_,fun p hp=>.inl hp,fun _ h=>h,by simp,by simp,fun p hp=>.inl hp⟩
  rw[Wdi,Zb5,Zhe,if_pos Zhz,<- h2,Wcf h1]
 | ls::rss,c,acc,H,z2,z3,hq,hl=>by
  rw[Xs,Zb5,Zhe,if_pos Zhz]
  simp only[gTp,Wca,Wam,gCn,gNm,gNl,Weu,Zb,if_true,Wcg,Nat.reduceAdd]
  obtain⟨z,es⟩:=Zot (k:=ls) (v:=.int c) hq (by omega)
  have lt:=(Xc.mp hq).1
  have st:fb [some r,some (.ref q),some (.int c),some (Zas ls)] H=some (.nx,[some r,some (.ref q),some (.int c),some (Zas ls)],H.set q (.dic (Zh2 acc ls (.int c)) false)) :=
   (Zcb (ex (dm (vr rfl) (by simp[Zox,hq]) (ac (vr rfl) (ac (vr rfl) an)) es))).trans rfl
  rw[st]
  simp only[Zb]
  have al:=Zs2 acc ls (.int c)
  obtain⟨acc',z2',z3',e,a1,a2,a3,a4,a5⟩:=Zka (q:=q) (r:=r) rss (c+1) (Zh2 acc ls (.int c)) (H.set q (.dic (Zh2 acc ls (.int c)) false)) (some (.int c)) (some (Zas ls)) (by rw[Waz lt]) (by simp at hl ⊢; omega)
  refine⟨acc',z2',z3',by rw[e,List.set_set],fun p hp=>?_,fun k hk=>a2 k (by rw[Zih,hk]; rfl),fun l hl'=>?_,by omega,fun p hp=>?_⟩
  ·rcases a1 p hp with h | ⟨l,h1,h2⟩
   ·rcases Ztr h with h | h
    ·exact .inl h
    ·exact .inr ⟨ls,by simp,h⟩
   ·exact .inr ⟨l,by simp[h1],h2⟩
  ·rcases Xh.mp hl' with rfl | hl'
   ·exact a2 _ (by rw[Zih]; simp)
   ·exact a3 l hl'
  ·rcases a5 p hp with h | ⟨i,l,h1,h2⟩
   ·rcases Zqa h with h | h
    ·exact .inl h
    ·exact .inr ⟨0,ls,rfl,by rw[h]; simp⟩
   ·exact .inr ⟨i+1,l,by simpa using h1,by rw[h2]; simp; omega⟩
theorem Zwb {rss:List (List Int)} {m:Int} (hu:∀ ls∈rss,Up m 0 ls) (hl:rss.length<=1000) (H:HD) :
  ∃ (kvs:List (D×D)) (H':HD) (q:Nat),Zcl [.tup (rss.map Zas)] H=some (.ref q,H')/\H'[q]? = some (.dic kvs false)/\DR rss [] kvs/\Fz H H':=by
 have s1:Za1 1 eDN [some (.tup (rss.map Zas)),none,none,none] H=some (.nx,[some (.tup (rss.map Zas)),some (.ref H.length),none,none],H++[.dic [] false]):=rfl
 obtain⟨kvs,z2,z3,e,a1,a2,a3,a4,a5⟩:=Zka (q:=H.length) (r:=.tup (rss.map Zas)) rss 0 [] (H++[.dic [] false]) none none (by simp) (by simp; omega)
 have e1:Zd1 (Znz (Zaa (Zac 0) Zaf)) (gTp 2 (gCn (gNm 2) (gCn (gNm 3) gNl))) fb [some (.tup (rss.map Zas)),some (.ref H.length),none,none] (H++[.dic [] false])=some (.nx,[some (.tup (rss.map Zas)),some (.ref H.length),z2,z3],(H++[DO.dic [] false]).set H.length (DO.dic kvs false)):=by
  unfold Zd1 Znz
  rw[ac (vr rfl) an]
  exact e
 have es:(H++[DO.dic [] false]).set H.length (.dic kvs false)=H++[.dic kvs false]:=by simp
 rw[es] at e1
 refine⟨kvs,H++[.dic kvs false],H.length,?_,by simp,⟨fun p hp=>?_,fun ls hls _=>?_,by simpa using a4,fun p hp=>?_⟩,Fz.app _⟩
 ·show ((Zbv [some (.tup (rss.map Zas)),none,none,none] H).bind _)=_
  unfold Zbv
  rw[Zcb s1,Zcb e1]
  rfl
 ·rcases a1 p hp with h | ⟨ls,h1,h2⟩
  ·simp at h
  ·obtain⟨o1,o2⟩:=Zge [] ls 0 (hu ls h1) (by simp)
   exact⟨ls,h1,o2,by rw[o1]; exact h2⟩
 ·obtain⟨o1,o2⟩:=Zge [] ls 0 (hu ls hls) (by simp)
  rw[o1]; exact a3 ls hls
 ·rcases a5 p hp with h | ⟨i,ls,h1,h2⟩
  ·simp at h
  ·obtain⟨o1,o2⟩:=Zge [] ls 0 (hu ls (Wae h1)) (by simp)
   exact⟨i,ls,h1,o2,by rw[o1,h2]; simp⟩
nonrec def hd0:List Int->Int
 | []=>0
 | l::_=>l
theorem act {b:Int} {t:Bool} {ls:List Int} (hb:0<=b) :
  (hd0 ls = -(if t=true then b+1 else -(b+1))->Zl3 b t ls=false/\Zfs b ls=ls.drop 1) /\
  (hd0 ls ≠ -(if t=true then b+1 else -(b+1))->hd0 ls≠(if t=true then b+1 else -(b+1))->Zl3 b t ls=false/\Zfs b ls=ls) /\
  (hd0 ls ≠ -(if t=true then b+1 else -(b+1))->hd0 ls=(if t=true then b+1 else -(b+1))->Zl3 b t ls=true):=by
 cases ls with
 | nil =>
  refine⟨fun h=>?_,fun _ _=>⟨rfl,rfl⟩,fun _ h=>?_⟩
  ·simp only[hd0] at h; split at h<;>omega
  ·simp only[hd0] at h; split at h<;>omega
 | cons l r =>
  simp only[hd0,Zl3,Zfs,List.drop_one,List.tail_cons]
  cases t with
  | true =>
   simp only[if_true]
   refine⟨fun h=>?_,fun h1 h2=>?_,fun h1 h2=>?_⟩
   ·have e:Zao l=b+1:=by unfold Zao; split<;>omega
    have g:decide (0<l)=false:=decide_eq_false (by omega)
    rw[g,if_pos e]; simp
   ·have e:Zao l≠b+1:=by unfold Zao; split<;>omega
    rw[if_neg e,decide_eq_false e]; simp
   ·have e:Zao l=b+1:=by unfold Zao; split<;>omega
    have g:decide (0<l)=true:=decide_eq_true (by omega)
    rw[g,decide_eq_true e]; rfl
  | false =>
   simp only[Wao,if_false]
   refine⟨fun h=>?_,fun h1 h2=>?_,fun h1 h2=>?_⟩
   ·have e:Zao l=b+1:=by unfold Zao; split<;>omega
    have g:decide (0<l)=true:=decide_eq_true (by omega)
    rw[g,if_pos e]; simp
   ·have e:Zao l≠b+1:=by unfold Zao; split<;>omega
    rw[if_neg e,decide_eq_false e]; simp
   ·have e:Zao l=b+1:=by unfold Zao; split<;>omega
    have g:decide (0<l)=false:=decide_eq_false (by omega)
    rw[g,decide_eq_true e]; rfl
nonrec abbrev bb:SF:=(Zae (Za1 6 (eIf (Zgm (Zac 5)) (eOp ixD (Zac 5) (eC (.int 0))) (eC (.int 0))))
 (Zae (sIf (tOf (eOp eqD (Zac 6) (eUn Zj3 (Zac 3)))) (Zae (Zbq (eDM Zj4 (Zac 4) (Zaa (eSl (Zac 5) (Zdq (eC (.int 1))) Ze0) (Zaa (eOp Zn2 (Zac 0) (Zac 5)) Zaf))))
 Zah) (Zae (sIf (tOf (eOp neD (Zac 6) (Zac 3))) (Zae (Zbq (eDM Zj4 (Zac 4) (Zaa (Zac 5) (Zaa (eOp Zn2 (Zac 0) (Zac 5)) Zaf))))
 Zah) Zah)
 Zah))
 Zah))
theorem un {g:D->HD->Option (D×HD)} {f:EF} {σ:SD} {H H1:HD} {d:D} {r:Option (D×HD)} (h1:f σ H=some (d,H1)) (h2:g d H1=r):eUn g f σ H=r:=by
 unfold eUn; rw[h1]; exact h2
theorem bb_ok {p q:Nat} {kvs acc:List (D×D)} {b:Int} {t:Bool} {a1 a2 z6:Option D} {ls:List Int} {H:HD} (hb:0<=b) (hp:H[p]? = some (.dic kvs true)) (hq:H[q]? = some (.dic acc false)) (hl:acc.length<=100000) (hk:(Zbf kvs ls).isSome=true) :
  ∃ (v:D) (z6':Option D),Zbf kvs ls=some v/\bb [some (.ref p),a1,a2,some (.int (if t=true then b+1 else -(b+1))),some (.ref q),some (Zas ls),z6] H=some (.nx,[some (.ref p),a1,a2,some (.int (if t=true then b+1 else -(b+1))),some (.ref q),some (Zas ls),z6'],H.set q (.dic (if Zl3 b t ls=true then acc else Zh2 acc (Zfs b ls) v) false)):=by
 let R:Int:=if t=true then b+1 else -(b+1)
 obtain⟨v,ev⟩:=Wbj.mp hk
 have self:H.set q (.dic acc false)=H:=by
  obtain⟨h1,h2⟩:=Xc.mp hq
  rw[<- h2,Wcf h1]
 have s1:Za1 6 (eIf (Zgm (Zac 5)) (eOp ixD (Zac 5) (eC (.int 0))) (eC (.int 0))) [some (.ref p),a1,a2,some (.int R),some (.ref q),some (Zas ls),z6] H=some (.nx,[some (.ref p),a1,a2,some (.int R),some (.ref q),some (Zas ls),some (.int (hd0 ls))],H):=by
  refine Znw (d:=.int (hd0 ls)) ?_
  have tv:Zgm (Zac 5) [some (.ref p),a1,a2,some (.int R),some (.ref q),some (Zas ls),z6] H=some (!ls.isEmpty,H):=by
   unfold Zgm; rw[vr (d:=Zas ls) rfl]; simp[Zas,Zun]
  unfold eIf
  rw[tv]
  cases ls with
  | nil=>rfl
  | cons l r =>
   have:atI ((l::r).map D.int) 0=some (.int l):=Zdo (j:=0) rfl
   show eOp ixD (Zac 5) (eC (.int 0)) [some (.ref p),a1,a2,some (.int R),some (.ref q),some (Zas (l::r)),z6] H=some (.int l,H)
   exact op (vr rfl) rfl (ixT this)
 let σ:SD:=[some (.ref p),a1,a2,some (.int R),some (.ref q),some (Zas ls),some (.int (hd0 ls))]
 have dg:eOp Zn2 (Zac 0) (Zac 5) σ H=some (v,H):=by
  refine op (vr rfl) (vr rfl) ?_
  simp[Zn2,Zx7,hp,Zja,ev]
 have t1:tOf (eOp eqD (Zac 6) (eUn Zj3 (Zac 3))) σ H=some (hd0 ls == -R,H):=tof (op (vr rfl) (un (vr rfl) rfl) (Zuh _ _ _))
 have t2:tOf (eOp neD (Zac 6) (Zac 3)) σ H=some (!(hd0 ls==R),H):=tof (op (vr rfl) (vr rfl) (Yb1 _ _ _))
 have id1:Zox (.ref q) H=true:=by simp[Zox,hq]
 obtain⟨A1,A2,A3⟩:=act (b:=b) (t:=t) (ls:=ls) hb
 refine⟨v,some (.int (hd0 ls)),ev,?_⟩
 show bb [some (.ref p),a1,a2,some (.int R),some (.ref q),some (Zas ls),z6] H=some (.nx,σ,_)
 unfold bb
 rw[Zcb s1]
 by_cases c1:hd0 ls = -R
 ·obtain⟨h1,h2⟩:=A1 c1
  have sd:slD (Zas ls) (some 1) none H=some (Zas (ls.drop 1),H):=by
   have:=sllo (xs:=ls.map D.int) (k:=1) (H:=H)
   rw[<- Wbo] at this
   exact this
  obtain⟨z,es⟩:=Zot (k:=ls.drop 1) (v:=v) hq hl
  rw[h1,if_neg (by simp),h2]
  refine(Zcb (σ1:=σ) (H1:=H.set q (.dic (Zh2 acc (ls.drop 1) v) false)) ?_).trans rfl
  rw[Zma t1,if_pos (by simpa using c1)]
  exact(Zcb (ex (dm (vr rfl) id1 (ac (sl (vr rfl) (os rfl) on sd) (ac dg an)) es))).trans rfl
 ·by_cases c2:hd0 ls=R
  ·rw[A3 c1 c2,if_pos rfl,self]
   refine(Zcb (σ1:=σ) (H1:=H) ?_).trans rfl
   rw[Zma t1,if_neg (by simpa using c1)]
   refine(Zcb (σ1:=σ) (H1:=H) ?_).trans rfl
   rw[Zma t2,if_neg (by simpa using c2)]
   rfl
  ·obtain⟨h1,h2⟩:=A2 c1 c2
   obtain⟨z,es⟩:=Zot (k:=ls) (v:=v) hq hl
   rw[h1,if_neg (by simp),h2]
   refine(Zcb (σ1:=σ) (H1:=H.set q (.dic (Zh2 acc ls v) false)) ?_).trans rfl
   rw[Zma t1,if_neg (by simpa using c1)]
   refine(Zcb (σ1:=σ) (H1:=H.set q (.dic (Zh2 acc ls v) false)) ?_).trans rfl
   rw[Zma t2,if_pos (by simpa using c2)]
   exact(Zcb (ex (dm (vr rfl) id1 (ac (vr rfl) (ac dg an)) es))).trans rfl
theorem Zsb {p q:Nat} {kvs:List (D×D)} {b:Int} {t:Bool} {a1 a2:Option D} (hb:0<=b) (hpq:p≠q):∀ (qs:List (List Int)) (acc:List (D×D)) (H:HD) (z5 z6:Option D),H[p]? = some (.dic kvs true)->H[q]? = some (.dic acc false)->acc.length+qs.length<=100000->(∀ ls∈qs,(Zbf kvs ls).isSome=true) ->
  ∃ (acc':List (D×D)) (z5' z6':Option D),Zhe [(p,.dic kvs true)] (gNm 5) bb (qs.map Zas) [some (.ref p),a1,a2,some (.int (if t=true then b+1 else -(b+1))),some (.ref q),z5,z6] H=some (.nx,[some (.ref p),a1,a2,some (.int (if t=true then b+1 else -(b+1))),some (.ref q),z5',z6'],H.set q (.dic acc' false)) /\
   (∀ x∈acc',x∈acc\/∃ ls∈qs,Zl3 b t ls=false/\x.1=Zas (Zfs b ls))/\(∀ k,(Zbf acc k).isSome=true->(Zbf acc' k).isSome=true)/\(∀ ls∈qs,Zl3 b t ls=false->(Zbf acc' (Zfs b ls)).isSome=true)/\acc'.length<=acc.length+qs.length/\(∀ x∈acc',x∈acc\/∃ ls∈qs,Zl3 b t ls=false/\x.1=Zas (Zfs b ls)/\Zbf kvs ls=some x.2)
 | [],acc,H,z5,z6,hp,hq,_,_=>by
  obtain⟨h1,h2⟩:=Xc.mp hq
  refine⟨acc,z5,z6,?_,fun p hp=>.inl hp,fun _ h=>h,by simp,by simp,fun p hp=>.inl hp⟩
  rw[Wdi,Zhe,if_pos (by intro x hx; simp at hx; subst hx; exact hp),<- h2,Wcf h1]
 | ls::qs,acc,H,z5,z6,hp,hq,hl,hk=>by
  have lt:=(Xc.mp hq).1
  rw[Xs,Zhe,if_pos (by intro x hx; simp at hx; subst hx; exact hp)]
  simp only[gNm,Weu,Zb]
  obtain⟨v,z6',ev,e1⟩:=bb_ok (t:=t) (a1:=a1) (a2:=a2) (z6:=z6) (ls:=ls) hb hp hq (by omega) (hk ls (by simp))
  rw[e1]
  simp only[Zb]
  let acc1:=if Zl3 b t ls=true then acc else Zh2 acc (Zfs b ls) v
  have al:acc1.length<=acc.length+1:=by
   show (if Zl3 b t ls=true then acc else Zh2 acc (Zfs b ls) v).length<=_
   split
   ·omega
   ·exact Zs2 _ _ _
  obtain⟨acc',z5',z6'',e,a1',a2',a3',a4',a5'⟩:=Zsb (p:=p) (q:=q) (kvs:=kvs) (t:=t) (a1:=a1) (a2:=a2) hb hpq qs acc1 (H.set q (.dic acc1 false)) (some (Zas ls)) z6' (by rw[Waj (Uo hpq)]; exact hp) (by rw[Waz lt]) (by simp at hl ⊢; omega) (fun l hl=>hk l (by simp[hl]))
  have mono:∀ k,(Zbf acc k).isSome=true->(Zbf acc1 k).isSome=true:=fun k hk=>by
   show (Zbf (if Zl3 b t ls=true then acc else Zh2 acc (Zfs b ls) v) k).isSome=true
   split
   ·exact hk
   ·rw[Zih,hk]; rfl
  have lenF:acc'.length<=acc.length+(ls::qs).length:=by
   have e8:(ls::qs).length=qs.length+1:=rfl
   have e9:acc'.length<=acc1.length+qs.length:=a4'
   omega
  refine⟨acc',z5',z6'',by rw[e,List.set_set],fun x hx=>?_,fun k hk=>a2' k (mono k hk),fun l hl' hh=>?_,lenF,fun x hx=>?_⟩
  ·rcases a1' x hx with h | ⟨l,h1,h2⟩
   ·cases hc:Zl3 b t ls with
    | true =>
     have:acc1=acc:=if_pos hc
     rw[this] at h; exact .inl h
    | false =>
     have:acc1=Zh2 acc (Zfs b ls) v:=if_neg (by rw[hc]; simp)
     rw[this] at h
     rcases Ztr h with h | h
     ·exact .inl h
     ·exact .inr ⟨ls,by simp,hc,h⟩
   ·exact .inr ⟨l,by simp[h1],h2⟩
  ·rcases Xh.mp hl' with rfl | hl'
   ·refine a2' _ ?_
    have:acc1=Zh2 acc (Zfs b l) v:=if_neg (by rw[hh]; simp)
    rw[this,Zih]; simp
   ·exact a3' l hl' hh
  ·rcases a5' x hx with h | ⟨l,h1,h2⟩
   ·cases hc:Zl3 b t ls with
    | true =>
     have:acc1=acc:=if_pos hc
     rw[this] at h; exact .inl h
    | false =>
     have:acc1=Zh2 acc (Zfs b ls) v:=if_neg (by rw[hc]; simp)
     rw[this] at h
     rcases Zqa h with h | h
     ·exact .inl h
     ·exact .inr ⟨ls,by simp,hc,by rw[h],by rw[h]; exact ev⟩
   ·exact .inr ⟨l,by simp[h1],h2⟩
theorem Zm2 {kvs:List (D×D)} {k:List Int} (h:(Zbf kvs k).isSome=true):∃ p∈kvs,nk p.1=some k:=by
 unfold Zbf at h
 rw[Wez] at h
 obtain⟨p,e⟩:=Wbj.mp h
 exact⟨p,Wck e,by have:=Wcr e; simpa using this⟩
theorem Zss {kvs:List (D×D)} {k:List Int} {p:D×D} (hp:p∈kvs) (h:nk p.1=some k):(Zbf kvs k).isSome=true:=by
 unfold Zbf
 rw[Wez,List.find?_isSome]
 exact⟨p,hp,by simp[h]⟩
theorem Zva {kvs:List (D×D)} {k:List Int} {v:D} (h:Zbf kvs k=some v):∃ p∈kvs,nk p.1=some k/\p.2=v:=by
 unfold Zbf at h
 obtain⟨p,e,rfl⟩:=Zm h
 exact⟨p,Wck e,by have:=Wcr e; simpa using this,rfl⟩
theorem Zsm {rss:List (List Int)} {bs:List Bool}:∀ {kvs:List (D×D)},(∀ p∈kvs,∃ ls∈rss,kept bs ls=false/\p.1=Zas (rest bs ls))->∃ qs:List (List Int),kvs.map (·.1)=qs.map Zas/\∀ q∈qs,∃ ls∈rss,kept bs ls=false/\q=rest bs ls
 | [],_=>⟨[],rfl,by simp⟩
 | p::kvs,h=>by
  obtain⟨ls,h1,h2,h3⟩:=h p (by simp)
  obtain⟨qs,e,g⟩:=Zsm (kvs:=kvs) fun x hx=>h x (by simp[hx])
  refine⟨rest bs ls::qs,by rw[Xs,Xs,e,h3],fun q hq=>?_⟩
  rcases Xh.mp hq with rfl | hq
  ·exact⟨ls,h1,h2,rfl⟩
  ·exact g q hq
theorem Zmy {rss:List (List Int)} {m:Int} {bs:List Bool} {t:Bool} {kvs:List (D×D)} {fz:Bool} {p:Nat} {H:HD} (hu:∀ ls∈rss,Up m 0 ls) (hl:rss.length<=1000) (hp:H[p]? = some (.dic kvs fz)) (dr:DR rss bs kvs) :
  ∃ (kvs':List (D×D)) (H':HD) (q:Nat),Zaz [.ref p,.int ((bs.length:Int)+1),.bl t] H=some (.ref q,H')/\H'[q]? = some (.dic kvs' false)/\DR rss (bs++[t]) kvs'/\Fz H H':=by
 obtain⟨qs,eq,gq⟩:=Zsm dr.key
 let b:Int:=bs.length
 have hb:0<=b:=by show (0:Int)<=bs.length; omega
 let R:Int:=if t=true then b+1 else -(b+1)
 have ltp:=(Xc.mp hp).1
 have s1:Za1 3 (eIf (Zgm (Zac 2)) (Zac 1) (eUn Zj3 (Zac 1))) [some (.ref p),some (.int (b+1)),some (.bl t),none,none,none,none] H=some (.nx,[some (.ref p),some (.int (b+1)),some (.bl t),some (.int R),none,none,none],H):=by
  refine Znw (d:=.int R) ?_
  cases t<;>rfl
 have s2:Za1 4 eDN [some (.ref p),some (.int (b+1)),some (.bl t),some (.int R),none,none,none] H=some (.nx,[some (.ref p),some (.int (b+1)),some (.bl t),some (.int R),some (.ref H.length),none,none],H++[.dic [] false]):=rfl
 let H1:HD:=(H++[DO.dic [] false]).set p (DO.dic kvs true)
 have hp0:(H++[DO.dic [] false])[p]? = some (.dic kvs fz):=by rw[Xm ltp]; exact hp
 have hp1:H1[p]? = some (.dic kvs true):=by rw[Waz (by simp; omega)]
 have hq1:H1[H.length]? = some (.dic [] false):=by rw[Waj (by omega)]; simp
 have lq:qs.length=kvs.length:=by have:=congrArg Wbv eq; simpa using this.symm
 have kk:∀ ls∈qs,(Zbf kvs ls).isSome=true:=fun ls hls=>by
  have:Zas ls∈kvs.map (·.1):=by rw[eq]; exact Weo hls
  obtain⟨x,hx,ex⟩:=Xp.mp this
  exact Zss hx (by rw[ex,Zja])
 have dl:=dr.len
 obtain⟨acc,z5,z6,e,a1,a2,a3,a4,a5⟩:=Zsb (p:=p) (q:=H.length) (kvs:=kvs) (b:=b) (t:=t) (a1:=some (.int (b+1))) (a2:=some (.bl t)) hb (by omega) qs [] H1 none none hp1 hq1 (by simp; omega) kk
 have e1:Zd1 (iDic (Zac 0)) (gNm 5) bb [some (.ref p),some (.int (b+1)),some (.bl t),some (.int R),some (.ref H.length),none,none] (H++[.dic [] false])=some (.nx,[some (.ref p),some (.int (b+1)),some (.bl t),some (.int R),some (.ref H.length),z5,z6],H1.set H.length (.dic acc false)):=by
  unfold Zd1 iDic
  rw[vr (d:=.ref p) rfl]
  simp only[Zb,hp0]
  rw[eq]
  exact e
 have lt1:H.length<H1.length:=(Xc.mp hq1).1
 refine⟨acc,H1.set H.length (.dic acc false),H.length,?_,by rw[Waz lt1],⟨fun x hx=>?_,fun ls hls hk=>?_,?_,fun x hx=>?_⟩,⟨fun mm o ho=>?_,by simp[H1]⟩⟩
 ·show ((Zcf [some (.ref p),some (.int (b+1)),some (.bl t),none,none,none,none] H).bind _)=_
  unfold Zcf
  rw[Zcb s1,Zcb s2,Zcb e1]
  rfl
 ·rcases a1 x hx with h | ⟨q,h1,h2,h3⟩
  ·simp at h
  ·obtain⟨ls,g1,g2,rfl⟩:=gq q h1
   obtain⟨n1,n2⟩:=Zhk bs t ls 0 (Wdw _) (hu ls g1)
   refine⟨ls,g1,?_,by rw[n1]; exact h3⟩
   rw[n2,g2]; exact h2
 ·obtain⟨n1,n2⟩:=Zhk bs t ls 0 (Wdw _) (hu ls hls)
  rw[n2,Bool.or_eq_false_iff] at hk
  obtain⟨x,hx,ex⟩:=Zm2 (dr.all ls hls hk.1)
  have hm:x.1∈qs.map Zas:=by rw[<- eq]; exact Weo hx
  obtain⟨q,hq,eqq⟩:=Xp.mp hm
  have:q=rest bs ls:=by rw[<- eqq,Zja] at ex; exact Xy.inj ex
  subst this
  rw[n1]
  exact a3 _ hq hk.2
 ·simp at a4; omega
 ·rcases a5 x hx with h | ⟨q,h1,h2,h3,h4⟩
  ·simp at h
  ·obtain⟨y,y1,y2,y3⟩:=Zva h4
   obtain⟨i,ls,g1,g2,rfl⟩:=dr.val y y1
   have:q=rest bs ls:=by rw[Zja] at y2; exact(Xy.inj y2).symm
   subst this
   obtain⟨n1,n2⟩:=Zhk bs t ls 0 (Wdw _) (hu ls (Wae g1))
   exact⟨i,ls,g1,by rw[n2,g2]; exact h2,Prod.ext (by rw[n1]; exact h3) y3.symm⟩
 ·have lm:mm<H.length:=(Xc.mp ho).1
  rw[Waj (by omega)]
  by_cases c:p=mm
  ·subst c
   rw[hp] at ho
   cases ho
   cases fz with
   | true=>exact .inl hp1
   | false=>exact .inr ⟨kvs,rfl,hp1⟩
  ·refine .inl ?_
   show ((H++[DO.dic [] false]).set p (.dic kvs true))[mm]? = some o
   rw[Waj c,Xm lm]; exact ho
theorem Zmg {rss:List (List Int)} {m:Int} {r pl:D} (hu:∀ ls∈rss,Up m 0 ls) (hl:rss.length<=1000):∀ (ts bs:List Bool) (kvs:List (D×D)) (p:Nat) (fz:Bool) (H:HD) (z3 z4:Option D),H[p]? = some (.dic kvs fz)->DR rss bs kvs ->
  ∃ (kvs':List (D×D)) (H':HD) (q:Nat) (fz':Bool) (z3' z4':Option D),Zhe [] (gTp 2 (gCn (gNm 3) (gCn (gNm 4) gNl))) (Zae (Za1 2 (Zal 3 Zaz (Zaa (Zac 2) (Zaa (Zac 3) (Zaa (Zac 4) Zaf))))) Zah) (Zb5 ((bs.length:Int)+1) (ts.map .bl)) [some r,some pl,some (.ref p),z3,z4] H=some (.nx,[some r,some pl,some (.ref q),z3',z4'],H')/\H'[q]? = some (.dic kvs' fz')/\DR rss (bs++ts) kvs'/\Fz H H'
 | [],bs,kvs,p,fz,H,z3,z4,hp,dr=>⟨kvs,H,p,fz,z3,z4,by rw[Wdi,Zb5,Zhe,if_pos Zhz],hp,by rw[Xw]; exact dr,Fz.refl⟩
 | t::ts,bs,kvs,p,fz,H,z3,z4,hp,dr=>by
  rw[Xs,Zb5,Zhe,if_pos Zhz]
  simp only[gTp,Wca,Wam,gCn,gNm,gNl,Weu,Zb,if_true,Wcg,Nat.reduceAdd]
  obtain⟨k1,H1,q1,e1,g1,d1,x1⟩:=Zmy (t:=t) hu hl hp dr
  have st:(Zae (Za1 2 (Zal 3 Zaz (Zaa (Zac 2) (Zaa (Zac 3) (Zaa (Zac 4) Zaf))))) Zah) [some r,some pl,some (.ref p),some (.int ((bs.length:Int)+1)),some (.bl t)] H=some (.nx,[some r,some pl,some (.ref q1),some (.int ((bs.length:Int)+1)),some (.bl t)],H1) :=
   (Zcb (Znw (ca (ac (vr rfl) (ac (vr rfl) (ac (vr rfl) an))) rfl e1))).trans rfl
  rw[st]
  simp only[Zb]
  obtain⟨k2,H2,q2,fz2,z3',z4',e2,g2,d2,x2⟩:=Zmg (r:=r) (pl:=pl) hu hl ts (bs++[t]) k1 q1 false H1 (some (.int ((bs.length:Int)+1))) (some (.bl t)) g1 d1
  have ec:(((bs++[t]).length:Nat):Int)+1=(bs.length:Int)+1+1:=by simp
  rw[ec] at e2
  refine⟨k2,H2,q2,fz2,z3',z4',e2,g2,?_,x1.trans x2⟩
  rw[Wax] at d2
  exact d2
theorem Zj0 {rss:List (List Int)} {m:Int} {bs:List Bool} (hu:∀ ls∈rss,Up m 0 ls) (hl:rss.length<=1000) (H:HD) :
  ∃ (kvs:List (D×D)) (H':HD) (q:Nat) (fz:Bool),Zbp [.tup (rss.map Zas),.tup (bs.map .bl)] H=some (.ref q,H')/\H'[q]? = some (.dic kvs fz)/\DR rss bs kvs/\Fz H H':=by
 obtain⟨k1,H1,q1,e1,g1,d1,x1⟩:=Zwb hu hl H
 have s1:Za1 2 (Zal 1 Zcl (Zaa (Zac 0) Zaf)) [some (.tup (rss.map Zas)),some (.tup (bs.map .bl)),none,none,none] H=some (.nx,[some (.tup (rss.map Zas)),some (.tup (bs.map .bl)),some (.ref q1),none,none],H1):=Znw (ca (ac (vr rfl) an) rfl e1)
 obtain⟨k2,H2,q2,fz2,z3',z4',e2,g2,d2,x2⟩:=Zmg (r:=.tup (rss.map Zas)) (pl:=.tup (bs.map .bl)) hu hl bs [] k1 q1 false H1 none none g1 d1
 have e3:Zd1 (Zpp (Zaa (Zac 1) Zaf)) (gTp 2 (gCn (gNm 3) (gCn (gNm 4) gNl))) (Zae (Za1 2 (Zal 3 Zaz (Zaa (Zac 2) (Zaa (Zac 3) (Zaa (Zac 4) Zaf))))) Zah) [some (.tup (rss.map Zas)),some (.tup (bs.map .bl)),some (.ref q1),none,none] H1=some (.nx,[some (.tup (rss.map Zas)),some (.tup (bs.map .bl)),some (.ref q2),z3',z4'],H2):=by
  unfold Zd1 Zpp
  rw[ac (vr rfl) an]
  exact e2
 refine⟨k2,H2,q2,fz2,?_,g2,d2,x1.trans x2⟩
 show ((Zbb [some (.tup (rss.map Zas)),some (.tup (bs.map .bl)),none,none,none] H).bind _)=_
 unfold Zbb
 rw[Zcb s1,Zcb e3]
 rfl
nonrec def kS (d:D):Bool:=match d with
 | .str s=>s == "some"
 | _=>false
nonrec def Zbs (b:Bool):D:=if b then .str "some" else .str "all"
theorem Ziu {d:D} (h:Zby d):d=Zbs (kS d):=by
 rcases h with rfl | rfl
 ·have:kS (.str "all")=false:=by decide
  rw[this]; rfl
 ·have:kS (.str "some")=true:=by decide
  rw[this]; rfl
nonrec def W (ks:List D) (rss:List (List Int)):Nat->List Bool->Bool
 | 0,bs=>rss.all (kept bs)
 | j+1,bs =>
  let who:=kS (ks.getD bs.length .non)
  if W ks rss j (bs++[false])==who||W ks rss j (bs++[true])==who then who else !who
theorem Zmp {bs:List Bool} {t:Bool} {ls:List Int} {m:Int} (hu:Up m 0 ls) (h:kept bs ls=true):kept (bs++[t]) ls=true:=by
 rw[(Zhk bs t ls 0 (Wdw _) hu).2,h]; rfl
theorem Zuz {ks:List D} {rss:List (List Int)} {m:Int} (hu:∀ ls∈rss,Up m 0 ls):∀ (j:Nat) (bs:List Bool),(∀ ls∈rss,kept bs ls=true)->W ks rss j bs=true
 | 0,bs,h=>by unfold W; rw[Waf]; exact h
 | j+1,bs,h=>by
  have a:=Zuz (ks:=ks) hu j (bs++[false]) fun ls hl=>Zmp (hu ls hl) (h ls hl)
  have b:=Zuz (ks:=ks) hu j (bs++[true]) fun ls hl=>Zmp (hu ls hl) (h ls hl)
  unfold W
  rw[a,b]
  cases kS (ks.getD bs.length .non)<;>rfl
theorem Zmu {bs:List Bool} {t:Bool} {ls:List Int} {m:Int} (hu:Up m 0 ls) (h:kept bs ls=false/\rest bs ls=[]):kept (bs++[t]) ls=false/\rest (bs++[t]) ls=[]:=by
 obtain⟨n1,n2⟩:=Zhk bs t ls 0 (Wdw _) hu
 rw[n1,n2,h.1,h.2]; exact⟨rfl,rfl⟩
theorem Zyc {ks:List D} {rss:List (List Int)} {m:Int} {ls:List Int} (hl:ls∈rss) (hu:Up m 0 ls):∀ (j:Nat) (bs:List Bool),kept bs ls=false/\rest bs ls=[]->W ks rss j bs=false
 | 0,bs,h=>by
  unfold W
  cases e:rss.all (kept bs) with
  | false=>rfl
  | true=>rw[Waf.mp e ls hl] at h; cases h.1
 | j+1,bs,h=>by
  have a:=Zyc (ks:=ks) hl hu j (bs++[false]) (Zmu hu h)
  have b:=Zyc (ks:=ks) hl hu j (bs++[true]) (Zmu hu h)
  unfold W
  rw[a,b]
  cases kS (ks.getD bs.length .non)<;>rfl
theorem Zxv {m:Int} (bs:List Bool) (h:m<=bs.length):∀ (ls:List Int) (last:Int),Up m last ls->rest bs ls=[]
 | [],_,_=>rfl
 | l::r,last,u=>by
  have o:opn bs l=false:=decide_eq_false (by have:=u.2.1; omega)
  unfold rest
  rw[Wbd (by rw[o]; simp)]
  exact Zxv bs h r (Zao l) u.2.2
theorem Zvo (b:Bool) (H:HD):Zcc [Zbs b] H=some (Zbs (!b),H):=by
 cases b
 ·have:((("all" : Str))==("some" : Str))=false:=by decide
  simp[Zcc,Zcz,Zaw,Zbs,Zae,Za6,eIf,tOf,eOp,eqD,Zqd,Zac,eC,blD,this]
 ·simp[Zcc,Zcz,Zaw,Zbs,Zae,Za6,eIf,tOf,eOp,eqD,Zqd,Zac,eC,blD]
theorem Ztn (a b:Bool) (H:HD):eqD (Zbs a) (Zbs b) H=some (.bl (a==b),H):=by
 have e1:((("all" : Str))==("some" : Str))=false:=by decide
 have e2:((("some" : Str))==("all" : Str))=false:=by decide
 cases a<;>cases b<;>simp[eqD,Zqd,Zbs,e1,e2]
nonrec def Zbz (bs:List Bool):D:=.tup (bs.map .bl)
nonrec abbrev wb (F:FF):SF:=(Zae (sIf (tOf (eOp eqD (Zal 3 F (Zaa (Zac 0) (Zaa (Zal 3 Zaz (Zaa (Zac 1) (Zaa (eOp Zbo (Zac 2) (eC (.int 1))) (Zaa (Zac 4) Zaf)))) (Zaa (eOp Zbo (Zac 2) (eC (.int 1))) Zaf)))) (Zac 3))) (Zae (Za6 (Zac 3))
 Zah) Zah)
 Zah)
theorem Zry {ks:List D} {rss:List (List Int)} (hk:∀ d∈ks,Zby d) (hu:∀ ls∈rss,Up ks.length 0 ls) (hl:rss.length<=1000):∀ (j f:Nat) (bs:List Bool) (kvs:List (D×D)) (p:Nat) (fz:Bool) (H:HD),j<f->bs.length+j=ks.length->H[p]? = some (.dic kvs fz)->DR rss bs kvs ->
  ∃ H',Yac 3 5 Zau f [.tup ks,.ref p,.int bs.length] H=some (Zbs (W ks rss j bs),H')/\Fz H H'
 | j,0,bs,kvs,p,fz,H,hf,_,_,_=>by omega
 | j,f+1,bs,kvs,p,fz,H,hf,hj,hp,dr=>by
  show ∃ H',((Zau (Yac 3 5 Zau f) [some (.tup ks),some (.ref p),some (.int bs.length),none,none] H).bind _)=_/\_
  generalize hF:Yac 3 5 Zau f=F
  let σ0:SD:=[some (.tup ks),some (.ref p),some (.int bs.length),none,none]
  have t1:tOf (eOp dinD (Zez Zaf) (Zac 1)) σ0 H=some ((Zbf kvs []).isSome,H):=by
   refine tof (op (tp (ds:=[]) an (by simp)) (vr rfl) ?_)
   simp[dinD,Zx7,hp,nk,Zn6]
  have t2:tOf (eOp eqD (eCB Zq0 (Zaa (Zac 1) Zaf)) (eC (.int 0))) σ0 H=some ((kvs.length:Int)==0,H):=by
   refine tof (op (cb (ac (vr rfl) an) (r:=some (.int kvs.length,H)) ?_) rfl (Zuh _ _ _))
   simp[Zq0,Zx7,hp]
  cases c1:(Zbf kvs []).isSome with
  | true =>
   rw[c1] at t1
   obtain⟨x,hx,ex⟩:=Zm2 c1
   obtain⟨ls,g1,g2,g3⟩:=dr.key x hx
   have r0:rest bs ls=[]:=by rw[g3,Zja] at ex; exact Xy.inj ex
   refine⟨H,?_,Fz.refl⟩
   unfold Zau
   rw[hit (σ1:=σ0) t1 (rt rfl),Zyc g1 (hu ls g1) j bs ⟨g2,r0⟩]
   rfl
  | false =>
   rw[c1] at t1
   by_cases c2:kvs=[]
   ·subst c2
    have al:∀ ls∈rss,kept bs ls=true:=fun ls h=>by
     cases e:kept bs ls with
     | true=>rfl
     | false=>have:=dr.all ls h e; simp[Zbf] at this
    refine⟨H,?_,Fz.refl⟩
    unfold Zau
    rw[skip t1,hit (σ1:=σ0) t2 (rt rfl),Zuz hu j bs al]
    rfl
   ·have t2':tOf (eOp eqD (eCB Zq0 (Zaa (Zac 1) Zaf)) (eC (.int 0))) σ0 H=some (false,H):=by
     rw[t2]
     have:((kvs.length:Int)==0)=false:=by
      have:=Wep.mpr c2
      simp; exact c2
     rw[this]
    -- a name is left
    match j,hj,hf with
    | 0,hj,hf =>
     exfalso
     obtain⟨x,kr,e⟩:=List.exists_cons_of_ne_nil c2
     obtain⟨ls,g1,g2,g3⟩:=dr.key x (by rw[e]; simp)
     have r0:=Zxv bs (m:=ks.length) (by omega) ls 0 (hu ls g1)
     have:=dr.all ls g1 g2
     rw[r0,c1] at this; cases this
    | j+1,hj,hf =>
     have lt:bs.length<ks.length:=by omega
     let who:Bool:=kS (ks.getD bs.length .non)
     have gw:ks[bs.length]? = some (Zbs who):=by
      have e0:ks.getD bs.length .non=ks[bs.length]:=by simp[List.getD,lt]
      have:=Ziu (hk ks[bs.length] (Xo lt))
      rw[Xd lt,this]
      show some (Zbs (kS ks[bs.length]))=some (Zbs (kS (ks.getD bs.length .non)))
      rw[e0]
     have s3:Za1 3 (eOp ixD (Zac 0) (Zac 2)) σ0 H=some (.nx,[some (.tup ks),some (.ref p),some (.int bs.length),some (Zbs who),none],H):=Znw (op (vr rfl) (vr rfl) (ixT (Zdo gw)))
     -- one pick
     have one:∀ (t:Bool) (z4:Option D) (H0:HD) (fz0:Bool),H0[p]? = some (.dic kvs fz0)->∃ H1,tOf (eOp eqD (Zal 3 F (Zaa (Zac 0) (Zaa (Zal 3 Zaz (Zaa (Zac 1) (Zaa (eOp Zbo (Zac 2) (eC (.int 1))) (Zaa (Zac 4) Zaf)))) (Zaa (eOp Zbo (Zac 2) (eC (.int 1))) Zaf)))) (Zac 3)) [some (.tup ks),some (.ref p),some (.int bs.length),some (Zbs who),some (.bl t)] H0=some (W ks rss j (bs++[t])==who,H1)/\Fz H0 H1:=by
      intro t z4 H0 fz0 h0
      obtain⟨k1,H1,q1,e1,g1,d1,x1⟩:=Zmy (t:=t) hu hl h0 dr
      obtain⟨H2,e2,x2⟩:=Zry hk hu hl j f (bs++[t]) k1 q1 false H1 (by omega) (by simp; omega) g1 d1
      have el:(((bs++[t]).length:Nat):Int)=(bs.length:Int)+1:=by simp
      rw[el,hF] at e2
      refine⟨H2,tof (op (ca (ac (vr rfl) (ac (ca (ac (vr rfl) (ac (op (vr rfl) rfl (adI _ _ _)) (ac (vr rfl) an))) rfl e1) (ac (op (vr rfl) rfl (adI _ _ _)) an))) rfl e2) (vr rfl) (Ztn _ _ _)),x1.trans x2⟩
     obtain⟨H1,o1,x1⟩:=one false none H fz hp
     obtain⟨fz1,h1⟩:=x1.dic hp
     obtain⟨H2,o2,x2⟩:=one true none H1 fz1 h1
     have Wd:W ks rss (j+1) bs=(if W ks rss j (bs++[false])==who||W ks rss j (bs++[true])==who then who else !who):=by
      conv=>lhs; unfold W
     have it:∀ Hx,iSq (eC k_TRUTHS) [some (.tup ks),some (.ref p),some (.int bs.length),some (Zbs who),none] Hx=some (([.bl false,.bl true],[]),Hx):=fun _=>rfl
     have st:∀ (t b:Bool) (Ha Hb:HD),tOf (eOp eqD (Zal 3 F (Zaa (Zac 0) (Zaa (Zal 3 Zaz (Zaa (Zac 1) (Zaa (eOp Zbo (Zac 2) (eC (.int 1))) (Zaa (Zac 4) Zaf)))) (Zaa (eOp Zbo (Zac 2) (eC (.int 1))) Zaf)))) (Zac 3)) [some (.tup ks),some (.ref p),some (.int bs.length),some (Zbs who),some (.bl t)] Ha=some (b,Hb) ->
       wb F [some (.tup ks),some (.ref p),some (.int bs.length),some (Zbs who),some (.bl t)] Ha=some (if b=true then .rt (Zbs who) else .nx,[some (.tup ks),some (.ref p),some (.int bs.length),some (Zbs who),some (.bl t)],Hb):=by
      intro t b Ha Hb h
      cases b with
      | true=>exact hit h (rt (vr rfl))
      | false=>exact(skip h).trans rfl
     unfold Zau
     rw[skip t1,skip t2',Zcb s3]
     cases w1:(W ks rss j (bs++[false])==who) with
     | true =>
      rw[w1] at o1
      refine⟨H1,?_,x1⟩
      have lp:Zd1 (iSq (eC k_TRUTHS)) (gNm 4) (wb F) [some (.tup ks),some (.ref p),some (.int bs.length),some (Zbs who),none] H=some (.rt (Zbs who),[some (.tup ks),some (.ref p),some (.int bs.length),some (Zbs who),some (.bl false)],H1):=by
       unfold Zd1
       rw[it]
       simp only[Zb]
       rw[Zhe,if_pos Zhz]
       simp only[gNm,Weu,Zb]
       rw[st _ _ _ _ o1]
       rfl
      rw[Zkq lp,Wd,w1]
      rfl
     | false =>
      rw[w1] at o1
      have lp:Zd1 (iSq (eC k_TRUTHS)) (gNm 4) (wb F) [some (.tup ks),some (.ref p),some (.int bs.length),some (Zbs who),none] H=some (if (W ks rss j (bs++[true])==who)=true then .rt (Zbs who) else .nx,[some (.tup ks),some (.ref p),some (.int bs.length),some (Zbs who),some (.bl true)],H2):=by
       unfold Zd1
       rw[it]
       simp only[Zb]
       rw[Zhe,if_pos Zhz]
       simp only[gNm,Weu,Zb]
       rw[st _ _ _ _ o1]
       simp only[Zb,Wao,if_false]
       rw[Zhe,if_pos Zhz]
       simp only[gNm,Weu,Zb]
       rw[st _ _ _ _ o2]
       cases (W ks rss j (bs++[true])==who) with
       | true=>rfl
       | false =>
        simp only[Zb,Wao,if_false]
        rw[Zhe,if_pos Zhz]
      refine⟨H2,?_,x1.trans x2⟩
      cases w2:(W ks rss j (bs++[true])==who) with
      | true =>
       rw[w2,if_pos rfl] at lp
       rw[Zkq lp,Wd,w1,w2]
       rfl
      | false =>
       rw[w2,if_neg (by simp)] at lp
       have eo:Zal 1 Zcc (Zaa (Zac 3) Zaf) [some (.tup ks),some (.ref p),some (.int bs.length),some (Zbs who),some (.bl true)] H2=some (Zbs (!who),H2):=ca (ac (vr rfl) an) rfl (Zvo who H2)
       rw[Zcb lp,Zkq (rt eo),Wd,w1,w2]
       rfl
theorem Zt8 {ks:List D} {rss:List (List Int)} {bs:List Bool} {j:Nat} (hk:∀ d∈ks,Zby d) (hu:∀ ls∈rss,Up ks.length 0 ls) (hl:rss.length<=1000) (h8:ks.length<=8) (hj:bs.length+j=ks.length) (H:HD) :
  ∃ H',Zii [.tup [.tup ks,.tup (rss.map Zas)],.tup (bs.map .bl)] H=some (Zbs (W ks rss j bs),H')/\Fz H H':=by
 obtain⟨kvs,H1,q,fz,e1,g1,d1,x1⟩:=Zj0 (bs:=bs) hu hl H
 obtain⟨H2,e2,x2⟩:=Zry hk hu hl j 10 bs kvs q fz H1 (by omega) hj g1 d1
 refine⟨H2,?_,x1.trans x2⟩
 have at0:atI [D.tup ks,D.tup (rss.map Zas)] 0=some (.tup ks):=Zdo (j:=0) rfl
 have at1:atI [D.tup ks,D.tup (rss.map Zas)] 1=some (.tup (rss.map Zas)):=Zdo (j:=1) rfl
 show ((Zgt [some (.tup [.tup ks,.tup (rss.map Zas)]),some (.tup (bs.map .bl))] H).bind _)=_
 unfold Zgt
 have e2':Zcg [.tup ks,.ref q,.int bs.length] H1=some (Zbs (W ks rss j bs),H2):=e2
 have ec:Zal 3 Zcg (Zaa (eOp ixD (Zac 0) (eC (.int 0))) (Zaa (Zal 2 Zbp (Zaa (eOp ixD (Zac 0) (eC (.int 1))) (Zaa (Zac 1) Zaf))) (Zaa (eCB Zbn (Zaa (Zac 1) Zaf)) Zaf))) [some (.tup [.tup ks,.tup (rss.map Zas)]),some (.tup (bs.map .bl))] H=some (Zbs (W ks rss j bs),H2) :=
  ca (ac (op (vr rfl) rfl (ixT at0)) (ac (ca (ac (op (vr rfl) rfl (ixT at1)) (ac (vr rfl) an)) rfl e1) (ac (cb (ac (vr rfl) an) (lenB bs _)) an))) rfl e2'
 rw[Zkq (rt ec)]
 rfl
end K08
namespace K08
open PySem L2 DL LH WP
theorem at0 (a b:D):atI [a,b] 0=some a:=Zdo (j:=0) rfl
theorem at1 (a b:D):atI [a,b] 1=some b:=Zdo (j:=1) rfl
theorem Fz.fm {H H':HD} (x:Fz H H'):Fm [] H H':=⟨fun m o _ h=>x.old m o h,x.len⟩
nonrec def Zar (ks:List D) (rss:List (List Int)):D:=.tup [.tup ks,.tup (rss.map Zas)]
variable {H:HD} {Q:D->HD->Prop}
theorem w_cl0 {ks:List D} {rss:List (List Int)} (q:Q (.tup ks) H):wE (ixD (Zar ks rss) (.int 0) H) Q:=⟨_,_,ixT (at0 _ _),q⟩
theorem w_cl1 {ks:List D} {rss:List (List Int)} (q:Q (.tup (rss.map Zas)) H):wE (ixD (Zar ks rss) (.int 1) H) Q:=⟨_,_,ixT (at1 _ _),q⟩
theorem Yc9 {bs:List Bool} {H:HD} {Q:D->HD->Prop} (q:Q (.int bs.length) H):wE (Zbn [Zbz bs] H) Q:=⟨_,_,lenB bs H,q⟩
theorem Yce {bs:List Bool} {t:Bool} {H:HD} {Q:D->HD->Prop} (h:bs.length<=1000) (q:Q (Zbz (bs++[t])) H):wE (Zbo (Zbz bs) (.tup [.bl t]) H) Q :=
 ⟨Zbz (bs++[t]),H,by unfold Zbz; rw[adT (by simp; omega),Wah]; rfl,q⟩
theorem Zz2 {ks:List D} (hk:∀ d∈ks,Zby d) {i:Nat} (h:i<ks.length):ks[i]? = some (Zbs (kS (ks.getD i .non))):=by
 have e0:ks.getD i .non=ks[i]:=by simp[List.getD,h]
 have:=Ziu (hk ks[i] (Xo h))
 rw[Xd h,e0]
 exact congrArg some this
local macro_rules | `(tactic| fail $s:str)=>do
 if s.getString == "g" then `(tactic| (repeat fail "go")) else if s.getString == "i" then `(tactic| ((repeat fail "go"); (refine WP.w_if ?_; (repeat fail "go")))) else Lean.Macro.throwUnsupported
local macro_rules | `(tactic| fail $s:str)=>do
 if s.getString == "lk" then `(tactic| first | assumption | with_reducible exact WP.last | (with_reducible refine WP.appL ?_; fail "lk"))
 else if s.getString == "go" then do
  let a0 <- `(by with_unfolding_all rfl)
  let a1 <- `(?_)
  let a2 <- `(by first | (simp; done) | (simp; omega) | omega)
  let a3 <- `(by decide)
  let a4 <- `(by with_unfolding_all first | exact(rfl:_=true) | exact(rfl:_=false))
  let a5 <- `(by fail "lk")
  let a6 <- `(by with_unfolding_all exact rfl)
  let t<-([`WP.w_var].map (·,[a0,a1])++[`WP.w_c,`WP.w_seq,`WP.w_kn,`WP.w_set,`WP.w_op,`WP.w_acons,`WP.w_anil,`WP.w_call,`WP.w_cb,`WP.w_tof,`WP.w_bl,`WP.w_bt,`WP.w_bf,`WP.w_bnt,`WP.w_bnf,`WP.w_ret,`WP.w_fr,`WP.w_kr,`WP.w_snil,`WP.w_expr,`WP.w_for,`WP.w_or,`WP.w_an,`WP.w_no,`WP.w_ttru,`WP.w_eif,`WP.w_eno,`WP.w_ean,`WP.w_eorr,`WP.w_un,`WP.w_ch,`WP.w_int,`WP.w_tup,`WP.w_lst,`WP.w_lm,`WP.w_tm,`WP.w_dm,`WP.w_dn,`WP.w_on,`WP.w_os,`WP.w_sl,`WP.w_rv,`WP.w_lc,`WP.w_asg,`WP.w_gnm,`WP.w_gsb,`WP.w_gcn,`WP.w_gnl].map (·,[a1])++[`WP.w_n,`WP.w_gtp,`WP.w_ixT,`WP.w_isN,`WP.w_isnN,`WP.w_isBl,`WP.w_isnBl].map (·,[a0,a1])++[`WP.w_sz,`WP.w_addT].map (·,[a2,a1])++[`WP.w_mod].map (·,[a3,a1])++[`WP.w_fdiv,`WP.w_mulL,`WP.w_mulR].map (·,[a3,a3,a1])++[`WP.w_eqI',`WP.w_neI',`WP.w_eqS',`WP.w_neS'].map (·,[a4,a1])++[`WP.w_lenR,`WP.w_tupR,`WP.w_itR].map (·,[a5,a1])++[`WP.w_ixR].map (·,[a5,a0,a1])++[`WP.w_isi'].map (·,[a0,a0,a4,a1])++[`WP.w_addI,`WP.w_subI,`WP.w_lt,`WP.w_le,`WP.w_gt,`WP.w_ge,`WP.w_slhi,`WP.w_sllo,`WP.w_sllo1,`WP.w_neg,`WP.w_eqI,`WP.w_neI,`WP.w_eqS,`WP.w_neS,`WP.w_lenT,`WP.w_lenF,`WP.w_abs,`WP.w_intI,`WP.w_intB,`WP.w_max,`WP.w_min,`WP.w_truB,`WP.w_truT,`WP.w_truN,`WP.w_isq,`WP.w_itT,`WP.w_itF,`WP.w_ir1,`WP.w_ir2,`WP.w_ir3,`WP.w_idic,`WP.w_enum,`WP.w_enum1,`WP.w_zip,`WP.w_yes,`WP.w_retn,`WP.w_fn,`WP.w_agn,`WP.w_agr,`WP.w_kb,`WP.w_kc,`WP.w_agb,`WP.w_agc,`WP.w_brk,`WP.w_cnt].map (·,[a1])++[`WP.w_bT,`WP.w_bF].map (·,[a6,a1]):List (Lean.Name×List Lean.Term)).foldrM (fun p (r:Lean.TSyntax `tactic) => `(tactic| first | with_reducible refine $(Lean.Syntax.mkApp (Lean.mkIdent p.1) p.2.toArray) | $r:tactic)) (<- `(tactic| fail "no"))
  return t
 else Lean.Macro.throwUnsupported
local macro_rules | `(tactic| fail $s:str)=>do
 if s.getString == "go" then `(tactic| first | with_reducible refine Yc9 ?_ | with_reducible refine Yce (by omega) ?_ | with_reducible refine w_cl0 ?_ | with_reducible refine w_cl1 ?_)
 else Lean.Macro.throwUnsupported
variable {H:HD} {Q:D->HD->Prop}
theorem Zxf {t:TF} {f g:SF} {σ:SD} {R:FD->SD->HD->Prop} (B:Bool) (h:wT (t σ H) fun b H'=>H'=H/\b=B) (ht:B=true->wS (f σ H) R) (hf:B=false->wS (g σ H) R):wS (sIf t f g σ H) R:=by
 obtain⟨b,H1,e,rfl,rfl⟩:=h
 exact w_if ⟨_,_,e,ht,hf⟩
theorem w_mix {cell k:Int} (h0:0<=k) (h1:k<=100) (q:∀ r H',0<=r->r<2147483648->Fm [] H H'->Q (.int r) H'):wE (Zjd [.int cell,.int k] H) Q:=by
 refine Za4 rfl ?_
 show wS (Zff [some (.int cell),some (.int k),none,none] H) _
 unfold Zff
 obtain⟨P,hP,hP2,eP⟩:∃ P:Int,0<P/\P<2147483648/\atI [D.int 2147483647,.int 2147483629,.int 2147483587,.int 2147483579,.int 2147483563,.int 2147483549,.int 2147483543] (k % 7)=some (.int P):=by
  rcases(show k % 7=0\/k % 7=1\/k % 7=2\/k % 7=3\/k % 7=4\/k % 7=5\/k % 7=6 by omega) with h | h | h | h | h | h | h<;>rw[h]
  ·exact⟨2147483647,by omega,by omega,rfl⟩
  ·exact⟨2147483629,by omega,by omega,rfl⟩
  ·exact⟨2147483587,by omega,by omega,rfl⟩
  ·exact⟨2147483579,by omega,by omega,rfl⟩
  ·exact⟨2147483563,by omega,by omega,rfl⟩
  ·exact⟨2147483549,by omega,by omega,rfl⟩
  ·exact⟨2147483543,by omega,by omega,rfl⟩
 fail "g"
 refine w_ixR last eP ?_
 fail "g"
 have c0:=Waq cell (show (998244353:Int)≠0 by decide)
 have c1:=Wai cell (show (0:Int)<998244353 by decide)
 generalize cell % 998244353=c at *
 refine w_mulL (by omega) (by omega) ?_
 fail "g"
 refine w_mulL (by omega) (by omega) ?_
 fail "g"
 refine w_mod hP ?_
 have a0:=Waq ((c+104729*(k+1))*(k*k+7*k+13)) (show P≠0 by omega)
 have a1:=Wai ((c+104729*(k+1))*(k*k+7*k+13)) hP
 generalize (c+104729*(k+1))*(k*k+7*k+13) % P=a at *
 fail "g"
 refine Zzd (by decide) (by decide) (by omega) ?_
 fail "g"
 have b0:=Waq (a ^ (5:Int).toNat) (show (1000000007:Int)≠0 by decide)
 have b1:=Wai (a ^ (5:Int).toNat) (show (0:Int)<1000000007 by decide)
 generalize a ^ (5:Int).toNat % 1000000007=b at *
 refine w_mod hP ?_
 have d0:=Waq (b*48271+31*k+5) (show P≠0 by omega)
 have d1:=Wai (b*48271+31*k+5) hP
 generalize (b*48271+31*k+5) % P=d at *
 fail "g"
 refine Zzd (by decide) (by decide) (by omega) ?_
 fail "g"
 have e0:=Waq (d ^ (3:Int).toNat) (show (998244353:Int)≠0 by decide)
 have e1:=Wai (d ^ (3:Int).toNat) (show (0:Int)<998244353 by decide)
 generalize d ^ (3:Int).toNat % 998244353=e at *
 exact q _ _ (by omega) (by omega) (Fm.app _)
def Zrq (ds:List Int):Prop:=∀ d∈ds,0<=d/\d<2147483648
theorem Zgr {cell:Int} {many:Nat} (h1:many<=100) (q:∀ (ds:List Int) p H',ds.length=many->Zrq ds->H'[p]? = some (.lst (ds.map .int))->H.length<=p->Fm [] H H'->Q (.ref p) H'):wE (Zbt [.int cell,.int many] H) Q:=by
 refine Za4 rfl ?_
 show wS (Zc1 [some (.int cell),some (.int many),none,none,none,none] H) _
 unfold Zc1
 fail "g"
 refine Zzd (by decide) (by decide) (by decide) ?_
 fail "g"
 generalize decide ((10:Int) ^ (18:Int).toNat<=Zao cell)=wide
 refine⟨_,rfl,⟨by omega,by omega⟩,?_⟩
 rw[show ((many:Int)).toNat=many by omega]
 refine Zbj (fun d t σ H'=>d++t=Zan 0 many/\∃ (ds:List Int) (L:Int) (z5:Option D),ds.length=d.length/\Zrq ds/\H'[H.length]? = some (.lst (ds.map .int))/\Fm [H.length] (H++[.lst []]) H'/\0<=L/\σ=[some (.int cell),some (.int many),some (.ref H.length),some (.int L),some (.bl wide),z5]) (fun _ _ _ _ _=>Zga) (fun d x t σ H1 ⟨e0,ds,L,z5,e1,e2,e3,x1,hL,e5⟩=>?_) (fun d σ H1 ⟨e0,ds,L,z5,e1,e2,e3,x1,hL,e5⟩=>?_) _ [] _ _ ⟨rfl,[],Zao cell,_,rfl,(by intro d h; cases h),last,Fm.refl,(by unfold Zao; split<;>omega),rfl⟩
 ·subst e5
  have hx:x∈Zan 0 many:=by rw[<- e0]; simp
  simp only[Zan,Xp,Wan] at hx
  obtain⟨i,hi,rfl⟩:=hx
  have hd:d.length<=100:=by
   have:=congrArg Wbv e0
   simp[Zan] at this
   omega
  fail "g"
  refine Zxf (wide&&decide (0<L)) ?_ (fun h=>?_) (fun h=>?_)
  ·fail "g"
   cases wide
   ·exact⟨(fun z=>nomatch z),fun _=>⟨rfl,rfl⟩⟩
   ·refine⟨fun _=>?_,(fun z=>nomatch z)⟩
    fail "g"
    exact⟨rfl,by simp⟩
  ·fail "g"
   refine⟨isl e3,?_⟩
   fail "g"
   refine Zek e3 (by simp; omega) ?_
   fail "g"
   have m0:=Waq L (show (10007:Int)≠0 by decide)
   have m1:=Wai L (show (0:Int)<10007 by decide)
   refine⟨by rw[<- e0]; simp,ds++[L % 10007],L / 10007,_,by simp[e1],?_,?_,x1.trans (Fm.set (by simp)),Int.ediv_nonneg hL (by decide),rfl⟩
   ·intro y hy
    rcases Xn.mp hy with h | h
    ·exact e2 y h
    ·simp at h; subst h; exact⟨m0,by omega⟩
   ·rw[Wah]; exact Zib e3
  ·fail "g"
   refine⟨isl e3,?_⟩
   fail "g"
   refine w_mix (by omega) (by omega) fun r H2 r0 r1 x2=>?_
   fail "g"
   have e3':=x2.lst (by simp) e3
   refine Zek e3' (by simp; omega) ?_
   fail "g"
   refine⟨by rw[<- e0]; simp,ds++[r],L,_,by simp[e1],?_,?_,(x1.trans (x2.sub (by simp))).trans (Fm.set (by simp)),hL,rfl⟩
   ·intro y hy
    rcases Xn.mp hy with h | h
    ·exact e2 y h
    ·simp at h; subst h; exact⟨r0,r1⟩
   ·rw[Wah]; exact Zib e3'
 ·subst e5
  have hd:d.length=many:=by
   have:=congrArg Wbv e0
   simpa [Zan] using this
  fail "g"
  exact q ds _ H1 (by omega) e2 e3 (Xe _) ((Fm.app (S:=[]) _).new x1 (by intro m hm _; simp at hm; omega))
theorem w_at {ns:List Int} {k:Int} (h0:0<=k) (h1:k<=1000) (q:∀ c,Q (.int c) H):wE (Zcr [.fl (ns.map .int),.int k] H) Q:=by
 refine Za4 rfl ?_
 show wS (Zeq [some (.fl (ns.map .int)),some (.int k)] H) _
 unfold Zeq
 fail "i"
 refine⟨fun h=>?_,fun h=>?_⟩
 ·have lt:k.toNat<ns.length:=by have:=of_decide_eq_true h; simp at this; omega
  fail "g"
  refine w_ixF (Zd8 h0 (d:=.int ns[k.toNat]) (by rw[Xv,Xd lt]; rfl)) ?_
  fail "g"
  exact q _
 ·fail "g"
  exact q _
theorem Zci {p:Nat} {ds:List Int} {i:Int} (g:H[p]? = some (.lst (ds.map .int))) (hd:Zrq ds) (h0:0<=i) (h1:i<ds.length) (q:∀ r,0<=r->r<2147483648->Q (.int r) H):wE (ixD (.ref p) (.int i) H) Q:=by
 have lt:i.toNat<ds.length:=by omega
 have hm:=hd _ (Xo lt)
 exact w_ixR g (Zd8 h0 (d:=.int ds[i.toNat]) (by rw[Xv,Xd lt]; rfl)) (q _ hm.1 hm.2)
theorem Zw8 {r:Int} (h0:0<=r) (h1:r<2):∃ k,Zby k/\atI [D.str "all",.str "some"] r=some k:=by
 rcases(show r=0\/r=1 by omega) with rfl | rfl
 ·exact⟨_,.inl rfl,rfl⟩
 ·exact⟨_,.inr rfl,rfl⟩
theorem Ydc {r:Int} (h0:0<=r) (h1:r<2):∃ k,Zby k/\atI [D.str "some",.str "all"] r=some k:=by
 rcases(show r=0\/r=1 by omega) with rfl | rfl
 ·exact⟨_,.inr rfl,rfl⟩
 ·exact⟨_,.inl rfl,rfl⟩
theorem mod2 (r:Int):0<=r % 2/\r % 2<2:=by omega
theorem Zz1 {p:Nat} {ds:List Int} {many:Nat} (g:H[p]? = some (.lst (ds.map .int))) (hd:Zrq ds) (hl:many+1<=ds.length) (h100:many<=100) (q:∀ ks H',(∀ d∈ks,Zby d)->ks.length=many->Fm [] H H'->Q (.tup ks) H'):wE (Zgl [.ref p,.int many] H) Q:=by
 refine Za4 rfl ?_
 show wS (Zdp [some (.ref p),some (.int many),none,none,none] H) _
 unfold Zdp
 fail "g"
 have hp:p<H.length:=(Xc.mp g).1
 refine⟨_,rfl,⟨by omega,by omega⟩,?_⟩
 rw[show ((many:Int)).toNat=many by omega]
 refine Zbj (fun d t σ H'=>d++t=Zan 0 many/\∃ (ks:List D) (z3 z4:Option D),ks.length=d.length/\(∀ d∈ks,Zby d)/\H'[H.length]? = some (.lst ks)/\Fm [H.length] (H++[.lst []]) H'/\σ=[some (.ref p),some (.int many),some (.ref H.length),z3,z4]) (fun _ _ _ _ _=>Zga) (fun d x t σ H1 ⟨e0,ks,z3,z4,e1,e2,e3,x1,e5⟩=>?_) (fun d σ H1 ⟨e0,ks,z3,z4,e1,e2,e3,x1,e5⟩=>?_) _ [] _ _ ⟨rfl,[],_,_,rfl,(by intro d h; cases h),last,Fm.refl,rfl⟩
 ·subst e5
  have hx:x∈Zan 0 many:=by rw[<- e0]; simp
  simp only[Zan,Xp,Wan] at hx
  obtain⟨i,hi,rfl⟩:=hx
  have hdl:d.length<=100:=by
   have:=congrArg Wbv e0
   simp[Zan] at this
   omega
  have gp:H1[p]? = some (.lst (ds.map .int)):=x1.lst (by simp; omega) (appL g)
  have Jn:∀ (L:List D) {H2:HD},Fm [H.length] (H++[.lst []]) H2->H2[p]? = some (.lst (ds.map .int))->H2[H.length]? = some (.lst ks)->Fm [H.length] (H++[.lst []]) (H2++[.lst L])/\(H2++[.lst L])[p]? = some (.lst (ds.map .int))/\(H2++[.lst L])[H.length]? = some (.lst ks):=fun L H2 a b c=>⟨a.trans (Fm.app _),appL b,appL c⟩
  refine w_gnm (w_seq ?_)
  refine Zk3 (fun σ H2=>(Fm [H.length] (H++[.lst []]) H2/\H2[p]? = some (.lst (ds.map .int))/\H2[H.length]? = some (.lst ks))/\∃ k,Zby k/\σ=[some (.ref p),some (.int many),some (.ref H.length),some (.int (0+i)),some k]) ?_ ?_
  ·fail "g"
   refine Zci (appL gp) hd (by omega) (by omega) fun r r0 r1=>?_
   fail "g"
   obtain⟨k,hk,ek⟩:=Zw8 (mod2 r).1 (mod2 r).2
   refine w_ixR last ek ?_
   exact⟨rfl,Jn _ x1 gp e3,k,hk,rfl⟩
  rintro _ H2 ⟨⟨x2,g2,e4⟩,k,hk,rfl⟩
  refine w_seq (Zk3 (fun σ H2=>(Fm [H.length] (H++[.lst []]) H2/\H2[p]? = some (.lst (ds.map .int))/\H2[H.length]? = some (.lst ks))/\∃ k,Zby k/\σ=[some (.ref p),some (.int many),some (.ref H.length),some (.int (0+i)),some k]) ?_ ?_)
  ·(refine WP.w_if ?_; fail "g")
   refine Zci g2 hd (by omega) (by omega) fun r r0 r1=>?_
   fail "g"
   refine⟨fun h=>?_,fun h=>?_⟩
   ·fail "g"
    refine Zci (appL g2) hd (by omega) (by omega) fun r' r0' r1'=>?_
    fail "g"
    obtain⟨k2,hk2,ek2⟩:=Ydc (mod2 (0+(i:Int)+r')).1 (mod2 _).2
    refine w_ixR last ek2 ?_
    fail "g"
    exact⟨rfl,Jn _ x2 g2 e4,k2,hk2,rfl⟩
   ·fail "g"
    exact⟨rfl,⟨x2,g2,e4⟩,k,hk,rfl⟩
  rintro _ H3 ⟨⟨x3,g3,e6⟩,k,hk,rfl⟩
  refine w_seq (Zk3 (fun σ H2=>(Fm [H.length] (H++[.lst []]) H2/\H2[p]? = some (.lst (ds.map .int))/\H2[H.length]? = some (.lst ks))/\∃ k,Zby k/\σ=[some (.ref p),some (.int many),some (.ref H.length),some (.int (0+i)),some k]) ?_ ?_)
  ·(refine WP.w_if ?_; fail "g")
   refine Zci g3 hd (by omega) (by omega) fun r r0 r1=>?_
   fail "g"
   refine⟨fun h=>?_,fun h=>?_⟩
   ·fail "g"
    refine Zci (appL g3) hd (by omega) (by omega) fun r' r0' r1'=>?_
    fail "g"
    obtain⟨k2,hk2,ek2⟩:=Zw8 (r:=if decide (0<r' % 3)=true then 1 else 0) (by split<;>omega) (by split<;>omega)
    refine w_ixR last ek2 ?_
    fail "g"
    exact⟨rfl,Jn _ x3 g3 e6,k2,hk2,rfl⟩
   ·fail "g"
    exact⟨rfl,⟨x3,g3,e6⟩,k,hk,rfl⟩
  rintro _ H4 ⟨⟨x4,g4,e7⟩,k,hk,rfl⟩
  fail "g"
  refine⟨isl e7,?_⟩
  fail "g"
  refine Zek e7 (by omega) ?_
  fail "g"
  refine⟨by rw[<- e0]; simp,ks++[k],_,_,by simp[e1],?_,Zib e7,x4.trans (Fm.set (by simp)),rfl⟩
  intro y hy
  rcases Xn.mp hy with h | h
  ·exact e2 y h
  ·simp at h; subst h; exact hk
 ·subst e5
  have hdl:d.length=many:=by
   have:=congrArg Wbv e0
   simpa [Zan] using this
  fail "g"
  exact q ks H1 e2 (by omega) ((Fm.app (S:=[]) _).new x1 (by intro m hm _; simp at hm; omega))
theorem Zom {m:Int}:∀ (ls:List Int) (last l:Int),Up m last ls->(∀ x∈ls,Zao x<Zao l)->last<Zao l->Zao l<=m->Up m last (ls++[l])
 | [],last,l,_,_,h1,h2=>⟨h1,h2,trivial⟩
 | x::r,last,l,u,h,h1,h2=>by
  obtain⟨u1,u2,u3⟩:=u
  exact⟨u1,u2,Zom r (Zao x) l u3 (fun y hy=>h y (by simp[hy])) (h x (by simp)) h2⟩
theorem Zbu (lo:Int) (m:Nat):Zan lo (m+1)=.int lo::Zan (lo+1) m:=by
 unfold Zan
 rw[Wed,Xs,Wbb]
 have e0:D.int (lo+((0:Nat):Int))=.int lo:=by simp
 rw[e0]
 refine congrArg (Wbm _) (Wdh fun a _=>?_)
 show D.int _=D.int _
 congr 1
 omega
theorem Zyd {cell:Int} {M:Nat} {wide:Int} (hM:M<=8) (q:∀ ls H',Up M 0 ls->Fm [] H H'->Q (Zas ls) H'):wE (Zjv [.int cell,.int M,.int wide] H) Q:=by
 refine Za4 rfl ?_
 show wS (Zfe [some (.int cell),some (.int M),some (.int wide),none,none,none] H) _
 unfold Zfe
 fail "g"
 rw[show (M:Int)+1=((M+1:Nat):Int) by omega]
 refine Zgr (by omega) fun ds p H1 l1 d1 g1 n1 x1=>?_
 fail "g"
 refine⟨_,rfl,⟨by omega,by omega⟩,?_⟩
 rw[Xr]
 refine Zbj (fun d t σ H'=>∃ ls:List Int,t=Zan (d.length:Int) (M - d.length)/\H'[p]? = some (.lst (ds.map .int))/\H'[H1.length]? = some (.lst (ls.map .int))/\ls.length<=d.length/\d.length<=M/\Up M 0 ls/\(∀ x∈ls,Zao x<=d.length)/\Fm [] H H'/\∃ z,σ=[some (.int cell),some (.int M),some (.int wide),some (.ref p),some (.ref H1.length),z]) (fun _ _ _ _ _=>Zga) (fun d x t σ H2 ⟨ls,i1,i2,i3,i4,i5,i6,i7,i8,z,i9⟩=>?_) (fun d σ H2 ⟨ls,i1,i2,i3,i4,i5,i6,i7,i8,z,i9⟩=>?_) _ [] _ _ ⟨[],by simp,appL g1,last,by simp,by simp,trivial,by simp,x1.trans (Fm.app _),none,rfl⟩
 ·subst i9
  obtain⟨k,hk⟩:∃ k,M - d.length=k+1:=by
   cases h:M - d.length with
   | zero=>rw[h] at i1; simp[Zan] at i1
   | succ k=>exact⟨k,rfl⟩
  rw[hk,Zbu] at i1
  obtain⟨rfl,rfl⟩:=Wbm.inj i1
  have tl:Zan ((d.length:Int)+1) k=Zan (((d++[D.int (d.length:Int)]).length:Nat):Int) (M - (d++[D.int (d.length:Int)]).length):=by
   simp only[Xz,Wca,Wam]
   congr 1
   omega
  fail "i"
  refine Zci i2 d1 (by omega) (by omega) fun r r0 r1=>?_
  fail "g"
  refine w_mod (by omega) ?_
  fail "g"
  refine Zci i2 d1 (by omega) (by omega) fun r' r0' r1'=>?_
  fail "g"
  refine⟨fun h=>?_,fun h=>?_⟩
  ·fail "g"
   refine⟨isl i3,?_⟩
   fail "g"
   refine Zci (appL i2) d1 (by omega) (by omega) fun r2 r20 r21=>?_
   fail "g"
   refine w_fdiv (by omega) (by omega) ?_
   fail "g"
   have m2:r2 / ((M:Int)+1) % 2=0\/r2 / ((M:Int)+1) % 2=1:=by omega
   obtain⟨l,hl,el⟩:∃ l:Int,Zao l=(d.length:Int)+1/\atI [D.int ((d.length:Int)+1),.int (0 - (d.length:Int) - 1)] (r2 / ((M:Int)+1) % 2)=some (.int l):=by
    rcases m2 with z | z<;>rw[z]
    ·exact⟨_,by unfold Zao; split<;>omega,rfl⟩
    ·exact⟨_,by unfold Zao; split<;>omega,rfl⟩
   refine w_ixR last el ?_
   fail "g"
   refine Zek (appL i3) (by simp; omega) ?_
   fail "g"
   have np:H1.length≠p:=by have:=(Xc.mp g1).1; omega
   refine⟨ls++[l],tl,Zjx np (appL i2),by rw[Zib (appL i3)]; simp,by simp; omega,by simp; omega,Zom ls 0 l i6 (fun x hx=>by have:=i7 x hx; omega) (by omega) (by omega),fun x hx=>?_,?_,_,rfl⟩
   ·rcases Xn.mp hx with z | z
    ·have:=i7 x z; simp; omega
    ·simp at z; subst z; simp; omega
   ·exact(i8.trans (Fm.app _)).new (Fm.set (S:=[H1.length]) (by simp)) (fun q hq _=>by simp at hq; subst hq; exact x1.len)
  ·fail "g"
   exact⟨ls,tl,i2,i3,by simp; omega,by simp; omega,i6,fun x hx=>by have:=i7 x hx; simp; omega,i8,_,rfl⟩
 ·subst i9
  fail "g"
  exact q ls H2 i6 i8
nonrec def Zc5 (ks:List D) (x:Int):Bool := !kS (ks.getD ((Zao x).toNat - 1) .non)
nonrec def Zco (ks:List D):List Int->List Int
 | []=>[]
 | l::r=>if (l::r).all (Zc5 ks)=true then [] else l::Zco ks r
theorem Znb (ks:List D):∀ b:List Int,(∀ x∈b,Zc5 ks x=true)->Zco ks b=[]
 | [],_=>rfl
 | x::r,h=>by rw[Zco,if_pos (Waf.mpr h)]
theorem Zim (ks:List D):∀ (a b:List Int),(∀ x∈b,Zc5 ks x=true)->(∀ x,a.getLast? = some x->Zc5 ks x=false)->Zco ks (a++b)=a
 | [],b,hb,_=>Znb ks b hb
 | l::a,b,hb,ha=>by
  have hx:=ha _ Wdk
  have hm:a.getLast?.getD l∈l::a:=List.mem_of_getLast? (Wdk (a:=l) (l:=a))
  have hn:¬ ((l::(a++b)).all (Zc5 ks)=true):=fun z=>by
   have:=Waf.mp z _ (by rw[<- Wbt]; exact Way _ hm)
   rw[hx] at this; cases this
  rw[Wbt,Zco,if_neg hn,Zim ks a b hb fun x h=>ha x (by rw[Wdk,h]; rfl)]
theorem Znq (ks:List D):∀ a:List Int,(Zco ks a).Sublist a
 | []=>.slnil
 | l::r=>by
  rw[Zco]
  split
  ·exact List.nil_sublist _
  ·exact(Znq ks r).cons₂ l
structure R (M:Nat) (ls:List Int):Prop where
 nd:(ls.map Zao).Nodup
 rg:∀ x∈ls,1<=Zao x/\Zao x<=M
theorem R.sub {M:Nat} {a b:List Int} (h:R M b) (s:a.Sublist b):R M a:=⟨(s.map Zao).nodup h.nd,fun x hx=>h.rg x (s.subset hx)⟩
theorem R.perm {M:Nat} {a b:List Int} (h:R M b) (s:a.Perm b):R M a:=⟨(s.map Zao).nodup_iff.mpr h.nd,fun x hx=>h.rg x (s.mem_iff.mp hx)⟩
theorem Zxg:∀ (M:Nat) (l:List Int),l.Nodup->(∀ x∈l,1<=x/\x<=(M:Int))->l.length<=M
 | 0,[],_,_=>Xe _
 | 0,x::r,_,h=>by have:=h x (by simp); omega
 | M+1,l,nd,h=>by
  have:=Zxg M (l.erase ((M:Int)+1)) (nd.erase _) fun x hx=>by
   have h1:=h x (List.mem_of_mem_erase hx)
   have h2:x≠(M:Int)+1:=fun z=>by subst z; exact(List.Nodup.not_mem_erase nd) hx
   omega
  have h3:=List.length_erase (a:=(M:Int)+1) (l:=l)
  split at h3<;>omega
theorem R.len {M:Nat} {ls:List Int} (h:R M ls):ls.length<=M:=by
 have:=Zxg M (ls.map Zao) h.nd fun x hx=>by
  obtain⟨y,hy,rfl⟩:=Xp.mp hx
  exact h.rg y hy
 simpa using this
theorem R.inj {M:Nat} {ls:List Int} (h:R M ls) {x y:Int} (hx:x∈ls) (hy:y∈ls) (e:Zao x=Zao y):x=y:=by
 obtain⟨i,hi,rfl⟩:=Wbe.mp hx
 obtain⟨j,hj,rfl⟩:=Wbe.mp hy
 have:=(Wfb (xs:=ls.map Zao) (i:=i) (j:=j) (h₀:=by simpa using hi) (h₁:=by simpa using hj) h.nd).mp (by simpa using e)
 subst this; rfl
theorem Zt4 {M:Nat}:∀ {ls:List Int} {last:Int},0<=last->Up M last ls->R M ls/\∀ x∈ls,last<Zao x
 | [],_,_,_=>⟨⟨.nil,by simp⟩,by simp⟩
 | l::r,last,h0,u=>by
  obtain⟨u1,u2,u3⟩:=u
  obtain⟨h1,h2⟩:=Zt4 (by omega) u3
  refine⟨⟨?_,fun x hx=>?_⟩,fun x hx=>?_⟩
  ·rw[Xs,Wbr]
   refine⟨fun z=>?_,h1.nd⟩
   obtain⟨y,hy,e⟩:=Xp.mp z
   have:=h2 y hy
   omega
  ·rcases Xh.mp hx with rfl | hx
   ·omega
   ·exact h1.rg x hx
  ·rcases Xh.mp hx with rfl | hx
   ·exact u1
   ·have:=h2 x hx; omega
theorem Zhn (x:Int):Zao (-x)=Zao x:=by unfold Zao; split<;>split<;>omega
theorem Zse {x y:Int} (h:Zao x=Zao y):x=y\/x = -y:=by unfold Zao at h; split at h<;>split at h<;>omega
nonrec def Zdj (a b:List Int) (n:Int):Option (List Int) :=
 if n∉a \/ -n∉b then none
 else if (b.filter fun x=>decide (x ≠ -n)).any (fun x=>decide (-x∈a.filter fun x=>decide (x≠n)))=true then none
 else some (Zbw ((a.filter fun x=>decide (x≠n))++(b.filter fun x=>decide (x ≠ -n)).filter fun x=>decide (x∉a.filter fun x=>decide (x≠n))))
theorem R.join0 {M:Nat} {a b:List Int} (ha:R M a) (hb:R M b) (h:b.any (fun x=>decide (-x∈a))=false):R M (a++b.filter fun x=>decide (x∉a)):=by
 have hb':=hb.sub (Was (p:=fun x=>decide (x∉a)) (l:=b))
 refine⟨?_,fun x hx=>?_⟩
 ·rw[Wah,Wbq]
  refine⟨ha.nd,hb'.nd,fun x hx y hy e=>?_⟩
  obtain⟨u,hu,rfl⟩:=Xp.mp hx
  obtain⟨v,hv,rfl⟩:=Xp.mp hy
  obtain⟨hv1,hv2⟩:=Waa.mp hv
  rcases Zse e with z | z
  ·rw[z] at hu
   exact(of_decide_eq_true hv2) hu
  ·have:=Wbw.mp h v hv1
   rw[z] at hu
   exact this (decide_eq_true hu)
 ·rcases Xn.mp hx with z | z
  ·exact ha.rg x z
  ·exact hb'.rg x z
theorem R.join {M:Nat} {a b c:List Int} {n:Int} (ha:R M a) (hb:R M b) (h:Zdj a b n=some c):R M c:=by
 unfold Zdj at h
 split at h
 ·cases h
 ·split at h
  ·cases h
  ·rename_i h2
   cases h
   exact(R.join0 (ha.sub Was) (hb.sub Was) (by simpa using h2)).perm (Za0 _)
nonrec def stp (ks:List D) (rss made:List (List Int)) (d:D):Option (List Int):=match d with
 | .tup [.str s,.int i]=>if s = "less" then (if 0<=i/\i<made.length then some (Zco ks (made.getD i.toNat [])) else none)
  else if s = "row" then (if 0<=i/\i<rss.length then some (rss.getD i.toNat []) else none) else none
 | .tup [.str s,.int i,.int j,.int n]=>if s = "joined" /\ (0<=i/\i<made.length)/\(0<=j/\j<made.length)/\(1<=n/\n<=ks.length)/\Zc5 ks n=false then Zdj (made.getD i.toNat []) (made.getD j.toNat []) n else none
 | _=>none
nonrec def mad (ks:List D) (rss:List (List Int)):List (List Int)->List D->List (List Int)
 | made,[]=>made
 | made,d::r=>match stp ks rss made d with
  | none=>made
  | some x=>mad ks rss (made++[x]) r
nonrec def mok (ks:List D) (rss:List (List Int)):List (List Int)->List D->Bool
 | _,[]=>true
 | made,d::r=>match stp ks rss made d with
  | none=>false
  | some x=>mok ks rss (made++[x]) r
theorem Zfx (ks:List D) (rss:List (List Int)):∀ (ds:List D) (made:List (List Int)),mok ks rss made ds=true->(mad ks rss made ds).length=made.length+ds.length
 | [],made,_=>rfl
 | d::r,made,h=>by
  unfold mok at h
  unfold mad
  cases e:stp ks rss made d with
  | none=>rw[e] at h; cases h
  | some x =>
   rw[e] at h
   simp only
   rw[Zfx ks rss r _ h]
   simp; omega
theorem Zhu (ks:List D) (rss:List (List Int)):∀ (a b:List D) (made:List (List Int)),mok ks rss made (a++b)=(mok ks rss made a&&mok ks rss (mad ks rss made a) b)
 | [],b,made=>rfl
 | d::r,b,made=>by
  rw[Wbt]
  cases e:stp ks rss made d with
  | none=>simp only[mok,e,Wfl]
  | some x=>simp only[mok,mad,e]; exact Zhu ks rss r b _
theorem Zlh (ks:List D) (rss:List (List Int)):∀ (a b:List D) (made:List (List Int)),mok ks rss made a=true->mad ks rss made (a++b)=mad ks rss (mad ks rss made a) b
 | [],b,made,_=>rfl
 | d::r,b,made,h=>by
  rw[Wbt]
  cases e:stp ks rss made d with
  | none=>simp only[mok,e] at h; cases h
  | some x=>simp only[mok,e] at h; simp only[mad,e]; exact Zlh ks rss r b _ h
theorem stp_R {ks:List D} {rss made:List (List Int)} {d:D} {x:List Int} (hr:∀ ls∈rss,R ks.length ls) (hm:∀ ls∈made,R ks.length ls) (h:stp ks rss made d=some x):R ks.length x:=by
 have get:∀ {l:List (List Int)} {i:Int},(∀ ls∈l,R ks.length ls)->0<=i/\i<l.length->R ks.length (l.getD i.toNat []):=fun hl hi=>by
  refine hl _ ?_
  rw[Xl,Xd (by omega)]
  exact Xo _
 unfold stp at h
 split at h
 ·split at h
  ·split at h
   ·rename_i hi; cases h; exact(get hm hi).sub (Znq ks _)
   ·cases h
  ·split at h
   ·split at h
    ·rename_i hi; cases h; exact get hr hi
    ·cases h
   ·cases h
 ·split at h
  ·rename_i hc; exact R.join (get hm hc.2.1) (get hm hc.2.2.1) h
  ·cases h
 ·cases h
theorem Zrj {ks:List D} {rss:List (List Int)} (hr:∀ ls∈rss,R ks.length ls):∀ (ds:List D) (made:List (List Int)),(∀ ls∈made,R ks.length ls)->∀ ls∈mad ks rss made ds,R ks.length ls
 | [],made,hm=>hm
 | d::r,made,hm=>by
  unfold mad
  cases e:stp ks rss made d with
  | none=>exact hm
  | some x =>
   refine Zrj hr r _ fun ls h=>?_
   rcases Xn.mp h with z | z
   ·exact hm ls z
   ·simp at z; subst z; exact stp_R hr hm e
theorem Zpl:∀ l:List Int,l.Pairwise (· <= ·)->l.Nodup->l.Pairwise (· < ·)
 | [],_,_=>.nil
 | x::r,p,nd=>by
  rw[Wdj] at p ⊢
  rw[Wbr] at nd
  refine⟨fun y hy=>?_,Zpl r p.2 nd.2⟩
  have:=p.1 y hy
  have:x≠y:=fun z=>nd.1 (z ▸ hy)
  omega
theorem Zif {M:Nat} {fs:List Int} (h:R M fs):Up M 0 (Zbw fs):=by
 have h2:=h.perm (Za0 fs)
 refine Ya9 _ 0 (Zpl _ ?_ h2.nd) fun x hx=>?_
 ·have:=Zpb fs
  rw[Wds]
  exact this
 ·obtain⟨y,hy,rfl⟩:=Xp.mp hx
  have:=h2.rg y hy
  omega
theorem Zf0 (ks:List D):∀ ls:List Int,∃ tl,ls=Zco ks ls++tl/\∀ x∈tl,Zc5 ks x=true
 | []=>⟨[],rfl,by simp⟩
 | l::r=>by
  rw[Zco]
  split
  ·rename_i h; exact⟨l::r,rfl,Waf.mp h⟩
  ·obtain⟨tl,e,h⟩:=Zf0 ks r
   exact⟨tl,by rw[Wbt,<- e],h⟩
theorem Zw9 {m:Int}:∀ {a b:List Int} {last:Int},Up m last (a++b)->Up m last a
 | [],_,_,_=>trivial
 | x::a,b,last,h=>⟨h.1,h.2.1,Zw9 h.2.2⟩
theorem Zqr {m:Int}:∀ {a:List Int} {last:Int},Up m last a->∀ x∈a,last<Zao x
 | [],_,_,x,hx=>by cases hx
 | y::a,last,h,x,hx=>by
  obtain⟨h1,h2,h3⟩:=h
  rcases Xh.mp hx with rfl | hx
  ·exact h1
  ·have:=Zqr h3 x hx; omega
theorem Zw5 {m:Int}:∀ {a b:List Int} {last:Int},Up m last (a++b)->∀ x∈a,∀ y∈b,Zao x<Zao y
 | [],_,_,_,x,hx,_,_=>by cases hx
 | z::a,b,last,h,x,hx,y,hy=>by
  obtain⟨h1,h2,h3⟩:=h
  rcases Xh.mp hx with rfl | hx
  ·exact Zqr h3 y (Wac _ hy)
  ·exact Zw5 h3 x hx y hy
theorem Ybu {ks:List D} {rss made:List (List Int)} {d:D} {x:List Int} (hr:∀ ls∈rss,Up ks.length 0 ls) (hm:∀ ls∈made,Up ks.length 0 ls) (h:stp ks rss made d=some x):Up ks.length 0 x:=by
 have toR:∀ {l:List Int},Up ks.length 0 l->R ks.length l:=fun u=>(Zt4 (by omega) u).1
 have get:∀ {l:List (List Int)} {i:Int},(∀ ls∈l,Up ks.length 0 ls)->0<=i/\i<l.length->Up ks.length 0 (l.getD i.toNat []):=fun hl hi=>by
  refine hl _ ?_
  rw[Xl,Xd (by omega)]
  exact Xo _
 unfold stp at h
 split at h
 ·split at h
  ·split at h
   ·rename_i hi
    cases h
    obtain⟨tl,e,_⟩:=Zf0 ks (made.getD _ [])
    have:=get hm hi
    rw[e] at this
    exact Zw9 this
   ·cases h
  ·split at h
   ·split at h
    ·rename_i hi; cases h; exact get hr hi
    ·cases h
   ·cases h
 ·split at h
  ·rename_i hc
   have ha:=toR (get hm hc.2.1)
   have hb:=toR (get hm hc.2.2.1)
   unfold Zdj at h
   split at h
   ·cases h
   ·split at h
    ·cases h
    ·rename_i h2
     cases h
     exact Zif (R.join0 (ha.sub Was) (hb.sub Was) (by simpa using h2))
  ·cases h
 ·cases h
theorem Zxz {ks:List D} {rss:List (List Int)} (hr:∀ ls∈rss,Up ks.length 0 ls):∀ (ds:List D) (made:List (List Int)),(∀ ls∈made,Up ks.length 0 ls)->∀ ls∈mad ks rss made ds,Up ks.length 0 ls
 | [],made,hm=>hm
 | d::r,made,hm=>by
  unfold mad
  cases e:stp ks rss made d with
  | none=>exact hm
  | some x =>
   refine Zxz hr r _ fun ls h=>?_
   rcases Xn.mp h with z | z
   ·exact hm ls z
   ·simp at z; subst z; exact Ybu hr hm e
theorem Zr3 (ks:List D) (rss:List (List Int)):∀ (ds:List D) (made:List (List Int)),∃ t,mad ks rss made ds=made++t
 | [],made=>⟨[],by simp[mad]⟩
 | d::r,made=>by
  unfold mad
  cases e:stp ks rss made d with
  | none=>exact⟨[],by simp⟩
  | some x =>
   obtain⟨t,h⟩:=Zr3 ks rss r (made++[x])
   exact⟨[x]++t,by simp only; rw[h]; simp⟩
theorem Zsa {ks:List D} {rss:List (List Int)} {ds:List D} (ok:mok ks rss [] ds=true) {m:Nat} (hm:m<ds.length):∃ x,(mad ks rss [] ds)[m]? = some x/\stp ks rss ((mad ks rss [] ds).take m) ds[m]=some x:=by
 have e:ds=ds.take m++ds[m]::ds.drop (m+1):=by rw[<- Wbf hm,Wbg]
 have ok1:=ok
 rw[e,Zhu,Wad] at ok1
 have l1:=Zfx ks rss _ [] ok1.1
 rw[Wam,Wcg,Wau,Wfj (by omega)] at l1
 have e2:mad ks rss [] ds=mad ks rss (mad ks rss [] (ds.take m)) (ds[m]::ds.drop (m+1)):=by
  conv=>lhs; rw[e]
  exact Zlh _ _ _ _ _ ok1.1
 cases es:stp ks rss (mad ks rss [] (ds.take m)) ds[m] with
 | none =>
  have:=ok1.2
  simp only[mok,es] at this
  cases this
 | some x =>
  simp only[mad,es] at e2
  obtain⟨t,ht⟩:=Zr3 ks rss (ds.drop (m+1)) (mad ks rss [] (ds.take m)++[x])
  rw[ht] at e2
  refine⟨x,?_,?_⟩
  ·rw[e2,Wax,Wak (by omega),l1,Nat.sub_self]
   rfl
  ·rw[e2,Wax,Wdb (by omega),Wct (by omega)]
   exact es
nonrec def Zcm (bs:List Bool) (ls:List Int):Bool:=ls.all fun l=>decide (Zao l<=bs.length) && !rig bs l
theorem Zyh {bs:List Bool} {l:Int} (h:1<=Zao l/\Zao l<=bs.length):rig bs (-l) = !rig bs l:=by
 unfold rig
 rw[Zhn,Xd (by omega)]
 simp only
 have:decide (0 < -l) = !decide (0<l):=by
  by_cases z:0<l
  ·rw[decide_eq_true z,decide_eq_false (by omega)]; rfl
  ·rw[decide_eq_false z,decide_eq_true (by unfold Zao at h; split at h<;>omega)]; rfl
 rw[this]
 cases bs[(Zao l - 1).toNat]<;>cases decide (0<l)<;>rfl
theorem Zpz {bs:List Bool} {l:Int} {k:Nat} (h:Zao l<=k) (h1:1<=Zao l):rig (bs.take k) l=rig bs l:=by
 unfold rig
 rw[Wbk (by omega)]
theorem Zsh {bs:List Bool} {ls:List Int} {k:Nat} (hr:∀ x∈ls,1<=Zao x) (h:Zcm (bs.take k) ls=true):Zcm bs ls=true:=by
 unfold Zcm at h ⊢
 rw[Waf] at h ⊢
 intro x hx
 have:=h x hx
 rw[Wad,decide_eq_true_iff] at this ⊢
 rw[Wau] at this
 rw[Zpz (by omega) (hr x hx)] at this
 exact⟨by omega,this.2⟩
nonrec def pk1 (made:List (List Int)) (bs:List Bool) (d:D) (row:List Int):Option Bool:=match d with
 | .tup [.str s,.int i]=>if s = "less" /\ Zcm bs row=true then
   (if (bs.length:Int)+1∈made.getD i.toNat [] then some false else if -((bs.length:Int)+1)∈made.getD i.toNat [] then some true else none)
  else none
 | _=>none
nonrec def Zl2 (made:List (List Int)) (bs:List Bool):List (D×List Int)->Bool
 | []=>false
 | e::r=>(pk1 made bs e.1 e.2).getD (Zl2 made bs r)
theorem Zuv {made:List (List Int)} {bs:List Bool} {d:D} {row:List Int} (h:Zcm bs row=false):pk1 made bs d row=none:=by
 unfold pk1
 split
 ·rw[if_neg (fun z=>by rw[h] at z; cases z.2)]
 ·rfl
theorem Zm9 {made:List (List Int)} {bs:List Bool}:∀ (a b:List (D×List Int)),(∀ e∈a,Zcm bs e.2=false)->Zl2 made bs (a++b)=Zl2 made bs b
 | [],_,_=>rfl
 | e::a,b,h=>by
  rw[Wbt,Zl2,Zuv (h e (by simp))]
  exact Zm9 a b fun e he=>h e (by simp[he])
theorem Yb5 {ks:List D} {rss:List (List Int)} {ds:List D} {p:List Bool} (hrss:∀ ls∈rss,Up ks.length 0 ls) (ok:mok ks rss [] ds=true) (hlast:(mad ks rss [] ds).getLast? = some []) (lp:p.length=ks.length)
  (hs:∀ k:Nat,k<p.length->Zc5 ks ((k:Int)+1)=true->p[k]? = some (Zl2 (mad ks rss [] ds) (p.take k) (ds.zip (mad ks rss [] ds)))):∃ row∈rss,Zcm p row=true:=by
 have lm:=Zfx ks rss ds [] ok
 rw[Wam,Wcg] at lm
 have ups:=Zxz hrss ds [] (by simp)
 generalize hmd:mad ks rss [] ds=made at *
 -- the first that is lost
 have ex:∃ m,∃ hm:m<made.length,Zcm p made[m]=true/\∀ j (hj:j<m),Zcm p (made[j]'(by omega))=false:=by
  have hx:∃ m,m<made.length/\∃ r,made[m]? = some r/\Zcm p r=true:=by
   cases em:made with
   | nil=>rw[em] at hlast; cases hlast
   | cons a b =>
    refine⟨made.length - 1,by rw[em]; simp,[],?_,rfl⟩
    rw[List.getLast?_eq_getElem?] at hlast
    rw[<- em]
    exact hlast
  obtain⟨m0,h0,h1,h2⟩:=hx
  have key:∀ n,n<made.length->(∃ m,m<=n/\∃ r,made[m]? = some r/\Zcm p r=true)->∃ m,∃ hm:m<made.length,Zcm p made[m]=true/\∀ j (hj:j<m),Zcm p (made[j]'(by omega))=false:=by
   intro n
   induction n using Nat.strongRecOn with
   | _ n ih =>
    rintro hn ⟨m,hmn,r,hr,hl⟩
    by_cases z:∃ j,j<m/\∃ r,made[j]? = some r/\Zcm p r=true
    ·obtain⟨j,hj,y⟩:=z
     exact ih j (by omega) (by omega) ⟨j,Xe _,y⟩
    ·have hm:m<made.length:=by omega
     rw[Xd hm] at hr
     cases hr
     refine⟨m,hm,hl,fun j hj=>?_⟩
     cases y:Zcm p (made[j]'(by omega)) with
     | false=>rfl
     | true=>exact absurd ⟨j,hj,_,Xd (by omega),y⟩ z
  exact key m0 h0 ⟨m0,Xe _,h1,h2⟩
 obtain⟨m,hm,lost,first⟩:=ex
 have hmd':m<ds.length:=by omega
 obtain⟨x,hx,es⟩:=Zsa (ks:=ks) (rss:=rss) ok hmd'
 rw[hmd] at hx es
 rw[Xd hm] at hx
 have hx:=Xy.inj hx
 have nl:∀ {i:Nat} (hi:i<m),Zcm p ((made.take m).getD i [])=false:=fun {i} hi=>by
  rw[Xl,Wbk hi,Xd (by omega)]
  exact first i hi
 have upi:∀ {i:Nat} (hi:i<m),Up ks.length 0 ((made.take m).getD i []):=fun {i} hi=>by
  rw[Xl,Wbk hi,Xd (by omega)]
  exact ups _ (Xo _)
 have lt:(made.take m).length=m:=by rw[Wau]; omega
 have all:∀ y∈x,Zao y<=p.length/\rig p y=false:=fun y hy=>by
  rw[<- hx] at hy
  have:=Waf.mp lost y hy
  rw[Wad,decide_eq_true_iff] at this
  exact⟨this.1,by simpa using this.2⟩
 have mk:∀ {l:List Int},Up ks.length 0 l->(∀ y∈l,rig p y=false)->Zcm p l=true:=fun {l} u h=>by
  refine Waf.mpr fun y hy=>?_
  have:=(Zt4 (by omega) u).1.rg y hy
  rw[Wad,decide_eq_true_iff,h y hy]
  exact⟨by omega,rfl⟩
 generalize ed:ds[m]=dd at es
 unfold stp at es
 split at es
 ·rename_i s i
  split at es
  ·rename_i hs0
   split at es
   ·-- less
    rename_i hi
    rw[lt] at hi
    cases es
    exfalso
    obtain⟨tl,e,ow⟩:=Zf0 ks ((made.take m).getD i.toNat [])
    have hin:i.toNat<m:=by omega
    have u:=upi hin
    have nlx:=nl hin
    have rr:=(Zt4 (by omega) u).1
    -- a literal that is right
    obtain⟨y,hy,ry⟩:∃ y∈(made.take m).getD i.toNat [],rig p y=true:=by
     cases z:((made.take m).getD i.toNat []).any (rig p) with
     | true=>obtain⟨y,h1,h2⟩:=Waw.mp z; exact⟨y,h1,h2⟩
     | false =>
      have:=mk u fun y hy=>by have:=Wbw.mp z y hy; simpa using this
      rw[nlx] at this; cases this
    have hyt:y∈tl:=by
     rw[e] at hy
     rcases Xn.mp hy with z | z
     ·have:=(all y z).2; rw[ry] at this; cases this
     ·exact z
    have ry1:=rr.rg y hy
    obtain⟨k,hk⟩:∃ k:Nat,Zao y=(k:Int)+1:=⟨(Zao y - 1).toNat,by omega⟩
    have hkp:k<p.length:=by omega
    have own:Zc5 ks ((k:Int)+1)=true:=by
     have:=ow y hyt
     unfold Zc5 at this ⊢
     rw[hk] at this
     rw[show Zao ((k:Int)+1)=(k:Int)+1 by unfold Zao; split<;>omega]
     exact this
    have pk:=hs k hkp own
    have lk:(p.take k).length=k:=by rw[Wau]; omega
    have before:∀ z∈Zco ks ((made.take m).getD i.toNat []),Zao z<=k:=fun z hz=>by
     rw[e] at u
     have:=Zw5 u z hz y hyt
     omega
    have lostk:Zcm (p.take k) made[m]=true:=by
     rw[hx]
     refine Waf.mpr fun z hz=>?_
     have h1:=before z hz
     have h2:=rr.rg z (by rw[e]; exact Way _ hz)
     rw[Wad,decide_eq_true_iff,lk,Zpz h1 h2.1,(all z hz).2]
     exact⟨h1,rfl⟩
    have hz:m<(ds.zip made).length:=by rw[Wek]; omega
    have ez:ds.zip made=(ds.zip made).take m++(.tup [.str s,.int i],made[m])::(ds.zip made).drop (m+1):=by
     rw[<- ed]
     have:(ds.zip made)[m]=(ds[m],made[m]):=Wdz
     rw[<- this,<- Wbf hz,Wbg]
    rw[ez,Zm9] at pk
    ·rw[Zl2] at pk
     simp only[pk1] at pk
     have eg:made.getD i.toNat []=(made.take m).getD i.toNat []:=by
      rw[Xl,Xl,Wbk hin]
     rw[if_pos ⟨hs0,lostk⟩,eg,lk] at pk
     have ypos:y=(k:Int)+1\/y = -((k:Int)+1):=by unfold Zao at hk; split at hk<;>omega
     rcases ypos with e1 | e1
     ·rw[if_pos (by rw[<- e1]; exact hy)] at pk
      unfold rig at ry
      rw[hk,show ((k:Int)+1 - 1).toNat=k by omega,pk] at ry
      have:decide (0<y)=true:=decide_eq_true (by omega)
      rw[this] at ry
      cases ry
     ·have hy2 : -((k:Int)+1)∈(made.take m).getD i.toNat []:=by rw[<- e1]; exact hy
      have hn2:¬ ((k:Int)+1∈(made.take m).getD i.toNat []):=fun z=>by
       have:=rr.inj z hy2 (Zhn _).symm
       omega
      rw[if_neg hn2,if_pos hy2] at pk
      unfold rig at ry
      rw[hk,show ((k:Int)+1 - 1).toNat=k by omega,pk] at ry
      have:decide (0<y)=false:=decide_eq_false (by omega)
      rw[this] at ry
      cases ry
    ·intro ee hee
     obtain⟨j,hj,rfl⟩:=Wbe.mp hee
     rw[Wau] at hj
     rw[List.getElem_take,Wdz]
     cases w:Zcm (p.take k) (made[j]'(by omega)) with
     | false=>rfl
     | true =>
      have:=Zsh (fun x hx=>((Zt4 (by omega) (ups _ (Xo (by omega)))).1.rg x hx).1) w
      rw[first j (by omega)] at this
      cases this
   ·cases es
  ·split at es
   ·split at es
    ·rename_i hi
     cases es
     refine⟨rss.getD i.toNat [],?_,by rw[<- hx]; exact lost⟩
     rw[Xl,Xd (by omega)]
     exact Xo _
    ·cases es
   ·cases es
 ·rename_i s i j n
  split at es
  ·rename_i hc
   exfalso
   rw[lt] at hc
   obtain⟨hc0,hc1,hc2,hc3,hc4⟩:=hc
   have hii:i.toNat<m:=by omega
   have hjj:j.toNat<m:=by omega
   have ua:=upi hii
   have ub:=upi hjj
   have na:=nl hii
   have nb:=nl hjj
   generalize (made.take m).getD i.toNat []=a at ua na es
   generalize (made.take m).getD j.toNat []=b at ub nb es
   unfold Zdj at es
   split at es
   ·cases es
   ·split at es
    ·cases es
    ·cases es
     rename_i h1 _ h2
     have hn:n∈a /\ -n∈b:=by
      refine⟨?_,?_⟩
      ·exact Tbp fun z=>h1 (.inl z)
      ·exact Tbp fun z=>h1 (.inr z)
     have inx:∀ {z:Int},z∈(a.filter fun x=>decide (x≠n))++(b.filter fun x=>decide (x ≠ -n)).filter (fun x=>decide (x∉a.filter fun x=>decide (x≠n)))->rig p z=false:=fun hz=>(all _ ((Za0 _).mem_iff.mpr hz)).2
     have rn:=(Zt4 (by omega) ua).1.rg n hn.1
     cases rgn:rig p n with
     | false =>
      have:=mk ua fun z hz=>by
       by_cases e:z=n
       ·rw[e]; exact rgn
       ·exact inx (Way _ (Waa.mpr ⟨hz,by simpa using e⟩))
      rw[na] at this; cases this
     | true =>
      have rgm:rig p (-n)=false:=by rw[Zyh ⟨rn.1,by omega⟩,rgn]; rfl
      have:=mk ub fun z hz=>by
       by_cases e:z = -n
       ·rw[e]; exact rgm
       ·by_cases w:z∈a.filter fun x=>decide (x≠n)
        ·exact inx (Way _ w)
        ·exact inx (Wac _ (Waa.mpr ⟨Waa.mpr ⟨hz,by simpa using e⟩,decide_eq_true w⟩))
      rw[nb] at this; cases this
  ·cases es
 ·cases es
variable {σ:SD} {H:HD} {Q:D->HD->Prop}
theorem Zqp {p:Nat} {xs:List D} {k:Nat} (g:H[p]? = some (.lst xs)) (q:Q (.ref H.length) (H++[.lst (xs.drop k)])):wE (slD (.ref p) (some (k:Int)) none H) Q :=
 ⟨_,_,by rw[<- Ztp]; simp only[slD,g],q⟩
theorem Zrq.drop {ds:List Int} (h:Zrq ds) (k:Nat):Zrq (ds.drop k):=fun d hd=>h d (List.mem_of_mem_drop hd)
theorem Zba (ls:List Int):Fines (ls.map .int) (ls.map .int) 0:=by
 induction ls with
 | nil=>exact .nil
 | cons l r ih=>exact .cons (.int l) ih
theorem Zy4 {i n:Nat} {x:String} {F:FF} {f:AF} (h:σ[i]? = some (some (.ty x))) (q:wE (Zal n F f σ H) Q):wE (Zmt i n x F f σ H) Q:=by
 unfold Zmt; rw[h]; simpa using q
theorem Zxy {xs:List D} {i:Nat} {d:D} (h:xs[i]? = some d):atI xs (i:Int)=some d:=Zdo h
theorem Zf8 {ks:List D} {x:Int} (hk:∀ d∈ks,Zby d) (h:1<=Zao x/\Zao x<=ks.length):atI ks (Zao x - 1)=some (Zbs (!Zc5 ks x)):=by
 have e:Zao x - 1=(((Zao x).toNat - 1:Nat):Int):=by omega
 rw[e]
 refine Zdo ?_
 rw[Zz2 hk (by omega)]
 unfold Zc5
 rw[Wfa]
theorem Zli {b:Bool} (q:Q (.bl (!b)) H):wE (eqD (Zbs b) (.str "all") H) Q:=by
 refine⟨_,_,Ztn b false H,?_⟩
 cases b<;>exact q
theorem Zlz {b:Bool} (q:Q (.bl b) H):wE (neD (Zbs b) (.str "all") H) Q:=by
 cases b
 ·exact⟨_,_,rfl,q⟩
 ·exact⟨_,_,rfl,q⟩
theorem Zrk {ks:List D} {ls:List Int} (hk:∀ d∈ks,Zby d) (h8:ks.length<=8) (h:R ks.length ls) (q:Q (Zas (Zco ks ls)) H):wE (Zhy [.tup ks,.str "all",Zas ls] H) Q:=by
 have hl:=h.len
 refine Za4 rfl ?_
 show wS (Zel [some (.tup ks),some (.str "all"),some (.tup (ls.map .int)),none] H) _
 unfold Zel
 fail "g"
 rw[Xi]
 refine Zop (fun m σ H'=>m<=ls.length/\H'=H/\(∀ x∈ls.drop m,Zc5 ks x=true)/\σ=[some (.tup ks),some (.str "all"),some (.tup (ls.map .int)),some (.int (m:Int))]) (fun m σ H' ⟨i1,i2,i3,i4⟩=>?_) 20 ls.length _ _ (by omega) ⟨Xe _,rfl,by simp,rfl⟩
 subst i2 i4
 have fi:∀ m:Nat,(∀ x∈ls.drop m,Zc5 ks x=true)->(∀ x,(ls.take m).getLast? = some x->Zc5 ks x=false)->Zco ks ls=ls.take m:=fun m h1 h2=>by
  have:=Zim ks (ls.take m) (ls.drop m) h1 h2
  rwa [Wbg] at this
 have done:Zco ks ls=ls.take m->Zxw (fun σ1 H1=>wS (Zae (Za6 (eSl (Zac 2) Ze0 (Zdq (Zac 3)))) Zah σ1 H1) (fin Q)) (fin Q) .nx [some (.tup ks),some (.str "all"),some (.tup (ls.map .int)),some (.int (m:Int))] H':=fun e=>by
  fail "g"
  rw[<- Wev,<- e]
  exact q
 fail "g"
 refine⟨fun z=>?_,fun z=>?_⟩
 ·have z:=of_decide_eq_true z
  obtain⟨m',rfl⟩:∃ m',m=m'+1:=⟨m - 1,by omega⟩
  have hm:m'<ls.length:=by omega
  have hr:=h.rg _ (Xo hm)
  fail "g"
  rw[show ((m'+1:Nat):Int) - 1=(m':Int) by omega]
  refine w_ixT (Zxy (d:=.int ls[m']) (by simp[hm])) ?_
  fail "g"
  refine w_ixT (Zf8 hk hr) ?_
  fail "g"
  refine Zli ?_
  fail "g"
  rw[Wfa]
  refine⟨fun y=>⟨m',rfl,?_⟩,fun y=>?_⟩
  ·refine w_seq (wS_of (by with_unfolding_all rfl) ?_)
   fail "g"
   refine⟨by omega,rfl,fun x hx=>?_,?_⟩
   ·rw[Wbf hm] at hx
    rcases Xh.mp hx with rfl | hx
    ·exact y
    ·exact i3 x hx
   ·show [some (D.tup ks),some (D.str "all"),some (D.tup (ls.map D.int)),some (D.int (((m'+1:Nat):Int) - 1))]=_
    rw[show ((m'+1:Nat):Int) - 1=(m':Int) by omega]
  ·refine done (fi _ i3 fun x hx=>?_)
   rw[List.take_succ_eq_append_getElem hm,Wel] at hx
   simp at hx
   rw[<- hx]; exact y
 ·have z:=of_decide_eq_false z
  obtain rfl:m=0:=by omega
  fail "g"
  rw[<- Wev,<- fi 0 i3 (by simp)]
  exact q
nonrec def Zvv:Option (List Int)->D
 | none=>.non
 | some ls=>Zas ls
theorem Zn7 (ls:List Int) (x:Int):((ls.map PyData.int).any fun z=>Ua z (.int x))=decide (x∈ls):=by
 rw[Bool.eq_iff_iff,Waw,decide_eq_true_iff]
 constructor
 ·rintro⟨z,hz,e⟩
  obtain⟨y,hy,rfl⟩:=Xp.mp hz
  have:y=x:=by simpa [Ua] using e
  subst this; exact hy
 ·intro h
  exact⟨.int x,Xp.mpr ⟨x,h,rfl⟩,by simp[Ua]⟩
theorem Zz5 {x:Int} {ls:List Int} (q:Q (.bl (decide (x∈ls))) H):wE (inD (.int x) (.tup (ls.map .int)) H) Q:=w_inT (.int x) (Zba ls) (by omega) (by omega) (by rw[Zn7]; exact q)
theorem Zty {x:Int} {ls:List Int} (q:Q (.bl (!decide (x∈ls))) H):wE (niD (.int x) (.tup (ls.map .int)) H) Q:=w_niT (.int x) (Zba ls) (by omega) (by omega) (by rw[Zn7]; exact q)
theorem Zog {p r:Nat} {ds:List D} {xs:List Vu} {h:Nat} (f:Fines ds xs h) (hh:h<30) (g1:H[p]? = some (.lst ds)) (g2:H[r]? = some (.lst [])) (q:Q (.bl (!ds.isEmpty)) H):wE (neD (.ref p) (.ref r) H) Q :=
 ⟨_,_,Zo1 (f.dat hh g1) (Fines.nil.dat (by omega:0<30) g2),by
  have e:Ua (.list xs) (.list [])=ds.isEmpty:=by
   cases ds with
   | nil=>have:=f.len; cases xs with | nil=>rfl | cons a b=>simp at this
   | cons d r=>have:=f.len; cases xs with | nil=>simp at this | cons a b=>simp[Ua,Ul]
  rw[e]; exact q⟩
theorem Zs9 {xs:List D} (q:Q (.ref H.length) (H++[.lst xs])):wE (Znr [.tup xs] H) Q:=⟨_,_,rfl,q⟩
theorem Zyu {p:Nat} {xs:List D} (g:H[p]? = some (.lst xs)) (q:Q (.ref H.length) (H++[.lst xs])):wE (Znr [.ref p] H) Q:=⟨_,_,by simp[Znr,Zl4,g],q⟩
theorem Zoc {p:Nat} {zs:List Int} (g:H[p]? = some (.lst (zs.map .int))) (hl:zs.length<=60) (nd:(zs.map Zao).Nodup) (q:Q (.ref H.length) (H++[.lst ((Zbw zs).map .int)])):wE (Zj6 [.ref p] H) Q:=by
 refine⟨_,_,?_,q⟩
 unfold Zj6
 simp only[Zl4,g,Zb]
 have e:Zfr (zs.map .int)=some zs:=by
  clear g nd hl q
  induction zs with
  | nil=>rfl
  | cons z r ih=>simp[Zfr,ih]
 rw[e]
 simp only[Zb]
 exact if_pos ⟨by omega,nd⟩
theorem Zvf {p:Nat} {zs:List Int} (g:H[p]? = some (.dci (zs.map fun x=>(x,.bl true)))) (hl:zs.length<=60) (nd:(zs.map Zao).Nodup) (q:Q (.ref H.length) (H++[.lst ((Zbw zs).map .int)])):wE (Zjc [.ref p] H) Q:=by
 refine⟨_,_,?_,q⟩
 unfold Zjc
 simp only[g]
 have e:(zs.map fun x=>(x,D.bl true)).map (·.1)=zs:=by rw[Wbb]; exact List.map_id' zs
 rw[e]
 exact if_pos ⟨by simp; omega,nd⟩
theorem Zuw {ks:List D} {ls:List Int} (hk:∀ d∈ks,Zby d) (h8:ks.length<=8) (h:R ks.length ls) (q:∀ H',Fm [] H H'->Q (Zas (Zco ks ls)) H'):wE (Zhv [.tup ks,.str "all",Zas ls] H) Q:=by
 have hl:=h.len
 refine Za4 rfl ?_
 show wS (Zea [some (.tup ks),some (.str "all"),some (.tup (ls.map .int)),none,none,none,none] H) _
 unfold Zea
 fail "g"
 refine⟨_,rfl,?_⟩
 refine Zbj (fun d t σ H'=>∃ (pre r fs:List Int) (z3 z4 z5:Option D),ls=pre++r/\t=Zb5 (pre.length:Int) (r.map .int)/\fs++Zco ks r=Zco ks ls/\fs.length<=pre.length/\H'[H.length]? = some (.lst (fs.map .int))/\Fm [] H H'/\σ=[some (.tup ks),some (.str "all"),some (.tup (ls.map .int)),some (.ref H.length),z3,z4,z5]) (fun _ _ _ _ _=>Zga) (fun d x t σ H1 ⟨pre,r,fs,z3,z4,z5,i1,i2,i3,i4,i5,i6,i7⟩=>?_) (fun d σ H1 ⟨pre,r,fs,z3,z4,z5,i1,i2,i3,i4,i5,i6,i7⟩=>?_) _ [] _ _ ⟨[],ls,[],_,_,_,rfl,rfl,rfl,Xe _,last,Fm.app _,rfl⟩
 ·subst i7
  cases r with
  | nil=>cases i2
  | cons l r =>
   obtain⟨rfl,rfl⟩:=Wbm.inj (show x::t=.tup [.int (pre.length:Int),.int l]::Zb5 ((pre.length:Int)+1) (r.map .int) from i2)
   have lp:pre.length<=8:=by rw[i1] at hl; simp at hl; omega
   have ed:(ls.map D.int).drop pre.length=(l::r).map D.int:=by rw[i1,<- Wbo,List.drop_left]
   fail "g"
   rw[ed]
   fail "g"
   refine Zb1 (fun d=>match d with | .int x => !Zc5 ks x | _=>true) (fun H'=>H'=H1) (fun _ j=>Zga) _ (fun y hy H2 j=>?_) _ rfl fun H2 j=>?_
   ·obtain⟨z,hz,rfl⟩:=Xp.mp hy
    subst j
    have hr:=h.rg z (by rw[i1]; exact Wac _ hz)
    fail "g"
    refine w_ixT (Zf8 hk hr) ?_
    fail "g"
    refine Zlz ?_
    exact⟨_,rfl,rfl,rfl⟩
   ·subst j
    have ef:(((l::r).map D.int).filter fun d=>match d with | .int x => !Zc5 ks x | _=>true)=((l::r).filter fun x => !Zc5 ks x).map .int:=by
     rw[Wbh]
     rfl
    rw[ef]
    refine⟨by have:=Wat (fun x => !Zc5 ks x) (l::r); rw[i1] at hl; simp at hl this ⊢; omega,?_⟩
    have tl:Zb5 ((pre.length:Int)+1) (r.map .int)=Zb5 (((pre++[l]).length:Nat):Int) (r.map .int):=by simp
    have hn:H.length≠H2.length:=by have:=(Xc.mp i5).1; omega
    fail "i"
    refine Zog (p:=H2.length) (Zba ((l::r).filter fun x => !Zc5 ks x)) (by omega) (appL last) last ?_
    fail "g"
    refine⟨fun z=>?_,fun z=>?_⟩
    ·have hn:¬ ((l::r).all (Zc5 ks)=true):=fun y=>by
      have:((l::r).filter fun x => !Zc5 ks x)=[]:=Wcw.mpr fun a ha=>by rw[Waf.mp y a ha]; simp
      rw[this] at z; cases z
     fail "g"
     refine⟨isl (appL (appL i5)),?_⟩
     fail "g"
     refine Zek (appL (appL i5)) (by simp; omega) ?_
     fail "g"
     refine⟨pre++[l],r,fs++[l],_,_,_,by rw[i1]; simp,tl,?_,by simp; omega,by rw[Zib (appL (appL i5))]; simp,?_,rfl⟩
     ·rw[<- i3]
      conv=>rhs; rw[Zco,if_neg hn]
      simp
     ·exact((i6.trans (Fm.app _)).trans (Fm.app _)).new (Fm.set (S:=[H.length]) (by simp)) (fun q hq _=>by simp at hq; subst hq; exact Xe _)
    ·have hn:(l::r).all (Zc5 ks)=true:=by
      rw[Waf]
      intro a ha
      cases y:Zc5 ks a with
      | true=>rfl
      | false =>
       have:a∈(l::r).filter fun x => !Zc5 ks x:=Waa.mpr ⟨ha,by rw[y]; rfl⟩
       cases w:(l::r).filter fun x => !Zc5 ks x with
       | nil=>rw[w] at this; cases this
       | cons b bs=>rw[w] at z; cases z
     fail "g"
     refine⟨pre++[l],r,fs,_,_,_,by rw[i1]; simp,tl,?_,by simp; omega,appL (appL i5),(i6.trans (Fm.app _)).trans (Fm.app _),rfl⟩
     rw[<- i3]
     conv=>rhs; rw[Zco,if_pos hn]
     rw[Znb ks r fun x hx=>Waf.mp hn x (by simp[hx])]
 ·subst i7
  cases r with
  | cons l r=>cases i2
  | nil =>
   fail "g"
   have e:fs=Zco ks ls:=by rw[<- i3]; exact(Xw fs).symm
   rw[e]
   exact q _ i6
variable {σ:SD} {H:HD} {Q:D->HD->Prop}
nonrec def Znh (a b:List Int):Option (List Int):=if b.any (fun x=>decide (-x∈a))=true then none else some (Zbw (a++b.filter fun x=>decide (x∉a)))
theorem Zkw (a b:List Int) (n:Int) (h:n∈a /\ -n∈b):Zdj a b n=Znh (a.filter fun x=>decide (x≠n)) (b.filter fun x=>decide (x ≠ -n)):=by
 unfold Zdj Znh
 rw[if_neg (by simp[h.1,h.2])]
theorem Zmo {a:List Int} {n:Int} (hl:a.length<=1000) (q:∀ H',Fm [] H H'->Q (Zas (a.filter fun x=>decide (x≠n))) H'):wE (Zgy [Zas a,.int n] H) Q:=by
 refine Za4 rfl ?_
 show wS (Zfc [some (.tup (a.map .int)),some (.int n)] H) _
 unfold Zfc
 fail "g"
 refine Zb1 (fun d=>match d with | .int x=>decide (x≠n) | _=>true) (fun H'=>H'=H) (fun _ j=>Zga) _ (fun y hy H2 j=>?_) _ rfl fun H2 j=>?_
 ·obtain⟨z,hz,rfl⟩:=Xp.mp hy
  subst j
  fail "g"
  refine⟨?_,rfl⟩
  by_cases e:z=n<;>simp[e]
 ·subst j
  have ef:((a.map D.int).filter fun d=>match d with | .int x=>decide (x≠n) | _=>true)=(a.filter fun x=>decide (x≠n)).map .int:=by
   rw[Wbh]
   rfl
  rw[ef]
  refine⟨by have:=Wat (fun x=>decide (x≠n)) a; simp at this ⊢; omega,?_⟩
  fail "g"
  exact q _ (Fm.app _)
theorem Yax {M:Nat} {a b:List Int} (ha:R M a) (hb:R M b) (hM:M<=8) (q:∀ H',Fm [] H H'->Q (Zvv (Znh a b)) H'):wE (Zt6 [Zas a,Zas b] H) Q:=by
 have la:=ha.len
 have lb:=hb.len
 refine Za4 rfl ?_
 show wS (Zmv [some (.tup (a.map .int)),some (.tup (b.map .int)),none,none] H) _
 unfold Zmv
 fail "g"
 refine Zs9 ?_
 fail "g"
 refine Zbj (fun d t σ H'=>∃ (pre r:List Int) (z3:Option D),b=pre++r/\t=r.map .int/\pre.any (fun x=>decide (-x∈a))=false/\H'[H.length]? = some (.lst ((a++pre.filter fun x=>decide (x∉a)).map .int))/\Fm [] H H'/\σ=[some (.tup (a.map .int)),some (.tup (b.map .int)),some (.ref H.length),z3]) (fun _ _ _ _ _=>Zga) (fun d x t σ H1 ⟨pre,r,z3,i1,i2,i3,i4,i5,i6⟩=>?_) (fun d σ H1 ⟨pre,r,z3,i1,i2,i3,i4,i5,i6⟩=>?_) _ [] _ _ ⟨[],b,_,rfl,rfl,rfl,by simp,Fm.app _,rfl⟩
 ·subst i6
  cases r with
  | nil=>cases i2
  | cons l r =>
   obtain⟨rfl,rfl⟩:=Wbm.inj i2
   fail "i"
   refine Zz5 ?_
   fail "g"
   refine⟨fun z=>?_,fun z=>?_⟩
   ·fail "g"
    have:Zvv (Znh a b)=.non:=by
     unfold Znh
     rw[if_pos (by rw[i1]; simp at z; simp[z])]; rfl
    rw[<- this]
    exact q _ i5
   ·fail "i"
    refine Zty ?_
    fail "g"
    have an:(pre++[l]).any (fun x=>decide (-x∈a))=false:=by rw[List.any_append,i3]; simp at z ⊢; exact z
    have lp:pre.length<=8:=by rw[i1] at lb; simp at lb; omega
    refine⟨fun y=>?_,fun y=>?_⟩
    ·fail "g"
     refine⟨isl i4,?_⟩
     fail "g"
     refine Zek i4 (by have:=Wat (fun x=>decide (x∉a)) pre; simp at this ⊢; omega) ?_
     fail "g"
     refine⟨pre++[l],r,_,by rw[i1]; simp,rfl,an,?_,i5.new (Fm.set (S:=[H.length]) (by simp)) (fun q hq _=>by simp at hq; subst hq; exact Xe _),rfl⟩
     rw[Zib i4]
     have y:l∉a:=by simpa using y
     simp[Wcd,y]
    ·fail "g"
     refine⟨pre++[l],r,_,by rw[i1]; simp,rfl,an,?_,i5,rfl⟩
     rw[i4]
     have y:l∈a:=by simpa using y
     simp[Wcd,y]
 ·subst i6
  cases r with
  | cons l r=>cases i2
  | nil =>
   rw[Xw] at i1
   subst i1
   fail "g"
   have hj:=R.join0 ha hb i3
   refine Zoc i4 (by have:=hj.len; omega) hj.nd ?_
   fail "g"
   have:Zvv (Znh a b)=.tup ((Zbw (a++b.filter fun x=>decide (x∉a))).map .int):=by
    unfold Znh
    rw[if_neg (by rw[i3]; simp)]; rfl
   rw[<- this]
   exact q _ (i5.trans (Fm.app _))
theorem Zw1 {M:Nat} {a b:List Int} {n:Int} (ha:R M a) (hb:R M b) (hM:M<=8) (q:∀ H',Fm [] H H'->Q (Zvv (Zdj a b n)) H'):wE (Zlq [Zas a,Zas b,.int n] H) Q:=by
 have la:=ha.len
 have lb:=hb.len
 refine Za4 rfl ?_
 show wS (Zgu [some (.tup (a.map .int)),some (.tup (b.map .int)),some (.int n)] H) _
 unfold Zgu
 have no:(n∉a \/ -n∉b)->Q .non H:=fun h=>by
  have e:Zvv (Zdj a b n)=.non:=by unfold Zdj; rw[if_pos h]; rfl
  rw[<- e]; exact q _ Fm.refl
 fail "i"
 refine Zty ?_
 fail "g"
 refine⟨fun z=>?_,fun z=>?_⟩
 ·fail "g"
  exact no (.inl (by simpa using z))
 ·fail "g"
  refine Zty ?_
  fail "g"
  refine⟨fun y=>?_,fun y=>?_⟩
  ·fail "g"
   exact no (.inr (by simpa using y))
  ·fail "g"
   have h:n∈a /\ -n∈b:=⟨by simpa using z,by simpa using y⟩
   refine Zmo (a:=a) (by omega) fun H1 x1=>?_
   fail "g"
   refine Zmo (a:=b) (by omega) fun H2 x2=>?_
   fail "g"
   refine Yax (ha.sub Was) (hb.sub Was) hM fun H3 x3=>?_
   rw[<- Zkw a b n h]
   fail "g"
   exact q _ ((x1.trans x2).trans x3)
nonrec def Zgw (n:Int):List Int->List Int->Option (List Int)
 | zs,[]=>some zs
 | zs,x::r=>if Zao x=n then Zgw n zs r else if -x∈zs then none else Zgw n (if x∈zs then zs else zs++[x]) r
theorem Zxk {M:Nat} {a:List Int} {n:Int} (ha:R M a) (h1:1<=n) (hn:n∈a) (b:List Int):∀ (a2 a1:List Int),a=a1++a2->Zgw n (a1.filter fun x=>decide (x≠n)) (a2++b)=Zgw n (a.filter fun x=>decide (x≠n)) b
 | [],a1,e=>by rw[Xw] at e; subst e; rfl
 | x::a2,a1,e=>by
  have en:Zao n=n:=by unfold Zao; split<;>omega
  have hx:x∈a:=by rw[e]; simp
  have e':a=(a1++[x])++a2:=by rw[e]; simp
  have ih:=Zxk ha h1 hn b a2 (a1++[x]) e'
  rw[Wbt,Zgw]
  rw[Wcd] at ih
  split
  ·rename_i z
   have:x=n:=ha.inj hx hn (by rw[z,en])
   simpa [this] using ih
  ·rename_i z
   have xn:x≠n:=fun y=>z (by rw[y]; exact en)
   have s1:∀ y,y∈a1.filter (fun x=>decide (x≠n))->y∈a:=fun y hy=>by rw[e]; exact Way _ (Waa.mp hy).1
   rw[if_neg (fun y=>by
    have:=ha.inj (s1 _ y) hx (Zhn x)
    have:=(ha.rg x hx).1
    unfold Zao at this
    split at this<;>omega)]
   rw[if_neg (fun y=>by
    have nd:=ha.nd
    rw[e,Wah,Wbq] at nd
    exact nd.2.2 (Zao x) (Xp.mpr ⟨x,(Waa.mp y).1,rfl⟩) (Zao x) (by simp) rfl)]
   simpa [xn] using ih
theorem Zxd {M:Nat} {a b:List Int} {n:Int} (hb:R M b) (h1:1<=n) (hn : -n∈b):∀ (b2 b1:List Int),b=b1++b2 ->
  Zgw n (a++(b1.filter fun x=>decide (x ≠ -n)).filter fun x=>decide (x∉a)) b2=if (b2.filter fun x=>decide (x ≠ -n)).any (fun x=>decide (-x∈a))=true then none else some (a++(b.filter fun x=>decide (x ≠ -n)).filter fun x=>decide (x∉a))
 | [],b1,e=>by rw[Xw] at e; subst e; rfl
 | x::b2,b1,e=>by
  have en:Zao (-n)=n:=by unfold Zao; split<;>omega
  have hx:x∈b:=by rw[e]; simp
  have e':b=(b1++[x])++b2:=by rw[e]; simp
  have ih:=Zxd (a:=a) hb h1 hn b2 (b1++[x]) e'
  rw[Zgw]
  rw[Wcd,Wcd] at ih
  split
  ·rename_i z
   have:x = -n:=hb.inj hx hn (by rw[z,en])
   simpa [this] using ih
  ·rename_i z
   have xn:x ≠ -n:=fun y=>z (by rw[y]; exact en)
   have s1:∀ y,y∈(b1.filter fun x=>decide (x ≠ -n)).filter (fun x=>decide (x∉a))->y∈b1:=fun y hy=>(Waa.mp (Waa.mp hy).1).1
   have c1:(-x∈a++(b1.filter fun x=>decide (x ≠ -n)).filter fun x=>decide (x∉a)) ↔ -x∈a:=by
    rw[Xn]
    refine⟨fun y=>y.elim id fun y=>?_,.inl⟩
    have:=hb.inj (by rw[e]; exact Way _ (s1 _ y)) hx (Zhn x)
    have:=(hb.rg x hx).1
    unfold Zao at this
    split at this<;>omega
   have c2:(x∈a++(b1.filter fun x=>decide (x ≠ -n)).filter fun x=>decide (x∉a)) ↔ x∈a:=by
    rw[Xn]
    refine⟨fun y=>y.elim id fun y=>?_,.inl⟩
    have nd:=hb.nd
    rw[e,Wah,Wbq] at nd
    exact absurd rfl (nd.2.2 (Zao x) (Xp.mpr ⟨x,s1 _ y,rfl⟩) (Zao x) (by simp))
   by_cases y : -x∈a
   ·rw[if_pos (c1.mpr y),if_pos (by simp[xn,y])]
   ·rw[if_neg (fun w=>y (c1.mp w))]
    by_cases w:x∈a
    ·rw[if_pos (c2.mpr w)]
     simpa [xn,y,w] using ih
    ·rw[if_neg (fun v=>w (c2.mp v))]
     simpa [xn,y,w] using ih
theorem Ztx {M:Nat} {a b:List Int} {n:Int} (ha:R M a) (hb:R M b) (h1:1<=n) (hn:n∈a) (hm : -n∈b):(Zgw n [] (a++b)).map Zbw=Zdj a b n:=by
 have e1:=Zxk ha h1 hn b a [] rfl
 have e2:=Zxd (a:=a.filter fun x=>decide (x≠n)) hb h1 hm b [] rfl
 rw[show ([]:List Int).filter (fun x=>decide (x≠n))=[] from rfl] at e1
 rw[e1]
 rw[show (([]:List Int).filter (fun x=>decide (x ≠ -n))).filter (fun x=>decide (x∉a.filter fun x=>decide (x≠n)))=[] from rfl,Xw] at e2
 rw[e2]
 rw[Zkw a b n ⟨hn,hm⟩]
 unfold Znh
 split<;>rfl
theorem Zo5 {M:Nat} {n:Int}:∀ (xs zs:List Int),(∀ x∈xs,1<=Zao x/\Zao x<=M)->R M zs->∀ ys,Zgw n zs xs=some ys->R M ys
 | [],zs,_,hz,ys,e=>by cases e; exact hz
 | x::r,zs,hx,hz,ys,e=>by
  rw[Zgw] at e
  split at e
  ·exact Zo5 r zs (fun y hy=>hx y (by simp[hy])) hz ys e
  ·split at e
   ·cases e
   ·rename_i h1 h2
    refine Zo5 r _ (fun y hy=>hx y (by simp[hy])) ?_ ys e
    split
    ·exact hz
    ·rename_i h3
     refine⟨?_,fun y hy=>?_⟩
     ·rw[Wah,Wbq]
      refine⟨hz.nd,by simp,fun u hu v hv e=>?_⟩
      obtain⟨y,hy,rfl⟩:=Xp.mp hu
      simp at hv
      subst hv
      rcases Zse e with z | z
      ·exact h3 (z ▸ hy)
      ·exact h2 (z ▸ hy)
     ·rcases Xn.mp hy with z | z
      ·exact hz.rg y z
      ·simp at z; subst z; exact hx y (by simp)
nonrec def kvT (x:Int):Int×D:=(x,.bl true)
theorem Zsd (k:Int):∀ zs:List Int,(Zbm (zs.map kvT) k).isSome=decide (k∈zs)
 | []=>rfl
 | z::r=>by
  have ih:=Zsd k r
  unfold Zbm at ih ⊢
  rw[Xs]
  by_cases e:z=k
  ·subst e
   rw[Wcu (by simp[kvT])]
   simp
  ·rw[Wcv (by simp[kvT,e]),ih]
   have:¬ k=z:=fun w=>e w.symm
   simp[this]
theorem Yay (k:Int) (zs:List Int):Zhb (zs.map kvT) k (.bl true)=(if k∈zs then zs else zs++[k]).map kvT:=by
 unfold Zhb
 by_cases h:k∈zs
 ·rw[if_pos (by rw[List.any_map,Waw]; exact⟨k,h,by simp[kvT]⟩),if_pos h,Wbb]
  refine Wdh fun x _=>?_
  show (if x=k then (x,D.bl true) else kvT x)=kvT x
  split<;>rfl
 ·have hn:¬ ((zs.map kvT).any (fun p=>decide (p.1=k))=true):=by
   rw[List.any_map,Waw]
   rintro⟨x,hx,e⟩
   have e:x=k:=of_decide_eq_true e
   subst e
   exact h hx
  rw[if_neg hn,if_neg h,Wah]
  rfl
theorem Zqq {n:Nat} {kvs:List (Int×D)} {k:Int} (g:H[n]? = some (.dci kvs)) (q:Q (.bl (Zbm kvs k).isSome) H):wE (Yap (.int k) (.ref n) H) Q:=⟨_,_,by simp[Yap,Zu3,g],q⟩
theorem Zkv {n:Nat} {kvs:List (Int×D)} {k:Int} {v:D} {Z:HD->Prop} (g:H[n]? = some (.dci kvs)) (h:kvs.length<=1000) (q:Z (H.set n (.dci (Zhb kvs k v)))):wH (Zgg (.ref n) (.int k) v H) Z:=by
 refine⟨_,?_,q⟩
 have sz:=Ubd
 simp only[Zgg,g]
 exact if_pos (by omega)
theorem Zv7 (q:Q (.ref H.length) (H++[.dci []])):wE (eDI σ H) Q:=⟨_,_,rfl,q⟩
theorem Zjf {M:Nat} {a b:List Int} {n:Int} (ha:R M a) (hb:R M b) (hM:M<=8) (h1:1<=n) (q:∀ H',Fm [] H H'->Q (Zvv (Zdj a b n)) H'):wE (Zdv [Zas a,Zas b,.int n] H) Q:=by
 have la:=ha.len
 have lb:=hb.len
 refine Za4 rfl ?_
 show wS (Zcw [some (.tup (a.map .int)),some (.tup (b.map .int)),some (.int n),none,none] H) _
 unfold Zcw
 have no:(n∉a \/ -n∉b)->Q .non H:=fun h=>by
  have e:Zvv (Zdj a b n)=.non:=by unfold Zdj; rw[if_pos h]; rfl
  rw[<- e]; exact q _ Fm.refl
 fail "i"
 refine Zty ?_
 fail "g"
 refine⟨fun z=>?_,fun z=>?_⟩
 ·fail "g"
  exact no (.inl (by simpa using z))
 fail "g"
 refine Zty ?_
 fail "g"
 refine⟨fun y=>?_,fun y=>?_⟩
 ·fail "g"
  exact no (.inr (by simpa using y))
 fail "g"
 refine Zv7 ?_
 have hn:n∈a:=by simpa using z
 have hm : -n∈b:=by simpa using y
 have fj:=Ztx ha hb h1 hn hm
 fail "g"
 rw[<- Wah]
 refine Zbj (fun d t σ H'=>∃ (pre r zs:List Int) (z4:Option D),a++b=pre++r/\t=r.map .int/\Zgw n zs r=Zgw n [] (a++b)/\R M zs/\H'[H.length]? = some (.dci (zs.map kvT))/\Fm [] H H'/\σ=[some (.tup (a.map .int)),some (.tup (b.map .int)),some (.int n),some (.ref H.length),z4]) (fun _ _ _ _ _=>Zga) (fun d x t σ H1 ⟨pre,r,zs,z4,i1,i2,i3,i4,i5,i6,i7⟩=>?_) (fun d σ H1 ⟨pre,r,zs,z4,i1,i2,i3,i4,i5,i6,i7⟩=>?_) _ [] _ _ ⟨[],a++b,[],_,rfl,rfl,rfl,⟨.nil,by simp⟩,last,Fm.app _,rfl⟩
 ·subst i7
  cases r with
  | nil=>cases i2
  | cons l r =>
   obtain⟨rfl,rfl⟩:=Wbm.inj i2
   have hl:1<=Zao l/\Zao l<=M:=by
    have:l∈a++b:=by rw[i1]; simp
    rcases Xn.mp this with w | w
    ·exact ha.rg l w
    ·exact hb.rg l w
   have i1':a++b=(pre++[l])++r:=by rw[i1]; simp
   rw[Zgw] at i3
   fail "i"
   fail "g"
   refine⟨fun w=>?_,fun w=>?_⟩
   ·have w:Zao l≠n:=by simpa using w
    rw[if_neg w] at i3
    fail "i"
    refine Zqq i5 ?_
    rw[Zsd]
    fail "g"
    refine⟨fun v=>?_,fun v=>?_⟩
    ·fail "g"
     rw[if_pos (of_decide_eq_true v)] at i3
     rw[<- i3] at fj
     have e:Zvv (Zdj a b n)=.non:=by rw[<- fj]; rfl
     rw[<- e]; exact q _ i6
    ·fail "g"
     rw[if_neg (of_decide_eq_false v)] at i3
     refine Zkv i5 (by have:=i4.len; simp; omega) ?_
     rw[Yay]
     fail "g"
     refine⟨pre++[l],r,_,_,i1',rfl,i3,?_,Zib i5,i6.new (Fm.set (S:=[H.length]) (by simp)) (fun q hq _=>by simp at hq; subst hq; exact Xe _),rfl⟩
     have:=Zo5 (M:=M) (n:=n) [l] zs (by simpa using hl) i4 (if l∈zs then zs else zs++[l]) (by rw[Zgw,if_neg w,if_neg (of_decide_eq_false v)]; rfl)
     exact this
   ·have w:Zao l=n:=by simpa using w
    rw[if_pos w] at i3
    fail "g"
    exact⟨pre++[l],r,zs,_,i1',rfl,i3,i4,i5,i6,rfl⟩
 ·subst i7
  cases r with
  | cons l r=>cases i2
  | nil =>
   rw[<- i3] at fj
   have e:Zvv (Zdj a b n)=.tup ((Zbw zs).map .int):=by rw[<- fj]; rfl
   fail "g"
   refine Zvf i5 (by have:=i4.len; omega) i4.nd ?_
   fail "g"
   rw[<- e]
   exact q _ (i6.trans (Fm.app _))
nonrec def nms (ks:List D):List Int:=((Wcl ks.length).map fun k:Nat=>(k:Int)+1).filter fun n => !Zc5 ks n
theorem Zos {ks:List D} {n:Int}:n∈nms ks ↔ 1<=n/\n<=ks.length/\Zc5 ks n=false:=by
 unfold nms
 rw[Waa,Xp]
 constructor
 ·rintro⟨⟨k,hk,rfl⟩,h⟩
  rw[Wan] at hk
  exact⟨by omega,by omega,by simpa using h⟩
 ·rintro⟨h1,h2,h3⟩
  exact⟨⟨(n - 1).toNat,by rw[Wan]; omega,by omega⟩,by rw[h3]; rfl⟩
theorem Zta {ks:List D} {rss:List (List Int)} {P:List D->HD->Prop} (hk:∀ d∈ks,Zby d) (h8:ks.length<=8) (q:P ((nms ks).map .int) H) :
  ∃ j:Int,[D.int ks.length]=[D.int j]/\Zg6 j/\wA (Zdt [] (Zzq [0,1] (some (Zar ks rss)::some (.str "all")::σ)) (tOf (eOp neD (eOp ixD (eOp ixD (Zac 1) (eC (.int 0))) (Zac 0)) (Zac 2))) (eOp Zbo (Zac 0) (eC (.int 1))) (Zan 0 j.toNat) H) P:=by
 refine⟨_,rfl,⟨by omega,by omega⟩,?_⟩ -- w_names2
 rw[Xr]
 have ab:∀ k:Nat,Zao ((k:Int)+1)=(k:Int)+1:=fun k=>by unfold Zao; split<;>omega
 refine Yaj (fun d=>match d with | .int k => !Zc5 ks (k+1) | _=>false) (fun d=>match d with | .int k=>.int (k+1) | d=>d) (fun H'=>H'=H) (fun _ j=>Zga) _ (fun y hy H2 j=>?_) (fun y hy _ H2 j=>?_) _ rfl fun H2 j=>?_
 ·simp only[Zan,Xp,Wan] at hy
  obtain⟨k,hk',rfl⟩:=hy
  rw[Wdl]
  subst j
  show wT (tOf _ (some (.int (k:Int))::[some (Zar ks rss),some (.str "all")]) H2) _
  fail "g"
  have e:=Zf8 (x:=(k:Int)+1) hk (by rw[ab]; omega)
  rw[ab,show (k:Int)+1 - 1=k by omega] at e
  refine w_ixT e ?_
  fail "g"
  refine Zlz ?_
  exact⟨_,rfl,rfl,rfl⟩
 ·simp only[Zan,Xp,Wan] at hy
  obtain⟨k,hk',rfl⟩:=hy
  subst j
  show wE (eOp Zbo (Zac 0) (eC (.int 1)) (some (.int (0+(k:Int)))::[some (Zar ks rss),some (.str "all")]) H2) _
  fail "g"
  exact⟨rfl,rfl⟩
 ·subst j
  have ef:((Zan 0 ks.length).filter fun d=>match d with | .int k => !Zc5 ks (k+1) | _=>false).map (fun d=>match d with | .int k=>.int (k+1) | d=>d)=(nms ks).map D.int:=by
   unfold Zan nms
   rw[Wbh,Wbb,Wbh,Wbb]
   simp only[Tbt,Wdl]
  rw[ef]
  exact q
variable {σ:SD} {H:HD} {Q:D->HD->Prop}
inductive St (ks:List D) (rss made:List (List Int)):D->List Int->Prop
 | less (i:Nat) (h:i<made.length):St ks rss made (.tup [.str "less",.int i]) (Zco ks made[i])
 | row (i:Nat) (h:i<rss.length):St ks rss made (.tup [.str "row",.int i]) rss[i]
 | joined (i j:Nat) (n:Int) (x:List Int) (hi:i<made.length) (hj:j<made.length) (hn:1<=n/\n<=ks.length) (ho:Zc5 ks n=false) (e:Zdj made[i] made[j] n=some x):St ks rss made (.tup [.str "joined",.int i,.int j,.int n]) x
theorem getI {l:List (List Int)} {i:Int} (h:0<=i/\i<l.length):∃ j:Nat,∃ hj:j<l.length,i=j/\l.getD i.toNat []=l[j]:=by
 refine⟨i.toNat,by omega,by omega,?_⟩
 rw[Xl,Xd (by omega)]
 rfl
theorem St.of {ks:List D} {rss made:List (List Int)} {d:D} {x:List Int} (h:stp ks rss made d=some x):St ks rss made d x:=by
 unfold stp at h
 split at h
 ·split at h
  ·split at h
   ·rename_i hs hi
    obtain⟨j,hj,rfl,e⟩:=getI hi
    rw[e] at h
    cases h
    subst hs
    exact .less j hj
   ·cases h
  ·split at h
   ·split at h
    ·rename_i hs hi
     obtain⟨j,hj,rfl,e⟩:=getI hi
     rw[e] at h
     cases h
     subst hs
     exact .row j hj
    ·cases h
   ·cases h
 ·split at h
  ·rename_i hc
   obtain⟨rfl,h1,h2,h3,h4⟩:=hc
   obtain⟨i,hi,rfl,e1⟩:=getI h1
   obtain⟨j,hj,rfl,e2⟩:=getI h2
   rw[e1,e2] at h
   exact .joined i j _ x hi hj h3 h4 h
  ·cases h
 ·cases h
theorem Zda {made:List (List Int)} {i:Nat} (h:i<made.length):atI (made.map Zas) (i:Int)=some (Zas made[i]):=Zdo (by simp[h])
theorem Zpm {i:Int} (q:Q (.bl true) H):wE (Zfj [.int i] H) Q:=by
 refine Za4 rfl ?_
 show wS (Zej [some (.int i)] H) _
 unfold Zej
 fail "g"
 exact q
theorem Zlg {i m:Nat} (h:i<m) (q:Q (.bl true) H):wE (Zbl [.int i,.int m] H) Q:=by
 refine Za4 rfl ?_
 show wS (Zb2 [some (.int i),some (.int m)] H) _
 unfold Zb2
 fail "g"
 refine Zpm ?_
 fail "g"
 rw[decide_eq_true (by omega)]
 exact q
theorem Zij {i m:Nat} (h:i<m) (q:Q (.bl true) H):wE (Zb9 [.int i,.int m] H) Q:=by
 refine Za4 rfl ?_
 show wS (Zdi [some (.int i),some (.int m)] H) _
 unfold Zdi
 fail "g"
 rw[decide_eq_true (by omega)]
 exact q
theorem Zn3 {n:Int} {ks:List D} (hk:∀ d∈ks,Zby d) (hn:1<=n/\n<=ks.length) (ho:Zc5 ks n=false) (q:Q (.bl true) H):wE (Zce [.tup ks,.str "all",.int n] H) Q:=by
 have ea:Zao n=n:=by unfold Zao; split<;>omega
 refine Za4 rfl ?_
 show wS (Za9 [some (.tup ks),some (.str "all"),some (.int n)] H) _
 unfold Za9
 fail "g"
 refine Zpm ?_
 fail "g"
 refine⟨fun z=>?_,fun z=>absurd hn.1 (by simpa using z)⟩
 fail "g"
 refine⟨fun y=>?_,fun y=>absurd hn.2 (by simpa using y)⟩
 fail "g"
 rw[<- ea]
 refine w_ixT (Zf8 hk (by omega)) ?_
 fail "g"
 refine Zlz ?_
 rw[ho]
 fail "g"
 exact q
theorem Zvr {pm:Nat} {ks:List D} {rss made:List (List Int)} {d:D} {x:List Int} (hk:∀ d∈ks,Zby d) (h8:ks.length<=8) (hm:∀ ls∈made,R ks.length ls) (g:H[pm]? = some (.lst (made.map Zas))) (h:St ks rss made d x)
  (q:∀ H',Fm [] H H'->Q (Zas x) H'):wE (Zg7 [Zar ks rss,.str "all",.ty "claims_row",.ref pm,d] H) Q:=by
 refine Za4 rfl ?_
 show wS (Ze3 [some (Zar ks rss),some (.str "all"),some (.ty "claims_row"),some (.ref pm),some d] H) _
 unfold Ze3
 cases h with
 | less i hi =>
  fail "i"
  (refine WP.w_if ?_; fail "g")
  fail "g"
  refine Za4 rfl ?_
  show wS (Zb4 [some (.tup ks),some (.str "all"),some (.ref pm),some (.tup [.str "less",.int i])] H) _
  unfold Zb4
  fail "i"
  fail "g"
  rw[Xi]
  refine Zlg hi ?_
  fail "g"
  refine w_ixR g (Zda hi) ?_
  fail "g"
  refine Zrk hk h8 (hm _ (Xo hi)) ?_
  fail "g"
  exact q H Fm.refl
 | row i hi =>
  fail "i"
  (refine WP.w_if ?_; fail "g")
  fail "i"
  fail "g"
  refine Zy4 rfl ?_
  fail "g"
  refine Za4 rfl ?_
  show wS (Zc0 [some (Zar ks rss),some (.tup [.str "row",.int i])] H) _
  unfold Zc0
  fail "i"
  fail "g"
  rw[Xi]
  refine Zlg hi ?_
  fail "g"
  refine w_ixT (Zda hi) ?_
  fail "g"
  exact q H Fm.refl
 | joined i j n x hi hj hn ho e =>
  fail "i"
  (refine WP.w_if ?_; fail "g")
  fail "i"
  fail "g"
  refine Za4 rfl ?_
  show wS (Zbk [some (.tup ks),some (.str "all"),some (.ref pm),some (.tup [.str "joined",.int i,.int j,.int n])] H) _
  unfold Zbk
  fail "i"
  fail "g"
  rw[Xi]
  refine Zlg hi ?_
  fail "g"
  rw[Xi]
  refine Zlg hj ?_
  fail "i"
  refine Zn3 hk hn ho ?_
  fail "g"
  refine w_ixR g (Zda hi) ?_
  fail "g"
  refine w_ixR g (Zda hj) ?_
  fail "g"
  refine Zw1 (hm _ (Xo hi)) (hm _ (Xo hj)) h8 fun H1 x1=>?_
  fail "g"
  rw[e]
  exact q _ x1
theorem w_inF {p:Nat} {bs:List Bool} (g:H[p]? = some (.lst (bs.map .bl))) (q:Q (.bl (!bs.all id)) H):wE (inD (.bl false) (.ref p) H) Q:=by
 have f:Fines (bs.map D.bl) (bs.map PyData.bool) 0:=by
  clear g q
  induction bs with
  | nil=>exact .nil
  | cons b r ih=>exact .cons (.bl b) ih
 refine Ycl (.bl false) f (by omega) (by omega) g ?_
 have:=Zxh bs
 rw[<- this,Wfa] at q
 exact q
theorem Zxs {x:Int} {p:Nat} {ls:List Int} (g:H[p]? = some (.lst (ls.map .int))) (q:Q (.bl (!decide (x∈ls))) H):wE (niD (.int x) (.ref p) H) Q:=w_niL (.int x) (Zba ls) (by omega) (by omega) g (by rw[Zn7]; exact q)
theorem Zo4 (ks:List D):(nms ks).length<=ks.length:=by
 have:=Wat (fun n => !Zc5 ks n) ((Wcl ks.length).map fun k:Nat=>(k:Int)+1)
 unfold nms
 simpa using this
theorem Zl7 {pm:Nat} {ks:List D} {rss made:List (List Int)} {d:D} {x:List Int} (hk:∀ d∈ks,Zby d) (h8:ks.length<=8) (hm:∀ ls∈made,R ks.length ls) (g:H[pm]? = some (.lst (made.map Zas))) (h:St ks rss made d x)
  (q:∀ H',Fm [] H H'->Q (Zas x) H'):wE (Zfp [Zar ks rss,.str "all",.ref pm,d] H) Q:=by
 refine Za4 rfl ?_
 show wS (Zeg [some (Zar ks rss),some (.str "all"),some (.ref pm),some d,none] H) _
 unfold Zeg
 cases h with
 | less i hi =>
  fail "i"
  (refine WP.w_if ?_; fail "g")
  fail "g"
  rw[Xi]
  refine Zij hi ?_
  fail "g"
  refine w_ixR g (Zda hi) ?_
  fail "g"
  refine Zuw hk h8 (hm _ (Xo hi)) fun H1 x1=>?_
  fail "g"
  exact q _ x1
 | row i hi =>
  fail "i"
  (refine WP.w_if ?_; fail "g")
  fail "i"
  fail "i"
  fail "g"
  refine Za4 rfl ?_
  show wS (Zdm [some (Zar ks rss),some (.str "all"),some (.int i),none,none,none] _) _
  unfold Zdm
  fail "i"
  (refine WP.w_if ?_; fail "g")
  fail "g"
  rw[Xi]
  refine Zij hi ?_
  fail "g"
  refine w_ixT (Zda hi) ?_
  fail "g"
  exact q _ (Fm.app _)
 | joined i j n x hi hj hn ho e =>
  fail "i"
  (refine WP.w_if ?_; fail "g")
  fail "i"
  refine Zta hk h8 ⟨by have:=Zo4 ks; simp; omega,?_⟩
  have X1:Fm [] H (H++[DO.lst ((nms ks).map .int)]):=Fm.app _
  fail "i"
  refine wE_of (d:=.tup [.int i,.int j]) (by with_unfolding_all rfl) ?_
  fail "g"
  refine Zmh (fun d=>.bl true) (fun H'=>H'=H++[DO.lst ((nms ks).map .int)]) (fun _ _=>Zga) _ (fun y hy H2 jj=>?_) _ rfl fun H2 jj=>?_
  ·subst jj
   obtain⟨m,rfl,hm2⟩:∃ m:Nat,y=.int m/\m<made.length:=by
    rcases Xh.mp hy with rfl | hy
    ·exact⟨_,rfl,hi⟩
    ·rw[Wbc.mp hy]; exact⟨_,rfl,hj⟩
   show wE (Zal 2 Zb9 (Zaa (Zac 0) (Zaa (eCB Zbn (Zaa (Zac 1) Zaf)) Zaf)) (some (.int m)::[some (.ref pm)]) _) _
   fail "g"
   rw[Xi]
   refine Zij hm2 ?_
   exact⟨rfl,rfl⟩
  subst jj
  refine⟨by simp,?_⟩
  refine w_inF (bs:=[true,true]) last ?_
  have X2:=X1.trans (Fm.app (S:=[]) [DO.lst [D.bl true,D.bl true]])
  fail "i"
  obtain⟨m,rfl⟩:∃ m:Nat,n=m:=⟨n.toNat,by omega⟩
  refine Zij (m:=ks.length+1) (by omega) ?_
  fail "g"
  refine Zxs (appL last) ?_
  rw[decide_eq_true (Zos.mpr ⟨hn.1,hn.2,ho⟩)]
  fail "g"
  refine w_ixR (appL (appL g)) (Zda hi) ?_
  fail "g"
  refine w_ixR (appL (appL g)) (Zda hj) ?_
  fail "g"
  refine Zjf (hm _ (Xo hi)) (hm _ (Xo hj)) h8 hn.1 fun H1 x1=>?_
  fail "g"
  rw[e]
  exact q _ (X2.trans x1)
variable {σ:SD} {H:HD} {Q:D->HD->Prop}
structure CR (ks:List D) (rss:List (List Int)):Prop where
 hk:∀ d∈ks,Zby d
 h8:ks.length<=8
 hr:∀ ls∈rss,R ks.length ls
 hl:rss.length<=1000
theorem Yab {f:AF} {I:List D->Zhf->HD->Prop} (h:wA (f σ H) fun ds H1=>∃ n xs,ds=[.ref n]/\H1[n]? = some (.lst xs)/\I (Zb5 0 xs) [(n,.lst xs)] H1):wI (Zo9 f σ H) I:=by
 obtain⟨ds,H1,e,n,xs,rfl,g,q⟩:=h
 exact⟨_,_,_,by unfold Zo9; rw[e]; simp only[Zb]; rw[g],q⟩
nonrec abbrev amB:SF:=(Zae (Za1 7 (Zal 5 Zg7 (Zaa (Zac 0) (Zaa (Zac 1) (Zaa (Zac 2) (Zaa (Zac 4) (Zaa (Zac 6) Zaf)))))))
 (Zae (sIf (tOf (eOp isD (Zac 7) (eC .non))) (Zae Zy7 Zah) Zah) (Zae (Zbq (eLM Zax (Zac 4) (Zaa (Zac 7) Zaf))) Zah)))
nonrec abbrev amG:GF:=gTp 2 (gCn (gNm 5) (gCn (gNm 6) gNl))
section
variable {k w pm:Nat} {ks:List D} {rss made:List (List Int)} {d sd:D} {x:List Int} {n:Int} {z5 z6 z7:Option D}
theorem Ybs {K:SD->HD->Prop} {Z:FD->SD->HD->Prop} (c:CR ks rss) (hm:∀ ls∈made,R ks.length ls) (hl:made.length<=1000) (g:H[pm]? = some (.lst (made.map Zas))) (e:stp ks rss made d=some x)
  (q:∀ H2,Fm [pm] H H2->H2[pm]? = some (.lst ((made++[x]).map Zas))->K [some (Zar ks rss),some (.str "all"),some (.ty "claims_row"),some sd,some (.ref pm),some (.int n),some d,some (Zas x)] H2) :
  wG (amG (.tup [.int n,d]) [some (Zar ks rss),some (.str "all"),some (.ty "claims_row"),some sd,some (.ref pm),z5,z6,z7] H) fun σ1 H1=>wS (amB σ1 H1) (again K Z):=by
 fail "g"
 refine Zvr c.hk c.h8 hm g (.of e) fun H1 x1=>?_
 show wS _ _
 fail "i"
 refine⟨isl (x1.lst (by simp) g),?_⟩
 fail "g"
 refine Zek (x1.lst (by simp) g) (by simp; omega) ?_
 fail "g"
 refine q _ ((x1.sub (by simp)).trans (Fm.set (by simp))) ?_
 rw[Zib (x1.lst (by simp) g)]
 simp
end
section
variable {k ps:Nat} {ks:List D} {rss:List (List Int)} {ds:List D}
theorem Zl9 (c:Nat) (d:D) (r:List D):Zb5 (c:Int) (d::r)=.tup [.int c,d]::Zb5 ((c+1:Nat):Int) r:=by
 rw[Zb5]
 simp
theorem Zid {made:List (List Int)} {pre:List D} {d:D} {x:List Int} (ok:mok ks rss made pre=true) (e:stp ks rss (mad ks rss made pre) d=some x):mok ks rss made (pre++[d])=true/\mad ks rss made (pre++[d])=mad ks rss made pre++[x]:=by
 rw[Zhu,ok,Zlh _ _ _ _ _ ok]
 simp only[mok,mad,e,Wdx,and_self]
theorem Zi3 (c:CR ks rss) (g:H[ps]? = some (.lst ds)) (hl:ds.length<=1000) (ok:mok ks rss [] ds=true)
  (q:∀ p H',H'[p]? = some (.lst ((mad ks rss [] ds).map Zas))->H.length<=p->Fm [] H H'->Q (.ref p) H'):wE (Zeh [Zar ks rss,.str "all",.ty "claims_row",.ref ps] H) Q:=by
 refine Za4 rfl ?_
 show wS (Zed [some (Zar ks rss),some (.str "all"),some (.ty "claims_row"),some (.ref ps),none,none,none,none] H) _
 unfold Zed
 fail "g"
 refine Yab ?_
 fail "g"
 refine⟨_,_,rfl,appL g,?_⟩
 have np:H.length≠ps:=by have:=(Xc.mp g).1; omega
 refine Zbj (g:=amG) (b:=amB) (fun d t σ H'=>∃ (pre r:List D) (z5 z6 z7:Option D),ds=pre++r/\t=Zb5 (pre.length:Int) r/\mok ks rss [] pre=true/\H'[H.length]? = some (.lst ((mad ks rss [] pre).map Zas))/\Fm [] H H'/\σ=[some (Zar ks rss),some (.str "all"),some (.ty "claims_row"),some (.ref ps),some (.ref H.length),z5,z6,z7]) (fun d t σ H' ⟨pre,r,z5,z6,z7,i1,i2,i3,i4,i5,i6⟩=>Zru (i5.lst (by simp) g)) (fun d x tt σ H1 ⟨pre,r,z5,z6,z7,i1,i2,i3,i4,i5,i6⟩=>?_) (fun d σ H1 ⟨pre,r,z5,z6,z7,i1,i2,i3,i4,i5,i6⟩=>?_) _ [] _ _ ⟨[],ds,_,_,_,rfl,rfl,rfl,last,Fm.app _,rfl⟩
 ·subst i6
  cases r with
  | nil=>cases i2
  | cons d0 r =>
   rw[Zl9] at i2
   obtain⟨rfl,rfl⟩:=Wbm.inj i2
   have o2:=ok
   rw[i1,Zhu,i3,Wdx] at o2
   cases e:stp ks rss (mad ks rss [] pre) d0 with
   | none=>simp only[mok,e] at o2; cases o2
   | some x =>
    obtain⟨s1,s2⟩:=Zid i3 e
    have lm:=Zfx ks rss pre [] i3
    have ld:pre.length<ds.length:=by rw[i1]; simp
    refine Ybs c (Zrj c.hr pre [] (by simp)) (by simp at lm; omega) i4 e fun H2 x2 g2=>?_
    exact⟨pre++[d0],r,_,_,_,by rw[i1]; simp,by simp,s1,by rw[s2]; exact g2,i5.new x2 (fun q hq _=>by simp at hq; subst hq; exact Xe _),rfl⟩
 ·subst i6
  cases r with
  | cons d0 r=>rw[Zl9] at i2; cases i2
  | nil =>
   rw[Xw] at i1
   subst i1
   fail "g"
   exact q _ _ i4 (Xe _) i5
end
theorem Zhw {p r:Nat} {xs ys:List D} (g1:H[p]? = some (.lst xs)) (g2:H[r]? = some (.lst ys)) (h:xs.length+ys.length<=1000000) (q:Q (.ref H.length) (H++[.lst (xs++ys)])):wE (Zbo (.ref p) (.ref r) H) Q:=by
 refine⟨_,_,?_,q⟩
 simp only[Zbo,g1,g2]
 exact if_pos (Zhp (by rw[Xz]; exact h))
theorem Zx0 {p r:Nat} {ds:List D} {xs:List Vu} {h:Nat} (f:Fines ds xs h) (hh:h<30) (g1:H[p]? = some (.lst ds)) (g2:H[r]? = some (.lst ds)) (q:Q (.bl false) H):wE (neD (.ref p) (.ref r) H) Q :=
 ⟨_,_,Zo1 (f.dat hh g1) (f.dat hh g2),by rw[Zie (.list xs) f.lay]; exact q⟩
section
variable {k ps:Nat} {ks:List D} {rss:List (List Int)} {ds:List D}
theorem Zu7 (c:CR ks rss) (g:H[ps]? = some (.lst ds)) (hl:ds.length<=1000) (ok:mok ks rss [] ds=true)
  (q:∀ p H',H'[p]? = some (.lst ((mad ks rss [] ds).map Zas))->H.length<=p->Fm [] H H'->Q (.ref p) H'):wE (Zi0 [Zar ks rss,.ref ps] H) Q:=by
 refine Za4 rfl ?_
 show wS (Zfd [some (Zar ks rss),some (.ref ps)] H) _
 unfold Zfd
 fail "g"
 refine Zi3 c g hl ok fun p H' g' l x=>?_
 fail "g"
 exact q p H' g' l x
theorem Zr9 (c:CR ks rss) (g:H[ps]? = some (.lst ds)) (hl:ds.length<=1000) (ok:mok ks rss [] ds=true) (hlast:(mad ks rss [] ds).getLast? = some []) (q:∀ H',Fm [] H H'->Q (.bl true) H'):wE (Zd3 [Zar ks rss,.ref ps] H) Q:=by
 refine Za4 rfl ?_
 show wS (Zb3 [some (Zar ks rss),some (.ref ps)] H) _
 unfold Zb3
 fail "g"
 refine Za4 rfl ?_
 show wS (Zeb [some (Zar ks rss),some (.str "all"),some (.ty "claims_row"),some (.ref ps),none] H) _
 unfold Zeb
 fail "i"
 refine w_isi' rfl (tyR g) (r:=true) rfl ?_
 fail "g"
 fail "g"
 refine Zi3 c g hl ok fun p H' g' l x=>?_
 fail "g"
 obtain⟨r,e0⟩:=Wdo.mp hlast
 rw[e0] at g' ⊢
 refine⟨fun _=>?_,fun z=>by simp at z⟩
 fail "g"
 refine w_ixR g' (by rw[Wah]; exact Zk5 _ _) ?_
 fail "g"
 refine Ztz (Zba []) (by omega) ?_
 fail "g"
 exact q H' x
theorem Zrz (c:CR ks rss) (g:H[ps]? = some (.lst ds)) (hl:ds.length<=1000) (ok:mok ks rss [] ds=true)
  (q:∀ p H',H'[p]? = some (.lst ((mad ks rss [] ds).map Zas))->H.length<=p->Fm [] H H'->Q (.ref p) H'):wE (Zho [Zar ks rss,.str "all",.ref ps] H) Q:=by
 refine Za4 rfl ?_
 show wS (Zei [some (Zar ks rss),some (.str "all"),some (.ref ps),none,none,none] H) _
 unfold Zei
 fail "g"
 have np:H.length≠ps:=by have:=(Xc.mp g).1; omega
 refine Zbj (fun d t σ H'=>∃ (pre:List D) (z3 z4:Option D),ds=pre++t/\mok ks rss [] pre=true/\H'[H.length]? = some (.lst ((mad ks rss [] pre).map Zas))/\Fm [] H H'/\σ=[some (Zar ks rss),some (.str "all"),some (.ref ps),some (.ref H.length),z3,z4]) (fun d t σ H' ⟨pre,z3,z4,i1,i3,i4,i5,i6⟩=>Zru (i5.lst (by simp) g)) (fun d d0 r σ H1 ⟨pre,z3,z4,i1,i3,i4,i5,i6⟩=>?_) (fun d σ H1 ⟨pre,z3,z4,i1,i3,i4,i5,i6⟩=>?_) _ [] _ _ ⟨[],_,_,rfl,rfl,last,Fm.app _,rfl⟩
 ·subst i6
  have lm:=Zfx ks rss pre [] i3
  have ld:pre.length<ds.length:=by rw[i1]; simp
  have o2:=ok
  rw[i1,Zhu,i3,Wdx] at o2
  cases e:stp ks rss (mad ks rss [] pre) d0 with
  | none=>simp only[mok,e] at o2; cases o2
  | some x =>
   obtain⟨s1,s2⟩:=Zid i3 e
   fail "g"
   refine Zl7 c.hk c.h8 (Zrj c.hr pre [] (by simp)) i4 (.of e) fun H2 x2=>?_
   have g2:=(x2.lst (by simp) i4)
   fail "i"
   refine⟨isl g2,?_⟩
   fail "g"
   refine Zek g2 (by simp at lm ⊢; omega) ?_
   fail "g"
   refine⟨pre++[d0],_,_,by rw[i1]; simp,s1,?_,(i5.trans x2).new (Fm.set (S:=[H.length]) (by simp)) (fun q hq _=>by simp at hq; subst hq; exact Xe _),rfl⟩
   rw[Zib g2,s2]
   simp
 ·subst i6
  rw[Xw] at i1
  subst i1
  fail "g"
  exact q _ _ i4 (Xe _) i5
end
theorem Zfo (rss:List (List Int)):∃ xs,Fines (rss.map Zas) xs 1:=Fines.of _ fun d hd=>by
 obtain⟨ls,_,rfl⟩:=Xp.mp hd
 exact⟨_,Fine.tup (Zba ls)⟩
variable {σ:SD} {H:HD} {Q:D->HD->Prop}
theorem Zws {a b:Bool} (q:Q (.bl (a==b)) H):wE (eqD (.bl a) (.bl b) H) Q:=Ybe (.bl a) (.bl b) (by omega) (by omega) (by simpa [Ua] using q)
theorem Zxm {bs:List Bool} {l:Int} (q:Q (.bl (opn bs l)) H):wE (Zgp [.int l,Zbz bs] H) Q:=by
 refine Za4 rfl ?_
 show wS (Zfa [some (.int l),some (Zbz bs)] H) _
 unfold Zfa
 fail "g"
 exact q
theorem Yak {bs:List Bool} {l:Int} (h0:0<Zao l) (q:Q (.bl (rig bs l)) H):wE (Zhg [.int l,Zbz bs] H) Q:=by
 refine Za4 rfl ?_
 show wS (Zec [some (.int l),some (Zbz bs)] H) _
 unfold Zec
 fail "g"
 refine Zxm ?_
 fail "g"
 cases ho:opn bs l with
 | true =>
  have e:rig bs l=false:=by
   unfold rig
   have:=of_decide_eq_true ho
   rw[Wcz (by omega)]
  rw[e] at q
  fail "g"
  exact q
 | false =>
  have hh:=of_decide_eq_false ho
  have lt:(Zao l - 1).toNat<bs.length:=by omega
  fail "g"
  unfold Zbz
  refine w_ixT (Zd8 (by omega) (d:=.bl (bs[(Zao l - 1).toNat])) (by rw[Xv,Xd lt]; rfl)) ?_
  fail "g"
  refine Zws ?_
  have e:rig bs l=(bs[(Zao l - 1).toNat]==decide (0<l)):=by
   unfold rig
   rw[Xd lt]
  rw[e] at q
  exact q
theorem Zy1 {bs:List Bool} {ls:List Int} (h:∀ l∈ls,1<=Zao l) (q:Q (.bl (Zcm bs ls)) H):wE (Zi5 [Zas ls,Zbz bs] H) Q:=by
 refine Za4 rfl ?_
 show wS (Ze5 [some (.tup (ls.map .int)),some (Zbz bs),none] H) _
 unfold Ze5
 fail "g"
 refine Zbj (fun d t σ H'=>∃ (r:List Int) (z:Option D),(∀ l∈r,1<=Zao l)/\t=r.map .int/\Zcm bs ls=Zcm bs r/\H'=H/\σ=[some (.tup (ls.map .int)),some (Zbz bs),z]) (fun _ _ _ _ _=>Zga) (fun d x t σ H1 ⟨r,z,i1,i2,i3,i4,i5⟩=>?_) (fun d σ H1 ⟨r,z,i1,i2,i3,i4,i5⟩=>?_) _ [] _ _ ⟨ls,_,h,rfl,rfl,rfl,rfl⟩
 ·subst i4 i5
  cases r with
  | nil=>cases i2
  | cons l r =>
   obtain⟨rfl,rfl⟩:=Wbm.inj (show x::t=.int l::r.map .int from i2)
   have h1:=i1 l (by simp)
   have e:Zcm bs (l::r)=((decide (Zao l<=bs.length) && !rig bs l)&&Zcm bs r):=rfl
   fail "i"
   refine Zxm ?_
   fail "g"
   cases ho:opn bs l with
   | true =>
    have:=of_decide_eq_true ho
    fail "g"
    rw[i3,e,decide_eq_false (by omega)] at q
    exact q
   | false =>
    have:=of_decide_eq_false ho
    fail "g"
    refine Yak (by omega) ?_
    fail "g"
    rw[decide_eq_true (by omega),Wdx] at e
    cases hr:rig bs l with
    | true =>
     fail "g"
     rw[i3,e,hr] at q
     exact q
    | false =>
     fail "g"
     rw[hr] at e
     exact⟨r,_,fun y hy=>i1 y (by simp[hy]),rfl,i3.trans e,rfl,rfl⟩
 ·subst i4 i5
  cases r with
  | cons l r=>cases i2
  | nil=>fail "g"; rw[i3] at q; exact q
theorem Zvb {bs:List Bool} {ls:List Int} (h:∀ l∈ls,1<=Zao l) (q:Q (.bl (Zcm bs ls)) H):wE (Zfi [.str "all",Zas ls,Zbz bs] H) Q:=by
 refine Za4 rfl ?_
 show wS (Zc2 [some (.str "all"),some (Zas ls),some (Zbz bs)] H) _
 unfold Zc2
 fail "i"
 fail "g"
 refine Zy1 h ?_
 fail "g"
 exact q
theorem Yc7 {n:Int} (q:Q (.int n) H):wE (Zcq [.str "all",.int n,.bl false] H) Q:=by
 refine Za4 rfl ?_
 show wS (Zbc [some (.str "all"),some (.int n),some (.bl false)] H) _
 unfold Zbc
 fail "g"
 refine Zws ?_
 fail "g"
 exact q
theorem Ybt {n:Int} (q:Q (.int (-n)) H):wE (Zcq [.str "all",.int n,.bl true] H) Q:=by
 refine Za4 rfl ?_
 show wS (Zbc [some (.str "all"),some (.int n),some (.bl true)] H) _
 unfold Zbc
 fail "g"
 refine Zws ?_
 fail "g"
 exact q
section
variable {ps:Nat} {ks:List D} {rss:List (List Int)} {ds:List D} {bs:List Bool}
theorem Zth {p:Nat} {xs:List D} (g:H[p]? = some (.lst xs)):Zu5 (.ref p) H=some (xs,[(p,.lst xs)]):=by simp[Zu5,g]
theorem Zui:∀ (a:List D) (b:List (List Int)),Zpd a (b.map Zas)=(a.zip b).map fun e=>.tup [e.1,Zas e.2]
 | [],b=>by cases b<;>rfl
 | x::a,[]=>rfl
 | x::a,y::b=>by
  show .tup [x,Zas y]::Zpd a (b.map Zas)=_
  rw[Zui a b]
  rfl
theorem Zso (c:CR ks rss) (g:H[ps]? = some (.lst ds)) (hl:ds.length<=1000) (h8:bs.length<=8) (ok:mok ks rss [] ds=true)
  (q:∀ H',Fm [] H H'->Q (.bl (Zl2 (mad ks rss [] ds) bs (ds.zip (mad ks rss [] ds)))) H'):wE (Zjh [Zar ks rss,.ref ps,Zbz bs] H) Q:=by
 refine Za4 rfl ?_
 show wS (Ze9 [some (Zar ks rss),some (.ref ps),some (Zbz bs)] H) _
 unfold Ze9
 fail "g"
 refine Za4 rfl ?_
 show wS (Zd7 [some (Zar ks rss),some (.str "all"),some (.ty "claims_row"),some (.ref ps),some (Zbz bs),none,none,none,none,none] H) _
 unfold Zd7
 fail "g"
 refine Zi3 c g hl ok fun p H1 g1 l1 x1=>?_
 have gs:=x1.lst (by simp) g
 fail "g"
 refine⟨_,_,_,_,rfl,Zth gs,Zth g1,?_⟩
 generalize hm:mad ks rss [] ds=made at *
 have hR:∀ ls∈made,R ks.length ls:=by rw[<- hm]; exact Zrj c.hr ds [] (by simp)
 have hSt:∀ e∈ds.zip made,∃ mk,St ks rss (made.take mk) e.1 e.2/\e.2∈made:=by
  intro e he
  obtain⟨m,hm1,rfl⟩:=Wbe.mp he
  have hm2:m<ds.length:=by rw[Wek] at hm1; omega
  have hm3:m<made.length:=by rw[Wek] at hm1; omega
  obtain⟨x,e1,e2⟩:=Zsa ok hm2
  rw[hm] at e1 e2
  rw[Xd hm3] at e1
  cases e1
  rw[Wdz]
  exact⟨m,St.of e2,Xo _⟩
 rw[Zui]
 refine Zbj (fun d t σ H'=>∃ (r:List (D×List Int)) (z7 z8 z9:Option D),(∀ e∈r,e∈ds.zip made)/\t=r.map (fun e=>.tup [e.1,Zas e.2])/\Zl2 made bs (ds.zip made)=Zl2 made bs r/\H'=H1/\σ=[some (Zar ks rss),some (.str "all"),some (.ty "claims_row"),some (.ref ps),some (Zbz bs),some (.ref p),some (.int ((bs.length:Int)+1)),z7,z8,z9])
  (fun d t σ H' ⟨r,z7,z8,z9,i1,i2,i3,i4,i5⟩=>by subst i4; rintro pp hp; simp at hp; rcases hp with rfl | rfl; exact gs; exact g1) (fun d x t σ H2 ⟨r,z7,z8,z9,i1,i2,i3,i4,i5⟩=>?_) (fun d σ H2 ⟨r,z7,z8,z9,i1,i2,i3,i4,i5⟩=>?_) _ [] _ _ ⟨_,_,_,_,fun e he=>he,rfl,rfl,rfl,rfl⟩
 ·subst i4 i5
  cases r with
  | nil=>cases i2
  | cons e r =>
   obtain⟨rfl,rfl⟩:=Wbm.inj (show x::t=.tup [e.1,Zas e.2]::r.map _ from i2)
   obtain⟨m,st,em⟩:=hSt e (i1 e (by simp))
   obtain⟨dd,row⟩:=e
   have again:pk1 made bs dd row=none->Zl2 made bs (ds.zip made)=Zl2 made bs r:=fun h=>by
    rw[i3,Zl2]
    simp only[h]
    rfl
   have i1':∀ e∈r,e∈ds.zip made:=fun e he=>i1 e (by simp[he])
   cases st with
   | less i hi =>
    rw[Wau] at hi
    fail "i"
    have em':Zco ks (made.take m)[i]∈made:=em
    refine Zvb (fun l hl=>((hR _ em').rg l hl).1) ?_
    fail "g"
    cases lost:Zcm bs (Zco ks (made.take m)[i]) with
    | false =>
     fail "g"
     exact⟨r,_,_,_,i1',rfl,again (Zuv lost),rfl,rfl⟩
    | true =>
     have hi':i<made.length:=by omega
     have eg:made.getD i []=made[i]:=by rw[Xl,Xd hi']; rfl
     fail "g"
     refine⟨_,_,rfl,?_⟩
     refine Zk7 Zga ?_
     fail "i"
     refine Yc7 ?_
     fail "g"
     refine w_ixR g1 (Zda hi') ?_
     fail "g"
     refine Zz5 ?_
     cases y1:decide (((bs.length:Int)+1)∈made[i]) with
     | true =>
      fail "g"
      have:Zl2 made bs (ds.zip made)=false:=by
       rw[i3,Zl2]
       simp only[pk1]
       rw[if_pos ⟨trivial,lost⟩,Xr,eg,if_pos (of_decide_eq_true y1)]
       rfl
      rw[this] at q
      exact q _ x1
     | false =>
      fail "g"
      refine Zk7 Zga ?_
      fail "i"
      refine Ybt ?_
      fail "g"
      refine w_ixR g1 (Zda hi') ?_
      fail "g"
      refine Zz5 ?_
      cases y2:decide (-((bs.length:Int)+1)∈made[i]) with
      | true =>
       fail "g"
       have:Zl2 made bs (ds.zip made)=true:=by
        rw[i3,Zl2]
        simp only[pk1]
        rw[if_pos ⟨trivial,lost⟩,Xr,eg,if_neg (of_decide_eq_false y1),if_pos (of_decide_eq_true y2)]
        rfl
       rw[this] at q
       exact q _ x1
      | false =>
       fail "g"
       refine Zsy Zga ?_
       fail "g"
       refine⟨r,_,_,_,i1',rfl,again ?_,rfl,rfl⟩
       simp only[pk1]
       rw[if_pos ⟨trivial,lost⟩,Xr,eg,if_neg (of_decide_eq_false y1),if_neg (of_decide_eq_false y2)]
   | row i hi =>
    fail "i"
    exact⟨r,_,_,_,i1',rfl,again (by simp only[pk1]; rw[if_neg (fun z=>absurd z.1 (by decide))]),rfl,rfl⟩
   | joined i j n x hi hj hn ho e =>
    fail "i"
    exact⟨r,_,_,_,i1',rfl,again rfl,rfl,rfl⟩
 ·subst i4 i5
  cases r with
  | cons e r=>cases i2
  | nil =>
   fail "g"
   rw[i3] at q
   exact q _ x1
end
variable {σ:SD} {H:HD} {Q:D->HD->Prop}
nonrec def litI:D->Int
 | .int i=>i
 | _=>0
def Zu4 (ks:List D) (S:List Bool->Bool) (p:List Bool):Prop:=∀ k:Nat,k<p.length->Zc5 ks ((k:Int)+1)=true->p[k]? = some (S (p.take k))
theorem Zu4.nil {ks:List D} {S:List Bool->Bool}:Zu4 ks S []:=fun k h=>absurd h (Wfh _)
theorem Zu4.snoc {ks:List D} {S:List Bool->Bool} {p:List Bool} {b:Bool} (h:Zu4 ks S p) (hb:Zc5 ks ((p.length:Int)+1)=true->b=S p):Zu4 ks S (p++[b]):=by
 intro k hk ho
 rw[Xz,Wce] at hk
 by_cases e:k<p.length
 ·rw[Xm e,Wdb (by omega)]
  exact h k e ho
 ·have e:k=p.length:=by omega
  subst e
  rw[List.getElem?_concat_length,List.take_left,hb ho]
theorem Zxc {ks:List D} {n:Nat}:Zc5 ks ((n:Int)+1) = !kS (ks.getD n .non):=by
 unfold Zc5
 rw[show Zao ((n:Int)+1)=(n:Int)+1 by unfold Zao; split<;>omega]
 congr 3
theorem Zmw {bs:List Bool} {ls:List Int} (h:Zcm bs ls=true):kept bs ls=false:=by
 unfold kept
 rw[Wbw]
 intro x hx
 have:=Waf.mp h x hx
 rw[Wad] at this
 simpa using this.2
theorem Zlu {ks:List D} {rss:List (List Int)} {S:List Bool->Bool} (h:∀ p:List Bool,p.length=ks.length->Zu4 ks S p->∃ row∈rss,Zcm p row=true):∀ (j:Nat) (bs:List Bool),bs.length+j=ks.length->Zu4 ks S bs->W ks rss j bs=false
 | 0,bs,hj,hf=>by
  obtain⟨row,hr,hl⟩:=h bs (by omega) hf
  unfold W
  cases e:rss.all (kept bs) with
  | false=>rfl
  | true=>have:=Waf.mp e row hr; rw[Zmw hl] at this; cases this
 | j+1,bs,hj,hf=>by
  unfold W
  have ow:=Zxc (ks:=ks) (n:=bs.length)
  cases hk:kS (ks.getD bs.length .non) with
  | true =>
   rw[hk] at ow
   have n:∀ b:Bool,Zc5 ks ((bs.length:Int)+1)=true->b=S bs:=fun b z=>by rw[ow] at z; cases z
   rw[Zlu h j (bs++[false]) (by simp; omega) (hf.snoc (n _)),Zlu h j (bs++[true]) (by simp; omega) (hf.snoc (n _))]
   rfl
  | false =>
   have:=Zlu h j (bs++[S bs]) (by simp; omega) (hf.snoc fun _=>rfl)
   cases e:S bs with
   | false=>rw[e] at this; rw[this]; rfl
   | true=>rw[e] at this; rw[this]; simp
theorem Zr1 {p r:Nat} {ds:List D} {xs:List Vu} {h:Nat} (f:Fines ds xs h) (hh:h<30) (g1:H[p]? = some (.lst ds)) (g2:H[r]? = some (.lst [])) (q:Q (.bl ds.isEmpty) H):wE (eqD (.ref p) (.ref r) H) Q:=by
 refine⟨_,_,Zr4 (f.dat hh g1) ((Fines.nil (h:=0)).dat (by omega) g2),?_⟩
 have e:Ua (.list xs) (.list [])=ds.isEmpty:=by
  have l:=f.len
  cases ds with
  | nil=>cases xs with
   | nil=>rfl
   | cons a b=>simp at l
  | cons d r=>cases xs with
   | nil=>simp at l
   | cons a b=>simp[Ua,Ul]
 rw[e]; exact q
theorem Zs7 {bs:List Bool} {l:Int} (h:1<=Zao l/\Zao l<=bs.length) (q:Q (.bl (rig bs l)) H):wE (Zeu [.int l,Zbz bs] H) Q:=by
 refine Za4 rfl ?_
 show wS (Zdg [some (.int l),some (.tup (bs.map .bl))] H) _
 unfold Zdg
 have li:(Zao l - 1).toNat<bs.length:=by omega
 fail "g"
 rw[show Zao l - 1=(((Zao l - 1).toNat:Nat):Int) by omega]
 refine w_ixT (Zxy (d:=.bl bs[(Zao l - 1).toNat]) (by simp[li])) ?_
 fail "g"
 refine Zws ?_
 have e:rig bs l=(bs[(Zao l - 1).toNat]==decide (0<l)):=by
  unfold rig
  rw[Xd li]
 fail "g"
 rw[e] at q
 exact q
theorem Zud {n:Nat} (hn:n<=8) (q:∀ p (pls:List (List Bool)) H',H'[p]? = some (.lst (pls.map Zbz))->(∀ bs∈pls,bs.length=n)->pls.length<=256->Fm [] H H'->Q (.ref p) H'):wE (Zf4 [.int n] H) Q:=by
 refine Za4 rfl ?_
 show wS (Zdh [some (.int n),none,none,none,none] H) _
 unfold Zdh
 fail "g"
 refine⟨_,rfl,⟨by omega,by omega⟩,?_⟩
 rw[Xr]
 refine Zbj (fun d t σ H'=>∃ (pls:List (List Bool)) (p:Nat) (z2 z3 z4:Option D),d.length+t.length=n/\(∀ bs∈pls,bs.length=d.length)/\pls.length<=2 ^ d.length/\H'[p]? = some (.lst (pls.map Zbz))/\Fm [] H H'/\σ=[some (.int n),some (.ref p),z2,z3,z4]) (fun _ _ _ _ _=>Zga) (fun d x t σ H1 ⟨pls,p,z2,z3,z4,i1,i2,i3,i4,i5,i6⟩=>?_) (fun d σ H1 ⟨pls,p,z2,z3,z4,i1,i2,i3,i4,i5,i6⟩=>?_) _ [] _ _ ⟨[[]],H.length,_,_,_,by simp[Zan],by simp,by simp,last,Fm.app _,rfl⟩
 ·subst i6
  have ld:d.length<=7:=by simp at i1; omega
  have lp:pls.length<=128:=Wab i3 (Wab (Wci (by omega) ld) (by decide))
  fail "g"
  refine Zbj (fun d' t' σ H'=>∃ (pre r acc:List (List Bool)) (p3:Nat) (z4:Option D),pls=pre++r/\t'=r.map Zbz/\(∀ bs∈acc,bs.length=d.length+1)/\acc.length=2*pre.length/\H'[p3]? = some (.lst (acc.map Zbz))/\Fm [] H1 H'/\σ=[some (.int n),some (.ref p),some x,some (.ref p3),z4]) (fun d' t' σ H' ⟨pre,r,acc,p3,z4,k1,k2,k3,k4,k5,k6,k7⟩=>Zru (k6.lst (by simp) i4)) (fun d' y t' σ H2 ⟨pre,r,acc,p3,z4,k1,k2,k3,k4,k5,k6,k7⟩=>?_) (fun d' σ H2 ⟨pre,r,acc,p3,z4,k1,k2,k3,k4,k5,k6,k7⟩=>?_) _ [] _ _ ⟨[],pls,[],H1.length,_,rfl,rfl,by simp,rfl,last,Fm.app _,rfl⟩
  ·subst k7
   cases r with
   | nil=>cases k2
   | cons bs r =>
    obtain⟨rfl,rfl⟩:=Wbm.inj k2
    have lb:=i2 bs (by rw[k1]; simp)
    have lpr:pre.length<=128:=by rw[k1] at lp; simp at lp; omega
    fail "g"
    refine Zhw (appL k5) last (by simp; omega) ?_
    fail "g"
    refine⟨pre++[bs],r,acc++[bs++[false],bs++[true]],_,_,by rw[k1]; simp,rfl,fun b hb=>?_,by simp; omega,by rw[Wah]; exact last,(k6.trans (Fm.app _)).trans (Fm.app _),rfl⟩
    rcases Xn.mp hb with z | z
    ·exact k3 b z
    ·simp at z
     rcases z with rfl | rfl<;>simp[lb]
  ·subst k7
   cases r with
   | cons bs r=>cases k2
   | nil =>
    rw[Xw] at k1
    subst k1
    fail "g"
    refine⟨acc,p3,_,_,_,by simp at i1 ⊢; omega,by simpa using k3,?_,k5,i5.trans k6,rfl⟩
    rw[Xz,Wce,Nat.pow_succ,k4]
    omega
 ·subst i6
  simp at i1
  fail "g"
  exact q p pls H1 i4 (by rw[<- i1]; exact i2) (Wab i3 (Wab (Wci (by omega) (show d.length<=8 by omega)) (by decide))) i5
nonrec def keeps (rss:List (List Int)) (bs:List Bool):Bool:=rss.all fun row=>row.any (rig bs)
section
variable {ks:List D} {rss:List (List Int)} {bs:List Bool}
theorem Yav {row:List Int} {s:List D} {H:HD} {Q:List D->HD->Prop} (hr:R ks.length row) (hb:bs.length=ks.length) (q:Q ((row.filter (rig bs)).map .int) H) :
  wA (Zdt [] [some (Zbz bs)] (Zgm (Zal 2 Zeu (Zaa (Zac 0) (Zaa (Zac 1) Zaf)))) (Zac 0) (row.map .int) H) Q:=by
 refine Zb1 (fun d=>rig bs (litI d)) (fun H'=>H'=H) (fun _ j=>Zga) _ (fun y hy H3 j=>?_) _ rfl fun H3 j=>?_
 ·obtain⟨z,hz,rfl⟩:=Xp.mp hy
  subst j
  fail "g"
  refine Zs7 (by rw[hb]; exact hr.rg z hz) ?_
  fail "g"
  exact⟨rfl,rfl⟩
 ·subst j
  have ef:(row.map D.int).filter (fun d=>rig bs (litI d))=(row.filter (rig bs)).map .int:=by
   rw[Wbh]
   rfl
  rw[ef]
  exact q
theorem Zp7 (h8:ks.length<=8) (hr:∀ ls∈rss,R ks.length ls) (hb:bs.length=ks.length) (q:∀ H',Fm [] H H'->Q (.bl (!keeps rss bs)) H'):wE (Zfl [.tup (rss.map Zas),Zbz bs] H) Q:=by
 refine Za4 rfl ?_
 show wS (Zee [some (.tup (rss.map Zas)),some (Zbz bs),none] H) _
 unfold Zee
 fail "g"
 refine Zbj (fun d t σ H'=>∃ (pre rs:List (List Int)) (z2:Option D),rss=pre++rs/\t=rs.map Zas/\keeps pre bs=true/\Fm [] H H'/\σ=[some (.tup (rss.map Zas)),some (Zbz bs),z2]) (fun _ _ _ _ _=>Zga) (fun d x t σ H2 ⟨pre,rs,z2,i1,i2,i3,i4,i5⟩=>?_) (fun d σ H2 ⟨pre,rs,z2,i1,i2,i3,i4,i5⟩=>?_) _ [] _ _ ⟨[],rss,_,rfl,rfl,rfl,Fm.refl,rfl⟩
 ·subst i5
  cases rs with
  | nil=>cases i2
  | cons row rs =>
   obtain⟨rfl,rfl⟩:=Wbm.inj i2
   have rr:=hr row (by rw[i1]; simp)
   have lr:=rr.len
   fail "i"
   refine⟨row.map .int,[],rfl,?_⟩
   refine Yav (s:=[]) rr hb ?_
   refine⟨by have:=Wat (rig bs) row; simp at this ⊢; omega,?_⟩
   fail "g"
   refine Zr1 (Zba (row.filter (rig bs))) (by omega) (appL last) last ?_
   have ee:((row.filter (rig bs)).map D.int).isEmpty = !row.any (rig bs):=by
    cases v:row.any (rig bs) with
    | true =>
     obtain⟨l,h1,h2⟩:=Waw.mp v
     cases w:row.filter (rig bs) with
     | nil=>exact absurd (Waa.mpr ⟨h1,h2⟩) (by rw[w]; simp)
     | cons a b=>rfl
    | false =>
     have:row.filter (rig bs)=[]:=Wcw.mpr fun l hl=>Wbw.mp v l hl
     rw[this]; rfl
   rw[ee]
   have X3:=(i4.trans (Fm.app (S:=[]) [DO.lst ((row.filter (rig bs)).map D.int)])).trans (Fm.app (S:=[]) [DO.lst []])
   fail "g"
   cases v:row.any (rig bs) with
   | false =>
    have e:keeps rss bs=false:=by
     unfold keeps
     rw[i1,Wfk,Wdv,v]
     simp
    have q:=q _ X3
    rw[e] at q
    fail "g"
    exact q
   | true =>
    fail "g"
    refine⟨pre++[row],rs,_,by rw[i1]; simp,rfl,?_,X3,rfl⟩
    unfold keeps at i3 ⊢
    rw[Wfk,i3,Wdv,v]
    rfl
 ·subst i5
  cases rs with
  | cons row rs=>cases i2
  | nil =>
   rw[Xw] at i1
   subst i1
   have q:=q H2 i4
   rw[i3] at q
   fail "g"
   exact q
end
section
variable {ps:Nat} {ks:List D} {rss:List (List Int)} {ds:List D}
theorem Zvs (c:CR ks rss) (hu:∀ ls∈rss,Up ks.length 0 ls) (g:H[ps]? = some (.lst ds)) (hl:ds.length<=1000) (ok:mok ks rss [] ds=true) (hlast:(mad ks rss [] ds).getLast? = some []) (q:∀ H',Fm [] H H'->Q (.bl true) H'):wE (Zfg [Zar ks rss,.ref ps] H) Q:=by
 let S:List Bool->Bool:=fun bs=>Zl2 (mad ks rss [] ds) bs (ds.zip (mad ks rss [] ds))
 have h8:=c.h8
 refine Za4 rfl ?_
 show wS (Zcu [some (Zar ks rss),some (.ref ps),none,none,none,none,none] H) _
 unfold Zcu
 fail "g"
 refine Zbj (fun d t σ H'=>∃ (pls:List (List Bool)) (p:Nat) (z3 z4 z5 z6:Option D),d++t=ks/\(∀ bs∈pls,bs.length=d.length/\Zu4 ks S bs)/\pls.length<=2 ^ d.length/\H'[p]? = some (.lst (pls.map Zbz))/\Fm [] H H'/\σ=[some (Zar ks rss),some (.ref ps),some (.ref p),z3,z4,z5,z6]) (fun _ _ _ _ _=>Zga) (fun d x t σ H1 ⟨pls,p,z3,z4,z5,z6,i1,i2,i3,i4,i5,i6⟩=>?_) (fun d σ H1 ⟨pls,p,z3,z4,z5,z6,i1,i2,i3,i4,i5,i6⟩=>?_) _ [] _ _ ⟨[[]],H.length,_,_,_,_,rfl,by simp[Zu4.nil],by simp,last,Fm.app _,rfl⟩
 ·subst i6
  have ld:d.length<=7:=by have:=congrArg Wbv i1; simp at this; omega
  have lp:pls.length<=128:=Wab i3 (Wab (Wci (by omega) ld) (by decide))
  have ex:ks.getD d.length .non=x:=by rw[<- i1]; simp
  have kx:x=Zbs (kS x):=Ziu (c.hk x (by rw[<- i1]; simp))
  have ow:=Zxc (ks:=ks) (n:=d.length)
  rw[ex] at ow
  fail "g"
  refine Zbj (fun d' t' σ H'=>∃ (pre r acc:List (List Bool)) (p4:Nat) (z5 z6:Option D),pls=pre++r/\t'=r.map Zbz/\(∀ bs∈acc,bs.length=d.length+1/\Zu4 ks S bs)/\acc.length<=2*pre.length/\H1.length<=p4/\H'[p4]? = some (.lst (acc.map Zbz))/\Fm [] H1 H'/\σ=[some (Zar ks rss),some (.ref ps),some (.ref p),some x,some (.ref p4),z5,z6]) (fun d' t' σ H' ⟨pre,r,acc,p4,z5,z6,k1,k2,k3,k4,k8,k5,k6,k7⟩=>Zru (k6.lst (by simp) i4)) (fun d' y t' σ H2 ⟨pre,r,acc,p4,z5,z6,k1,k2,k3,k4,k8,k5,k6,k7⟩=>?_) (fun d' σ H2 ⟨pre,r,acc,p4,z5,z6,k1,k2,k3,k4,k8,k5,k6,k7⟩=>?_) _ [] _ _ ⟨[],pls,[],H1.length,_,_,rfl,rfl,by simp,Wbs _,Xe _,last,Fm.app _,rfl⟩
  ·subst k7
   cases r with
   | nil=>cases k2
   | cons bs r =>
    obtain⟨rfl,rfl⟩:=Wbm.inj k2
    obtain⟨lb,fb⟩:=i2 bs (by rw[k1]; simp)
    have lpr:pre.length+1<=128:=by rw[k1] at lp; simp at lp; omega
    have gs:=(i5.trans k6).lst (by simp) g
    fail "i"
    rw[kx]
    refine Zli ?_
    cases hk:kS x with
    | false =>
     rw[hk] at ow
     fail "g"
     refine Zso c gs hl (by omega) ok fun H3 x3=>?_
     fail "i"
     have g4:=x3.lst (by simp) k5
     refine⟨isl g4,?_⟩
     fail "g"
     refine Zek g4 (by simp; omega) ?_
     fail "g"
     refine⟨pre++[bs],r,acc++[bs++[S bs]],p4,_,_,by rw[k1]; simp,rfl,fun b hb=>?_,by simp; omega,k8,by rw[Zib g4]; simp[S,Zbz],(k6.trans x3).new (Fm.set (S:=[p4]) (by simp)) (fun q hq _=>by simp at hq; subst hq; exact k8),rfl⟩
     rcases Xn.mp hb with z | z
     ·exact k3 b z
     ·simp at z
      subst z
      exact⟨by simp[lb],fb.snoc fun _=>rfl⟩
    | true =>
     rw[hk] at ow
     fail "g"
     refine Zhw (appL k5) last (by simp; omega) ?_
     fail "g"
     refine⟨pre++[bs],r,acc++[bs++[false],bs++[true]],_,_,_,by rw[k1]; simp,rfl,fun b hb=>?_,by simp; omega,?_,by rw[Wah]; exact last,(k6.trans (Fm.app _)).trans (Fm.app _),rfl⟩
     ·have n:∀ b:Bool,Zc5 ks ((bs.length:Int)+1)=true->b=S bs:=fun b z=>by rw[lb,ow] at z; cases z
      rcases Xn.mp hb with z | z
      ·exact k3 b z
      ·simp at z
       rcases z with rfl | rfl<;>exact⟨by simp[lb],fb.snoc (n _)⟩
     ·have:=k6.len; simp; omega
  ·subst k7
   cases r with
   | cons bs r=>cases k2
   | nil =>
    rw[Xw] at k1
    subst k1
    fail "g"
    refine⟨acc,p4,_,_,_,_,by rw[<- i1]; simp,by simpa using k3,?_,k5,i5.trans k6,rfl⟩
    rw[Xz,Wce,Nat.pow_succ]
    omega
 ·subst i6
  rw[Xw] at i1
  subst i1
  have lp:pls.length<=256:=Wab i3 (Wab (Wci (by omega) h8) (by decide))
  fail "g"
  refine Zb1 (fun _=>false) (fun H'=>Fm [] H1 H') (fun H' j=>Zru (j.lst (by simp) i4)) _ (fun y hy H3 j=>?_) _ Fm.refl fun H3 j=>?_
  ·obtain⟨bs,hb,rfl⟩:=Xp.mp hy
   obtain⟨lb,fb⟩:=i2 bs hb
   obtain⟨row,hr,hlo⟩:=Yb5 (p:=bs) hu ok hlast lb fb
   have e:keeps rss bs=false:=by
    cases z:keeps rss bs with
    | false=>rfl
    | true =>
     have:=Waf.mp z row hr
     have k:=Zmw hlo
     unfold kept at k
     rw[k] at this; cases this
   fail "g"
   refine Zp7 c.h8 c.hr lb fun H4 x4=>?_
   rw[e]
   fail "g"
   refine Zvu (.bl true) (by omega) ?_
   exact⟨_,rfl,rfl,j.trans x4⟩
  ·have e:(pls.map Zbz).filter (fun _=>false)=[]:=by rw[Wcw]; simp
   rw[e]
   refine⟨by simp,?_⟩
   fail "g"
   refine Zr1 .nil (by omega:0<30) (appL last) last ?_
   fail "g"
   exact q _ (((i5.trans j).trans (Fm.app _)).trans (Fm.app _))
end
theorem Zri {ks:List D} {rss:List (List Int)} {ds:List D} (c:CR ks rss) (hu:∀ ls∈rss,Up ks.length 0 ls) (ok:mok ks rss [] ds=true) (hlast:(mad ks rss [] ds).getLast? = some []) (q:∀ H',Fm [] H H'->Q (.str "all") H'):wE (Zii [Zar ks rss,.tup []] H) Q:=by
 obtain⟨H',e,x⟩:=Zt8 (bs:=[]) (j:=ks.length) c.hk hu c.hl c.h8 (by simp) H
 rw[Zlu (S:=fun bs=>Zl2 (mad ks rss [] ds) bs (ds.zip (mad ks rss [] ds))) (fun p lp fp=>Yb5 hu ok hlast lp fp) ks.length [] (by simp) .nil] at e
 exact⟨_,_,e,q _ x.fm⟩
theorem Zxp {m:Int}:∀ {a b:List Int} {last:Int},Up m last a->Up m last b->(∀ x,x∈a ↔ x∈b)->a=b
 | [],[],_,_,_,_=>rfl
 | [],y::b,_,_,_,h=>absurd ((h y).mpr (by simp)) (by simp)
 | x::a,[],_,_,_,h=>absurd ((h x).mp (by simp)) (by simp)
 | x::a,y::b,last,u,v,h=>by
  obtain⟨u1,u2,u3⟩:=u
  obtain⟨v1,v2,v3⟩:=v
  have e:x=y:=by
   rcases Xh.mp ((h x).mp (by simp)) with z | z
   ·exact z
   ·rcases Xh.mp ((h y).mpr (by simp)) with w | w
    ·exact w.symm
    ·have:=Zqr v3 x z
     have:=Zqr u3 y w
     omega
  subst e
  rw[Zxp u3 v3 fun z=>⟨fun hz=>?_,fun hz=>?_⟩]
  ·rcases Xh.mp ((h z).mp (by simp[hz])) with w | w
   ·subst w; have:=Zqr u3 z hz; omega
   ·exact w
  ·rcases Xh.mp ((h z).mpr (by simp[hz])) with w | w
   ·subst w; have:=Zqr v3 z hz; omega
   ·exact w
theorem R.cons {M:Nat} {n:Int} {ls:List Int} (h:R M ls) (hn:1<=Zao n/\Zao n<=M) (ha:∀ x∈ls,Zao x≠Zao n):R M (n::ls):=by
 refine⟨?_,fun x hx=>?_⟩
 ·rw[Xs,Wbr]
  refine⟨fun z=>?_,h.nd⟩
  obtain⟨y,hy,e⟩:=Xp.mp z
  exact ha y hy e
 ·rcases Xh.mp hx with rfl | z
  ·exact hn
  ·exact h.rg x z
theorem Zo8 {M:Nat} {row s1 s2:List Int} {n:Int} (u:Up M 0 row) (h1:s1.Sublist row) (h2:s2.Sublist row) (hc:∀ x∈row,x∈s1\/x∈s2) (hn:1<=n/\n<=M) (ha:∀ x∈row,Zao x≠n) :
  R M (n::s1)/\R M (-n::s2)/\Zdj (Zbw (n::s1)) (Zbw (-n::s2)) n=some row:=by
 have an:Zao n=n:=by unfold Zao; split<;>omega
 have am:Zao (-n)=n:=by rw[Zhn,an]
 have rr:=(Zt4 (by omega) u).1
 have r1:R M (n::s1):=(rr.sub h1).cons (by omega) fun x hx=>by rw[an]; exact ha x (h1.subset hx)
 have r2:R M (-n::s2):=(rr.sub h2).cons (by omega) fun x hx=>by rw[am]; exact ha x (h2.subset hx)
 refine⟨r1,r2,?_⟩
 have mA:∀ x,x∈(Zbw (n::s1)).filter (fun x=>decide (x≠n)) ↔ x∈s1:=fun x=>by
  rw[Waa,(Za0 _).mem_iff,Xh,decide_eq_true_iff]
  constructor
  ·rintro⟨h | h,z⟩
   ·exact absurd h z
   ·exact h
  ·intro h
   exact⟨.inr h,fun e=>ha x (h1.subset h) (by rw[e]; exact an)⟩
 have mB:∀ x,x∈(Zbw (-n::s2)).filter (fun x=>decide (x ≠ -n)) ↔ x∈s2:=fun x=>by
  rw[Waa,(Za0 _).mem_iff,Xh,decide_eq_true_iff]
  constructor
  ·rintro⟨h | h,z⟩
   ·exact absurd h z
   ·exact h
  ·intro h
   exact⟨.inr h,fun e=>ha x (h2.subset h) (by rw[e]; exact am)⟩
 unfold Zdj
 have c1:¬ (n∉Zbw (n::s1) \/ -n∉Zbw (-n::s2)):=by
  rw[(Za0 _).mem_iff,(Za0 _).mem_iff]
  simp
 have c2:((Zbw (-n::s2)).filter fun x=>decide (x ≠ -n)).any (fun x=>decide (-x∈(Zbw (n::s1)).filter fun x=>decide (x≠n)))=false:=by
  rw[Wbw]
  intro x hx
  rw[decide_eq_true_iff,mA]
  intro z
  have hx2:=h2.subset ((mB x).mp hx)
  have hz:=h1.subset z
  have:=rr.inj hx2 hz (Zhn x).symm
  have:=rr.rg x hx2
  unfold Zao at this
  split at this<;>omega
 rw[if_neg c1,if_neg (by rw[c2]; simp)]
 congr 1
 have R1:=(r1.perm (Za0 _)).sub (Was (p:=fun x=>decide (x≠n)))
 have R2:=(r2.perm (Za0 _)).sub (Was (p:=fun x=>decide (x ≠ -n)))
 refine Zxp (Zif (R.join0 R1 R2 c2)) u fun x=>?_
 rw[(Za0 _).mem_iff,Xn,mA,Waa,mB,decide_eq_true_iff,mA]
 constructor
 ·rintro(h | ⟨h,_⟩)
  ·exact h1.subset h
  ·exact h2.subset h
 ·intro h
  by_cases z:x∈s1
  ·exact .inl z
  ·exact .inr ⟨(hc x h).resolve_left z,z⟩
variable {σ:SD} {H:HD} {Q:D->HD->Prop}
theorem Zvn (zs:List Int):Zfr (zs.map .int)=some zs:=by
 induction zs with
 | nil=>rfl
 | cons z r ih=>simp[Zfr,ih]
theorem Ycc {p:Nat} {ns:List Int} {m:Int} (g:H[p]? = some (.lst (ns.map .int))) (e:Zyn ns=some m) (q:Q (.int m) H):wE (Zrx [.ref p] H) Q:=⟨_,_,by simp[Zrx,g,Zvn,e],q⟩
theorem Zyv {ks:List D} {row ds:List Int} {p:Nat} (hk:∀ d∈ks,Zby d) (h8:ks.length<=8) (u:Up ks.length 0 row) (g:H[p]? = some (.lst (ds.map .int))) (hd:Zrq ds) (hl:9<=ds.length)
  (q:∀ b H',Up ks.length 0 (row++b)->(b=[]\/Zco ks (row++b)=row)->Fm [] H H'->Q (Zas (row++b)) H'):wE (Zf7 [.tup ks,.str "all",Zas row,.ref p] H) Q:=by
 have rr:=(Zt4 (by omega) u).1
 refine Za4 rfl ?_
 show wS (Zdr [some (.tup ks),some (.str "all"),some (.tup (row.map .int)),some (.ref p),none,none,none] H) _
 unfold Zdr
 fail "g"
 refine Zs9 ?_
 fail "g"
 refine Zxf (row.getLast?.any (Zc5 ks)) ?_ (fun hB=>?_) (fun hB=>?_)
 ·fail "g"
  refine Zsz (Zba row) (by omega) ?_
  rcases List.eq_nil_or_concat row with e | ⟨init,l,e⟩
  ·subst e
   fail "g"
   exact⟨rfl,rfl⟩
  ·have hr:=rr.rg l (by rw[e]; simp)
   have en:(row.map D.int).isEmpty=false:=by rw[e]; simp
   rw[en]
   fail "g"
   refine w_ixT (d:=.int l) (by rw[e,List.concat_eq_append,Wah]; exact Zk5 _ _) ?_
   fail "g"
   refine w_ixT (Zf8 hk hr) ?_
   fail "g"
   refine Zli ?_
   fail "g"
   exact⟨rfl,by rw[e]; simp⟩
 ·fail "g"
  have:=q [] (H++[DO.lst (row.map .int)]) (by rw[Xw]; exact u) (.inl rfl) (Fm.app _)
  rw[Xw] at this
  exact this
 ·fail "g"
  refine Zmh (fun d=>match d with | .int x=>.int (Zao x) | d=>d) (fun H'=>H'=H++[DO.lst (row.map .int)]++[DO.lst [D.int 0]]) (fun _ _=>Zga) _ (fun y hy H2 j=>?_) _ rfl fun H2 j=>?_
  ·obtain⟨z,hz,rfl⟩:=Xp.mp hy
   subst j
   fail "g"
   exact⟨rfl,rfl⟩
  subst j
  have lr:=rr.len
  refine⟨by simp; omega,?_⟩
  have em:(row.map D.int).map (fun d:D=>match d with | .int x=>D.int (Zao x) | d=>d)=(row.map Zao).map D.int:=by rw[Wbb,Wbb]; rfl
  rw[em]
  refine Zhw (xs:=[.int 0]) (appL last) last (by simp; omega) ?_
  obtain⟨m,hm⟩:=Zmb (ns:=0::row.map Zao) (by simp)
  obtain⟨m1,m2⟩:=Ziw hm
  have m0:=m2 0 (by simp)
  have mr:∀ x∈row,Zao x<=m:=fun x hx=>m2 _ (by simp; exact .inr ⟨x,hx,rfl⟩)
  have mk:m<=ks.length:=by
   rcases Xh.mp m1 with z | z
   ·omega
   ·obtain⟨x,hx,rfl⟩:=Xp.mp z; exact(rr.rg x hx).2
  fail "g"
  refine Ycc (ns:=0::row.map Zao) last hm ?_
  fail "g"
  refine⟨_,_,rfl,⟨by omega,by omega⟩,⟨by omega,by omega⟩,?_⟩
  obtain⟨M,rfl⟩:∃ M:Nat,m=M:=⟨m.toNat,by omega⟩
  rw[show ((ks.length:Int)+1 - ((M:Int)+1)).toNat=ks.length - M by omega]
  have np:H.length≠p:=by have:=(Xc.mp g).1; omega
  have nl:∀ x,row.getLast? = some x->Zc5 ks x=false:=fun x hx=>by rw[hx] at hB; simpa using hB
  refine Zbj (fun d t σ H'=>∃ (b:List Int) (z6:Option D),t=Zan ((M:Int)+1+d.length) (ks.length - M - d.length)/\d.length<=ks.length - M/\Up ks.length 0 (row++b)/\(∀ x∈b,Zc5 ks x=true)/\(∀ x∈row++b,Zao x<=M+d.length)/\(row++b).length<=row.length+d.length/\H'[p]? = some (.lst (ds.map .int))/\H'[H.length]? = some (.lst ((row++b).map .int))/\Fm [] H H'/\σ=[some (.tup ks),some (.str "all"),some (.tup (row.map .int)),some (.ref p),some (.ref H.length),some (.int M),z6]) (fun _ _ _ _ _=>Zga) (fun d x t σ H2 ⟨b,z6,i1,i2,i3,i4,i5,i6,i7,i8,i9,i10⟩=>?_) (fun d σ H2 ⟨b,z6,i1,i2,i3,i4,i5,i6,i7,i8,i9,i10⟩=>?_) _ [] _ _ ⟨[],_,by simp,Wbs _,by rw[Xw]; exact u,by simp,by simpa using mr,by simp,appL (appL (appL (appL g))),by rw[Xw]; exact appL (appL (appL last)),(((Fm.app _).trans (Fm.app _)).trans (Fm.app _)).trans (Fm.app _),rfl⟩
  ·subst i10
   obtain⟨k,hk1⟩:∃ k,ks.length - M - d.length=k+1:=by
    cases h:ks.length - M - d.length with
    | zero=>rw[h] at i1; simp[Zan] at i1
    | succ k=>exact⟨k,rfl⟩
   rw[hk1,Zbu] at i1
   obtain⟨rfl,rfl⟩:=Wbm.inj i1
   have tl:Zan ((M:Int)+1+d.length+1) k=Zan ((M:Int)+1+((d++[D.int ((M:Int)+1+d.length)]).length:Nat)) (ks.length - M - (d++[D.int ((M:Int)+1+d.length)]).length):=by
    simp only[Xz,Wca,Wam]
    congr 1
    omega
   have ab:Zao ((M:Int)+1+d.length)=(M:Int)+1+d.length:=by unfold Zao; split<;>omega
   have ka:=Zf8 (x:=(M:Int)+1+d.length) hk (by rw[ab]; omega)
   rw[ab] at ka
   have skip:∃ (b':List Int) (z6:Option D),Zan ((M:Int)+1+d.length+1) k=Zan ((M:Int)+1+((d++[D.int ((M:Int)+1+d.length)]).length:Nat)) (ks.length - M - (d++[D.int ((M:Int)+1+d.length)]).length)/\(d++[D.int ((M:Int)+1+d.length)]).length<=ks.length - M/\Up ks.length 0 (row++b')/\(∀ x∈b',Zc5 ks x=true)/\(∀ x∈row++b',Zao x<=M+((d++[D.int ((M:Int)+1+d.length)]).length:Nat))/\(row++b').length<=row.length+(d++[D.int ((M:Int)+1+d.length)]).length/\H2[p]? = some (.lst (ds.map .int))/\H2[H.length]? = some (.lst ((row++b').map .int))/\Fm [] H H2/\[some (.tup ks),some (.str "all"),some (.tup (row.map .int)),some (.ref p),some (.ref H.length),some (.int M),some (.int ((M:Int)+1+d.length))]=[some (.tup ks),some (.str "all"),some (.tup (row.map .int)),some (.ref p),some (.ref H.length),some (.int M),z6] :=
    ⟨b,_,tl,by simp; omega,i3,i4,fun x hx=>by have:=i5 x hx; simp; omega,by simp at i6 ⊢; omega,i7,i8,i9,rfl⟩
   fail "i"
   refine w_ixT ka ?_
   fail "g"
   refine Zli ?_
   cases ho:Zc5 ks ((M:Int)+1+d.length) with
   | false=>fail "g"; exact skip
   | true =>
    fail "g"
    refine Zci i7 hd (by omega) (by omega) fun r r0 r1=>?_
    fail "g"
    refine⟨fun h=>?_,fun h=>?_⟩
    ·fail "g"
     refine⟨isl i8,?_⟩
     fail "g"
     refine Zci (appL i7) hd (by omega) (by omega) fun r2 r20 r21=>?_
     fail "g"
     have m2':r2 / 3 % 2=0\/r2 / 3 % 2=1:=by omega
     obtain⟨c,hc,el⟩:∃ c:Int,(c = -1\/c=1)/\atI [D.int (-1),.int 1] (r2 / 3 % 2)=some (.int c):=by
      rcases m2' with z | z<;>rw[z]
      ·exact⟨_,.inl rfl,rfl⟩
      ·exact⟨_,.inr rfl,rfl⟩
     have al:Zao (((M:Int)+1+d.length)*c)=(M:Int)+1+d.length:=by
      rcases hc with rfl | rfl<;>unfold Zao<;>split<;>omega
     have oc:Zc5 ks (((M:Int)+1+d.length)*c)=true:=by
      unfold Zc5 at ho ⊢
      rw[ab] at ho
      rw[al,ho]
     refine w_ixR last el ?_
     fail "g"
     refine w_mulR (by omega) (by omega) ?_
     fail "g"
     refine Zek (appL i8) (by simp at i6 ⊢; omega) ?_
     fail "g"
     refine⟨b++[((M:Int)+1+d.length)*c],_,tl,by simp; omega,?_,fun x hx=>?_,fun x hx=>?_,by simp at i6 ⊢; omega,Zjx np (appL i7),by rw[Zib (appL i8)]; simp,(i9.trans (Fm.app _)).new (Fm.set (S:=[H.length]) (by simp)) (fun q hq _=>by simp at hq; subst hq; exact Xe _),rfl⟩
     ·rw[<- Wax]
      exact Zom _ 0 _ i3 (fun x hx=>by have:=i5 x hx; omega) (by omega) (by omega)
     ·rcases Xn.mp hx with z | z
      ·exact i4 x z
      ·rw[Wbc.mp z]; exact oc
     ·rw[<- Wax] at hx
      rcases Xn.mp hx with z | z
      ·have:=i5 x z; simp; omega
      ·rw[Wbc.mp z,al]; simp; omega
    ·fail "g"; exact skip
  ·subst i10
   fail "g"
   exact q b _ i3 (.inr (Zim ks row b i4 nl)) i9
variable {σ:SD} {H:HD} {Q:D->HD->Prop}
theorem Zwl {M p:Nat} {row ds:List Int} {n:Int} (u:Up M 0 row) (hM:M<=8) (hn:1<=n/\n<=M) (ha:∀ x∈row,Zao x≠n) (g:H[p]? = some (.lst (ds.map .int))) (hd:Zrq ds) (hl:9<=ds.length)
  (q:∀ a b r H',Up M 0 a->Up M 0 b->Zdj a b n=some row->H'[r]? = some (.lst [Zas a,Zas b])->Fm [] H H'->Q (.ref r) H'):wE (Zcx [Zas row,.int n,.ref p] H) Q:=by
 have lr:=(Zt4 (by omega) u).1.len
 have np:=(Xc.mp g).1
 refine Za4 rfl ?_
 show wS (Zc4 [some (.tup (row.map .int)),some (.int n),some (.ref p),none,none,none] H) _
 unfold Zc4
 fail "g"
 refine⟨_,rfl,?_⟩
 refine Zbj (fun d t σ H'=>∃ (pre r s1 s2:List Int) (z4 z5:Option D),row=pre++r/\t=Zb5 (pre.length:Int) (r.map .int)/\s1.Sublist pre/\s2.Sublist pre/\(∀ x∈pre,x∈s1\/x∈s2)/\H'[H.length]? = some (.lst ((n::s1).map .int))/\H'[H.length+1]? = some (.lst ((-n::s2).map .int))/\H'[H.length+2]? = some (.lst [.ref H.length,.ref (H.length+1)])/\H'[p]? = some (.lst (ds.map .int))/\Fm [] H H'/\σ=[some (.tup (row.map .int)),some (.int n),some (.ref p),some (.ref (H.length+2)),z4,z5]) (fun _ _ _ _ _=>Zga) (fun d x t σ H1 ⟨pre,r,s1,s2,z4,z5,i1,i2,i3,i4,i5,i6,i7,i8,i9,i10,i11⟩=>?_) (fun d σ H1 ⟨pre,r,s1,s2,z4,z5,i1,i2,i3,i4,i5,i6,i7,i8,i9,i10,i11⟩=>?_) _ [] _ _ ⟨[],row,[],[],none,none,rfl,rfl,.slnil,.slnil,by simp,appL (appL last),by simp,by simp,appL (appL (appL g)),((Fm.app _).trans (Fm.app _)).trans (Fm.app _),by simp⟩
 ·subst i11
  cases r with
  | nil=>cases i2
  | cons l r =>
   obtain⟨rfl,rfl⟩:=Wbm.inj (show x::t=.tup [.int (pre.length:Int),.int l]::Zb5 ((pre.length:Int)+1) (r.map .int) from i2)
   have lp:pre.length<=7:=by rw[i1] at lr; simp at lr; omega
   have l1:=i3.length_le
   have l2:=i4.length_le
   have tl:Zb5 ((pre.length:Int)+1) (r.map .int)=Zb5 (((pre++[l]).length:Nat):Int) (r.map .int):=by simp
   fail "i"
   have hv:atI (ds.map D.int) (pre.length:Int)=some (.int (ds.getD pre.length 0)):=Zdo (by rw[Xv,Xd (by omega),Xl,Xd (by omega)]; rfl)
   generalize ds.getD pre.length 0=v at hv
   have sA:∀ (X:HD),Fm [] H X->Fm [] H (X.set H.length (.lst ((n::(s1++[l])).map .int))):=fun X x=>x.new (Fm.set (S:=[H.length]) (by simp)) (fun q hq _=>by simp at hq; subst hq; exact Xe _)
   have sB:∀ (X:HD),Fm [] H X->Fm [] H (X.set (H.length+1) (.lst ((-n::(s2++[l])).map .int))):=fun X x=>x.new (Fm.set (S:=[H.length+1]) (by simp)) (fun q hq _=>by simp at hq; subst hq; omega)
   have up1:(s1++[l]).Sublist (pre++[l]):=i3.append (Tcq _)
   have up2:(s2++[l]).Sublist (pre++[l]):=i4.append (Tcq _)
   have dn1:s1.Sublist (pre++[l]):=i3.trans (Wdt _ _)
   have dn2:s2.Sublist (pre++[l]):=i4.trans (Wdt _ _)
   have e3:row=pre++[l]++r:=by rw[i1]; simp
   refine w_ixR i9 hv ?_
   fail "g"
   cases e1:v % 3==1 with
   | true =>
    have e2:(v % 3==0)=false:=by have:=eq_of_beq e1; rw[beq_eq_false_iff_ne]; omega
    fail "i"
    refine w_ixR i9 hv ?_
    fail "g"
    rw[e2]
    fail "g"
    refine⟨isl i7,?_⟩
    fail "g"
    refine Zek i7 (by simp; omega) ?_
    fail "g"
    refine⟨pre++[l],r,s1,s2++[l],_,_,e3,tl,dn1,up2,fun x hx=>?_,by rw[Zjx (by omega) i6],by rw[Zib i7]; simp,by rw[Zjx (by omega) i8],by rw[Zjx (by omega) i9],by have:=sB H1 i10; simpa using this,rfl⟩
    rcases Xn.mp hx with z | z
    ·rcases i5 x z with w | w
     ·exact .inl w
     ·exact .inr (by simp[w])
    ·exact .inr (by simp at z; simp[z])
   | false =>
    fail "g"
    refine⟨isl i6,?_⟩
    fail "g"
    refine Zek i6 (by simp; omega) ?_
    have eA:(n::s1).map D.int++[D.int l]=(n::(s1++[l])).map D.int:=by simp
    rw[eA]
    have X:=sA H1 i10
    have j6:(H1.set H.length (.lst ((n::(s1++[l])).map .int)))[H.length]? = some (.lst ((n::(s1++[l])).map .int)):=Zib i6
    have j7:(H1.set H.length (.lst ((n::(s1++[l])).map .int)))[H.length+1]? = some (.lst ((-n::s2).map .int)):=Zjx (by omega) i7
    have j8:(H1.set H.length (.lst ((n::(s1++[l])).map .int)))[H.length+2]? = some (.lst [.ref H.length,.ref (H.length+1)]):=Zjx (by omega) i8
    have j9:(H1.set H.length (.lst ((n::(s1++[l])).map .int)))[p]? = some (.lst (ds.map .int)):=Zjx (by omega) i9
    have xB:=sB _ X
    generalize H1.set H.length (.lst ((n::(s1++[l])).map .int))=H2 at X j6 j7 j8 j9 xB ⊢
    fail "i"
    refine w_ixR j9 hv ?_
    fail "g"
    cases e2:v % 3==0 with
    | true =>
     fail "g"
     refine⟨pre++[l],r,s1++[l],s2,_,_,e3,tl,up1,dn2,fun x hx=>?_,j6,j7,j8,j9,X,rfl⟩
     rcases Xn.mp hx with z | z
     ·rcases i5 x z with w | w
      ·exact .inl (by simp[w])
      ·exact .inr w
     ·exact .inl (by simp at z; simp[z])
    | false =>
     fail "g"
     refine⟨isl j7,?_⟩
     fail "g"
     refine Zek j7 (by simp; omega) ?_
     fail "g"
     have eB:(-n::s2).map D.int++[D.int l]=(-n::(s2++[l])).map D.int:=by simp
     rw[eB]
     refine⟨pre++[l],r,s1++[l],s2++[l],_,_,e3,tl,up1,up2,fun x hx=>?_,by rw[Zjx (by omega) j6],Zib j7,by rw[Zjx (by omega) j8],by rw[Zjx (by omega) j9],xB,rfl⟩
     rcases Xn.mp hx with z | z
     ·rcases i5 x z with w | w
      ·exact .inl (by simp[w])
      ·exact .inr (by simp[w])
     ·exact .inl (by simp at z; simp[z])
 ·subst i11
  cases r with
  | cons l r=>cases i2
  | nil =>
   rw[Xw] at i1
   subst i1
   obtain⟨r1,r2,e⟩:=Zo8 u i3 i4 i5 hn ha
   fail "g"
   refine Zmh (fun d=>match d with | .ref k=>if k=H.length then Zas (Zbw (n::s1)) else Zas (Zbw (-n::s2)) | d=>d) (fun H'=>Fm [] H1 H') (fun H' j=>Zru (j.lst (by simp) i8)) _ (fun y hy H3 j=>?_) _ Fm.refl fun H3 j=>?_
   ·rcases Xh.mp hy with rfl | hy
    ·fail "g"
     refine Zoc (j.lst (by simp) i6) (by have:=r1.len; omega) r1.nd ?_
     fail "g"
     refine⟨?_,j.trans (Fm.app _)⟩
     simp
     rfl
    ·rw[Wbc.mp hy]
     fail "g"
     refine Zoc (j.lst (by simp) i7) (by have:=r2.len; omega) r2.nd ?_
     fail "g"
     refine⟨?_,j.trans (Fm.app _)⟩
     simp
     rfl
   ·refine⟨by simp,?_⟩
    fail "g"
    exact q _ _ _ _ (Zif r1) (Zif r2) e (by simp) ((i10.trans j).trans (Fm.app _))
inductive Hs (ks:List D) (nodes:List (List Int)) (j:Nat):D->Prop
 | less (l:Nat) (h1:j<l) (h2:l<nodes.length) (e:Zco ks (nodes.getD l [])=nodes.getD j []):Hs ks nodes j (.tup [.str "less",.int l])
 | joined (a:Nat) (n:Int) (h1:j<a) (h2:a+1<nodes.length) (hn:1<=n/\n<=ks.length) (ho:Zc5 ks n=false) (e:Zdj (nodes.getD a []) (nodes.getD (a+1) []) n=some (nodes.getD j [])):Hs ks nodes j (.tup [.str "joined",.int a,.int ((a:Int)+1),.int n])
structure Gr (ks:List D) (nodes:List (List Int)) (how:List (Int×D)):Prop where
 up:∀ ls∈nodes,Up ks.length 0 ls
 ne:0<nodes.length
 n0:nodes.getD 0 []=[]
 ho:∀ e∈how,∃ j:Nat,e.1=j/\Hs ks nodes j e.2
theorem Gr.nil (ks:List D):Gr ks [[]] []:=⟨fun ls h=>by rw[Wbc.mp h]; trivial,by simp,rfl,by simp⟩
theorem Zd0 {nodes xs:List (List Int)} {i:Nat} (h:i<nodes.length):(nodes++xs).getD i []=nodes.getD i []:=by
 rw[Xl,Xm h,<- Xl]
theorem Hs.app {ks:List D} {nodes xs:List (List Int)} {j:Nat} {d:D} (h:Hs ks nodes j d):Hs ks (nodes++xs) j d:=by
 cases h with
 | less l h1 h2 e=>exact .less l h1 (by simp; omega) (by rw[Zd0 h2,Zd0 (by omega)]; exact e)
 | joined a n h1 h2 hn ho e=>exact .joined a n h1 (by simp; omega) hn ho (by rw[Zd0 (by omega),Zd0 h2,Zd0 (by omega)]; exact e)
theorem Hs.lt {ks:List D} {nodes:List (List Int)} {j:Nat} {d:D} (h:Hs ks nodes j d):j+1<nodes.length:=by
 cases h with
 | less l h1 h2 e=>omega
 | joined a n h1 h2 hn ho e=>omega
theorem Zv9 {k:Int} {v:D} {e:Int×D} {kvs:List (Int×D)} (h:e∈Zhb kvs k v):e∈kvs\/e=(k,v):=by
 unfold Zhb at h
 split at h
 ·obtain⟨p,hp,rfl⟩:=Xp.mp h
  by_cases z:p.1=k
  ·rw[if_pos z,z]; exact .inr rfl
  ·rw[if_neg z]; exact .inl hp
 ·rcases Xn.mp h with z | z
  ·exact .inl z
  ·exact .inr (Wbc.mp z)
theorem Gr.more {ks:List D} {nodes xs:List (List Int)} {how:List (Int×D)} {j:Nat} {d:D} (h:Gr ks nodes how) (hx:∀ ls∈xs,Up ks.length 0 ls) (hd:Hs ks (nodes++xs) j d):Gr ks (nodes++xs) (Zhb how j d):=by
 refine⟨fun ls hl=>?_,by have:=h.ne; simp; omega,by rw[Zd0 h.ne]; exact h.n0,fun e he=>?_⟩
 ·rcases Xn.mp hl with z | z
  ·exact h.up ls z
  ·exact hx ls z
 ·rcases Zv9 he with z | z
  ·obtain⟨i,e1,e2⟩:=h.ho e z
   exact⟨i,e1,e2.app⟩
  ·subst z
   exact⟨j,rfl,hd⟩
theorem Zjl {nodes xs:List (List Int)} {i:Nat}:(nodes++xs).getD (nodes.length+i) []=xs.getD i []:=by
 rw[Xl,Wak (by omega),Nat.add_sub_cancel_left,<- Xl]
theorem Gr.less {ks:List D} {nodes:List (List Int)} {how:List (Int×D)} {j:Nat} {w:List Int} (h:Gr ks nodes how) (hj:j<nodes.length) (hw:Up ks.length 0 w) (e:Zco ks w=nodes.getD j []):Gr ks (nodes++[w]) (Zhb how j (.tup [.str "less",.int nodes.length])):=by
 refine h.more (by simpa using hw) (.less _ hj (by simp) ?_)
 rw[Zd0 hj,<- e]
 exact congrArg _ (Zjl (i:=0))
theorem Gr.joined {ks:List D} {nodes:List (List Int)} {how:List (Int×D)} {j:Nat} {a b:List Int} {n:Int} (h:Gr ks nodes how) (hj:j<nodes.length) (ha:Up ks.length 0 a) (hb:Up ks.length 0 b) (hn:1<=n/\n<=ks.length) (ho:Zc5 ks n=false) (e:Zdj a b n=some (nodes.getD j [])) :
  Gr ks (nodes++[a,b]) (Zhb how j (.tup [.str "joined",.int nodes.length,.int ((nodes.length:Int)+1),.int n])):=by
 refine h.more (fun ls hl=>?_) (.joined _ n hj (by simp) hn ho ?_)
 ·simp at hl
  rcases hl with rfl | rfl
  ·exact ha
  ·exact hb
 ·have e0:(nodes++[a,b]).getD nodes.length []=a:=Zjl (i:=0)
  have e1:(nodes++[a,b]).getD (nodes.length+1) []=b:=Zjl (i:=1)
  rw[Zd0 hj,<- e,e0,e1]
theorem Gr.open {ks:List D} {nodes:List (List Int)} {how:List (Int×D)} (h:Gr ks nodes how):∀ e∈how,e.1≠((nodes.length - 1:Nat):Int):=fun e he=>by
 obtain⟨j,e1,e2⟩:=h.ho e he
 have:=e2.lt
 omega
variable {σ:SD} {H:HD} {Q:D->HD->Prop}
theorem Yah {n:Nat} {kvs:List (Int×D)} {k:Int} (g:H[n]? = some (.dci kvs)) (q:Q (.bl (!(Zbm kvs k).isSome)) H):wE (Zzz (.int k) (.ref n) H) Q:=⟨.bl (!(Zbm kvs k).isSome),H,by simp[Zzz,Zu3,g],q⟩
nonrec def Zjp (N:Nat) (how:List (Int×D)):List Nat:=(Wcl N).filter fun j => !(Zbm how (j:Int)).isSome
theorem Zzf {N p:Nat} {how:List (Int×D)} {Q:List D->HD->Prop} (g:H[p]? = some (.dci how)) (q:Q ((Zjp N how).map fun j:Nat=>.int j) H) :
  wA (Zdt [] [some (.ref p)] (tOf (eOp Zzz (Zac 0) (Zac 1))) (Zac 0) (Zan 0 N) H) Q:=by
 refine Zb1 (fun d=>match d with | .int k => !(Zbm how k).isSome | _=>false) (fun H'=>H'=H) (fun _ j=>Zga) _ (fun y hy H2 j=>?_) _ rfl fun H2 j=>?_
 ·simp only[Zan,Xp,Wan] at hy
  obtain⟨k,hk',rfl⟩:=hy
  subst j
  rw[Wdl]
  fail "g"
  refine Yah g ?_
  exact⟨_,rfl,rfl,rfl⟩
 ·subst j
  have ef:((Zan 0 N).filter fun d:D=>match d with | .int k => !(Zbm how k).isSome | _=>false)=(Zjp N how).map fun j:Nat=>D.int j:=by
   unfold Zan Zjp
   rw[Wbh]
   simp only[Tbt,Wdl]
  rw[ef]
  exact q
theorem Yad {how:List (Int×D)} {k:Int} (h:∀ e∈how,e.1≠k):(Zbm how k).isSome=false:=by
 unfold Zbm
 rw[Wdm.mpr fun x hx=>by simpa using h x hx]
 rfl
theorem Zvx {ks:List D} {nodes:List (List Int)} {how:List (Int×D)} (h:Gr ks nodes how):Zjp nodes.length how≠[]:=by
 intro z
 have:=h.ne
 have m:nodes.length - 1∈Zjp nodes.length how:=Waa.mpr ⟨Wan.mpr (by omega),by rw[Yad h.open]; rfl⟩
 rw[z] at m
 cases m
variable {σ:SD} {H:HD} {Q:D->HD->Prop}
theorem _root_.WP.Fm.dci {S:List Nat} {H H':HD} (x:Fm S H H') {m:Nat} {kvs:List (Int×D)} (hm:m∉S) (h:H[m]? = some (.dci kvs)):H'[m]? = some (.dci kvs):=by
 rcases x.old m _ hm h with h1 | ⟨k2,e,_⟩
 ·exact h1
 ·cases e
theorem Zve {ks:List D} {Q:List D->HD->Prop} (hk:∀ d∈ks,Zby d) (q:Q ((nms ks).map .int) H) :
  wA (Zdt [] [some (.tup ks),some (.str "all")] (tOf (eOp neD (eOp ixD (Zac 1) (eOp Zl1 (Zac 0) (eC (.int 1)))) (Zac 2))) (Zac 0) (Zan 1 ks.length) H) Q:=by
 refine Zb1 (fun d=>match d with | .int k => !Zc5 ks k | _=>false) (fun H'=>H'=H) (fun _ j=>Zga) _ (fun y hy H2 j=>?_) _ rfl fun H2 j=>?_
 ·simp only[Zan,Xp,Wan] at hy
  obtain⟨k,hk',rfl⟩:=hy
  subst j
  have ab:Zao (1+(k:Int))=1+(k:Int):=by unfold Zao; split<;>omega
  have e:=Zf8 (x:=1+(k:Int)) hk (by rw[ab]; omega)
  rw[ab] at e
  fail "g"
  refine w_ixT e ?_
  fail "g"
  refine Zlz ?_
  exact⟨_,rfl,rfl,rfl⟩
 ·subst j
  have ef:((Zan 1 ks.length).filter fun d:D=>match d with | .int k => !Zc5 ks k | _=>false)=(nms ks).map D.int:=by
   unfold Zan nms
   rw[Wbh,Wbh,Wbb]
   simp only[Tbt,Int.add_comm]
  rw[ef]
  exact q
theorem Zgc:∀ a b:List Int,Ul (a.map .int) (b.map .int)=decide (a=b)
 | [],[]=>by simp[Ul]
 | [],_::_=>by simp[Ul]
 | _::_,[]=>by simp[Ul]
 | x::a,y::b=>by
  rw[Xs,Xs,Ul,Zgc a b]
  have:Ua (.int x) (.int y)=decide (x=y):=by simp[Ua]; rfl
  rw[this]
  by_cases h:x=y<;>by_cases k:a=b<;>simp[h,k]
theorem Zk1 (a b:List Int):Ua (.tuple (a.map .int)) (.tuple (b.map .int))=decide (a=b):=by
 rw[Ua]; exact Zgc a b
theorem Zzr {a b:List Int} (q:Q (.bl (!decide (a=b))) H):wE (neD (Zas a) (Zas b) H) Q:=Zv6 (Fine.tup (Zba a)) (Fine.tup (Zba b)) (by omega) (by omega) (by rw[Zk1]; exact q)
section
variable {ks:List D} {nodes:List (List Int)} {how:List (Int×D)} {row b es fr:List Int} {j p4 pd pe pf n0:Nat} {sd:D} {z6 z8 z10 z13:Option D}
nonrec abbrev gw1:SF:=(sIf (tAn (tOf (eOp ltD (eOp Zds (eOp ixD (Zac 7) (eC (.int 1))) (eC (.int 5))) (eC (.int 2)))) (tOf (eOp neD (Zac 12) (eOp ixD (Zac 4) (Zac 9))))) (Zae (Zmx (Zez (Zaa (eC (.str "less")) (Zaa (eCB Zbn (Zaa (Zac 4) Zaf)) Zaf))) (gSb (Zac 5) (Zac 9) Zgg))
 (Zae (Zbq (eLM Zax (Zac 4) (Zaa (Zac 12) Zaf)))
 Zah)) (Zae (sIf (tOf (eOp neD (Zac 11) (Zd5 Zaf))) (Zae (Za1 13 (eOp ixD (Zac 11) (eOp Zds (eOp ixD (Zac 7) (eC (.int 2))) (eCB Zbn (Zaa (Zac 11) Zaf)))))
 (Zae (Zmx (Zez (Zaa (eC (.str "joined")) (Zaa (eCB Zbn (Zaa (Zac 4) Zaf)) (Zaa (eOp Zbo (eCB Zbn (Zaa (Zac 4) Zaf)) (eC (.int 1))) (Zaa (Zac 13) Zaf))))) (gSb (Zac 5) (Zac 9) Zgg))
 (Zae (Za1 4 (eOp Zbo (Zac 4) (Zal 3 Zcx (Zaa (eOp ixD (Zac 4) (Zac 9)) (Zaa (Zac 13) (Zaa (eSl (Zac 7) (Zdq (eC (.int 3))) Ze0) Zaf))))))
 Zah))) Zah)
 Zah))
theorem Zen (kvs:List (Int×D)) (k:Int) (v:D):(Zhb kvs k v).length<=kvs.length+1:=by
 unfold Zhb
 split
 ·rw[Xi]; omega
 ·simp
theorem w_gw1 (G:Gr ks nodes how) (hn:nodes.length<=100) (hh:how.length<=100) (h8:ks.length<=8) (jl:j<nodes.length) (ej:nodes[j]=row) (l16:es.length=16) (dd:Zrq es)
  (ub:Up ks.length 0 (row++b)) (wb:b=[]\/Zco ks (row++b)=row) (fl:fr.length<=8) (fm:∀ x∈fr,(1<=x/\x<=ks.length)/\Zc5 ks x=false/\∀ y∈row,Zao y≠x)
  (k6:H[p4]? = some (.lst (nodes.map Zas))) (k7:H[pd]? = some (.dci how)) (ke:H[pe]? = some (.lst (es.map .int))) (kf:H[pf]? = some (.lst (fr.map .int))) (np:p4≠pd) (n4:n0<=p4) (nd:n0<=pd) {Z:SD->HD->Prop}
  (q:∀ nodes' how' p4' z13' H',Gr ks nodes' how'->nodes'.length<=nodes.length+2->how'.length<=how.length+1->H'[p4']? = some (.lst (nodes'.map Zas))->H'[pd]? = some (.dci how')->p4'≠pd->n0<=p4'->(∀ H0:HD,H0.length=n0->Fm [] H0 H->Fm [] H0 H')->Z [some (.tup ks),some (.str "all"),some sd,some (.int 1),some (.ref p4'),some (.ref pd),z6,some (.ref pe),z8,some (.int j),z10,some (.ref pf),some (Zas (row++b)),z13'] H') :
  wS (gw1 [some (.tup ks),some (.str "all"),some sd,some (.int 1),some (.ref p4),some (.ref pd),z6,some (.ref pe),z8,some (.int j),z10,some (.ref pf),some (Zas (row++b)),z13] H) fun x σ' H'=>x=.nx/\Z σ' H':=by
 have rj:=Zda jl
 rw[ej] at rj
 have ejd:nodes.getD j []=row:=by rw[Xl,Xd jl,ej]; rfl
 have uj:=G.up _ (Xo jl)
 rw[ej] at uj
 have els:wS ((Zae (sIf (tOf (eOp neD (Zac 11) (Zd5 Zaf))) (Zae (Za1 13 (eOp ixD (Zac 11) (eOp Zds (eOp ixD (Zac 7) (eC (.int 2))) (eCB Zbn (Zaa (Zac 11) Zaf)))))
 (Zae (Zmx (Zez (Zaa (eC (.str "joined")) (Zaa (eCB Zbn (Zaa (Zac 4) Zaf)) (Zaa (eOp Zbo (eCB Zbn (Zaa (Zac 4) Zaf)) (eC (.int 1))) (Zaa (Zac 13) Zaf))))) (gSb (Zac 5) (Zac 9) Zgg))
 (Zae (Za1 4 (eOp Zbo (Zac 4) (Zal 3 Zcx (Zaa (eOp ixD (Zac 4) (Zac 9)) (Zaa (Zac 13) (Zaa (eSl (Zac 7) (Zdq (eC (.int 3))) Ze0) Zaf))))))
 Zah))) Zah)
 Zah) [some (.tup ks),some (.str "all"),some sd,some (.int 1),some (.ref p4),some (.ref pd),z6,some (.ref pe),z8,some (.int j),z10,some (.ref pf),some (Zas (row++b)),z13] H) fun x σ' H'=>x=.nx/\Z σ' H':=by
  fail "i"
  refine Zog (Zba fr) (by omega) (appL kf) last ?_
  fail "g"
  cases efr:fr with
  | nil =>
   fail "g"
   exact⟨rfl,q nodes how _ _ _ G (by omega) (by omega) (appL k6) (appL k7) np n4 fun H0 h0 x=>x.trans (Fm.app _)⟩
  | cons f0 fr' =>
   rw[<- efr]
   have l0:0<fr.length:=by rw[efr]; simp
   have en:(fr.map D.int).isEmpty=false:=by rw[efr]; rfl
   rw[en]
   have k6:=appL (u:=.lst []) k6
   have k7:=appL (u:=.lst []) k7
   have ke:=appL (u:=.lst []) ke
   have kf:=appL (u:=.lst []) kf
   have X0:∀ H0:HD,H0.length=n0->Fm [] H0 H->Fm [] H0 (H++[.lst []]):=fun H0 h0 x=>x.trans (Fm.app _)
   generalize H++[DO.lst []]=H1 at k6 k7 ke kf X0 ⊢
   fail "g"
   refine Zci ke dd (by omega) (by omega) fun r r0 r1=>?_
   fail "g"
   rw[Xi]
   refine w_mod (by omega) ?_
   have m1:=Waq r (b:=(fr.length:Int)) (by omega)
   have m2:=Wai r (b:=(fr.length:Int)) (by omega)
   have mi:(r % (fr.length:Int)).toNat<fr.length:=by omega
   obtain⟨f1,f2,f3⟩:=fm _ (Xo mi)
   refine w_ixR kf (Zd8 m1 (d:=.int fr[(r % (fr.length:Int)).toNat]) (by rw[Xv,Xd mi]; rfl)) ?_
   generalize fr[(r % (fr.length:Int)).toNat]=n at f1 f2 f3
   fail "g"
   refine Zkv k7 (by omega) ?_
   fail "g"
   rw[Xi]
   have k6':=Zjx (u:=.dci (Zhb how j (.tup [.str "joined",.int nodes.length,.int ((nodes.length:Int)+1),.int n]))) np.symm k6
   have k7':=Zib (o:=.dci (Zhb how j (.tup [.str "joined",.int nodes.length,.int ((nodes.length:Int)+1),.int n]))) k7
   have npe:pd≠pe:=fun z=>by subst z; rw[k7] at ke; cases ke
   have ke':=Zjx (u:=.dci (Zhb how j (.tup [.str "joined",.int nodes.length,.int ((nodes.length:Int)+1),.int n]))) npe ke
   have X1:∀ H0:HD,H0.length=n0->Fm [] H0 H->Fm [] H0 (H1.set pd (.dci (Zhb how j (.tup [.str "joined",.int nodes.length,.int ((nodes.length:Int)+1),.int n])))):=fun H0 h0 x=>(X0 H0 h0 x).new (Fm.set (S:=[pd]) (by simp)) (fun q hq _=>by simp at hq; omega)
   generalize H1.set pd (.dci (Zhb how j (.tup [.str "joined",.int nodes.length,.int ((nodes.length:Int)+1),.int n])))=H2 at k6' k7' ke' X1 ⊢
   refine w_ixR k6' rj ?_
   fail "g"
   refine Zqp (k:=3) ke' ?_
   rw[<- Wbo]
   fail "g"
   refine Zwl uj h8 f1 f3 last (dd.drop 3) (by rw[Wbl]; omega) fun a c r2 H3 ua uc e g3 x3=>?_
   have X3:=(Fm.app (S:=[]) [DO.lst ((es.drop 3).map .int)]).trans x3
   refine Zhw (X3.lst (by simp) k6') g3 (by simp; omega) ?_
   fail "g"
   have g6:=X3.dci (by simp) k7'
   refine⟨rfl,q (nodes++[a,c]) _ _ _ _ (G.joined jl ua uc f1 f2 (by rw[ejd]; exact e)) (by simp) (Zen _ _ _) ?_ (appL g6) ?_ ?_ fun H0 h0 x=>((X1 H0 h0 x).trans X3).trans (Fm.app _)⟩
   ·rw[last,Wah]; rfl
   ·have:=(Xc.mp g6).1; omega
   ·have:=(Xc.mp g6).1; omega
 have thn (hr:row++b≠row):wS ((Zae (Zmx (Zez (Zaa (eC (.str "less")) (Zaa (eCB Zbn (Zaa (Zac 4) Zaf)) Zaf))) (gSb (Zac 5) (Zac 9) Zgg))
 (Zae (Zbq (eLM Zax (Zac 4) (Zaa (Zac 12) Zaf)))
 Zah)) [some (.tup ks),some (.str "all"),some sd,some (.int 1),some (.ref p4),some (.ref pd),z6,some (.ref pe),z8,some (.int j),z10,some (.ref pf),some (Zas (row++b)),z13] H) fun x σ' H'=>x=.nx/\Z σ' H':=by
  have wb:=wb.resolve_left fun z=>hr (by rw[z,Xw])
  fail "g"
  refine Zkv k7 (by omega) ?_
  fail "g"
  have k6':=Zjx (u:=.dci (Zhb how j (.tup [.str "less",.int (nodes.map Zas).length]))) np.symm k6
  refine⟨isl k6',?_⟩
  fail "g"
  refine Zek k6' (by simp; omega) ?_
  fail "g"
  refine⟨rfl,q (nodes++[row++b]) _ _ _ _ (G.less jl ub (by rw[ejd]; exact wb)) (by simp) (Zen _ _ _) ?_ ?_ np n4 fun H0 h0 x=>?_⟩
  ·rw[Zib k6',Wah]; rfl
  ·rw[Zjx np (Zib k7),Xi]
  ·refine(x.new (Fm.set (S:=[pd]) (by simp)) (fun q hq _=>by simp at hq; omega)).new (Fm.set (S:=[p4]) (by simp)) (fun q hq _=>by simp at hq; omega)
 unfold gw1
 refine w_if ?_
 fail "g"
 refine Zci ke dd (by omega) (by omega) fun r r0 r1=>?_
 fail "g"
 refine⟨fun v=>?_,fun v=>?_⟩
 ·fail "g"
  refine w_ixR k6 rj ?_
  fail "g"
  refine Zzr ?_
  refine⟨_,rfl,?_⟩
  refine⟨fun z=>thn (by simpa using z),fun _=>els⟩
 ·exact⟨nofun,fun _=>els⟩
end
theorem Yaa {sd:D} {ks:List D} (at':∀ (H1:HD) (k:Int) (Q:D->HD->Prop),Fm [] H H1->0<=k->k<=1000->(∀ c,Q (.int c) H1)->wE (Zcr [sd,.int k] H1) Q) (hk:∀ d∈ks,Zby d) (h8:ks.length<=8)
  (q:∀ nodes how p r H',Gr ks nodes how->nodes.length<=21->H'[p]? = some (.lst (nodes.map Zas))->H'[r]? = some (.dci how)->how.length<=10->Fm [] H H'->Q (.tup [.ref p,.ref r]) H'):wE (Zf9 [.tup ks,.str "all",sd,.int 1] H) Q:=by
 refine Za4 rfl ?_
 show wS (Zdn [some (.tup ks),some (.str "all"),some sd,some (.int 1),none,none,none,none,none,none,none,none,none,none] H) _
 unfold Zdn
 fail "g"
 refine Zv7 ?_
 fail "g"
 refine⟨_,rfl,⟨by omega,by omega⟩,?_⟩
 have gen:∃ xs:List D,Zan 0 (Int.toNat 10)=xs/\∃ m:Nat,xs=Zan ((10 - m:Nat):Int) m/\m<=10:=⟨_,rfl,10,rfl,Xe _⟩
 refine Zbj (fun d t σ H'=>∃ (nodes:List (List Int)) (how:List (Int×D)) (p4:Nat) (zs:List (Option D)),t=Zan (d.length:Int) (10 - d.length)/\d.length<=10/\Gr ks nodes how/\nodes.length<=1+2*d.length/\how.length<=d.length/\H'[p4]? = some (.lst (nodes.map Zas))/\H'[H.length+1]? = some (.dci how)/\H.length<=p4/\Fm [] H H'/\zs.length=8/\σ=[some (.tup ks),some (.str "all"),some sd,some (.int 1),some (.ref p4),some (.ref (H.length+1))]++zs/\p4≠H.length+1) (fun _ _ _ _ _=>Zga) (fun d x t σ H1 ⟨nodes,how,p4,zs,i1,i2,i3,i4,i5,i6,i7,i8,i9,i10,i11,i12⟩=>?_) (fun d σ H1 ⟨nodes,how,p4,zs,i1,i2,i3,i4,i5,i6,i7,i8,i9,i10,i11,i12⟩=>?_) _ [] _ _ ⟨[[]],[],H.length,[none,none,none,none,none,none,none,none],rfl,by simp,Gr.nil ks,by simp,by simp,appL last,by simp,Xe _,(Fm.app _).trans (Fm.app _),rfl,by simp,by omega⟩
 ·obtain⟨z6,z7,z8,z9,z10,z11,z12,z13,rfl⟩:∃ a b c d e f g h:Option D,zs=[a,b,c,d,e,f,g,h]:=by
   match zs,i10 with
   | [a,b,c,d,e,f,g,h],_=>exact⟨a,b,c,d,e,f,g,h,rfl⟩
  subst i11
  obtain⟨k,hk1⟩:∃ k,10 - d.length=k+1:=by
   cases h:10 - d.length with
   | zero=>rw[h] at i1; simp[Zan] at i1
   | succ k=>exact⟨k,rfl⟩
  rw[hk1,Zbu] at i1
  obtain⟨rfl,rfl⟩:=Wbm.inj i1
  show wG (gNm 6 _ [some (.tup ks),some (.str "all"),some sd,some (.int 1),some (.ref p4),some (.ref (H.length+1)),z6,z7,z8,z9,z10,z11,z12,z13] H1) _
  fail "g"
  refine at' _ _ _ i9 (by omega) (by omega) fun c=>?_
  fail "g"
  refine Zgr (many:=46) (by omega) fun ds p H2 l1 d1 g1 n1 x1=>?_
  fail "g"
  refine Zqp (k:=30) g1 ?_
  rw[<- Wbo]
  have dd:=d1.drop 30
  have ld:(ds.drop 30).length=16:=by rw[Wbl,l1]
  generalize ds.drop 30=es at dd ld
  have X2:=x1.trans (Fm.app (S:=[]) [DO.lst (es.map .int)])
  have j6:=X2.lst (by simp) i6
  have j7:=X2.dci (by simp) i7
  fail "g"
  refine⟨_,rfl,⟨by omega,by simp; omega⟩,?_⟩
  rw[Xi,Xr]
  refine Zzf j7 ?_
  have on:=Zvx i3
  have ol:(Zjp nodes.length how).length<=nodes.length:=by
   unfold Zjp
   have:=Wat (fun j:Nat => !(Zbm how (j:Int)).isSome) (Wcl nodes.length)
   rwa [List.length_range] at this
  have o0:0<(Zjp nodes.length how).length:=Wep.mpr on
  have oj:∀ j∈Zjp nodes.length how,j<nodes.length:=fun j hj=>by
   unfold Zjp at hj
   exact Wan.mp (Waa.mp hj).1
  refine⟨by simp; omega,?_⟩
  generalize Zjp nodes.length how=ops at on ol o0 oj
  have ge:(H2++[DO.lst (es.map .int)])[H2.length]? = some (.lst (es.map .int)):=last
  fail "g"
  refine Zci (appL ge) dd (by omega) (by omega) fun r r0 r1=>?_
  fail "g"
  rw[Xi]
  refine w_mod (by omega) ?_
  have m1:=Waq r (b:=(ops.length:Int)) (by omega)
  have m2:=Wai r (b:=(ops.length:Int)) (by omega)
  have mi:(r % (ops.length:Int)).toNat<ops.length:=by omega
  have jl:=oj _ (Xo mi)
  refine w_ixR last (Zd8 m1 (d:=.int ((ops[(r % (ops.length:Int)).toNat]:Nat):Int)) (by rw[Xv,Xd mi]; rfl)) ?_
  generalize ops[(r % (ops.length:Int)).toNat]=j at jl
  have rj:=Zda jl
  have uj:=i3.up _ (Xo jl)
  have Rj:=(Zt4 (by omega) uj).1
  fail "g"
  refine w_ixR (appL j6) rj ?_
  generalize hrow:nodes[j]=row at rj uj Rj
  have ejd:nodes.getD j []=row:=by rw[Xl,Xd jl,hrow]; rfl
  fail "g"
  have lr:=Rj.len
  refine⟨row.map .int,[],rfl,?_⟩
  refine Zmh (fun d=>match d with | .int x=>.int (Zao x) | d=>d) (fun H'=>H'=H2++[DO.lst (es.map D.int)]++[DO.lst (ops.map fun j:Nat=>D.int j)]) (fun _ _=>Zga) _ (fun y hy H3 jj=>?_) _ rfl fun H3 jj=>?_
  ·obtain⟨z,hz,rfl⟩:=Xp.mp hy
   subst jj
   fail "g"
   exact⟨rfl,rfl⟩
  subst jj
  refine⟨by simp; omega,?_⟩
  have em:(row.map D.int).map (fun d:D=>match d with | .int x=>D.int (Zao x) | d=>d)=(row.map Zao).map D.int:=by rw[Wbb,Wbb]; rfl
  rw[em]
  fail "g"
  refine⟨_,_,rfl,⟨by omega,by omega⟩,⟨by omega,by omega⟩,?_⟩
  rw[show ((ks.length:Int)+1 - 1).toNat=ks.length by omega]
  refine Zve hk ?_
  have nl:=Zo4 ks
  refine⟨by simp; omega,?_⟩
  have gt:(H2++[DO.lst (es.map D.int)]++[DO.lst (ops.map fun j:Nat=>D.int j)]++[DO.lst ((row.map Zao).map D.int)]++[DO.lst ((nms ks).map D.int)])[(H2++[DO.lst (es.map D.int)]++[DO.lst (ops.map fun j:Nat=>D.int j)]).length]? = some (.lst ((row.map Zao).map D.int)):=appL last
  fail "g"
  refine Zb1 (fun d=>match d with | .int x => !decide (x∈row.map Zao) | _=>false) (fun H'=>H'=H2++[DO.lst (es.map D.int)]++[DO.lst (ops.map fun j:Nat=>D.int j)]++[DO.lst ((row.map Zao).map D.int)]++[DO.lst ((nms ks).map D.int)]) (fun _ jj=>by subst jj; exact Zru last) _ (fun y hy H3 jj=>?_) _ rfl fun H3 jj=>?_
  ·obtain⟨z,hz,rfl⟩:=Xp.mp hy
   subst jj
   fail "g"
   refine Zxs gt ?_
   exact⟨_,rfl,rfl,rfl⟩
  subst jj
  have ef:(((nms ks).map D.int).filter fun d:D=>match d with | .int x => !decide (x∈row.map Zao) | _=>false)=((nms ks).filter fun x => !decide (x∈row.map Zao)).map D.int:=by
   rw[Wbh]
   rfl
  rw[ef]
  have fl:=Wat (fun x => !decide (x∈row.map Zao)) (nms ks)
  have fm:∀ x∈(nms ks).filter fun x => !decide (x∈row.map Zao),(1<=x/\x<=ks.length)/\Zc5 ks x=false/\∀ y∈row,Zao y≠x:=fun x hx=>by
   obtain⟨h1,h2⟩:=Waa.mp hx
   obtain⟨a,b,c⟩:=Zos.mp h1
   exact⟨⟨a,b⟩,c,fun y hy e=>by simp at h2; exact h2 y hy e⟩
  generalize (nms ks).filter (fun x => !decide (x∈row.map Zao))=fr at fl fm
  refine⟨by simp; omega,?_⟩
  have k6:=appL (u:=DO.lst (fr.map D.int)) (appL (u:=DO.lst ((nms ks).map D.int)) (appL (u:=DO.lst ((row.map Zao).map D.int)) (appL (u:=DO.lst (ops.map fun j:Nat=>D.int j)) j6)))
  have k7:=appL (u:=DO.lst (fr.map D.int)) (appL (u:=DO.lst ((nms ks).map D.int)) (appL (u:=DO.lst ((row.map Zao).map D.int)) (appL (u:=DO.lst (ops.map fun j:Nat=>D.int j)) j7)))
  have ke:=appL (u:=DO.lst (fr.map D.int)) (appL (u:=DO.lst ((nms ks).map D.int)) (appL (u:=DO.lst ((row.map Zao).map D.int)) (appL (u:=DO.lst (ops.map fun j:Nat=>D.int j)) ge)))
  have X5:=(((X2.trans (Fm.app (S:=[]) [DO.lst (ops.map fun j:Nat=>D.int j)])).trans (Fm.app (S:=[]) [DO.lst ((row.map Zao).map D.int)])).trans (Fm.app (S:=[]) [DO.lst ((nms ks).map D.int)])).trans (Fm.app (S:=[]) [DO.lst (fr.map D.int)])
  have kf:(H2++[DO.lst (es.map D.int)]++[DO.lst (ops.map fun j:Nat=>D.int j)]++[DO.lst ((row.map Zao).map D.int)]++[DO.lst ((nms ks).map D.int)]++[DO.lst (fr.map D.int)])[(H2++[DO.lst (es.map D.int)]++[DO.lst (ops.map fun j:Nat=>D.int j)]++[DO.lst ((row.map Zao).map D.int)]++[DO.lst ((nms ks).map D.int)]).length]? = some (.lst (fr.map .int)):=last
  generalize (H2++[DO.lst (es.map D.int)]++[DO.lst (ops.map fun j:Nat=>D.int j)]++[DO.lst ((row.map Zao).map D.int)]++[DO.lst ((nms ks).map D.int)]).length=pf at kf ⊢
  generalize H2++[DO.lst (es.map D.int)]++[DO.lst (ops.map fun j:Nat=>D.int j)]++[DO.lst ((row.map Zao).map D.int)]++[DO.lst ((nms ks).map D.int)]++[DO.lst (fr.map D.int)]=H5 at k6 k7 ke X5 kf ⊢
  fail "g"
  refine w_ixR k6 rj ?_
  fail "g"
  refine Zqp (k:=3) ke ?_
  rw[<- Wbo]
  fail "g"
  refine Zyv hk h8 uj last (dd.drop 3) (by rw[Wbl]; omega) fun b H6 ub wb x6=>?_
  refine w_seq ?_
  have x6':=(Fm.app (S:=[]) [DO.lst ((es.drop 3).map .int)]).trans x6
  refine Zk3 (fun σ' H'=>∃ (nodes:List (List Int)) (how:List (Int×D)) (p4:Nat) (zs:List (Option D)),Gr ks nodes how/\nodes.length<=1+2*(d.length+1)/\how.length<=d.length+1/\H'[p4]? = some (.lst (nodes.map Zas))/\H'[H.length+1]? = some (.dci how)/\p4≠H.length+1/\H.length<=p4/\Fm [] H H'/\zs.length=8/\σ'=[some (.tup ks),some (.str "all"),some sd,some (.int 1),some (.ref p4),some (.ref (H.length+1))]++zs) (w_gw1 (n0:=H.length) i3 (by omega) (by omega) h8 jl hrow ld dd ub wb (by omega) fm (x6'.lst (by simp) k6) (x6'.dci (by simp) k7) (x6'.lst (by simp) ke) (x6'.lst (by simp) kf) i12 i8 (by omega) fun nodes' how' p4' z13' H' e1 e2 e3 e4 e5 e6 e7 e8=>?_) ?_
  ·exact⟨nodes',how',p4',_,e1,by omega,by omega,e4,e5,e6,e7,e8 H rfl ((i9.trans X5).trans x6'),rfl,rfl⟩
  ·rintro σ' H' ⟨nodes',how',p4',zs',e1,e2,e3,e4,e5,e6,e7,e8,e9,e10⟩
   fail "g"
   exact⟨nodes',how',p4',zs',by rw[Xz]; simp only[Wca,Wam]; rw[show 10 - (d.length+(0+1))=k by omega]; rfl,by simp; omega,e1,by simp; omega,by simp; omega,e4,e5,e7,e8,e9,e10,e6⟩
 ·obtain⟨z6,z7,z8,z9,z10,z11,z12,z13,rfl⟩:∃ a b c d e f g h:Option D,zs=[a,b,c,d,e,f,g,h]:=by
   match zs,i10 with
   | [a,b,c,d,e,f,g,h],_=>exact⟨a,b,c,d,e,f,g,h,rfl⟩
  subst i11
  have:d.length=10:=by
   cases h:10 - d.length with
   | zero=>omega
   | succ k=>rw[h,Zbu] at i1; cases i1
  show Zxw _ _ _ [some (.tup ks),some (.str "all"),some sd,some (.int 1),some (.ref p4),some (.ref (H.length+1)),z6,z7,z8,z9,z10,z11,z12,z13] _
  fail "g"
  exact q nodes how _ _ _ i3 (by omega) i6 i7 (by omega) i9
nonrec def sD (s:Str) (zs:List Int):D:=.tup (.str s::zs.map .int)
section
variable {ks:List D} {rss made xs pre:List (List Int)} {d:D} {x:List Int}
theorem Zf3 {l:List (List Int)} {i:Nat} (h:i<l.length):l.getD i []=l[i]:=by
 rw[Xl,Xd h]; rfl
theorem St.stp (h:St ks rss made d x):stp ks rss made d=some x:=by
 cases h with
 | less i h =>
  unfold K08.stp
  dsimp only
  rw[if_pos rfl,if_pos ⟨by omega,by omega⟩,Xr,Zf3 h]
 | row i h =>
  unfold K08.stp
  dsimp only
  rw[if_neg (by decide),if_pos rfl,if_pos ⟨by omega,by omega⟩,Xr,Zf3 h]
 | joined i j n x hi hj hn ho e =>
  unfold K08.stp
  dsimp only
  rw[if_pos ⟨rfl,⟨by omega,by omega⟩,⟨by omega,by omega⟩,hn,ho⟩,Xr,Xr,Zf3 hi,Zf3 hj,e]
theorem St.shape (h:St ks rss made d x):∃ s zs,Tai s=true/\zs.length<=3/\d=sD s zs:=by
 cases h with
 | less i h=>exact⟨_,[(i:Int)],Zht (by decide),by simp,rfl⟩
 | row i h=>exact⟨_,[(i:Int)],Zht (by decide),by simp,rfl⟩
 | joined i j n x hi hj hn ho e=>exact⟨_,[(i:Int),(j:Int),n],Zht (by decide),by simp,rfl⟩
theorem St.app (h:St ks rss made d x):St ks rss (made++xs) d x:=by
 have g:∀ {i:Nat} (hi:i<made.length),∃ h':i<(made++xs).length,(made++xs)[i]=made[i]:=fun hi=>⟨by simp; omega,List.getElem_append_left hi⟩
 cases h with
 | less i h =>
  obtain⟨h1,e1⟩:=g h
  rw[<- e1]; exact .less i h1
 | row i h=>exact .row i h
 | joined i j n x hi hj hn ho e =>
  obtain⟨h1,e1⟩:=g hi
  obtain⟨h2,e2⟩:=g hj
  exact .joined i j n x h1 h2 hn ho (by rw[e1,e2]; exact e)
nonrec def mv (m:Nat) (d:D):D:=match d with
 | .tup [.str s,.int i]=>if s = "less" then .tup [.str s,.int (i+m)] else d
 | .tup [.str s,.int i,.int j,.int n]=>.tup [.str s,.int (i+m),.int (j+m),.int n]
 | d=>d
theorem St.mv (h:St ks rss made d x):St ks rss (pre++made) (mv pre.length d) x:=by
 have g:∀ {i:Nat} (hi:i<made.length),∃ h':i+pre.length<(pre++made).length,(pre++made)[i+pre.length]=made[i]:=fun {i} hi=>⟨by simp; omega,by rw[List.getElem_append_right (by omega)]; simp⟩
 cases h with
 | less i h =>
  obtain⟨h1,e1⟩:=g h
  rw[<- e1]
  unfold K08.mv
  dsimp only
  rw[if_pos rfl]
  exact .less (i+pre.length) h1
 | row i h =>
  unfold K08.mv
  dsimp only
  rw[if_neg (by decide)]
  exact .row i h
 | joined i j n x hi hj hn ho e =>
  obtain⟨h1,e1⟩:=g hi
  obtain⟨h2,e2⟩:=g hj
  exact .joined (i+pre.length) (j+pre.length) n x h1 h2 hn ho (by rw[e1,e2]; exact e)
theorem Zxe:∀ (ds:List D) (made:List (List Int)),mok ks rss made ds=true->mok ks rss (pre++made) (ds.map (mv pre.length))=true/\mad ks rss (pre++made) (ds.map (mv pre.length))=pre++mad ks rss made ds
 | [],made,_=>⟨rfl,rfl⟩
 | d::r,made,h=>by
  unfold mok at h
  cases e:stp ks rss made d with
  | none=>rw[e] at h; cases h
  | some x =>
   rw[e] at h
   have e2:=(St.of e).mv (pre:=pre).stp
   obtain⟨h1,h2⟩:=Zxe r (made++[x]) h
   rw[<- Wax] at h1 h2
   refine⟨?_,?_⟩
   ·simp only[Xs,mok,e2]; exact h1
   ·simp only[Xs,mad,e2,e]; exact h2
theorem Zkn {a b:List D} (ha:mok ks rss [] a=true) (hb:mok ks rss [] b=true):mok ks rss [] (a++b.map (mv a.length))=true/\mad ks rss [] (a++b.map (mv a.length))=mad ks rss [] a++mad ks rss [] b:=by
 have la:=Zfx ks rss a [] ha
 rw[Wam,Wcg] at la
 obtain⟨h1,h2⟩:=Zxe (pre:=mad ks rss [] a) b [] hb
 rw[la,Xw] at h1 h2
 rw[Zhu,Zlh _ _ _ _ _ ha,ha,h1,h2]
 exact⟨rfl,rfl⟩
theorem Zux {i:Nat} (h:i<rss.length):∀ (k:Nat) (made:List (List Int)),mok ks rss made (Xk k (.tup [.str "row",.int i]))=true
 | 0,_=>rfl
 | k+1,made=>by
  rw[Wap]
  simp only[mok,(St.row (ks:=ks) (made:=made) i h).stp]
  exact Zux h k _
theorem Zjt:∀ (ds:List D) (made:List (List Int)),mok ks rss made ds=true->∀ d∈ds,∃ m x,St ks rss m d x
 | [],_,_,d,h=>by cases h
 | d::r,made,h,y,hy=>by
  unfold mok at h
  cases e:stp ks rss made d with
  | none=>rw[e] at h; cases h
  | some x =>
   rw[e] at h
   rcases Xh.mp hy with rfl | z
   ·exact⟨made,x,St.of e⟩
   ·exact Zjt r _ h y z
end
theorem Zfz {s:Str} {zs:List Int} (h:Tai s=true):Fine (sD s zs) (.tuple (.str s::zs.map .int)) 1:=Fine.tup (Fines.cons (Fine.str h) (Zba zs))
theorem Zxa {s t:Str} {zs ys:List Int} (h:Ua (.tuple (.str s::zs.map .int)) (.tuple (.str t::ys.map .int))=true):sD s zs=sD t ys:=by
 rw[Ua,Ul,Zgc,Wad,decide_eq_true_iff] at h
 have e:s=t:=eq_of_beq (by have:=h.1; simp[Ua] at this; simpa using this)
 rw[e,h.2]
theorem Fines.get {h k:Nat}:∀ {ds:List D} {xs:List Vu} {i:Nat} {d:D} {x:Vu},Fines ds xs h->ds[i]? = some d->Fine d x k->xs[i]? = some x
 | [],_,_,_,_,_,e,_=>by simp at e
 | d0::ds,xs,i,d,x,f,e,a=>by
  have t:=f.to [] 0
  rw[Zrs] at t
  obtain⟨x0,t1,t⟩:=Zo t
  obtain⟨xs',t2,rfl⟩:=Zm t
  cases i with
  | zero =>
   simp at e
   subst e
   rw[a.to] at t1
   simpa using t1.symm
  | succ i =>
   obtain⟨zs,g⟩:∃ zs,Fines ds zs h:=by
    have f':=f.to
    refine⟨xs',fun H n=>?_,?_,?_,?_⟩
    ·have:=f' H n
     rw[Zrs] at this
     obtain⟨y,_,this⟩:=Zo this
     obtain⟨ys,e1,e2⟩:=Zm this
     cases e2
     exact e1
    ·have:=f.lay
     simp only[Taa,Wad] at this
     exact this.2
    ·have:=f.dep
     simp only[Tcf] at this
     omega
    ·have:=f.len
     simpa using this
   have ez:=g.to [] 0
   rw[t2] at ez
   cases ez
   simpa using Fines.get g (by simpa using e) a
theorem Zw6 {p h k:Nat} {ds:List D} {xs:List Vu} {d:D} {x:Vu} (f:Fine d x h) (g:Fines ds xs k) (hh:h<=30) (hk:k<30) (hp:H[p]? = some (.lst ds)) (hl:ds.length<=1000) (hin:(xs.any fun z=>Ua z x)=true)
  (q:∀ (i:Nat) z,xs[i]? = some z->Ua z x=true->Q (.int i) H):wE (Ze8 (.ref p) [d] H) Q:=by
 obtain⟨y,hy,ey⟩:=Waw.mp hin
 cases e:xs.findIdx? (fun z=>Ua z x) with
 | none=>have:=List.findIdx?_eq_none_iff.mp e y hy; rw[ey] at this; cases this
 | some i =>
  obtain⟨hi,h1,_⟩:=Wcq.mp e
  refine⟨.int i,H,?_,q i _ (Xd hi) h1⟩
  unfold Ze8
  dsimp only
  rw[hp]
  dsimp only
  rw[g.dat hk hp,Zb,f.dat hh H,Zb]
  show ((Zjw (Tcj _)).bind _)=_
  rw[show Zjw (Tcj xs)=some xs from rfl,Zb,e,Zb]
  have:=g.len
  rw[if_pos (by omega)]
theorem Zvg {p:Nat} {rows:List (List Int)} {x:List Int} (g:H[p]? = some (.lst (rows.map Zas))) (hl:rows.length<=1000) (hm:x∈rows) (q:∀ i:Nat,rows[i]? = some x->Q (.int i) H):wE (Ze8 (.ref p) [Zas x] H) Q:=by
 obtain⟨xs,f⟩:=Zfo rows
 have at':∀ (i:Nat) r,rows[i]? = some r->xs[i]? = some (.tuple (r.map .int)):=fun i r hr=>Fines.get f (by rw[Xv,hr]; rfl) (Fine.tup (Zba r))
 refine Zw6 (Fine.tup (Zba x)) f (by omega) (by omega) g (by simpa using hl) ?_ fun i z hz e=>?_
 ·obtain⟨i,hi,rfl⟩:=Wbe.mp hm
  have:=at' i _ (Xd hi)
  exact Waw.mpr ⟨_,Wae this,by rw[Zk1]; simp⟩
 ·have hi:i<rows.length:=by
   have:=(Xc.mp hz).1
   have:=f.len
   simp at this
   omega
  have e1:=at' i _ (Xd hi)
  rw[hz] at e1
  cases e1
  rw[Zk1] at e
  exact q i (by rw[Xd hi,of_decide_eq_true e])
def Yaq (ds:List D):Prop:=∀ d∈ds,∃ s zs,Tai s=true/\zs.length<=3/\d=sD s zs
theorem Yaq.fines {ds:List D} (h:Yaq ds):∃ xs,Fines ds xs 1:=Fines.of _ fun d hd=>by
 obtain⟨s,zs,hs,_,rfl⟩:=h d hd
 exact⟨_,Zfz hs⟩
theorem Zyz {p:Nat} {ds:List D} {s:Str} {zs:List Int} (g:H[p]? = some (.lst ds)) (hl:ds.length<=1000) (hs:Tai s=true) (hd:Yaq ds) (hm:sD s zs∈ds) (q:∀ i:Nat,ds[i]? = some (sD s zs)->Q (.int i) H):wE (Ze8 (.ref p) [sD s zs] H) Q:=by
 obtain⟨xs,f⟩:=hd.fines
 refine Zw6 (Zfz hs) f (by omega) (by omega) g hl ?_ fun i z hz e=>?_
 ·obtain⟨i,hi,e⟩:=Wbe.mp hm
  have:=Fines.get f (by rw[Xd hi,e]) (Zfz hs)
  exact Waw.mpr ⟨_,Wae this,Zie _ (Zfz hs).lay⟩
 ·have hi:i<ds.length:=by
   have:=(Xc.mp hz).1
   have:=f.len
   omega
  obtain⟨t,ys,ht,_,ed⟩:=hd _ (Xo hi)
  have e1:=Fines.get f (by rw[Xd hi,ed]) (Zfz ht)
  rw[hz] at e1
  cases e1
  exact q i (by rw[Xd hi,ed,Zxa e])
theorem Ybn {p:Nat} {ds:List D} {s:Str} {zs:List Int} (g:H[p]? = some (.lst ds)) (hs:Tai s=true) (hd:Yaq ds) (q:∀ b:Bool,(b=true->sD s zs∈ds)->Q (.bl b) H):wE (inD (sD s zs) (.ref p) H) Q:=by
 obtain⟨xs,f⟩:=hd.fines
 refine Ycl (Zfz hs) f (by omega) (by omega) g (q _ fun h=>?_)
 obtain⟨y,hy,ey⟩:=Waw.mp h
 obtain⟨i,hx,rfl⟩:=Wbe.mp hy
 have hi:i<ds.length:=by have:=f.len; omega
 obtain⟨t,ys,ht,_,ed⟩:=hd _ (Xo hi)
 have e1:=Fines.get f (by rw[Xd hi,ed]) (Zfz ht)
 rw[Xd hx] at e1
 rw[Xy.inj e1] at ey
 rw[<- Zxa ey,<- ed]
 exact Xo hi
variable {σ:SD} {H:HD} {Q:D->HD->Prop}
theorem Zyk {p:Nat} {xs:List D} {lo hi:Option Int} (g:H[p]? = some (.lst xs)) (q:Q (.ref H.length) (H++[.lst (Zlm xs lo hi)])):wE (slD (.ref p) lo hi H) Q:=⟨_,_,by simp only[slD,g],q⟩
theorem Zwd (ns:List Int) (lo hi:Option Int):∃ cs:List Int,Zlm (ns.map .int) lo hi=cs.map .int/\cs.length<=ns.length:=by
 refine⟨(ns.drop (HT.sIx (ns.map D.int).length 0 lo)).take (HT.sIx (ns.map D.int).length (ns.map D.int).length hi - HT.sIx (ns.map D.int).length 0 lo),?_,?_⟩
 ·unfold Zlm
  rw[<- Wbo,<- Wev]
 ·rw[Wau,Wbl]
  omega
theorem w_ins {p:Nat} {xs:List D} {i:Int} {d:D} (g:H[p]? = some (.lst xs)) (h0:0<=i) (h1:i<=xs.length) (h2:xs.length<1000000) (q:Q .non (H.set p (.lst (xs.take i.toNat++[d]++xs.drop i.toNat)))):wE (Zi7 (.ref p) [.int i,d] H) Q:=by
 refine⟨_,_,?_,q⟩
 have sz:sizeLine=16777216:=Um
 unfold Zi7
 simp only[g]
 rw[if_pos ⟨h0,h1,by omega⟩]
theorem Zg0 {kvs:List (Int×D)} {k k':Int} {v:D}:Zbm (Zhb kvs k v) k'=if k'=k then some v else Zbm kvs k':=by
 unfold Zhb
 split
 ·rename_i h
  unfold Zbm
  rw[List.find?_map]
  have e:((fun p:Int×D=>decide (p.1=k')) ∘ fun p:Int×D=>if p.1=k then (p.1,v) else p)=fun p:Int×D=>decide (p.1=k'):=by
   funext p
   simp only[Function.comp]
   split<;>rfl
  rw[e,Option.map_map]
  by_cases z:k'=k
  ·rw[if_pos z]
   subst z
   obtain⟨x,hx,hk⟩:=Waw.mp h
   cases f:kvs.find? (fun p=>decide (p.1=k')) with
   | none=>have:=Wdm.mp f x hx; exact absurd hk (by simpa using this)
   | some y =>
    have:=Wcr f
    simp at this
    simp[this]
  ·rw[if_neg z]
   cases f:kvs.find? (fun p=>decide (p.1=k')) with
   | none=>rfl
   | some y =>
    have:=Wcr f
    simp at this
    simp[this,z]
 ·rename_i h
  unfold Zbm
  rw[Wey]
  by_cases z:k'=k
  ·rw[if_pos z]
   subst z
   have:kvs.find? (fun p=>decide (p.1=k'))=none:=Wdm.mpr fun x hx=>by
    have:=fun hh=>h (Waw.mpr ⟨x,hx,hh⟩)
    simpa using this
   rw[this]
   simp
  ·rw[if_neg z]
   have:([(k,v)]:List (Int×D)).find? (fun p=>decide (p.1=k'))=none:=by
    simp[List.find?,Uo z]
   rw[this,Option.or_none]
def FS (nodes:List (List Int)) (how:List (Int×D)) (rows:List (List Int)) (fs:List (Int×D)) (n:Nat):Prop:=∀ j:Nat,j<n->(Zbm how (j:Int)).isSome=false->∃ i:Nat,Zbm fs (j:Int)=some (.tup [.str "row",.int i])/\rows[i]? = some (nodes.getD j [])
theorem Zks {N d:Nat} {x:D} {t:List D} (h:x::t=Zan (d:Int) (N - d)):d<N/\x=.int d/\t=Zan ((d+1:Nat):Int) (N - (d+1)):=by
 cases e:N - d with
 | zero=>rw[e] at h; simp[Zan] at h
 | succ k =>
  rw[e,Zbu] at h
  obtain⟨h1,h2⟩:=Wbm.inj h
  refine⟨by omega,h1,?_⟩
  rw[h2,show N - (d+1)=k by omega]
  rfl
theorem Zon {ks:List D} {nodes:List (List Int)} {how:List (Int×D)} {es:List Int} {p4 r pe:Nat} (h8:ks.length<=8) (G:Gr ks nodes how) (hn:nodes.length<=30) (g4:H[p4]? = some (.lst (nodes.map Zas))) (gr:H[r]? = some (.dci how)) (ge:H[pe]? = some (.lst (es.map .int))) (dd:Zrq es) (l12:es.length=12)
  (q:∀ rows fs pf H',(∀ ls∈rows,Up ks.length 0 ls)->rows.length<=100->FS nodes how rows fs nodes.length->H'[pf]? = some (.dci fs)->Fm [] H H'->Q (.tup [Zar ks rows,.ref pf]) H'):wE (Zc6 [.tup ks,.ref p4,.ref r,.ref pe] H) Q:=by
 refine Za4 rfl ?_
 show wS (Zbi [some (.tup ks),some (.ref p4),some (.ref r),some (.ref pe),none,none,none] H) _
 unfold Zbi
 fail "g"
 refine Zci ge dd (by omega) (by omega) fun u u0 u1=>?_
 fail "g"
 refine Zyk ge ?_
 obtain⟨cs,ec,lc⟩:=Zwd es (some 2) (some (2+u % 4))
 rw[ec]
 fail "g"
 refine Zsu (fun d t o H'=>∃ rss:List (List Int),o=rss.map Zas/\rss.length=d.length/\d.length+t.length=cs.length/\(∀ ls∈rss,Up ks.length 0 ls)/\(∀ x∈t,∃ i:Int,x=.int i)/\Fm [] (H++[.lst (cs.map .int)]) H') (fun _ _ _ _ ⟨_,_,_,_,_,_,j⟩=>Zru (j.lst (by simp) last)) (fun d x t o H3 ⟨rss,i1,i2,i3,i4,i5,i6⟩=>?_) _ [] [] _ ⟨[],rfl,rfl,by simp,by simp,fun x hx=>by obtain⟨i,_,rfl⟩:=Xp.mp hx; exact⟨i,rfl⟩,Fm.refl⟩ (fun d o H3 ⟨rows0,i1,i2,i3,i4,i5,i6⟩=>?_)
 ·obtain⟨i,rfl⟩:=i5 x (by simp)
  fail "g"
  refine Zyd (by omega) fun ls H4 u x4=>?_
  refine⟨rss++[ls],by rw[i1]; simp,by simp[i2],by simp at i3 ⊢; omega,fun y hy=>?_,fun y hy=>i5 y (by simp[hy]),i6.trans x4⟩
  rcases Xn.mp hy with z | z
  ·exact i4 y z
  ·simp at z; subst z; exact u
 rw[Wde] at i1
 subst i1
 simp only[Wam,Nat.add_zero] at i3
 refine⟨by simp; omega,?_⟩
 have X0:Fm [] H (H3++[.lst (rows0.map Zas)]):=((Fm.app _).trans i6).trans (Fm.app _)
 have g0:(H3++[.lst (rows0.map Zas)])[H3.length]? = some (.lst (rows0.map Zas)):=last
 have l3:H.length<=H3.length:=by have:=i6.len; simp at this; omega
 generalize H3++[.lst (rows0.map Zas)]=H1 at X0 g0 ⊢
 generalize H3.length=pr at g0 l3 ⊢
 fail "g"
 refine w_lenR (X0.lst (by simp) g4) ?_
 fail "g"
 rw[Xi]
 refine⟨_,rfl,⟨by omega,by omega⟩,?_⟩
 rw[Xr]
 have out4:∀ {H':HD},Fm [] H H'->H'[p4]? = some (.lst (nodes.map Zas)):=fun x=>x.lst (by simp) g4
 have outr:∀ {H':HD},Fm [] H H'->H'[r]? = some (.dci how):=fun x=>x.dci (by simp) gr
 have oute:∀ {H':HD},Fm [] H H'->H'[pe]? = some (.lst (es.map .int)):=fun x=>x.lst (by simp) ge
 refine Zk3 (fun σ' H'=>∃ (rows:List (List Int)) (z5:Option D),(∀ ls∈rows,Up ks.length 0 ls)/\rows.length<=12+nodes.length/\(∀ j:Nat,j<nodes.length->(Zbm how (j:Int)).isSome=false->nodes.getD j []∈rows)/\H'[pr]? = some (.lst (rows.map Zas))/\Fm [] H H'/\σ'=[some (.tup ks),some (.ref p4),some (.ref r),some (.ref pe),some (.ref pr),z5,none]) ?_ ?_
 ·refine Zbj (fun d t σ H'=>∃ (rows:List (List Int)) (z5:Option D),t=Zan (d.length:Int) (nodes.length - d.length)/\d.length<=nodes.length/\(∀ ls∈rows,Up ks.length 0 ls)/\rows.length<=12+d.length/\(∀ j:Nat,j<d.length->(Zbm how (j:Int)).isSome=false->nodes.getD j []∈rows)/\H'[pr]? = some (.lst (rows.map Zas))/\Fm [] H H'/\σ=[some (.tup ks),some (.ref p4),some (.ref r),some (.ref pe),some (.ref pr),z5,none]) (fun _ _ _ _ _=>Zga) (fun d x t σ H2 ⟨rows,z5,j1,j2,j3,j4,j5,j6,j7,j8⟩=>?_) (fun d σ H2 ⟨rows,z5,j1,j2,j3,j4,j5,j6,j7,j8⟩=>?_) _ [] _ _ ⟨rows0,none,rfl,by simp,i4,by simp; omega,fun j h=>absurd h (by simp),g0,X0,rfl⟩
  ·subst j8
   obtain⟨dl,rfl,rfl⟩:=Zks j1
   have ld:(d++[D.int (d.length:Int)]).length=d.length+1:=by simp
   fail "i"
   refine Yah (outr j7) ?_
   fail "g"
   cases eo:(Zbm how (d.length:Int)).isSome with
   | true =>
    fail "g"
    refine⟨rows,_,by rw[ld],by rw[ld]; omega,j3,by rw[ld]; omega,fun j h ho=>?_,j6,j7,rfl⟩
    rw[ld] at h
    by_cases z:j=d.length
    ·subst z; rw[eo] at ho; cases ho
    ·exact j5 j (by omega) ho
   | false =>
    fail "g"
    refine⟨isl j6,?_⟩
    fail "g"
    refine Zci (oute j7) dd (by omega) (by omega) fun v v0 v1=>?_
    fail "g"
    refine w_fdiv (by omega) (by omega) ?_
    fail "g"
    refine w_mod (by omega) ?_
    rw[Xi]
    have m1:=Waq (v / ((d.length:Int)+1)) (b:=(rows.length:Int)+1) (by omega)
    have m2:=Wai (v / ((d.length:Int)+1)) (b:=(rows.length:Int)+1) (by omega)
    generalize v / ((d.length:Int)+1) % ((rows.length:Int)+1)=m at m1 m2
    fail "g"
    refine w_ixR (out4 j7) (Zda dl) ?_
    fail "g"
    refine w_ins j6 m1 (by simp; omega) (by simp; omega) ?_
    fail "g"
    have em:(rows.map Zas).take m.toNat++[Zas nodes[d.length]]++(rows.map Zas).drop m.toNat=(rows.take m.toNat++[nodes[d.length]]++rows.drop m.toNat).map Zas:=by simp
    rw[em]
    have mm:∀ y,y∈rows.take m.toNat++[nodes[d.length]]++rows.drop m.toNat ↔ y∈rows\/y=nodes[d.length]:=fun y=>by
     conv=>rhs; rw[<- Wbg m.toNat rows]
     simp only[Xn,Wbc]
     constructor
     ·rintro((h | h) | h)
      ·exact .inl (.inl h)
      ·exact .inr h
      ·exact .inl (.inr h)
     ·rintro((h | h) | h)
      ·exact .inl (.inl h)
      ·exact .inr h
      ·exact .inl (.inr h)
    refine⟨rows.take m.toNat++[nodes[d.length]]++rows.drop m.toNat,_,by rw[ld],by rw[ld]; omega,fun ls hl=>?_,?_,fun j h ho=>?_,Zib j6,j7.new (Fm.set (S:=[pr]) (by simp)) (fun q hq _=>by simp at hq; omega),rfl⟩
    ·rcases(mm ls).mp hl with z | z
     ·exact j3 ls z
     ·rw[z]; exact G.up _ (Xo dl)
    ·rw[ld]
     have:=congrArg Wbv (Wbg m.toNat rows)
     simp only[Xz,Wca,Wam] at this ⊢
     omega
    ·rw[ld] at h
     rw[mm]
     by_cases z:j=d.length
     ·subst z; exact .inr (Zf3 dl)
     ·exact .inl (j5 j (by omega) ho)
  ·subst j8
   have dl:d.length=nodes.length:=by
    cases e:nodes.length - d.length with
    | zero=>omega
    | succ k=>rw[e,Zbu] at j1; cases j1
   exact⟨rfl,rows,_,j3,by omega,by rw[<- dl]; exact j5,j6,j7,rfl⟩
 rintro σ' H2 ⟨rows,z5,j3,j4,j5,j6,j7,rfl⟩
 fail "g"
 refine Zv7 ?_
 fail "g"
 have X2:=j7.trans (Fm.app (S:=[]) [DO.dci []])
 refine w_lenR (out4 X2) ?_
 fail "g"
 rw[Xi]
 refine⟨_,rfl,⟨by omega,by omega⟩,?_⟩
 rw[Xr]
 have npr:H2.length≠pr:=by have:=(Xc.mp j6).1; omega
 have l2:=j7.len
 refine Zbj (fun d t σ H'=>∃ (fs:List (Int×D)) (z5:Option D),t=Zan (d.length:Int) (nodes.length - d.length)/\d.length<=nodes.length/\fs.length<=d.length/\FS nodes how rows fs d.length/\H'[pr]? = some (.lst (rows.map Zas))/\H'[H2.length]? = some (.dci fs)/\Fm [] H H'/\σ=[some (.tup ks),some (.ref p4),some (.ref r),some (.ref pe),some (.ref pr),z5,some (.ref H2.length)]) (fun _ _ _ _ _=>Zga) (fun d x t σ H3 ⟨fs,z5,k1,k2,k3,k4,k5,k6,k7,k8⟩=>?_) (fun d σ H3 ⟨fs,z5,k1,k2,k3,k4,k5,k6,k7,k8⟩=>?_) _ [] _ _ ⟨[],z5,rfl,by simp,by simp,fun j h=>absurd h (by simp),appL j6,last,X2,rfl⟩
 ·subst k8
  obtain⟨dl,rfl,rfl⟩:=Zks k1
  have ld:(d++[D.int (d.length:Int)]).length=d.length+1:=by simp
  fail "i"
  refine Yah (outr k7) ?_
  fail "g"
  cases eo:(Zbm how (d.length:Int)).isSome with
  | true =>
   fail "g"
   refine⟨fs,_,by rw[ld],by rw[ld]; omega,by rw[ld]; omega,fun j h ho=>?_,k5,k6,k7,rfl⟩
   rw[ld] at h
   by_cases z:j=d.length
   ·subst z; rw[eo] at ho; cases ho
   ·exact k4 j (by omega) ho
  | false =>
   fail "g"
   refine⟨isl k5,?_⟩
   fail "g"
   refine w_ixR (out4 k7) (Zda dl) ?_
   fail "g"
   refine Zvg k5 (by omega) (by have:=j5 d.length dl eo; rwa [Zf3 dl] at this) fun i hi=>?_
   fail "g"
   refine Zkv k6 (by omega) ?_
   fail "g"
   refine⟨Zhb fs d.length (.tup [.str "row",.int i]),_,by rw[ld],by rw[ld]; omega,by rw[ld]; have:=Zen fs d.length (.tup [.str "row",.int i]); omega,fun j h ho=>?_,Zjx npr k5,Zib k6,k7.new (Fm.set (S:=[H2.length]) (by simp)) (fun q hq _=>by simp at hq; omega),rfl⟩
   rw[ld] at h
   by_cases z:j=d.length
   ·subst z
    exact⟨i,by rw[Zg0,if_pos rfl],by rw[Zf3 dl]; exact hi⟩
   ·obtain⟨i',e1,e2⟩:=k4 j (by omega) ho
    exact⟨i',by rw[Zg0,if_neg (by omega)]; exact e1,e2⟩
 ·subst k8
  have dl:d.length=nodes.length:=by
   cases e:nodes.length - d.length with
   | zero=>omega
   | succ k=>rw[e,Zbu] at k1; cases k1
  fail "g"
  exact q rows fs _ _ j3 (by omega) (by rw[<- dl]; exact k4) k6 k7
variable {σ:SD} {H:HD} {Q:D->HD->Prop}
structure PI (ks:List D) (rss nodes:List (List Int)) (m:Nat) (ds:List D) (ats:List (Int×D)):Prop where
 ok:mok ks rss [] ds=true
 l1:ds.length+m<=nodes.length
 l2:ats.length+m<=nodes.length
 lk:∀ j:Nat,m<=j->j<nodes.length->∃ i:Nat,Zbm ats (j:Int)=some (.int i)/\(mad ks rss [] ds)[i]? = some (nodes.getD j [])
 la:m=0->0<nodes.length->(mad ks rss [] ds).getLast? = some (nodes.getD 0 [])
section
variable {ks:List D} {rss nodes:List (List Int)} {m:Nat} {ds:List D} {ats:List (Int×D)} {d:D}
theorem PI.nil:PI ks rss nodes nodes.length [] []:=⟨rfl,by simp,by simp,fun j h1 h2=>by omega,fun h1 h2=>by omega⟩
theorem PI.new (p:PI ks rss nodes (m+1) ds ats) (s:St ks rss (mad ks rss [] ds) d (nodes.getD m [])):PI ks rss nodes m (ds++[d]) (Zhb ats m (.int ds.length)):=by
 obtain⟨h1,h2⟩:=Zid p.ok s.stp
 have lm:=Zfx ks rss ds [] p.ok
 rw[Wam,Wcg] at lm
 have hl:=Zen ats m (.int ds.length)
 have p1:=p.l1
 have p2:=p.l2
 refine⟨h1,by simp; omega,by omega,fun j h3 h4=>?_,fun h3 _=>?_⟩
 ·rw[Zg0,h2]
  by_cases z:j=m
  ·subst z
   exact⟨ds.length,if_pos rfl,by rw[<- lm]; simp⟩
  ·obtain⟨i,e1,e2⟩:=p.lk j (by omega) h4
   refine⟨i,by rw[if_neg (by omega)]; exact e1,?_⟩
   rw[Xm (Xc.mp e2).1]
   exact e2
 ·subst h3
  rw[h2]; simp
theorem PI.old {i:Nat} (p:PI ks rss nodes (m+1) ds ats) (s:St ks rss (mad ks rss [] ds) d (nodes.getD m [])) (h0:0<m) (hi:ds[i]? = some d):PI ks rss nodes m ds (Zhb ats m (.int i)):=by
 have hl:=Zen ats m (.int i)
 have p1:=p.l1
 have p2:=p.l2
 obtain⟨il,ed⟩:=Xc.mp hi
 obtain⟨x,e1,e2⟩:=Zsa p.ok il
 rw[ed] at e2
 have e3:=((St.of e2).app (xs:=(mad ks rss [] ds).drop i)).stp
 rw[Wbg,s.stp] at e3
 have e3:=Xy.inj e3
 refine⟨p.ok,by omega,by omega,fun j h3 h4=>?_,fun h3 _=>by omega⟩
 rw[Zg0]
 by_cases z:j=m
 ·subst z
  exact⟨i,if_pos rfl,by rw[e1,e3]⟩
 ·obtain⟨i',e4,e5⟩:=p.lk j (by omega) h4
  exact⟨i',by rw[if_neg (by omega)]; exact e4,e5⟩
end
theorem Zwo {kvs:List (Int×D)} {k:Int} {v:D} (h:Zbm kvs k=some v):(k,v)∈kvs:=by
 unfold Zbm at h
 obtain⟨p,h1,h2⟩:=Zm h
 have:=Wcr h1
 simp at this
 have hm:=Wck h1
 rw[<- this,<- h2]
 exact hm
theorem Zgn {n:Nat} {kvs:List (Int×D)} {k:Int} {v:D} (g:H[n]? = some (.dci kvs)) (h:Zbm kvs k=some v) (q:Q v H):wE (Zit (.ref n) (.int k) H) Q:=⟨_,_,by simp[Zit,Zu3,g,h],q⟩
theorem Zzp {n:Nat} {kvs:List (Int×D)} {k:Int} {v:D} (g:H[n]? = some (.dci kvs)) (q:Q ((Zbm kvs k).getD v) H):wE (Znj (.ref n) [.int k,v] H) Q:=⟨_,_,by simp[Znj,Zu3,g],q⟩
theorem w_im {g:D->List D->HD->Option (D×HD)} {fo:EF} {f:AF} (h:wE (fo σ H) fun o H1=>Zqe o H1=true/\wA (f σ H1) fun ds H2=>wE (g o ds H2) Q):wE (eIM g fo f σ H) Q:=by
 obtain⟨o,H1,e1,i,ds,H2,e2,d,H3,e3,q⟩:=h
 exact⟨d,H3,by unfold eIM; rw[e1]; simp only[Zb]; rw[if_pos i,e2]; exact e3,q⟩
theorem isd {n:Nat} {kvs:List (Int×D)} (g:H[n]? = some (.dci kvs)):Zqe (.ref n) H=true:=by simp[Zqe,g]
theorem w_irb {f:AF} {I:List D->Zhf->HD->Prop} (h:wA (f σ H) fun ds H1=>∃ i j c,ds=[.int i,.int j,.int c]/\Zko i j c/\I (Zf5 i c (Zhq i j)) [] H1):wI (iRB f σ H) I:=by
 obtain⟨ds,H1,e,i,j,c,rfl,s1,q⟩:=h
 exact⟨_,_,H1,by unfold iRB; rw[e]; exact if_pos s1,q⟩
nonrec def Zou:Nat->List D
 | 0=>[]
 | m+1=>.int m::Zou m
theorem Ztu:∀ n:Nat,Zf5 ((n:Int) - 1) (-1) n=Zou n
 | 0=>rfl
 | n+1=>by
  have ih:=Ztu n
  unfold Zf5 at ih ⊢
  rw[Wed,Xs,Wbb,Zou,<- ih]
  congr 1
  ·congr 1; omega
  ·refine Wdh fun k _=>?_
   show D.int _=D.int _
   congr 1
   show (↑(n+1):Int) - 1+((k+1:Nat):Int) * -1=_
   omega
theorem Zzy {ks:List D} {rss nodes:List (List Int)} {how fs:List (Int×D)} {p4 r pf:Nat} {share:Int} (G:Gr ks nodes how) (hn:nodes.length<=30) (F:FS nodes how rss fs nodes.length) (g4:H[p4]? = some (.lst (nodes.map Zas))) (gr:H[r]? = some (.dci how)) (gf:H[pf]? = some (.dci fs))
  (q:∀ ds p H',mok ks rss [] ds=true->(mad ks rss [] ds).getLast? = some []->ds.length<=30->H'[p]? = some (.lst ds)->Fm [] H H'->Q (.ref p) H'):wE (Zgh [.ref p4,.ref r,.ref pf,.int share] H) Q:=by
 refine Za4 rfl ?_
 show wS (Zde [some (.ref p4),some (.ref r),some (.ref pf),some (.int share),none,none,none,none] H) _
 unfold Zde
 fail "g"
 refine Zv7 ?_
 fail "g"
 have X0:Fm [] H (H++[.lst []]++[.dci []]):=(Fm.app _).trans (Fm.app _)
 have out4:∀ {H':HD},Fm [] H H'->H'[p4]? = some (.lst (nodes.map Zas)):=fun x=>x.lst (by simp) g4
 have outr:∀ {H':HD},Fm [] H H'->H'[r]? = some (.dci how):=fun x=>x.dci (by simp) gr
 have outf:∀ {H':HD},Fm [] H H'->H'[pf]? = some (.dci fs):=fun x=>x.dci (by simp) gf
 refine w_irb ?_
 fail "g"
 rw[Xi]
 refine⟨_,_,_,rfl,⟨by omega,by omega,by omega,by omega,rfl⟩,?_⟩
 rw[show Zhq ((nodes.length:Int) - 1) (-1)=nodes.length by unfold Zhq; omega,Ztu]
 have l1:(H++[DO.lst []]).length=H.length+1:=by simp
 rw[l1]
 refine Zbj (fun _ t σ H'=>∃ (m:Nat) (ds:List D) (ats:List (Int×D)) (z6 z7:Option D),t=Zou m/\m<=nodes.length/\PI ks rss nodes m ds ats/\H'[H.length]? = some (.lst ds)/\H'[H.length+1]? = some (.dci ats)/\Fm [] H H'/\σ=[some (.ref p4),some (.ref r),some (.ref pf),some (.int share),some (.ref H.length),some (.ref (H.length+1)),z6,z7]) (fun _ _ _ _ _=>Zga) (fun d x t σ H1 ⟨m,ds,ats,z6,z7,i1,i2,i3,i4,i5,i6,i7⟩=>?_) (fun d σ H1 ⟨m,ds,ats,z6,z7,i1,i2,i3,i4,i5,i6,i7⟩=>?_) _ [] _ _ ⟨nodes.length,[],[],none,none,rfl,Xe _,PI.nil,appL last,by rw[<- l1]; exact last,X0,rfl⟩
 ·subst i7
  obtain⟨m,rfl⟩:∃ k,m=k+1:=by
   cases m with
   | zero=>cases i1
   | succ k=>exact⟨k,rfl⟩
  obtain⟨rfl,rfl⟩:=Wbm.inj (show x::t=.int m::Zou m from i1)
  have shp:Yaq ds:=fun d hd=>by
   obtain⟨mm,y,s⟩:=Zjt ds [] i3.ok d hd
   exact s.shape
  have p1:=i3.l1
  have p2:=i3.l2
  have lm:=Zfx ks rss ds [] i3.ok
  rw[Wam,Wcg] at lm
  fail "g"
  refine w_im ?_
  fail "g"
  refine⟨isd (outf i6),?_⟩
  fail "g"
  refine Zzp (outf i6) ?_
  fail "g"
  refine Zk3 (fun σ' H'=>H'=H1/\∃ step,St ks rss (mad ks rss [] ds) step (nodes.getD m [])/\σ'=[some (.ref p4),some (.ref r),some (.ref pf),some (.int share),some (.ref H.length),some (.ref (H.length+1)),some (.int m),some step]) ?_ ?_
  ·cases eo:Zbm how (m:Int) with
   | none =>
    obtain⟨i,e1,e2⟩:=F m (by omega) (by rw[eo]; rfl)
    (refine WP.w_if ?_; fail "g")
    refine Zqq (outr i6) ?_
    rw[eo]
    fail "i"
    refine Zqq (outr i6) ?_
    rw[eo]
    fail "g"
    obtain⟨il,ei⟩:=Xc.mp e2
    refine⟨rfl,rfl,_,?_,by rw[e1]; rfl⟩
    rw[<- ei]
    exact .row i il
   | some v =>
    obtain⟨j,ej,hs⟩:=G.ho _ (Zwo eo)
    have ej:m=j:=by have e:(m:Int)=j:=ej; omega
    subst ej
    cases hs with
    | less l h1 h2 e =>
     obtain⟨i,a1,a2⟩:=i3.lk l (by omega) h2
     obtain⟨il,ei⟩:=Xc.mp a2
     (refine WP.w_if ?_; fail "g")
     refine Zqq (outr i6) ?_
     rw[eo]
     fail "g"
     refine Zgn (outr i6) eo ?_
     fail "g"
     refine Zgn (outr i6) eo ?_
     fail "g"
     refine Zgn i5 a1 ?_
     fail "g"
     refine⟨rfl,rfl,_,?_,rfl⟩
     rw[<- e,<- ei]
     exact .less i il
    | joined a n h1 h2 hn' ho e =>
     obtain⟨i,a1,a2⟩:=i3.lk a (by omega) (by omega)
     obtain⟨i',b1,b2⟩:=i3.lk (a+1) (by omega) h2
     obtain⟨il,ei⟩:=Xc.mp a2
     obtain⟨il',ei'⟩:=Xc.mp b2
     have b1:Zbm ats ((a:Int)+1)=some (.int i'):=b1
     (refine WP.w_if ?_; fail "g")
     refine Zqq (outr i6) ?_
     rw[eo]
     fail "g"
     refine Zgn (outr i6) eo ?_
     fail "i"
     refine Zqq (outr i6) ?_
     rw[eo]
     fail "g"
     refine Zgn (outr i6) eo ?_
     fail "g"
     refine Zgn i5 a1 ?_
     fail "g"
     refine Zgn (outr i6) eo ?_
     fail "g"
     refine Zgn i5 b1 ?_
     fail "g"
     refine Zgn (outr i6) eo ?_
     fail "g"
     exact⟨rfl,rfl,_,.joined i i' n _ il il' hn' ho (by rw[ei,ei']; exact e),rfl⟩
  rintro _ H9 ⟨e9,step,s,rfl⟩
  rw[e9]
  clear e9 H9
  obtain⟨sn,zs,hsn,_,rfl⟩:=s.shape
  have nw:H.length≠H.length+1:=by omega
  have els:∀ {R:FD->SD->HD->Prop},(∀ ds ats z6 z7 H',PI ks rss nodes m ds ats->H'[H.length]? = some (.lst ds)->H'[H.length+1]? = some (.dci ats)->Fm [] H H'->R .nx [some (.ref p4),some (.ref r),some (.ref pf),some (.int share),some (.ref H.length),some (.ref (H.length+1)),z6,z7] H')->wS ((Zae (Zmx (eCB Zbn (Zaa (Zac 4) Zaf)) (gSb (Zac 5) (Zac 6) Zgg)) (Zae (Zbq (eLM Zax (Zac 4) (Zaa (Zac 7) Zaf))) Zah)) [some (.ref p4),some (.ref r),some (.ref pf),some (.int share),some (.ref H.length),some (.ref (H.length+1)),some (.int m),some (sD sn zs)] H1) R:=fun {R} k=>by
   fail "g"
   refine Zkv i5 (by omega) ?_
   fail "g"
   have i4':=Zjx (u:=.dci (Zhb ats m (.int ds.length))) nw.symm i4
   refine⟨isl i4',?_⟩
   fail "g"
   refine Zek i4' (by omega) ?_
   fail "g"
   refine k _ _ _ _ _ (i3.new s) (Zib i4') (Zjx nw (Zib i5)) ?_
   exact(i6.new (Fm.set (S:=[H.length+1]) (by simp)) (fun q hq _=>by simp at hq; omega)).new (Fm.set (S:=[H.length]) (by simp)) (fun q hq _=>by simp at hq; omega)
  have don:∀ (ds:List D) (ats:List (Int×D)) (z6 z7:Option D) (H':HD),PI ks rss nodes m ds ats->H'[H.length]? = some (.lst ds)->H'[H.length+1]? = some (.dci ats)->Fm [] H H'->∃ (m:Nat) (ds:List D) (ats:List (Int×D)) (z6' z7':Option D),Zou m=Zou m/\m<=nodes.length/\PI ks rss nodes m ds ats/\H'[H.length]? = some (.lst ds)/\H'[H.length+1]? = some (.dci ats)/\Fm [] H H'/\[some (D.ref p4),some (.ref r),some (.ref pf),some (.int share),some (.ref H.length),some (.ref (H.length+1)),z6,z7]=[some (.ref p4),some (.ref r),some (.ref pf),some (.int share),some (.ref H.length),some (.ref (H.length+1)),z6',z7']:=fun ds ats z6 z7 H' a b c e=>⟨m,ds,ats,z6,z7,rfl,by omega,a,b,c,e,rfl⟩
  fail "i"
  refine⟨fun h=>?_,fun h=>?_⟩
  ·have h0:0<m:=by have:=of_decide_eq_true h; omega
   fail "g"
   refine w_fdiv (by omega) (by omega) ?_
   fail "g"
   refine⟨fun h=>?_,fun h=>?_⟩
   ·fail "g"
    refine Ybn i4 hsn shp fun b hb=>?_
    fail "g"
    refine⟨fun h=>?_,fun h=>?_⟩
    ·fail "g"
     refine⟨isl i4,?_⟩
     fail "g"
     refine Zyz i4 (by omega) hsn shp (hb h) fun i hi=>?_
     fail "g"
     refine Zkv i5 (by omega) ?_
     fail "g"
     exact⟨m,ds,_,_,_,rfl,by omega,i3.old s h0 hi,Zjx nw.symm i4,Zib i5,i6.new (Fm.set (S:=[H.length+1]) (by simp)) (fun q hq _=>by simp at hq; omega),rfl⟩
    ·refine els fun ds ats z6 z7 H' a b c e=>?_
     fail "g"
     exact⟨m,ds,ats,z6,z7,rfl,by omega,a,b,c,e,rfl⟩
   ·refine w_bf (els fun ds ats z6 z7 H' a b c e=>?_)
    fail "g"
    exact⟨m,ds,ats,z6,z7,rfl,by omega,a,b,c,e,rfl⟩
  ·refine w_bf (els fun ds ats z6 z7 H' a b c e=>?_)
   fail "g"
   exact⟨m,ds,ats,z6,z7,rfl,by omega,a,b,c,e,rfl⟩
 ·subst i7
  have:m=0:=by
   cases m with
   | zero=>rfl
   | succ k=>cases i1
  subst this
  have p1:=i3.l1
  fail "g"
  exact q ds _ _ i3.ok (by rw[i3.la rfl G.ne,G.n0]) (by omega) i4 i6
variable {σ:SD} {H:HD} {Q:D->HD->Prop}
theorem Zsv {ps many:Nat} {ks:List D} {rss:List (List Int)} {ds:List D} (g:H[ps]? = some (.lst ds)) (hd:∀ d∈ds,∃ m x,St ks rss m d x) (hl:ds.length<=1000) (q:∀ p H',H'[p]? = some (.lst (ds.map (mv many)))->Fm [] H H'->Q (.ref p) H'):wE (Zdy [.ref ps,.int many] H) Q:=by
 refine Za4 rfl ?_
 show wS (Zc3 [some (.ref ps),some (.int many),none,none] H) _
 unfold Zc3
 have np:H.length≠ps:=by have:=(Xc.mp g).1; omega
 fail "g"
 refine Zbj (fun d t σ H'=>∃ z3,d++t=ds/\H'[ps]? = some (.lst ds)/\H'[H.length]? = some (.lst (d.map (mv many)))/\Fm [] H H'/\σ=[some (.ref ps),some (.int many),some (.ref H.length),z3]) (fun _ _ _ _ ⟨_,_,j,_⟩=>Zru j) (fun d x t σ H1 ⟨z3,i1,i2,i3,i4,i5⟩=>?_) (fun d σ H1 ⟨z3,i1,i2,i3,i4,i5⟩=>?_) _ [] _ _ ⟨none,rfl,appL g,last,Fm.app _,rfl⟩
 ·subst i5
  have ld:d.length<1000:=by rw[<- i1] at hl; simp at hl; omega
  have e1:(d++[x])++t=ds:=by rw[<- i1]; simp
  have lst:∀ y,y=mv many x->∃ z3,(d++[x])++t=ds/\(H1.set H.length (.lst (d.map (mv many)++[y])))[ps]? = some (.lst ds)/\(H1.set H.length (.lst (d.map (mv many)++[y])))[H.length]? = some (.lst ((d++[x]).map (mv many)))/\Fm [] H (H1.set H.length (.lst (d.map (mv many)++[y])))/\[some (D.ref ps),some (.int many),some (.ref H.length),some x]=[some (.ref ps),some (.int many),some (.ref H.length),z3]:=fun y hy=>by
   subst hy
   exact⟨_,e1,Zjx np i2,by rw[Zib i3]; simp,i4.new (Fm.set (S:=[H.length]) (by simp)) (fun q hq _=>by simp at hq; omega),rfl⟩
  obtain⟨m,y,s⟩:=hd x (by rw[<- i1]; simp)
  cases s with
  | less i h =>
   fail "i"
   refine⟨isl i3,?_⟩
   fail "g"
   refine Zek i3 (by simp; omega) ?_
   fail "g"
   exact lst _ (by unfold mv; dsimp only; rw[if_pos rfl])
  | row i h =>
   fail "i"
   (refine WP.w_if ?_; fail "g")
   refine⟨isl i3,?_⟩
   fail "g"
   refine Zek i3 (by simp; omega) ?_
   fail "g"
   exact lst _ (by unfold mv; dsimp only; rw[if_neg (by decide)])
  | joined i j n x hi hj hn ho e =>
   fail "i"
   (refine WP.w_if ?_; fail "g")
   refine⟨isl i3,?_⟩
   fail "g"
   refine Zek i3 (by simp; omega) ?_
   fail "g"
   exact lst _ rfl
 ·subst i5
  rw[Xw] at i1
  subst i1
  fail "g"
  exact q _ _ i3 i4
theorem Zpn {p r:Nat} {made:List (List Int)} (g1:H[p]? = some (.lst (made.map Zas))) (g2:H[r]? = some (.lst [])) (q:Q (.bl (!made.isEmpty)) H):wE (neD (.ref p) (.ref r) H) Q:=by
 obtain⟨xs,f⟩:=Zfo made
 exact Zog f (by omega) g1 g2 (by cases made<;>exact q)
theorem Zxx {r:Option (FD×SD×HD)} {k:SD->HD->Prop} {R:FD->SD->HD->Prop} (J:SD->HD->Prop) (h:wS r (Zxw J R)) (q:∀ σ H,J σ H->k σ H):wS r (Zxw k R):=by
 obtain⟨x,s,H,e,j⟩:=h
 refine⟨x,s,H,e,?_⟩
 cases x with
 | nx=>exact q s H j
 | bk=>exact j
 | ct=>exact j
 | rt d=>exact j
section
variable {pm pk pd:Nat} {ks:List D} {rss made:List (List Int)} {ds:List Int}
theorem Zzk (c:CR ks rss) (hm:∀ ls∈made,R ks.length ls) (hl:made.length<=100) (gm:H[pm]? = some (.lst (made.map Zas))) (gd:H[pd]? = some (.lst (ds.map .int))) (hd:Zrq ds) (h4:4<=ds.length)
  (q0:∀ H',Fm [] H H'->Q .non H') (q:∀ d x H',Fm [] H H'->St ks rss made d x->Q d H'):wE (Zc7 [Zar ks rss,.str "all",.ref pm,.ref pk,.ref pd] H) Q:=by
 refine Za4 rfl ?_
 show wS (Zbh [some (Zar ks rss),some (.str "all"),some (.ref pm),some (.ref pk),some (.ref pd),none,none,none,none,none] H) _
 unfold Zbh
 refine w_seq (Zxx (fun σ' H'=>Fm [] H H'/\σ'=[some (Zar ks rss),some (.str "all"),some (.ref pm),some (.ref pk),some (.ref pd),none,none,none,none,none]) ?_ ?_)
 ·(refine WP.w_if ?_; fail "g")
  refine Zci gd hd (by omega) (by omega) fun u u0 u1=>?_
  fail "g"
  refine⟨fun v=>?_,fun v=>?_⟩
  ·fail "g"
   refine Zpn (appL gm) last ?_
   have X1:Fm [] H (H++[.lst []]):=Fm.app _
   fail "g"
   cases em:made.isEmpty with
   | true=>fail "g"; exact⟨X1,rfl⟩
   | false =>
    have lm:0<made.length:=by cases made with | nil=>cases em | cons a b=>simp
    fail "g"
    refine Zci (appL gd) hd (by omega) (by omega) fun u2 u20 u21=>?_
    fail "g"
    rw[Xi]
    refine w_mod (by omega) ?_
    fail "g"
    have m0:=Waq u2 (show (made.length:Int)≠0 by omega)
    have m1:=Wai u2 (show 0<(made.length:Int) by omega)
    obtain⟨i,hi⟩:∃ i:Nat,u2 % (made.length:Int)=i:=⟨(u2 % (made.length:Int)).toNat,by omega⟩
    rw[hi] at m1 ⊢
    exact q _ _ _ X1 (.less i (by omega))
  ·fail "g"
   exact⟨Fm.refl,rfl⟩
 rintro _ H' ⟨x,rfl⟩
 refine w_seq (Zxx (fun σ' H'=>Fm [] H H'/\∃ z3 z4 z5 z6 z7,σ'=[some (Zar ks rss),some (.str "all"),some (.ref pm),some (.ref pk),some (.ref pd),z3,z4,z5,z6,z7]) ?_ ?_)
 ·(refine WP.w_if ?_; fail "g")
  refine Zci (x.lst (by simp) gd) hd (by omega) (by omega) fun u u0 u1=>?_
  fail "g"
  refine⟨fun v=>?_,fun v=>?_⟩
  ·fail "g"
   refine Zpn (appL (x.lst (by simp) gm)) last ?_
   have X1:Fm [] H (H'++[.lst []]):=x.trans (Fm.app _)
   fail "g"
   cases em:made.isEmpty with
   | true=>fail "g"; exact⟨X1,_,_,_,_,_,rfl⟩
   | false =>
    have lm:0<made.length:=by cases made with | nil=>cases em | cons a b=>simp
    have nl:=Zo4 ks
    have h8:=c.h8
    refine w_bnt ?_
    fail "g"
    refine Zta c.hk c.h8 ⟨by simp; omega,?_⟩
    have X2:Fm [] H (H'++[.lst []]++[.lst ((nms ks).map .int)]):=X1.trans (Fm.app _)
    have gN:(H'++[.lst []]++[.lst ((nms ks).map .int)])[(H'++[DO.lst []]).length]? = some (.lst ((nms ks).map .int)):=last
    generalize (H'++[.lst []]++[.lst ((nms ks).map .int)])=H2 at X2 gN ⊢
    generalize (H'++[DO.lst []]).length=pN at gN ⊢
    fail "g"
    refine w_lenR (X2.lst (by simp) gm) ?_
    fail "g"
    rw[Xi]
    refine⟨_,rfl,⟨by omega,by omega⟩,?_⟩
    rw[Xr]
    refine Znc (fun σ H'=>Fm [] H H'/\H'[pN]? = some (.lst ((nms ks).map .int))/\∃ z4 z5 z6 z7,σ=[some (Zar ks rss),some (.str "all"),some (.ref pm),some (.ref pk),some (.ref pd),some (.ref pN),z4,z5,z6,z7]) (fun _ _ _=>Zga) _ (fun d hd0 σ H3 ⟨i1,i2,z4,z5,z6,z7,i4⟩=>?_) _ _ ⟨X2,gN,_,_,_,_,rfl⟩ fun σ H3 ⟨i1,i2,z4,z5,z6,z7,i4⟩=>?_
    ·subst i4
     simp only[Zan,Xp,Wan] at hd0
     obtain⟨tn,htn,rfl⟩:=hd0
     fail "g"
     refine Zci (i1.lst (by simp) gd) hd (by omega) (by omega) fun u2 u20 u21=>?_
     fail "g"
     refine w_lenR (i1.lst (by simp) gm) ?_
     rw[Xi]
     fail "g"
     refine w_mod (by omega) ?_
     fail "g"
     refine Zci (i1.lst (by simp) gd) hd (by omega) (by omega) fun u3 u30 u31=>?_
     fail "g"
     refine w_lenR (i1.lst (by simp) gm) ?_
     rw[Xi]
     fail "g"
     refine w_mod (by omega) ?_
     obtain⟨i,hi⟩:∃ i:Nat,(u2+(0+(tn:Int))) % (made.length:Int)=i:=⟨((u2+(0+(tn:Int))) % (made.length:Int)).toNat,by have:=Waq (u2+(0+(tn:Int))) (show (made.length:Int)≠0 by omega); omega⟩
     obtain⟨j,hj⟩:∃ j:Nat,(u3+3*(0+(tn:Int))) % (made.length:Int)=j:=⟨((u3+3*(0+(tn:Int))) % (made.length:Int)).toNat,by have:=Waq (u3+3*(0+(tn:Int))) (show (made.length:Int)≠0 by omega); omega⟩
     have li:=Wai (u2+(0+(tn:Int))) (show 0<(made.length:Int) by omega)
     have lj:=Wai (u3+3*(0+(tn:Int))) (show 0<(made.length:Int) by omega)
     rw[hi] at li
     rw[hj] at lj
     rw[hi,hj]
     fail "g"
     refine Znc (fun σ H'=>Fm [] H H'/\H'[pN]? = some (.lst ((nms ks).map .int))/\∃ z7,σ=[some (Zar ks rss),some (.str "all"),some (.ref pm),some (.ref pk),some (.ref pd),some (.ref pN),some (.int (0+(tn:Int))),some (.int i),some (.int j),z7]) (fun σ H' i=>Zru i.2.1) _ (fun d hd0 σ H4 ⟨k1,k2,z7,k4⟩=>?_) _ _ ⟨i1,i2,_,rfl⟩ fun σ H4 ⟨k1,k2,z7,k4⟩=>?_
     ·subst k4
      obtain⟨n,hn,rfl⟩:=Xp.mp hd0
      obtain⟨n1,n2,n3⟩:=Zos.mp hn
      fail "i"
      have li':i<made.length:=by omega
      have lj':j<made.length:=by omega
      refine w_ixR (k1.lst (by simp) gm) (Zda li') ?_
      fail "g"
      refine w_ixR (k1.lst (by simp) gm) (Zda lj') ?_
      fail "g"
      refine Zjf (hm _ (Xo li')) (hm _ (Xo lj')) c.h8 n1 fun H5 x5=>?_
      fail "g"
      have X5:=k1.trans x5
      cases ej:Zdj made[i] made[j] n with
      | none =>
       refine w_isnN (b:=true) rfl ?_
       fail "g"
       exact⟨X5,x5.lst (by simp) k2,_,rfl⟩
      | some y =>
       refine w_isnN (b:=false) rfl ?_
       fail "g"
       exact q _ _ _ X5 (.joined i j n y li' lj' ⟨n1,n2⟩ n3 ej)
     ·subst k4
      fail "g"
      exact⟨k1,k2,_,_,_,_,rfl⟩
    ·subst i4
     fail "g"
     exact⟨i1,_,_,_,_,_,rfl⟩
  ·fail "g"
   exact⟨x,_,_,_,_,_,rfl⟩
 rintro _ H' ⟨x,z3,z4,z5,z6,z7,rfl⟩
 obtain⟨xs,f⟩:=Zfo rss
 have hrl:=c.hl
 fail "i"
 (refine WP.w_if ?_; fail "g")
 refine Ztz f (by omega) ?_
 fail "g"
 cases er:rss with
 | nil=>fail "g"; exact q0 _ x
 | cons y r =>
  rw[<- er]
  fail "g"
  rw[show (rss.map Zas).isEmpty=false by rw[er]; rfl]
  fail "g"
  refine Zci (x.lst (by simp) gd) hd (by omega) (by omega) fun u u0 u1=>?_
  fail "g"
  rw[Xi]
  have lr:0<rss.length:=by rw[er]; simp
  refine w_mod (by omega) ?_
  fail "g"
  have m0:=Waq u (show (rss.length:Int)≠0 by omega)
  have m1:=Wai u (show 0<(rss.length:Int) by omega)
  obtain⟨i,hi⟩:∃ i:Nat,u % (rss.length:Int)=i:=⟨(u % (rss.length:Int)).toNat,by omega⟩
  rw[hi] at m1 ⊢
  exact q _ _ _ x (.row i (by omega))
end
variable {σ:SD} {H:HD} {Q:D->HD->Prop}
section
variable {ks:List D} {rss:List (List Int)} {sd:D}
theorem Zny {many:Nat} (c:CR ks rss) (hm:many<=14) (at':∀ (H1:HD) (k:Int) (Q:D->HD->Prop),Fm [] H H1->0<=k->k<=1000->(∀ c,Q (.int c) H1)->wE (Zcr [sd,.int k] H1) Q)
  (q:∀ p ds H',H'[p]? = some (.lst ds)->mok ks rss [] ds=true->ds.length<=14->Fm [] H H'->Q (.ref p) H'):wE (Zcp [Zar ks rss,.str "all",sd,.int 2,.int many] H) Q:=by
 have h8:=c.h8
 refine Za4 rfl ?_
 show wS (Zbe [some (Zar ks rss),some (.str "all"),some sd,some (.int 2),some (.int many),none,none,none,none,none,none] H) _
 unfold Zbe
 fail "g"
 refine Zud h8 fun pp pls H1 gp lp l256 xp=>?_
 fail "g"
 refine Zoa (fun H'=>Fm [] H1 H') (fun H' j=>Zru (j.lst (by simp) gp)) _ (fun x hx H2 j=>?_) _ Fm.refl fun ys H2 j _ ly=>?_
 ·obtain⟨bs,hb,rfl⟩:=Xp.mp hx
  fail "g"
  refine Zp7 h8 c.hr (lp bs hb) fun H3 x3=>?_
  fail "g"
  exact j.trans x3
 rw[Xi] at ly
 refine⟨by omega,?_⟩
 have l5:(H++[DO.lst []]).length=H.length+1:=by simp
 rw[l5]
 have X0:Fm [] H (H++[.lst []]++[.lst []]):=(Fm.app _).trans (Fm.app _)
 have Y:=(xp.trans j).trans (Fm.app (S:=[]) [DO.lst ys])
 have Z:=X0.trans Y
 have g5:(H2++[.lst ys])[H.length]? = some (.lst []):=Y.lst (by simp) (appL last)
 have g6:(H2++[.lst ys])[H.length+1]? = some (.lst []):=Y.lst (by simp) (by rw[<- l5]; exact last)
 generalize H2++[.lst ys]=H3 at g5 g6 Z ⊢
 generalize H2.length=pk
 clear Y j xp
 fail "g"
 refine⟨_,rfl,⟨by omega,by omega⟩,?_⟩
 rw[Xr]
 refine Zbj (fun d t σ H'=>∃ (ds:List D) (z6 z7 z8:Option D),(∀ x∈t,∃ i:Nat,x=.int i/\i<=14)/\d.length+t.length=many/\ds.length<=d.length/\mok ks rss [] ds=true/\H'[H.length]? = some (.lst ds)/\H'[H.length+1]? = some (.lst ((mad ks rss [] ds).map Zas))/\Fm [] H H'/\σ=[some (Zar ks rss),some (.str "all"),some sd,some (.int 2),some (.int many),some (.ref H.length),some (.ref (H.length+1)),some (.ref pk),z6,z7,z8]) (fun _ _ _ _ _=>Zga) (fun d x t σ H1 ⟨ds,z6,z7,z8,i1,i2,i3,i4,i6,i7,i8,i9⟩=>?_) (fun d σ H1 ⟨ds,z6,z7,z8,i1,i2,i3,i4,i6,i7,i8,i9⟩=>?_) _ [] _ _ ⟨[],none,none,none,fun x hx=>?_,by simp[Zan],by simp,rfl,g5,g6,Z,rfl⟩
 ·subst i9
  obtain⟨i,rfl,hi⟩:=i1 x (by simp)
  have lm:=Zfx ks rss ds [] i4
  simp at i2 lm
  fail "g"
  refine at' _ _ _ i8 (by omega) (by omega) fun cell=>?_
  fail "g"
  refine Zgr (many:=24) (by omega) fun dg pd H2 l2 d2 g2 n2 x2=>?_
  fail "g"
  refine Zqp (k:=14) g2 ?_
  rw[<- Wbo]
  fail "g"
  have X3:Fm [] H1 (H2++[.lst ((dg.drop 14).map .int)]):=x2.trans (Fm.app _)
  have g4:=X3.lst (by simp) i6
  have g5:=X3.lst (by simp) i7
  have tl:∀ y∈t,∃ i:Nat,y=.int i/\i<=14:=fun y hy=>i1 y (by simp[hy])
  refine Zzk c (Zrj c.hr ds [] (by simp)) (by omega) g5 last (d2.drop 14) (by simp; omega) (fun H4 x4=>?_) fun s y H4 x4 st=>?_
  ·have X4:=X3.trans x4
   fail "i"
   exact⟨ds,_,_,_,tl,by simp; omega,by simp; omega,i4,X4.lst (by simp) i6,X4.lst (by simp) i7,i8.trans X4,rfl⟩
  ·have X4:=X3.trans x4
   obtain⟨sn,zs,_,_,rfl⟩:=st.shape
   obtain⟨s1,s2⟩:=Zid i4 st.stp
   have g4:=X4.lst (by simp) i6
   have g5:=X4.lst (by simp) i7
   fail "i"
   refine⟨isl g4,?_⟩
   fail "g"
   refine Zek g4 (by omega) ?_
   fail "g"
   have n45:H.length≠H.length+1:=by omega
   have g5':(H4.set H.length (.lst (ds++[sD sn zs])))[H.length+1]? = some (.lst ((mad ks rss [] ds).map Zas)):=Zjx n45 g5
   refine⟨isl g5',?_⟩
   fail "g"
   refine Zl7 c.hk c.h8 (Zrj c.hr ds [] (by simp)) g5' st fun H6 x6=>?_
   fail "g"
   have g56:=x6.lst (by simp) g5'
   refine Zek g56 (by simp; omega) ?_
   fail "g"
   refine⟨ds++[sD sn zs],_,_,_,tl,by simp; omega,by simp; omega,s1,Zjx (by omega) (x6.lst (by simp) (Zib g4)),?_,?_,rfl⟩
   ·rw[Zib g56,s2]
    simp
   ·have y1:=(i8.trans X4).new (Fm.set (S:=[H.length]) (p:=H.length) (o:=.lst (ds++[sD sn zs])) (by simp)) (fun q hq _=>by simp at hq; subst hq; exact Xe _)
    exact(y1.trans x6).new (Fm.set (S:=[H.length+1]) (by simp)) (fun q hq _=>by simp at hq; subst hq; exact Wdg _)
 ·simp only[Zan,Xp,Wan] at hx
  obtain⟨k,hk,rfl⟩:=hx
  exact⟨k,by simp,by omega⟩
 ·subst i9
  simp at i2
  fail "g"
  exact q _ _ _ i6 i4 (by omega) i8
end
theorem Zpr {a b:List (List Int)} {x:List Int} (h:b.getLast? = some x):(a++b).getLast? = some x:=by rw[Wel,h]; rfl
theorem Zqv {sd:D} (at':∀ (H1:HD) (k:Int) (Q:D->HD->Prop),Fm [] H H1->0<=k->k<=1000->(∀ c,Q (.int c) H1)->wE (Zcr [sd,.int k] H1) Q)
  (q:∀ ks rss ds p H',CR ks rss->(∀ ls∈rss,Up ks.length 0 ls)->mok ks rss [] ds=true->(mad ks rss [] ds).getLast? = some []->ds.length<=100->H'[p]? = some (.lst ds)->Fm [] H H'->Q (.tup [Zar ks rss,.ref p]) H'):wE (Zb8 [sd] H) Q:=by
 refine Za4 rfl ?_
 show wS (Za8 [some sd,none,none,none,none,none,none,none,none] H) _
 unfold Za8
 fail "g"
 refine at' _ _ _ Fm.refl (by omega) (by omega) fun c=>?_
 fail "g"
 refine Zgr (many:=34) (by omega) fun dg pd H1 l1 d1 g1 n1 x1=>?_
 fail "g"
 refine Zqp (k:=14) g1 ?_
 rw[<- Wbo]
 have dd:=d1.drop 14
 have ld:(dg.drop 14).length=20:=by rw[Wbl,l1]
 generalize dg.drop 14=es at dd ld
 have X1:=x1.trans (Fm.app (S:=[]) [DO.lst (es.map .int)])
 have ge:(H1++[DO.lst (es.map .int)])[H1.length]? = some (.lst (es.map .int)):=last
 generalize H1++[DO.lst (es.map .int)]=H2 at X1 ge ⊢
 generalize H1.length=pe at ge ⊢
 fail "g"
 refine Zci ge dd (by omega) (by omega) fun r r0 r1=>?_
 fail "g"
 refine Zci (appL ge) dd (by omega) (by omega) fun r2 r20 r21=>?_
 fail "g"
 obtain⟨nm,hnm,el⟩:∃ nm:Nat,(1<=nm/\nm<=6)/\atI [D.int 6,.int 5,.int 4,.int (1+r % 6)] (r2 % 4)=some (.int nm):=by
  have:r2 % 4=0\/r2 % 4=1\/r2 % 4=2\/r2 % 4=3:=by omega
  rcases this with z | z | z | z<;>rw[z]
  ·exact⟨6,by omega,rfl⟩
  ·exact⟨5,by omega,rfl⟩
  ·exact⟨4,by omega,rfl⟩
  ·exact⟨(1+r % 6).toNat,by omega,by rw[show ((1+r % 6).toNat:Int)=1+r % 6 by omega]; rfl⟩
 refine w_ixR last el ?_
 fail "g"
 have X2:=X1.trans (Fm.app (S:=[]) [DO.lst [D.int 6,.int 5,.int 4,.int (1+r % 6)]])
 have ge2:=appL (u:=DO.lst [D.int 6,.int 5,.int 4,.int (1+r % 6)]) ge
 generalize H2++[DO.lst [D.int 6,.int 5,.int 4,.int (1+r % 6)]]=H3 at X2 ge2 ⊢
 refine Zk3 (fun σ' H'=>H'=H3/\∃ nm:Nat,(1<=nm/\nm<=8)/\σ'=[some sd,some (.ref pe),some (.int nm),none,none,none,none,none,none]) ?_ ?_
 ·(refine WP.w_if ?_; fail "g")
  refine Zci ge2 dd (by omega) (by omega) fun r3 r30 r31=>?_
  fail "g"
  refine⟨fun h=>?_,fun h=>?_⟩
  ·fail "g"
   refine Zci ge2 dd (by omega) (by omega) fun r4 r40 r41=>?_
   fail "g"
   exact⟨rfl,rfl,(7+r4 % 2).toNat,by omega,by rw[show ((7+r4 % 2).toNat:Int)=7+r4 % 2 by omega]; rfl⟩
  ·fail "g"
   exact⟨rfl,rfl,nm,by omega,rfl⟩
 rintro σ' H4 ⟨e4,nm,hnm,rfl⟩
 rw[e4]
 clear e4 H4
 fail "g"
 refine Zz1 ge2 dd (by omega) (by omega) fun ks H4 hk lk x4=>?_
 fail "g"
 have X4:=X2.trans x4
 have h8:ks.length<=8:=by omega
 refine Yaa (fun H5 k Q x5 h0 h1 q=>at' H5 k Q (X4.trans x5) h0 h1 q) hk h8 fun nodes how p r H5 G nl g5 g6 hl5 x5=>?_
 fail "g"
 have ge5:=(x4.trans x5).lst (by simp) ge2
 refine Zqp (k:=8) ge5 ?_
 rw[<- Wbo]
 fail "g"
 refine Zon h8 G (by omega) (appL g5) (appL g6) last (dd.drop 8) (by rw[Wbl]; omega) fun rows fs pf H6 hu hrl F g7 x6=>?_
 have y6:=(Fm.app (S:=[]) [DO.lst ((es.drop 8).map .int)]).trans x6
 have X6:=(X4.trans x5).trans y6
 have cr:CR ks rows:=⟨hk,h8,fun ls h=>(Zt4 (by omega) (hu ls h)).1,by omega⟩
 have gn:=y6.lst (by simp) g5
 have gh:=y6.dci (by simp) g6
 have ge6:=y6.lst (by simp) ge5
 clear g5 g6 ge5 x6 y6 x5 x4 ge2 ge X1 X2 X4
 fail "g"
 have X7:=X6.trans (Fm.app (S:=[]) [DO.lst []])
 refine Zk3 (fun σ' H'=>∃ ah pa,mok ks rows [] ah=true/\ah.length<=14/\H'[pa]? = some (.lst ah)/\Fm [] H6 H'/\σ'=[some sd,some (.ref pe),some (.int nm),some (.tup ks),some (.ref pa),some (.ref p),some (.ref r),some (Zar ks rows),some (.ref pf)]) ?_ ?_
 ·(refine WP.w_if ?_; fail "g")
  refine Zci (appL ge6) dd (by omega) (by omega) fun r3 r30 r31=>?_
  fail "g"
  refine⟨fun h=>?_,fun h=>?_⟩
  ·fail "g"
   refine Zci (appL ge6) dd (by omega) (by omega) fun r4 r40 r41=>?_
   fail "g"
   obtain⟨mm,hmm⟩:∃ m:Nat,r4 % 5=m:=⟨(r4 % 5).toNat,by omega⟩
   rw[hmm]
   refine Zny cr (by omega) (fun H5 k Q x5 h0 h1 q=>at' H5 k Q (X7.trans x5) h0 h1 q) fun p9 ds H9 g9 ok9 l9 x9=>?_
   fail "g"
   exact⟨rfl,ds,p9,ok9,l9,g9,(Fm.app _).trans x9,rfl⟩
  ·fail "g"
   exact⟨rfl,[],_,rfl,by simp,last,Fm.app _,rfl⟩
 rintro σ' H7 ⟨ah,pa,oka,la,ga,x7,rfl⟩
 fail "g"
 refine Zci (x7.lst (by simp) ge6) dd (by omega) (by omega) fun r3 r30 r31=>?_
 fail "g"
 refine Zzy G (by omega) F (x7.lst (by simp) gn) (x7.dci (by simp) gh) (x7.dci (by simp) g7) fun ds pp H8 ok8 la8 l8 g8 x8=>?_
 fail "g"
 refine w_lenR (x8.lst (by simp) ga) ?_
 fail "g"
 refine Zsv (many:=ah.length) g8 (Zjt ds [] ok8) (by omega) fun pm H9 g9 x9=>?_
 fail "g"
 refine Zhw ((x8.trans x9).lst (by simp) ga) g9 (by simp; omega) ?_
 fail "g"
 obtain⟨m1,m2⟩:=Zkn oka ok8
 exact q ks rows _ _ _ cr hu m1 (by rw[m2]; exact Zpr la8) (by simp; omega) last ((((X6.trans x7).trans x8).trans x9).trans (Fm.app _))
variable {σ:SD} {H:HD} {Q:D->HD->Prop}
theorem Yck {xs:List D} {k:Nat} (q:Q (.ref H.length) (H++[.lst (xs.drop k)])):wE (slD (.fl xs) (some (k:Int)) none H) Q :=
 ⟨_,_,by rw[<- Ztp]; rfl,q⟩
theorem w_atR {p:Nat} {ns:List Int} {k:Int} (g:H[p]? = some (.lst (ns.map .int))) (h0:0<=k) (h1:k<=1000) (q:∀ c,Q (.int c) H):wE (Zcr [.ref p,.int k] H) Q:=by
 refine Za4 rfl ?_
 show wS (Zeq [some (.ref p),some (.int k)] H) _
 unfold Zeq
 fail "i"
 refine⟨fun h=>?_,fun h=>?_⟩
 ·have lt:k.toNat<ns.length:=by have:=of_decide_eq_true h; simp at this; omega
  fail "g"
  refine w_ixR g (Zd8 h0 (d:=.int ns[k.toNat]) (by rw[Xv,Xd lt]; rfl)) ?_
  fail "g"
  exact q _
 ·fail "g"
  exact q _
theorem Ycn {p:Nat} {xs:List D} {k:Nat} (g:H[p]? = some (.lst xs)) (q:Q (.ref H.length) (H++[.lst (xs.take k)])):wE (slD (.ref p) none (some (k:Int)) H) Q :=
 ⟨_,_,by rw[<- Zx1]; simp only[slD,g],q⟩
theorem Zy2 {p:Nat} {xs:List D} {k:Nat} (g:H[p]? = some (.lst xs)) (h1:k<=1000) (h2:xs.length<=1) (q:Q (.ref H.length) (H++[.lst (Xk k xs).flatten])):wE (Zlx (.ref p) (.int k) H) Q:=by
 refine⟨_,_,?_,q⟩
 have b:xs.length*k<=1*1000:=Nat.mul_le_mul h2 h1
 have sz:sizeLine=16777216:=Um
 simp only[Zlx,g]
 rw[if_pos ⟨by omega,by omega,by rw[Xr]; omega⟩,Xr]
 unfold mkL
 rw[if_pos]
 rw[List.length_flatten,List.map_replicate,List.sum_replicate_nat,Weg]
 omega
nonrec def Zu2 (d:D):Bool:=match d with
 | .tup (.str s::_)=>s == "row"
 | _=>false
section
variable {ks:List D} {rss:List (List Int)} {ds:List D}
theorem Zzt (ok:mok ks rss [] ds=true) (k:Nat):mok ks rss [] (Xk k ((ds.filter Zu2).take 1)).flatten=true/\(Xk k ((ds.filter Zu2).take 1)).flatten.length<=k:=by
 cases e:ds.filter Zu2 with
 | nil =>
  have:(Xk k (([]:List D).take 1)).flatten=[]:=by simp
  rw[this]
  exact⟨rfl,Wbs _⟩
 | cons d r =>
  have hd:d∈ds.filter Zu2:=by rw[e]; simp
  obtain⟨h1,h2⟩:=Waa.mp hd
  obtain⟨m,x,s⟩:=Zjt ds [] ok d h1
  have ef:∀ k,(Xk k ((d::r).take 1)).flatten=Xk k d:=fun k=>by
   induction k with
   | zero=>rfl
   | succ k ih=>rw[Wap,Wbp,ih,Wap]; rfl
  rw[ef]
  cases s with
  | less i h=>exact absurd h2 (by show ¬ ((("less" : Str) == "row")=true); decide)
  | row i h=>exact⟨Zux h k [],by simp⟩
  | joined i j n x hi hj hn ho e=>exact absurd h2 (by show ¬ ((("joined" : Str) == "row")=true); decide)
end
theorem pure_law:∀ ns:List Int,ns.length<=63->∃ Hd',Zqo [.fl (ns.map .int)] []=some (.bl true,Hd'):=by
 intro ns _
 suffices h:wE (Zqo [.fl (ns.map .int)] []) fun d _=>d=.bl true by
  obtain⟨d,H',e,rfl⟩:=h
  exact⟨H',e⟩
 refine Za4 rfl ?_
 show wS (Zsr [some (.fl (ns.map .int)),none,none,none,none,none,none] []) _
 unfold Zsr
 fail "g"
 refine⟨_,rfl,⟨by omega,by omega⟩,?_⟩
 refine Znc (fun σ _=>∃ z1 z2 z3 z4 z5 z6,σ=[some (.fl (ns.map .int)),z1,z2,z3,z4,z5,z6]) (fun _ _ _=>Zga) _ (fun d hd0 σ H1 ⟨z1,z2,z3,z4,z5,z6,i4⟩=>?_) _ _ ⟨_,_,_,_,_,_,rfl⟩ fun σ H1 ⟨z1,z2,z3,z4,z5,z6,i4⟩=>?_
 ·subst i4
  simp only[Zan,Xp,Wan] at hd0
  obtain⟨k,hk,rfl⟩:=hd0
  rw[Wdl]
  fail "g"
  rw[show (6:Int)*(k:Int)=((6*k:Nat):Int) by omega]
  refine Yck ?_
  rw[<- Wbo]
  fail "g"
  refine Zqv (fun H5 k Q x5 h0 h1 q=>w_atR (x5.lst (by simp) last) h0 h1 q) fun ks rss ds p H2 c hu ok hl l1 g2 x2=>?_
  fail "g"
  refine Zk3 (fun σ' H'=>∃ ds p z6,mok ks rss [] ds=true/\(mad ks rss [] ds).getLast? = some []/\ds.length<=1000/\H'[p]? = some (.lst ds)/\σ'=[some (.fl (ns.map .int)),some (.int k),z2,z3,some (Zar ks rss),some (.ref p),z6]) ?_ ?_
  ·have skip:∀ H',Fm [] H2 H'->∃ (ds:List D) (p':Nat) (z6':Option D),mok ks rss [] ds=true/\(mad ks rss [] ds).getLast? = some []/\ds.length<=1000/\H'[p']? = some (.lst ds)/\[some (D.fl (ns.map .int)),some (.int k),z2,z3,some (Zar ks rss),some (.ref p),z6]=[some (.fl (ns.map .int)),some (.int k),z2,z3,some (Zar ks rss),some (.ref p'),z6']:=fun H' x=>⟨ds,p,z6,ok,hl,by omega,x.lst (by simp) g2,rfl⟩
   (refine WP.w_if ?_; fail "g")
   refine⟨fun h=>?_,fun h=>?_⟩
   ·fail "g"
    refine w_at (by omega) (by omega) fun cell=>?_
    fail "g"
    refine Zgr (many:=44) (by omega) fun dg pd H3 l3 d3 g3 n3 x3=>?_
    fail "g"
    refine Zci g3 d3 (by omega) (by omega) fun r r0 r1=>?_
    fail "g"
    refine⟨fun h=>?_,fun h=>?_⟩
    ·fail "g"
     refine⟨fun h=>?_,fun h=>?_⟩
     ·have g4:=x3.lst (by simp) g2
      fail "g"
      refine Zb1 Zu2 (fun H'=>H'=H3) (fun _ j=>by subst j; exact Zru g4) _ (fun y hy H4 j=>?_) _ rfl fun H4 j=>?_
      ·subst j
       obtain⟨m,x,s⟩:=Zjt ds [] ok y hy
       cases s with
       | less i h=>fail "g"; exact⟨rfl,rfl⟩
       | row i h=>fail "g"; exact⟨rfl,rfl⟩
       | joined i j n x hi hj hn ho e=>fail "g"; exact⟨rfl,rfl⟩
      subst j
      have lf:=Wat Zu2 ds
      refine⟨by omega,?_⟩
      fail "g"
      refine Ycn (k:=1) last ?_
      fail "g"
      have x4:=((Fm.app (S:=[]) (H:=H4) [DO.lst (ds.filter Zu2)])).trans (Fm.app (S:=[]) [DO.lst ((ds.filter Zu2).take 1)])
      rw[show (700:Int) - (ds.length:Int)=((700 - ds.length:Nat):Int) by omega]
      refine Zy2 last (by omega) (by rw[Wau]; omega) ?_
      fail "g"
      obtain⟨ok1,l7⟩:=Zzt ok (700 - ds.length)
      have x5:=x4.trans (Fm.app (S:=[]) [DO.lst (Xk (700 - ds.length) ((ds.filter Zu2).take 1)).flatten])
      refine Zsv (many:=(Xk (700 - ds.length) ((ds.filter Zu2).take 1)).flatten.length) (x5.lst (by simp) g4) (Zjt ds [] ok) (by omega) fun pm H9 g9 x9=>?_
      fail "g"
      refine Zhw (x9.lst (by simp) last) g9 (by rw[Xi]; omega) ?_
      fail "g"
      obtain⟨m1,m2⟩:=Zkn ok1 ok
      exact⟨rfl,_,_,_,m1,by rw[m2]; exact Zpr hl,by rw[Xz,Xi]; omega,last,rfl⟩
     ·fail "g"
      exact⟨rfl,skip _ x3⟩
    ·fail "g"
     exact⟨rfl,skip _ x3⟩
   ·fail "g"
    exact⟨rfl,skip _ Fm.refl⟩
  rintro σ' H3 ⟨ds,p,z6,ok,hl,l1,g3,rfl⟩
  clear g2 x2 H2
  have lm:=Zfx ks rss ds [] ok
  rw[Wam,Wcg] at lm
  fail "g"
  refine Zrz c g3 l1 ok fun pm H4 g4 l4 x4=>?_
  have g34:=x4.lst (by simp) g3
  fail "i"
  refine w_bF (by rw[Xi,lm]; simp) ?_
  obtain⟨ini,ei⟩:=Wdo.mp hl
  fail "g"
  refine w_ixR g4 (d:=Zas []) (by rw[ei,Wah]; exact Zk5 _ _) ?_
  fail "g"
  refine Zsz (xs:=[]) (Fines.nil (h:=0)) (by omega) ?_
  fail "g"
  refine Zyu g34 ?_
  have g44:=appL (u:=DO.lst ds) g4
  have g35:=appL (u:=DO.lst ds) g34
  have gs:(H4++[DO.lst ds])[H4.length]? = some (.lst ds):=last
  generalize H4++[DO.lst ds]=H5 at g44 g35 gs ⊢
  generalize H4.length=pS at gs ⊢
  fail "i"
  refine Zu7 c g35 l1 ok fun p6 H6 g6 l6 x6=>?_
  fail "g"
  obtain⟨xs,fx⟩:=Zfo (mad ks rss [] ds)
  refine Zx0 fx (by omega) g6 (x6.lst (by simp) g44) ?_
  fail "i"
  refine Zr9 c (x6.lst (by simp) g35) l1 ok hl fun H7 x7=>?_
  fail "g"
  refine Zri c hu ok hl fun H8 x8=>?_
  have x68:=(x6.trans x7).trans x8
  fail "i"
  refine Zvs c hu (x68.lst (by simp) g35) l1 ok hl fun H9 x9=>?_
  fail "g"
  have shp:Yaq ds:=fun d hd=>by
   obtain⟨mm,y,s⟩:=Zjt ds [] ok d hd
   exact s.shape
  obtain⟨ys,fy⟩:=shp.fines
  refine Zx0 fy (by omega) ((x68.trans x9).lst (by simp) g35) ((x68.trans x9).lst (by simp) gs) ?_
  fail "g"
  exact⟨_,_,_,_,_,_,rfl⟩
 ·subst i4
  fail "g"
  rfl
end K08
set_option maxHeartbeats 8000000
namespace K08
open PySem PySem.Spec PyProof.Rows L2 DL
nonrec def top (i:Nat):Uae:=PySem.Challenge.pw_allsome_k38_whole_whoever_plays_by_row_p.main.body.getD i (.Pass ⟨0,0,0,0⟩)
nonrec abbrev s_is_whole:Uae:=top 2
theorem Zor:FnScope ["thing"] ["thing"] (Zad s_is_whole):=⟨rfl,rfl,rfl,by decide +kernel,rfl,by decide +kernel,by decide +kernel⟩
nonrec abbrev s_is_open:Uae:=top 3
theorem Zqn:FnScope ["literal","play"] ["literal","play"] (Zad s_is_open):=⟨rfl,rfl,rfl,by decide +kernel,rfl,by decide +kernel,by decide +kernel⟩
nonrec abbrev s_is_right:Uae:=top 4
theorem Zo2:FnScope ["literal","play"] ["literal","play"] (Zad s_is_right):=⟨rfl,rfl,rfl,by decide +kernel,rfl,by decide +kernel,by decide +kernel⟩
nonrec abbrev s_is_lost:Uae:=top 5
theorem Zkk:FnScope ["row","play","literal"] ["row","play"] (Zad s_is_lost):=⟨rfl,rfl,rfl,by decide +kernel,rfl,by decide +kernel,by decide +kernel⟩
nonrec abbrev s_first_numbers:Uae:=top 10
theorem Zex:FnScope ["rows","told","number","row"] ["rows"] (Zad s_first_numbers):=⟨rfl,rfl,rfl,by decide +kernel,rfl,by decide +kernel,by decide +kernel⟩
nonrec abbrev s_rows_behind:Uae:=top 11
theorem Zfv:FnScope ["rows","name","truth","right","told","row","first"] ["rows","name","truth"] (Zad s_rows_behind):=⟨rfl,rfl,rfl,by decide +kernel,rfl,by decide +kernel,by decide +kernel⟩
nonrec abbrev s_rows_behind_play:Uae:=top 12
theorem Zdk:FnScope ["rows","play","told","name","truth"] ["rows","play"] (Zad s_rows_behind_play):=⟨rfl,rfl,rfl,by decide +kernel,rfl,by decide +kernel,by decide +kernel⟩
nonrec abbrev s_other_side:Uae:=top 13
theorem Zln:FnScope ["side"] ["side"] (Zad s_other_side):=⟨rfl,rfl,rfl,by decide +kernel,rfl,by decide +kernel,by decide +kernel⟩
nonrec abbrev s_winner_behind:Uae:=top 14
theorem Zc9:FnScope ["kinds","rows","many","who","truth"] ["kinds","rows","many"] (Zad s_winner_behind):=⟨rfl,rfl,rfl,by decide +kernel,rfl,by decide +kernel,by decide +kernel⟩
nonrec abbrev s_winner:Uae:=top 15
theorem Zuk:FnScope ["claim","play"] ["claim","play"] (Zad s_winner):=⟨rfl,rfl,rfl,by decide +kernel,rfl,by decide +kernel,by decide +kernel⟩
nonrec abbrev s_is_number_of:Uae:=top 17
theorem Zi8:FnScope ["thing","many"] ["thing","many"] (Zad s_is_number_of):=⟨rfl,rfl,rfl,by decide +kernel,rfl,by decide +kernel,by decide +kernel⟩
nonrec abbrev s_is_name_of_other:Uae:=top 18
theorem Zgf:FnScope ["kinds","side","thing"] ["kinds","side","thing"] (Zad s_is_name_of_other):=⟨rfl,rfl,rfl,by decide +kernel,rfl,by decide +kernel,by decide +kernel⟩
nonrec abbrev s_lessened:Uae:=top 19
theorem Zf1:FnScope ["kinds","side","row","stays"] ["kinds","side","row"] (Zad s_lessened):=⟨rfl,rfl,rfl,by decide +kernel,rfl,by decide +kernel,by decide +kernel⟩
nonrec abbrev s_without:Uae:=top 20
theorem Zqg:FnScope ["row","literal"] ["row","literal"] (Zad s_without):=⟨rfl,rfl,rfl,by decide +kernel,rfl,by decide +kernel,by decide +kernel⟩
nonrec abbrev s_both:Uae:=top 21
theorem Zoh:FnScope ["one","other","told","literal"] ["one","other"] (Zad s_both):=⟨rfl,rfl,rfl,by decide +kernel,rfl,by decide +kernel,by decide +kernel⟩
nonrec abbrev s_joined:Uae:=top 22
theorem Zue:FnScope ["one","other","name"] ["one","other","name"] (Zad s_joined):=⟨rfl,rfl,rfl,by decide +kernel,rfl,by decide +kernel,by decide +kernel⟩
nonrec abbrev s_made_by_less:Uae:=top 23
theorem Zi6:FnScope ["kinds","side","made","step"] ["kinds","side","made","step"] (Zad s_made_by_less):=⟨rfl,rfl,rfl,by decide +kernel,rfl,by decide +kernel,by decide +kernel⟩
nonrec abbrev s_made_by_joined:Uae:=top 24
theorem Zhl:FnScope ["kinds","side","made","step"] ["kinds","side","made","step"] (Zad s_made_by_joined):=⟨rfl,rfl,rfl,by decide +kernel,rfl,by decide +kernel,by decide +kernel⟩
nonrec abbrev s_claims_row:Uae:=top 29
theorem Zll:FnScope ["claim","step"] ["claim","step"] (Zad s_claims_row):=⟨rfl,rfl,rfl,by decide +kernel,rfl,by decide +kernel,by decide +kernel⟩
nonrec abbrev s_made_by:Uae:=top 25
theorem Zrd:FnScope ["claim","side","first","made","step"] ["claim","side","first","made","step"] (Zad s_made_by):=⟨rfl,rfl,rfl,by decide +kernel,rfl,by decide +kernel,by decide +kernel⟩
nonrec abbrev s_all_made:Uae:=top 26
theorem Zjk:FnScope ["claim","side","first","steps","made","number","step","row"] ["claim","side","first","steps"] (Zad s_all_made):=⟨rfl,rfl,rfl,by decide +kernel,rfl,by decide +kernel,by decide +kernel⟩
nonrec abbrev s_is_paper:Uae:=top 27
theorem Zi1:FnScope ["claim","side","first","thing","made"] ["claim","side","first","thing"] (Zad s_is_paper):=⟨rfl,rfl,rfl,by decide +kernel,rfl,by decide +kernel,by decide +kernel⟩
nonrec abbrev s_rows_of:Uae:=top 30
theorem Zqy:FnScope ["claim","steps"] ["claim","steps"] (Zad s_rows_of):=⟨rfl,rfl,rfl,by decide +kernel,rfl,by decide +kernel,by decide +kernel⟩
nonrec abbrev s_is_row_paper:Uae:=top 31
theorem Ziq:FnScope ["claim","thing"] ["claim","thing"] (Zad s_is_row_paper):=⟨rfl,rfl,rfl,by decide +kernel,rfl,by decide +kernel,by decide +kernel⟩
nonrec abbrev s_is_used_up:Uae:=top 33
theorem Zky:FnScope ["side","row","play"] ["side","row","play"] (Zad s_is_used_up):=⟨rfl,rfl,rfl,by decide +kernel,rfl,by decide +kernel,by decide +kernel⟩
nonrec abbrev s_literal_used:Uae:=top 34
theorem Zik:FnScope ["side","name","truth"] ["side","name","truth"] (Zad s_literal_used):=⟨rfl,rfl,rfl,by decide +kernel,rfl,by decide +kernel,by decide +kernel⟩
nonrec abbrev s_by_paper:Uae:=top 35
theorem Zi4:FnScope ["claim","side","first","steps","play","rows","name","step","row","truth"] ["claim","side","first","steps","play"] (Zad s_by_paper):=⟨rfl,rfl,rfl,by decide +kernel,rfl,by decide +kernel,by decide +kernel⟩
nonrec abbrev s_by_rows:Uae:=top 36
theorem Zrf:FnScope ["claim","steps","play"] ["claim","steps","play"] (Zad s_by_rows):=⟨rfl,rfl,rfl,by decide +kernel,rfl,by decide +kernel,by decide +kernel⟩
nonrec abbrev s_law_mix:Uae:=top 38
theorem Zkh:FnScope ["cell","k","prime","one"] ["cell","k"] (Zad s_law_mix):=⟨rfl,rfl,rfl,by decide +kernel,rfl,by decide +kernel,by decide +kernel⟩
nonrec abbrev s_law_digits:Uae:=top 39
theorem Zg5:FnScope ["cell","many","found","left_over","wide","k"] ["cell","many"] (Zad s_law_digits):=⟨rfl,rfl,rfl,by decide +kernel,rfl,by decide +kernel,by decide +kernel⟩
nonrec abbrev s_law_at:Uae:=top 40
theorem Zuq:FnScope ["script","k"] ["script","k"] (Zad s_law_at):=⟨rfl,rfl,rfl,by decide +kernel,rfl,by decide +kernel,by decide +kernel⟩
nonrec abbrev s_law_kinds:Uae:=top 41
theorem Zh5:FnScope ["some","many","found","k","kind"] ["some","many"] (Zad s_law_kinds):=⟨rfl,rfl,rfl,by decide +kernel,rfl,by decide +kernel,by decide +kernel⟩
nonrec abbrev s_law_row:Uae:=top 42
theorem Zj9:FnScope ["cell","many","wide","some","found","k"] ["cell","many","wide"] (Zad s_law_row):=⟨rfl,rfl,rfl,by decide +kernel,rfl,by decide +kernel,by decide +kernel⟩
nonrec abbrev s_law_right:Uae:=top 44
theorem Znp:FnScope ["literal","play"] ["literal","play"] (Zad s_law_right):=⟨rfl,rfl,rfl,by decide +kernel,rfl,by decide +kernel,by decide +kernel⟩
nonrec abbrev s_law_plays:Uae:=top 45
theorem Zh7:FnScope ["many","found","turn","more_plays","one"] ["many"] (Zad s_law_plays):=⟨rfl,rfl,rfl,by decide +kernel,rfl,by decide +kernel,by decide +kernel⟩
nonrec abbrev s_law_lost:Uae:=top 46
theorem Zjs:FnScope ["rows","play","row"] ["rows","play"] (Zad s_law_lost):=⟨rfl,rfl,rfl,by decide +kernel,rfl,by decide +kernel,by decide +kernel⟩
nonrec abbrev s_law_whole:Uae:=top 47
theorem Zm8:FnScope ["thing","bound"] ["thing","bound"] (Zad s_law_whole):=⟨rfl,rfl,rfl,by decide +kernel,rfl,by decide +kernel,by decide +kernel⟩
nonrec abbrev s_law_less:Uae:=top 48
theorem Zjb:FnScope ["kinds","side","row","found","k","literal","behind"] ["kinds","side","row"] (Zad s_law_less):=⟨rfl,rfl,rfl,by decide +kernel,rfl,by decide +kernel,by decide +kernel⟩
nonrec abbrev s_law_joined:Uae:=top 49
theorem Zes:FnScope ["row","other","name","found","one"] ["row","other","name"] (Zad s_law_joined):=⟨rfl,rfl,rfl,by decide +kernel,rfl,by decide +kernel,by decide +kernel⟩
nonrec abbrev s_law_first:Uae:=top 51
theorem Zm0:FnScope ["claim","side","thing","last","literal","row"] ["claim","side","thing"] (Zad s_law_first):=⟨rfl,rfl,rfl,by decide +kernel,rfl,by decide +kernel,by decide +kernel⟩
nonrec abbrev s_law_step:Uae:=top 50
theorem Ziz:FnScope ["claim","side","made","step","names"] ["claim","side","made","step"] (Zad s_law_step):=⟨rfl,rfl,rfl,by decide +kernel,rfl,by decide +kernel,by decide +kernel⟩
nonrec abbrev s_law_made:Uae:=top 52
theorem Zio:FnScope ["claim","side","steps","made","step","found"] ["claim","side","steps"] (Zad s_law_made):=⟨rfl,rfl,rfl,by decide +kernel,rfl,by decide +kernel,by decide +kernel⟩
nonrec abbrev s_law_drawn_step:Uae:=top 54
theorem Zd9:FnScope ["claim","side","made","kept","some","names","turn","i","j","name"] ["claim","side","made","kept","some"] (Zad s_law_drawn_step):=⟨rfl,rfl,rfl,by decide +kernel,rfl,by decide +kernel,by decide +kernel⟩
nonrec abbrev s_law_drawn_steps:Uae:=top 55
theorem Zdx:FnScope ["claim","side","script","at","many","steps","made","kept","k","some","step"] ["claim","side","script","at","many"] (Zad s_law_drawn_steps):=⟨rfl,rfl,rfl,by decide +kernel,rfl,by decide +kernel,by decide +kernel⟩
nonrec abbrev s_law_behind:Uae:=top 56
theorem Zeo:FnScope ["steps","many","found","step"] ["steps","many"] (Zad s_law_behind):=⟨rfl,rfl,rfl,by decide +kernel,rfl,by decide +kernel,by decide +kernel⟩
nonrec abbrev s_law_wider:Uae:=top 57
theorem Zh3:FnScope ["kinds","side","row","some","found","last","name"] ["kinds","side","row","some"] (Zad s_law_wider):=⟨rfl,rfl,rfl,by decide +kernel,rfl,by decide +kernel,by decide +kernel⟩
nonrec abbrev s_law_parted:Uae:=top 58
theorem Zg2:FnScope ["row","name","some","both_v","k","literal"] ["row","name","some"] (Zad s_law_parted):=⟨rfl,rfl,rfl,by decide +kernel,rfl,by decide +kernel,by decide +kernel⟩
nonrec abbrev s_law_grown:Uae:=top 59
theorem Zh1:FnScope ["kinds","side","script","at","nodes","how","k","some","rest","j","taken","names","wide","name"] ["kinds","side","script","at"] (Zad s_law_grown):=⟨rfl,rfl,rfl,by decide +kernel,rfl,by decide +kernel,by decide +kernel⟩
nonrec abbrev s_law_paper:Uae:=top 60
theorem Zh8:FnScope ["nodes","how","first_steps","share","steps","at","j","step"] ["nodes","how","first_steps","share"] (Zad s_law_paper):=⟨rfl,rfl,rfl,by decide +kernel,rfl,by decide +kernel,by decide +kernel⟩
nonrec abbrev s_law_rows_claim:Uae:=top 61
theorem Zef:FnScope ["kinds","nodes","how","some","rows","j","first_steps"] ["kinds","nodes","how","some"] (Zad s_law_rows_claim):=⟨rfl,rfl,rfl,by decide +kernel,rfl,by decide +kernel,by decide +kernel⟩
nonrec abbrev s_law_made_together:Uae:=top 62
theorem Zdc:FnScope ["script","some","names","kinds","ahead","nodes","how","claim","first_steps"] ["script"] (Zad s_law_made_together):=⟨rfl,rfl,rfl,by decide +kernel,rfl,by decide +kernel,by decide +kernel⟩
nonrec abbrev s_law_played:Uae:=top 63
theorem Zgx:FnScope ["claim","steps","plays","kind","more_plays","play","truth"] ["claim","steps"] (Zad s_law_played):=⟨rfl,rfl,rfl,by decide +kernel,rfl,by decide +kernel,by decide +kernel⟩
nonrec abbrev s_law:Uae:=top 64
theorem Zx6:FnScope ["script","k","made","stays","claim","steps","idle"] ["script"] (Zad s_law):=⟨rfl,rfl,rfl,by decide +kernel,rfl,by decide +kernel,by decide +kernel⟩
structure Top (K:Xb) (mg:Str->Option Vb):Prop where
 t_is_whole:Tf K mg "is_whole" K08.s_is_whole
 t_is_open:Tf K mg "is_open" K08.s_is_open
 t_is_right:Tf K mg "is_right" K08.s_is_right
 t_is_lost:Tf K mg "is_lost" K08.s_is_lost
 t_first_numbers:Tf K mg "first_numbers" K08.s_first_numbers
 t_rows_behind:Tf K mg "rows_behind" K08.s_rows_behind
 t_rows_behind_play:Tf K mg "rows_behind_play" K08.s_rows_behind_play
 t_other_side:Tf K mg "other_side" K08.s_other_side
 t_winner_behind:Tf K mg "winner_behind" K08.s_winner_behind
 t_winner:Tf K mg "winner" K08.s_winner
 t_is_number_of:Tf K mg "is_number_of" K08.s_is_number_of
 t_is_name_of_other:Tf K mg "is_name_of_other" K08.s_is_name_of_other
 t_lessened:Tf K mg "lessened" K08.s_lessened
 t_without:Tf K mg "without" K08.s_without
 t_both:Tf K mg "both" K08.s_both
 t_joined:Tf K mg "joined" K08.s_joined
 t_made_by_less:Tf K mg "made_by_less" K08.s_made_by_less
 t_made_by_joined:Tf K mg "made_by_joined" K08.s_made_by_joined
 t_claims_row:Tf K mg "claims_row" K08.s_claims_row
 t_made_by:Tf K mg "made_by" K08.s_made_by
 t_all_made:Tf K mg "all_made" K08.s_all_made
 t_is_paper:Tf K mg "is_paper" K08.s_is_paper
 t_rows_of:Tf K mg "rows_of" K08.s_rows_of
 t_is_row_paper:Tf K mg "is_row_paper" K08.s_is_row_paper
 t_is_used_up:Tf K mg "is_used_up" K08.s_is_used_up
 t_literal_used:Tf K mg "literal_used" K08.s_literal_used
 t_by_paper:Tf K mg "by_paper" K08.s_by_paper
 t_by_rows:Tf K mg "by_rows" K08.s_by_rows
 t_law_mix:Tf K mg "_law_mix" K08.s_law_mix
 t_law_digits:Tf K mg "_law_digits" K08.s_law_digits
 t_law_at:Tf K mg "_law_at" K08.s_law_at
 t_law_kinds:Tf K mg "_law_kinds" K08.s_law_kinds
 t_law_row:Tf K mg "_law_row" K08.s_law_row
 t_law_right:Tf K mg "_law_right" K08.s_law_right
 t_law_plays:Tf K mg "_law_plays" K08.s_law_plays
 t_law_lost:Tf K mg "_law_lost" K08.s_law_lost
 t_law_whole:Tf K mg "_law_whole" K08.s_law_whole
 t_law_less:Tf K mg "_law_less" K08.s_law_less
 t_law_joined:Tf K mg "_law_joined" K08.s_law_joined
 t_law_first:Tf K mg "_law_first" K08.s_law_first
 t_law_step:Tf K mg "_law_step" K08.s_law_step
 t_law_made:Tf K mg "_law_made" K08.s_law_made
 t_law_drawn_step:Tf K mg "_law_drawn_step" K08.s_law_drawn_step
 t_law_drawn_steps:Tf K mg "_law_drawn_steps" K08.s_law_drawn_steps
 t_law_behind:Tf K mg "_law_behind" K08.s_law_behind
 t_law_wider:Tf K mg "_law_wider" K08.s_law_wider
 t_law_parted:Tf K mg "_law_parted" K08.s_law_parted
 t_law_grown:Tf K mg "_law_grown" K08.s_law_grown
 t_law_paper:Tf K mg "_law_paper" K08.s_law_paper
 t_law_rows_claim:Tf K mg "_law_rows_claim" K08.s_law_rows_claim
 t_law_made_together:Tf K mg "_law_made_together" K08.s_law_made_together
 t_law_played:Tf K mg "_law_played" K08.s_law_played
 t_law:Tf K mg "law" K08.s_law
 n_abs:mg "abs" = none
 n_bool:mg "bool" = none
 n_enumerate:mg "enumerate" = none
 n_int:mg "int" = none
 n_isinstance:mg "isinstance" = none
 n_len:mg "len" = none
 n_list:mg "list" = none
 n_max:mg "max" = none
 n_range:mg "range" = none
 n_sorted:mg "sorted" = none
 n_str:mg "str" = none
 n_tuple:mg "tuple" = none
 n_zip:mg "zip" = none
 c_TRUTHS:Gc K mg "TRUTHS" k_TRUTHS
 v_claims_row:Fv K mg "claims_row"
section
variable {P:Vh} {w:Vs} {K:Xb} {mg:Str->Option Vb} {base:Vy}
local macro_rules | `(tactic| fail $s:str)=>do
 if s.getString.take 1 != "~" then Lean.Macro.throwUnsupported
 let mut o:Array (Lean.TSyntax `tactic) := #[]
 let ls:=("a=Q _;b=R paf_c ? ? ?;c=E Zo6;d=R Zd6 ? Zlw;e=R Zd6 ? ?;f=F _;g=E nd;h=E ( Zab ( pv 0 ) );i=R Zx8 ? ? Zlw;j=R Zfb Zte ? T.n_len Zxi ?;k=R Zb0 ?;l=E ( Zab ( pv 1 ) );m=I _;n=R Zzm Tcs ? ? ? ?;o=E ( Zab ( pv 4 ) );p=E Za2 ixf ( Zab ( pv 3 ) ) Zag @f;q=E ( Zab ( pv 2 ) );r=R PWf.pt ?;s=R Zap Ze2 ? Zag;t=E ( Zab ( pv 3 ) );u=E Zb7;v=E Zag;w=R Zvh ?;y=E Za2 ixf ( Zab ( pv 0 ) ) Zag @f;A=E ( Zab ( pv 5 ) );B=E Zsg Zo6;C=R Zsl ?;D=R Zz7 ? ?;E=R Zsg ?;F=R Za7 @i3 ? ? ? ?;G=R Yc1 ? ?;H=E Zb0 Zhh;I=R Za7 @i4 ? ? ? ?;J=R Zv0 ?;K=R Zyt ?;L=E Za2 ixf ( Zab ( pv 1 ) ) Zag @f;M=R Zaj ( Zdb hr.units ) ? Zag ( Zaq _ );N=R Zq3 ? T.n_range ?;O=R Yae ?;P=E Zb0 Zgz;Q=R Zbx @i5 ? ? ?;R=E Zg1 Zag;S=R Za7 @i2 ? ? ? ?;T=R Zwu ?;U=E ( Zab ( pv 6 ) );V=R Zfb Zsx ? T.n_abs Ztf ?;W=R Zfb Zuc ? T.n_isinstance Zlp ?;X=R Zzl ? ?;Y=R Zm7 ? ?;Z=R Zm7 ? Zw3;0=E Zsl Zo6;1=R Zer ?;2=R Za2 ixf ( Zab ( pv 2 ) ) ? @f;3=R Zfk Zn1 ? T.n_tuple Zk8 ?;4=R Za2 ixf ? ? @f;5=R Zaj ( Zdb hr.units ) ? Zb7 ( Zaq _ );6=E Za2 ixf ( Zab ( pv 4 ) ) Zag @f;7=R Zap Za3 ? Zag;8=R Zz9 ? ?;9=R Zx8 ? ? ?;aa=R Zbx @i4 ? ? ?;ab=R Zap Ze2 ? ?;ac=R Zuj ? ?;ad=R Zap Zgj ? Zag;ae=R Zfh Uh Ui Zca ( Zab ( pv 2 ) ) ?;af=E ( Zab ( pv 7 ) );ag=R Zy3 ?;ah=R Zbx @i3 ? ? ?;ai=R Za2 ixf ( Zab ( pv 0 ) ) ? @f;aj=R Zbx @i6 ? ? ?;ak=R Za7 @i7 ? ? ? ?;al=R Zfh Uh Ui Zca ( Zab ( pv 4 ) ) ?;am=E Zfy Zd2 Zag;an=R Zap Za3 ? ?;ao=R Zaj ( Zdf hr.units ) ? ( Zab ( pv 2 ) ) ( Zaq _ );ap=R Za2 ixf ? Zag @f;aq=R Za7 @i6 ? ? ? ?;ar=R Zaj ( Zdf hr.units ) ? Zag ( Zaq _ );as=R Za7 @i5 ? ? ? ?;at=E Za2 ixf ( Zab ( pv 7 ) ) Zag @f;au=R Zam ( ok_law_digits T ) ( hr.mono @d ) ? ?;av=R Zap Za3 ( Zab ( pv 4 ) ) ?;aw=E Zer ( Zab ( pv 2 ) );ax=E Zv3;ay=E Za2 Ycb ( Zab ( pv 1 ) ) ( Zab ( pv 6 ) ) @f;az=R Zd4 ( Zdb hr.units ) ? ? ( Zaq _ );aA=R Za2 ixf ( Zab ( pv 1 ) ) ? @f;aB=E Zer ( Zab ( pv 0 ) );aC=R Zbx @i2 ? ? ?;aD=E Zb0 ( Zab ( pv 2 ) );aE=R Zam ( ok_is_number_of T ) ( hr.mono @d ) ? ?;aF=E ( Zab ( pv 8 ) );aG=E ( Zab ( pv 9 ) );aH=E Zap Za3 ( Zab ( pv 1 ) ) Zag;aI=E Zap Ze4 Zag ( Zab ( pv 1 ) );aJ=R Zam ( ok_law_whole T ) ( hr.mono @d ) ? ?;aK=R Zam ( ok_law_at T ) ( hr.mono @d ) ? ?;aL=E Za2 ixf ( Zab ( pv 4 ) ) ( Zab ( pv 9 ) ) @f;aM=R Zap Za3 Zag ?;aN=R Zaj ( Zdb hr.units ) ? ( Zab ( pv 1 ) ) ( Zaq _ );aO=R Zfk Zq9 ? T.n_list Zs1 ?;aP=R Zam ( ok_all_made T ) ( hr.mono @d ) ? ?;aQ=R Za2 ixf ( Zab ( pv 3 ) ) ? @f;aR=E Zap Za3 ( Zab ( pv 5 ) ) Zag;aS=R Zaj ( Zdb hr.units ) ? ? ( Zaq _ );aT=R Zaj ( Zdf hr.units ) ( Zab ( pv 2 ) ) ? ( Zaq _ );aU=R Zaj Znd ? Zag ( Zaq _ );aV=R Zap Za3 ? ( Zab ( pv 1 ) );aW=R Za2 Ycb ( Zab ( pv 5 ) ) ? @f;aX=R Zap Za3 ( Zab ( pv 5 ) ) ?;aY=R Zjm Zpx Znd Zag ( Zab ( pv 0 ) ) ( Zab ( pv 1 ) ) ?" : String).splitOn ";"
 for w in (s.getString.drop 1).toString.splitOn " " do
  if w == "x" then o:=o.push (<- `(tactic| with_unfolding_all rfl)); continue
  if w == "z" then o:=o.push (<- `(tactic| refine Zgv ?_ (fun _=>rfl))); continue
  if w == "U1" then o:=o.push (<- `(tactic| (intro _ _ _ _ _ _ us hl; obtain⟨_,e⟩:=us1 hl; subst e; rfl))); continue
  if w == "U2" then o:=o.push (<- `(tactic| (intro _ _ _ _ _ _ us hl; obtain⟨_,_,e⟩:=us2 hl; subst e; rfl))); continue
  if w == "U3" then o:=o.push (<- `(tactic| (intro _ _ _ _ _ _ us hl; obtain⟨_,_,_,e⟩:=us3 hl; subst e; rfl))); continue
  if w == "U4" then o:=o.push (<- `(tactic| (intro _ _ _ _ _ _ us hl; obtain⟨_,_,_,_,e⟩:=us4 hl; subst e; rfl))); continue
  if w == "U5" then o:=o.push (<- `(tactic| (intro _ _ _ _ _ _ us hl; obtain⟨_,_,_,_,_,e⟩:=us5 hl; subst e; rfl))); continue
  let some l:=ls.find? (·.startsWith (w ++ "=")) | Lean.Macro.throwUnsupported
  let ts:=(l.drop (w.length+1)).toString.splitOn " "
  let mut st:Array (Array Lean.Term) := #[#[]]
  for t in ts.drop 1 do
   if t == "(" then st:=st.push #[] else
    let mut x:Lean.Term:=⟨Lean.mkIdent t.toName⟩
    if t == ")" then
     let a:=st.back!
     st:=st.pop
     x <- `(($(Lean.Syntax.mkApp a[0]! (a.extract 1 a.size))))
    else if t == "?" then x <- `(?_)
    else if t == "_" then x <- `(_)
    else if t == "@d" then x <- `(by decide)
    else if t == "@r" then x <- `(by rfl)
    else if t == "@f" then x <- `(fun _ _=>rfl)
    else if t.startsWith "@i" then
     let n <- `(a ($(Lean.mkIdent `i) := $(Lean.Syntax.mkNumLit (t.drop 2).toString)))
     x:=⟨n.raw[1][0]⟩
    else if t.all Char.isDigit then x:=Lean.Syntax.mkNumLit t
    st:=st.push (st.back!.push x)
    st:=(st.extract 0 (st.size - 2)).push st.back!
  let a:=st[0]!
  let e:=Lean.Syntax.mkApp a[0]! (a.extract 1 a.size)
  o:=o.push (<- match ts.head! with
   | "R" => `(tactic| refine $e)
   | "E" => `(tactic| exact $e)
   | "I" => `(tactic| intro _ _ _ _ _ _)
   | "F" => `(tactic| first | exact Or.inl rfl | exact Or.inr rfl)
   | _ => `(tactic| rfl))
 `(tactic| ($[$o]*))
theorem Zjr (T:Top K mg):Fn P w K mg base 1 "is_whole" ["thing"] Zfj:=by
 refine(fun h=>h:_->Fn P w K mg base 1 "is_whole" ["thing"] (Zaw 1 1 Zej)) (Zay (N:=["thing"]) (k:=0) T.t_is_whole Zor (by fail "~U1") ?_)
 intro f cdv A outer s H E hr
 unfold Zej
 fail "~d k 8 W a b h b"
 refine Zgs ?_ T.n_int Zpo
 fail "~a c a a ag"
 refine Zob ?_
 fail "~W a b h b"
 refine Zgs ?_ T.n_bool Zoe
 fail "~a c a a"
theorem Zke (T:Top K mg):Fn P w K mg base 1 "is_open" ["literal","play"] Zgp:=by
 refine(fun h=>h:_->Fn P w K mg base 1 "is_open" ["literal","play"] (Zaw 2 2 Zfa)) (Zay (N:=["literal","play"]) (k:=0) T.t_is_open Zqn (by fail "~U2") ?_)
 intro f cdv A outer s H E hr
 unfold Zfa
 fail "~d k"
 refine Zd4 Zg8 ?_ ?_ (Zaq _)
 fail "~V a b h c a j a b l c a"
theorem Zn9 (T:Top K mg):Fn P w K mg base 2 "is_right" ["literal","play"] Zhg:=by
 refine(fun h=>h:_->Fn P w K mg base 2 "is_right" ["literal","play"] (Zaw 2 2 Zec)) (Zay (N:=["literal","play"]) (k:=1) T.t_is_right Zo2 (by fail "~U2") ?_)
 intro f cdv A outer s H E hr
 unfold Zec
 fail "~d k 8"
 refine Zob ?_
 refine Zam (Zke T) (hr.mono (by decide)) ?_ ?_
 fail "~a b h b l c a a ag az aA ad V a b h c a"
 exact Zd4 Zg8 (Zab (pv 0)) Zag (Zaq _)
theorem Zqu (T:Top K mg):Fn P w K mg base 3 "is_lost" ["row","play"] Zi5:=by
 refine(fun h=>h:_->Fn P w K mg base 3 "is_lost" ["row","play"] (Zaw 2 3 Ze5)) (Zay (N:=["row","play","literal"]) (k:=2) T.t_is_lost Zkk (by fail "~U2") ?_)
 intro f cdv A outer s H E hr
 unfold Ze5
 fail "~e n a aB aC"
 exact Zkk.nd
 fail "~a f d i r G z"
 refine Zam (Zke T) (hr.mono (by decide)) ?_ ?_
 fail "~a b q b l c a a O z"
 refine Zam (Zn9 T) (hr.mono (by decide)) ?_ ?_
 fail "~a b q b l c a a d P d P"
theorem Zia (T:Top K mg):Fn P w K mg base 1 "first_numbers" ["rows"] Zcl:=by
 refine(fun h=>h:_->Fn P w K mg base 1 "first_numbers" ["rows"] (Zaw 1 4 Zbv)) (Zay (N:=["rows","told","number","row"]) (k:=0) T.t_first_numbers Zex (by fail "~U1") ?_)
 intro f cdv A outer s H E hr
 unfold Zbv
 have nd:=Zex.nd
 fail "~e"
 refine Za7 (i:=1) ?_ ?_ ?_ Zpi
 fail "~g a f e n a"
 refine Zly ?_ T.n_enumerate ?_
 fail "~a b h c a X a Y aC g a f Z ah g a f d w"
 refine Zsc Uq Tag (Zy9 hr.units) (Zab (pv 1)) ?_
 fail "~b t b q c a a d"
 exact Zb0 (Zab (pv 1))
theorem Zfw (T:Top K mg):Fn P w K mg base 1 "rows_behind" ["rows","name","truth"] Zaz:=by
 refine(fun h=>h:_->Fn P w K mg base 1 "rows_behind" ["rows","name","truth"] (Zaw 3 7 Zcf)) (Zay (N:=["rows","name","truth","right","told","row","first"]) (k:=0) T.t_rows_behind Zfv (by fail "~U3") ?_)
 intro f cdv A outer s H E hr
 unfold Zcf
 have nd:=Zfv.nd
 fail "~e F g a f"
 refine Zpj ?_ (Zab (pv 1)) ?_
 exact Zgv (Zab (pv 2)) (fun _=>rfl)
 exact Zfy Zd2 (Zab (pv 1))
 fail "~e"
 refine Za7 (i:=4) ?_ ?_ ?_ Zpi
 fail "~g a f e n a"
 exact Zy0 (Zab (pv 0))
 fail "~Q g a f e aq g a f"
 refine Zpj ?_ ?_ Zag
 exact Zgv (Zab (pv 5)) (fun _=>rfl)
 exact Za2 ixf (Zab (pv 5)) Zag (fun _ _=>rfl)
 fail "~d 9"
 refine Zaj (Zdb hr.units) (Zab (pv 6)) ?_ (Zaq _)
 exact Zfy Zd2 (Zab (pv 3))
 fail "~d w"
 refine Zsc Uq Tag (Zy9 hr.units) (Zab (pv 4)) ?_
 fail "~b"
 refine Zbd (Zab (pv 5)) ?_ Zck
 fail "~R b"
 exact Za2 (Yba hr.units) (Zab (pv 0)) (Zab (pv 5)) (fun _ _=>rfl)
 fail "~c a a d i"
 exact Zaj (Zdf hr.units) (Zab (pv 6)) (Zab (pv 3)) (Zaq _)
 fail "~d w"
 refine Zsc Uq Tag (Zy9 hr.units) (Zab (pv 4)) ?_
 fail "~b A b"
 exact Za2 (Yba hr.units) (Zab (pv 0)) (Zab (pv 5)) (fun _ _=>rfl)
 fail "~c a a d"
 exact Zb0 (Zab (pv 4))
theorem Zf6 (T:Top K mg):Fn P w K mg base 2 "rows_behind_play" ["rows","play"] Zbp:=by
 refine(fun h=>h:_->Fn P w K mg base 2 "rows_behind_play" ["rows","play"] (Zaw 2 5 Zbb)) (Zay (N:=["rows","play","told","name","truth"]) (k:=1) T.t_rows_behind_play Zdk (by fail "~U2") ?_)
 intro f cdv A outer s H E hr
 unfold Zbb
 have nd:=Zdk.nd
 fail "~e S g a f"
 refine Zam (Zia T) (hr.mono (by decide)) ?_ ?_
 fail "~a b h c a e n a"
 refine Zt0 ?_ T.n_enumerate ?_
 fail "~a b l c a X a Y ah g a f Z aa g a f d S g a f"
 refine Zam (Zfw T) (hr.mono (by decide)) ?_ ?_
 fail "~a b q b t b o c a a a d aD"
theorem Zlv (T:Top K mg):Fn P w K mg base 1 "other_side" ["side"] Zcc:=by
 refine(fun h=>h:_->Fn P w K mg base 1 "other_side" ["side"] (Zaw 1 1 Zcz)) (Zay (N:=["side"]) (k:=0) T.t_other_side Zln (by fail "~U1") ?_)
 intro f cdv A outer s H E hr
 unfold Zcz
 fail "~d k"
 refine Zpj ?_ Zb7 Zb7
 exact Zaj (Zdb hr.units) (Zab (pv 0)) Zb7 (Zaq _)
theorem Zh9 (T:Top K mg):Fn P w K mg base 12 "winner_behind" ["kinds","rows","many"] Zcg:=by
 refine(fun h=>h:_->Fn P w K mg base 12 "winner_behind" ["kinds","rows","many"] (Yac 3 5 Zau 10)) (Zxu (N:=["kinds","rows","many","who","truth"]) (k:=1) T.t_winner_behind Zc9 (by fail "~U3") ?_ 10)
 intro F j G f cdv A outer s H E hr
 unfold Zau
 fail "~e i"
 refine Zaj (dinf hr.units) ?_ (Zab (pv 1)) ?_
 fail "~0 x d"
 exact Zb0 Zb7
 fail "~e i M"
 refine Zfb Zqm ?_ T.n_len Zxi ?_
 fail "~a b l c a d"
 exact Zb0 Zb7
 fail "~e F"
 exact Zc9.nd
 fail "~a f"
 exact Za2 ixf (Zab (pv 0)) (Zab (pv 2)) (fun _ _=>rfl)
 fail "~e n a 1"
 refine Zxn ?_ T.c_TRUTHS
 fail "~a aa"
 exact Zc9.nd
 fail "~a f d i"
 refine Zaj (Zdb hr.units) ?_ (Zab (pv 3)) (Zaq _)
 refine Zam G (hr.mono (Xe _)) ?_ ?_
 fail "~a b h b"
 refine Zam (Zfw T) (hr.mono (by omega)) ?_ ?_
 fail "~a b l b"
 exact Zap Za3 (Zab (pv 2)) Zag
 fail "~b o c a a a b"
 exact Zap Za3 (Zab (pv 2)) Zag
 fail "~c a a a d"
 exact Zb0 (Zab (pv 3))
 fail "~d k"
 refine Zam (Zlv T) (hr.mono (by omega)) ?_ ?_
 fail "~a b t c a"
theorem Zr0 (T:Top K mg):Fn P w K mg base 13 "winner" ["claim","play"] Zii:=by
 refine(fun h=>h:_->Fn P w K mg base 13 "winner" ["claim","play"] (Zaw 2 2 Zgt)) (Zay (N:=["claim","play"]) (k:=12) T.t_winner Zuk (by fail "~U2") ?_)
 intro f cdv A outer s H E hr
 unfold Zgt
 fail "~d k"
 refine Zam (Zh9 T) (hr.mono (by decide)) ?_ ?_
 fail "~a b y b"
 refine Zam (Zf6 T) (hr.mono (by decide)) ?_ ?_
 fail "~a b y b l c a a b j a b l c a c a a a"
theorem ok_is_number_of (T:Top K mg):Fn P w K mg base 2 "is_number_of" ["thing","many"] Zbl:=by
 refine(fun h=>h:_->Fn P w K mg base 2 "is_number_of" ["thing","many"] (Zaw 2 2 Zb2)) (Zay (N:=["thing","many"]) (k:=1) T.t_is_number_of Zi8 (by fail "~U2") ?_)
 intro f cdv A outer s H E hr
 unfold Zb2
 fail "~d k 8"
 refine Zam (Zjr T) (hr.mono (by decide)) ?_ ?_
 fail "~a b h c a ag aY x"
theorem Zf2 (T:Top K mg):Fn P w K mg base 2 "is_name_of_other" ["kinds","side","thing"] Zce:=by
 refine(fun h=>h:_->Fn P w K mg base 2 "is_name_of_other" ["kinds","side","thing"] (Zaw 3 3 Za9)) (Zay (N:=["kinds","side","thing"]) (k:=1) T.t_is_name_of_other Zgf (by fail "~U3") ?_)
 intro f cdv A outer s H E hr
 unfold Za9
 fail "~d k 8"
 refine Zam (Zjr T) (hr.mono (by decide)) ?_ ?_
 fail "~a b q c a 8"
 refine Zjm Zpx Zpx Zag (Zab (pv 2)) ?_ ?_
 fail "~j a b h c a x ag"
 refine Zd4 (Zdf hr.units) ?_ (Zab (pv 1)) (Zaq _)
 fail "~ai"
 exact Zap Zgj (Zab (pv 2)) Zag
theorem Zoj (T:Top K mg):Fn P w K mg base 1 "lessened" ["kinds","side","row"] Zhy:=by
 refine(fun h=>h:_->Fn P w K mg base 1 "lessened" ["kinds","side","row"] (Zaw 3 4 Zel)) (Zay (N:=["kinds","side","row","stays"]) (k:=0) T.t_lessened Zf1 (by fail "~U3") ?_)
 intro f cdv A outer s H E hr
 unfold Zel
 fail "~e F"
 exact Zf1.nd
 fail "~a f j a b q c a e"
 refine Zsi Tcs ?_ ?_
 fail "~r D"
 exact Zaj Zg8 (Zab (pv 3)) Zag (Zaq _)
 fail "~J aN ai ad V a b 2"
 exact Zap Zgj (Zab (pv 3)) Zag
 fail "~c a d"
 refine Yag (i:=3) Ybb ?_ ?_ ?_ Zag
 exact Zf1.nd
 fail "~a f d k"
 refine Zbd (Zab (pv 2)) Zck ?_
 exact Zg1 (Zab (pv 3))
theorem Zj8 (T:Top K mg):Fn P w K mg base 1 "without" ["row","literal"] Zgy:=by
 refine(fun h=>h:_->Fn P w K mg base 1 "without" ["row","literal"] (Zaw 2 2 Zfc)) (Zay (N:=["row","literal"]) (k:=0) T.t_without Zqg (by fail "~U2") ?_)
 intro f cdv A outer s H E hr
 unfold Zfc
 fail "~d k 3 a b"
 refine Zh4 (cn:=["literal"]) ?_ (Zdd (x := "other") (cn:=["literal"]) (ci:=[1]) (by decide +kernel)) ?_ ?_ ?_
 fail "~a aB m T"
 exact Zaj (Zdf hr.units) (Zab (pv 0)) (Zab (pv 1)) (Zaq _)
 fail "~m h c a"
theorem Zzb (T:Top K mg):Fn P w K mg base 1 "both" ["one","other"] Zt6:=by
 refine(fun h=>h:_->Fn P w K mg base 1 "both" ["one","other"] (Zaw 2 4 Zmv)) (Zay (N:=["one","other","told","literal"]) (k:=0) T.t_both Zoh (by fail "~U2") ?_)
 intro f cdv A outer s H E hr
 unfold Zmv
 fail "~e S"
 exact Zoh.nd
 fail "~a f aO a b h c a e n a"
 exact Zer (Zab (pv 1))
 fail "~ah"
 exact Zoh.nd
 fail "~a f e i"
 refine Zaj (Zp0 hr.units) ?_ (Zab (pv 0)) ?_
 exact Zfy Zd2 (Zab (pv 3))
 fail "~x d H d i"
 refine Zaj (Zis hr.units) (Zab (pv 3)) (Zab (pv 0)) ?_
 fail "~x d w ae b t c a d k 3 a b"
 refine Znf ?_ T.n_sorted ?_ T.n_abs ?_
 fail "~a a b q c a c a"
theorem Zul (T:Top K mg):Fn P w K mg base 2 "joined" ["one","other","name"] Zlq:=by
 refine(fun h=>h:_->Fn P w K mg base 2 "joined" ["one","other","name"] (Zaw 3 3 Zgu)) (Zay (N:=["one","other","name"]) (k:=1) T.t_joined Zue (by fail "~U3") ?_)
 intro f cdv A outer s H E hr
 unfold Zgu
 fail "~e i r G"
 refine Zaj (Zis hr.units) (Zab (pv 2)) (Zab (pv 0)) ?_
 fail "~x O"
 refine Zaj (Zis hr.units) ?_ (Zab (pv 1)) ?_
 exact Zfy Zd2 (Zab (pv 2))
 fail "~x d H d k"
 refine Zam (Zzb T) (hr.mono (by decide)) ?_ ?_
 fail "~a b"
 refine Zam (Zj8 T) (hr.mono (by decide)) ?_ ?_
 fail "~a b h b q c a a b"
 refine Zam (Zj8 T) (hr.mono (by decide)) ?_ ?_
 fail "~a b l b"
 exact Zfy Zd2 (Zab (pv 2))
 fail "~c a a c a a"
theorem Zil (T:Top K mg):Fn P w K mg base 3 "made_by_less" ["kinds","side","made","step"] Zfu:=by
 refine(fun h=>h:_->Fn P w K mg base 3 "made_by_less" ["kinds","side","made","step"] (Zaw 4 4 Zb4)) (Zay (N:=["kinds","side","made","step"]) (k:=2) T.t_made_by_less Zi6 (by fail "~U4") ?_)
 intro f cdv A outer s H E hr
 unfold Zb4
 fail "~e i r G ar j a b t c a O K z aE a b p b j a b q c a c a a d H d k"
 refine Zam (Zoj T) (hr.mono (by decide)) ?_ ?_
 fail "~a b h b l b 2 p c a a a"
theorem Zhx (T:Top K mg):Fn P w K mg base 3 "made_by_joined" ["kinds","side","made","step"] Zew:=by
 refine(fun h=>h:_->Fn P w K mg base 3 "made_by_joined" ["kinds","side","made","step"] (Zaw 4 4 Zbk)) (Zay (N:=["kinds","side","made","step"]) (k:=2) T.t_made_by_joined Zhl (by fail "~U4") ?_)
 intro f cdv A outer s H E hr
 unfold Zbk
 fail "~e i r G ar j a b t c a G K z aE a b p b j a b q c a c a a O K z aE a b p b j a b q c a c a a d H e i K z"
 refine Zam (Zf2 T) (hr.mono (by decide)) ?_ ?_
 fail "~a b h b l b p c a a a d H d k"
 refine Zam (Zul T) (hr.mono (by decide)) ?_ ?_
 fail "~a b 2 p b 2 p b p c a a a"
theorem Zls (T:Top K mg):Fn P w K mg base 3 "claims_row" ["claim","step"] Zh0:=by
 refine(fun h=>h:_->Fn P w K mg base 3 "claims_row" ["claim","step"] (Zaw 2 2 Zc0)) (Zay (N:=["claim","step"]) (k:=2) T.t_claims_row Zll (by fail "~U2") ?_)
 intro f cdv A outer s H E hr
 unfold Zc0
 fail "~e i r G ar j a b l c a G"
 refine Zaj (Zdf hr.units) ?_ Zb7 (Zaq _)
 fail "~L O K z aE a b L b j a b y c a c a a d H d k 4 y L"
theorem Zq8 (T:Top K mg):Fn P w K mg base 4 "made_by" ["claim","side","first","made","step"] Zg7:=by
 refine(fun h=>h:_->Fn P w K mg base 4 "made_by" ["claim","side","first","made","step"] (Zaw 5 5 Ze3)) (Zay (N:=["claim","side","first","made","step"]) (k:=3) T.t_made_by Zrd (by fail "~U5") ?_)
 intro f cdv A outer s H E hr
 unfold Ze3
 fail "~e i r G K z W a b o b"
 refine Zgs ?_ T.n_tuple Zk8
 fail "~a c a a O M j a b o c a d H e i 5 6 d k"
 refine Zam (Zil T) (hr.mono (by decide)) ?_ ?_
 fail "~a b y b l b t b o c a a a a e i 5 6 d k"
 refine Zam (Zhx T) (hr.mono (by decide)) ?_ ?_
 fail "~a b y b l b t b o c a a a a d k"
 refine Ztg (i:=2) (Zls T) T.v_claims_row (hr.mono (by decide)) (pv 2) ?_
 fail "~b h b o c a a"
theorem ok_all_made (T:Top K mg):Fn P w K mg base 5 "all_made" ["claim","side","first","steps"] Zeh:=by
 refine(fun h=>h:_->Fn P w K mg base 5 "all_made" ["claim","side","first","steps"] (Zaw 4 8 Zed)) (Zay (N:=["claim","side","first","steps","made","number","step","row"]) (k:=4) T.t_all_made Zjk (by fail "~U4") ?_)
 intro f cdv A outer s H E hr
 unfold Zed
 have nd:=Zjk.nd
 fail "~e I g a f B e n a"
 refine Zt3 ?_ T.n_enumerate ?_
 fail "~a b t c a X a Y Q g a f Z aj g a f e ak g a f"
 refine Zam (Zq8 T) (hr.mono (by decide)) ?_ ?_
 fail "~a b h b l b q b o b U c a a a a a e i"
 exact Zaj Zya (Zab (pv 7)) Zhh (Zaq _)
 exact Zd6 Zz0 Zlw
 fail "~d w al b af c a d"
 exact Zb0 (Zab (pv 4))
theorem Zoq (T:Top K mg):Fn P w K mg base 6 "is_paper" ["claim","side","first","thing"] Zkj:=by
 refine(fun h=>h:_->Fn P w K mg base 6 "is_paper" ["claim","side","first","thing"] (Zaw 4 5 Zeb)) (Zay (N:=["claim","side","first","thing","made"]) (k:=5) T.t_is_paper Zi1 (by fail "~U4") ?_)
 intro f cdv A outer s H E hr
 unfold Zeb
 fail "~e i K z W a b t b"
 refine Zgs ?_ T.n_list Zs1
 fail "~a c a a d P e"
 refine Zwk ?_
 fail "~d I"
 exact Zi1.nd
 fail "~a f aP a b h b l b q b t c a a a a d k 8"
 refine Zd4 Zg8 ?_ Zag (Zaq _)
 fail "~j a b o c a ag az"
 refine Za2 ixf (Zab (pv 4)) ?_ (fun _ _=>rfl)
 fail "~am 0"
theorem Zqf (T:Top K mg):Fn P w K mg base 6 "rows_of" ["claim","steps"] Zi0:=by
 refine(fun h=>h:_->Fn P w K mg base 6 "rows_of" ["claim","steps"] (Zaw 2 2 Zfd)) (Zay (N:=["claim","steps"]) (k:=5) T.t_rows_of Zqy (by fail "~U2") ?_)
 intro f cdv A outer s H E hr
 unfold Zfd
 fail "~d k aP a b h b u b"
 exact Zto T.v_claims_row
 fail "~b l c a a a a"
theorem Zjn (T:Top K mg):Fn P w K mg base 7 "is_row_paper" ["claim","thing"] Zd3:=by
 refine(fun h=>h:_->Fn P w K mg base 7 "is_row_paper" ["claim","thing"] (Zaw 2 2 Zb3)) (Zay (N:=["claim","thing"]) (k:=6) T.t_is_row_paper Ziq (by fail "~U2") ?_)
 intro f cdv A outer s H E hr
 unfold Zb3
 fail "~d k"
 refine Zam (Zoq T) (hr.mono (by decide)) ?_ ?_
 fail "~a b h b u b"
 exact Zto T.v_claims_row
 fail "~b l c a a a a"
theorem Zk2 (T:Top K mg):Fn P w K mg base 4 "is_used_up" ["side","row","play"] Zfi:=by
 refine(fun h=>h:_->Fn P w K mg base 4 "is_used_up" ["side","row","play"] (Zaw 3 3 Zc2)) (Zay (N:=["side","row","play"]) (k:=3) T.t_is_used_up Zky (by fail "~U3") ?_)
 intro f cdv A outer s H E hr
 unfold Zc2
 refine Zd6 ?_ Zlf
 fail "~i"
 exact Zaj (Zdb hr.units) (Zab (pv 0)) Zb7 (Zaq _)
 fail "~d k"
 refine Zam (Zqu T) (hr.mono (by decide)) ?_ ?_
 fail "~a b l b q c a a"
theorem Zju (T:Top K mg):Fn P w K mg base 1 "literal_used" ["side","name","truth"] Zcq:=by
 refine(fun h=>h:_->Fn P w K mg base 1 "literal_used" ["side","name","truth"] (Zaw 3 3 Zbc)) (Zay (N:=["side","name","truth"]) (k:=0) T.t_literal_used Zik (by fail "~U3") ?_)
 intro f cdv A outer s H E hr
 unfold Zbc
 fail "~d k"
 refine Zpj ?_ (Zab (pv 1)) ?_
 refine Zaj (Zdb hr.units) (Zab (pv 2)) ?_ (Zaq _)
 exact Zd4 (Zdb hr.units) (Zab (pv 0)) Zb7 (Zaq _)
 exact Zfy Zd2 (Zab (pv 1))
theorem Zow (T:Top K mg):Fn P w K mg base 6 "by_paper" ["claim","side","first","steps","play"] Zkd:=by
 refine(fun h=>h:_->Fn P w K mg base 6 "by_paper" ["claim","side","first","steps","play"] (Zaw 5 10 Zd7)) (Zay (N:=["claim","side","first","steps","play","rows","name","step","row","truth"]) (k:=5) T.t_by_paper Zi4 (by fail "~U5") ?_)
 intro f cdv A outer s H E hr
 unfold Zd7
 have nd:=Zi4.nd
 fail "~e as g a f aP a b h b l b q b t c a a a a e aq g a f 7 j a b o c a e n a"
 refine Zwc ?_ T.n_zip ?_
 fail "~a b t b A c a a X a Y"
 refine Zbx (i:=7) ?_ ?_ ?_
 fail "~g a f Z"
 refine Zbx (i:=8) ?_ ?_ ?_
 fail "~g a f d i r D 5 at J z"
 refine Zam (Zk2 T) (hr.mono (by decide)) ?_ ?_
 fail "~a b l b aF b o c a a a d n a 1"
 refine Zxn ?_ T.c_TRUTHS
 fail "~a"
 refine Zbx (i:=9) ?_ ?_ ?_
 fail "~g a f d i"
 refine Zaj (Zp0 hr.units) ?_ ?_ ?_
 refine Zam (Zju T) (hr.mono (by decide)) ?_ ?_
 fail "~a b l b U b aG c a a a"
 refine Za2 ixf (Zab (pv 5)) ?_ (fun _ _=>rfl)
 fail "~at x d"
 exact Zb0 (Zab (pv 9))
 fail "~d P"
theorem Zrh (T:Top K mg):Fn P w K mg base 7 "by_rows" ["claim","steps","play"] Zjh:=by
 refine(fun h=>h:_->Fn P w K mg base 7 "by_rows" ["claim","steps","play"] (Zaw 3 3 Ze9)) (Zay (N:=["claim","steps","play"]) (k:=6) T.t_by_rows Zrf (by fail "~U3") ?_)
 intro f cdv A outer s H E hr
 unfold Ze9
 fail "~d k"
 refine Zam (Zow T) (hr.mono (by decide)) ?_ ?_
 fail "~a b h b u b"
 exact Zto T.v_claims_row
 fail "~b l b q c a a a a a"
theorem Zqx (T:Top K mg):Fn P w K mg base 1 "_law_mix" ["cell","k"] Zjd:=by
 refine(fun h=>h:_->Fn P w K mg base 1 "_law_mix" ["cell","k"] (Zaw 2 4 Zff)) (Zay (N:=["cell","k","prime","one"]) (k:=0) T.t_law_mix Zkh (by fail "~U2") ?_)
 intro f cdv A outer s H E hr
 unfold Zff
 have nd:=Zkh.nd
 fail "~e S g a f 4 E b v b v b v b v b v b v b v c a a a a a a a"
 exact Zap Ze2 (Zab (pv 1)) Zag
 fail "~e F g a f"
 refine Zap Ze2 ?_ (Zab (pv 2))
 refine Zap Ze4 ?_ ?_
 fail "~an"
 exact Zap Ze2 (Zab (pv 0)) Zag
 refine Zap Ze4 Zag ?_
 fail "~aH 7 an"
 exact Zap Ze4 (Zab (pv 1)) (Zab (pv 1))
 fail "~aI e F g a f s"
 exact Zap Zn8 (Zab (pv 3)) Zag
 fail "~e F g a f"
 refine Zap Ze2 ?_ (Zab (pv 2))
 fail "~7 an"
 exact Zap Ze4 (Zab (pv 3)) Zag
 fail "~aI d k"
 refine Zap Zfq ?_ Zag
 fail "~s"
 exact Zap Zn8 (Zab (pv 3)) Zag
theorem ok_law_digits (T:Top K mg):Fn P w K mg base 2 "_law_digits" ["cell","many"] Zbt:=by
 refine(fun h=>h:_->Fn P w K mg base 2 "_law_digits" ["cell","many"] (Zaw 2 6 Zc1)) (Zay (N:=["cell","many","found","left_over","wide","k"]) (k:=1) T.t_law_digits Zg5 (by fail "~U2") ?_)
 intro f cdv A outer s H E hr
 unfold Zc1
 have nd:=Zg5.nd
 fail "~e S g a f B e F g a f V a b h c a e I g a f"
 refine Zd4 Ybg (Zab (pv 3)) ?_ (Zaq _)
 exact Zap Zn8 Zag Zag
 fail "~e n a N a b l c a Q g a f d 9 r D"
 exact Zgv (Zab (pv 4)) (fun _=>rfl)
 fail "~J"
 exact Zaj Zg8 (Zab (pv 3)) Zag (Zaq _)
 fail "~e w ae b"
 exact Zap Ze2 (Zab (pv 3)) Zag
 fail "~c a d F g a f"
 exact Zap Zfq (Zab (pv 3)) Zag
 fail "~d w ae b"
 refine Zam (Zqx T) (hr.mono (by decide)) ?_ ?_
 fail "~a b h b A c a a c a d aD"
theorem ok_law_at (T:Top K mg):Fn P w K mg base 1 "_law_at" ["script","k"] Zcr:=by
 refine(fun h=>h:_->Fn P w K mg base 1 "_law_at" ["script","k"] (Zaw 2 2 Zeq)) (Zay (N:=["script","k"]) (k:=0) T.t_law_at Zuq (by fail "~U2") ?_)
 intro f cdv A outer s H E hr
 unfold Zeq
 fail "~e i"
 refine Zaj Znd (Zab (pv 1)) ?_ (Zaq _)
 fail "~j a b h c a d k"
 exact Za2 ixf (Zab (pv 0)) (Zab (pv 1)) (fun _ _=>rfl)
 fail "~d k an 7 aI j a b h c a"
theorem Zml (T:Top K mg):Fn P w K mg base 1 "_law_kinds" ["some","many"] Zgl:=by
 refine(fun h=>h:_->Fn P w K mg base 1 "_law_kinds" ["some","many"] (Zaw 2 5 Zdp)) (Zay (N:=["some","many","found","k","kind"]) (k:=0) T.t_law_kinds Zh5 (by fail "~U2") ?_)
 intro f cdv A outer s H E hr
 unfold Zdp
 have nd:=Zh5.nd
 fail "~e S g a f B e n a N a b l c a ah g a f e I g a f 4 E b u b u c a a s ai"
 exact Zap Za3 Zag (Zab (pv 3))
 fail "~e i M s y d I g a f 4 E b u b u c a a s"
 refine Zap Za3 (Zab (pv 3)) ?_
 fail "~y e i M s y d I g a f 4 E b u b u c a a"
 refine Zfk Zl6 ?_ T.n_int Zpo ?_
 fail "~a b"
 refine Zd4 Zg8 ?_ Zag (Zaq _)
 fail "~s ai"
 exact Zap Za3 Zag (Zab (pv 3))
 fail "~c a d w ae b o c a d k 3 a b q c a"
theorem Zq7 (T:Top K mg):Fn P w K mg base 3 "_law_row" ["cell","many","wide"] Zjv:=by
 refine(fun h=>h:_->Fn P w K mg base 3 "_law_row" ["cell","many","wide"] (Zaw 3 6 Zfe)) (Zay (N:=["cell","many","wide","some","found","k"]) (k:=2) T.t_law_row Zj9 (by fail "~U3") ?_)
 intro f cdv A outer s H E hr
 unfold Zfe
 have nd:=Zj9.nd
 fail "~e F g a f au a b h b aH c a a e I g a f B e n a N a b l c a Q g a f d i"
 refine Zaj Znd ?_ ?_ (Zaq _)
 fail "~ab aQ"
 exact Zap Za3 Zag (Zab (pv 5))
 fail "~aH"
 refine Zap Za3 (Zab (pv 2)) ?_
 fail "~s p d w al b 4 E b aR b ad"
 exact Zap Zgj Zag (Zab (pv 5))
 fail "~c a a s"
 refine Zap Zfq ?_ ?_
 fail "~aQ"
 exact Zap Za3 Zag (Zab (pv 5))
 fail "~aH c a d k 3 a b o c a"
theorem Zm3 (T:Top K mg):Fn P w K mg base 1 "_law_right" ["literal","play"] Zeu:=by
 refine(fun h=>h:_->Fn P w K mg base 1 "_law_right" ["literal","play"] (Zaw 2 2 Zdg)) (Zay (N:=["literal","play"]) (k:=0) T.t_law_right Znp (by fail "~U2") ?_)
 intro f cdv A outer s H E hr
 unfold Zdg
 fail "~d k az aA ad V a b h c a"
 exact Zd4 Zg8 (Zab (pv 0)) Zag (Zaq _)
theorem Znm (T:Top K mg):Fn P w K mg base 1 "_law_plays" ["many"] Zf4:=by
 refine(fun h=>h:_->Fn P w K mg base 1 "_law_plays" ["many"] (Zaw 1 5 Zdh)) (Zay (N:=["many","found","turn","more_plays","one"]) (k:=0) T.t_law_plays Zh7 (by fail "~U1") ?_)
 intro f cdv A outer s H E hr
 unfold Zdh
 have nd:=Zh7.nd
 fail "~e"
 refine Za7 (i:=1) ?_ ?_ ?_ ?_
 fail "~g a f E b 0 c a e n a N a b h c a aC g a f e F g a f B e n a"
 exact Zer (Zab (pv 1))
 fail "~aa g a f d F g a f"
 refine Zap Za3 (Zab (pv 3)) ?_
 fail "~E b av C b"
 exact Zgz
 fail "~c a b av C b"
 exact Zgz
 fail "~c a c a a d"
 refine Za7 (i:=1) ?_ ?_ ?_ (Zab (pv 3))
 fail "~g a f d"
 exact Zb0 (Zab (pv 1))
theorem Ziy (T:Top K mg):Fn P w K mg base 2 "_law_lost" ["rows","play"] Zfl:=by
 refine(fun h=>h:_->Fn P w K mg base 2 "_law_lost" ["rows","play"] (Zaw 2 3 Zee)) (Zay (N:=["rows","play","row"]) (k:=1) T.t_law_lost Zjs (by fail "~U2") ?_)
 intro f cdv A outer s H E hr
 unfold Zee
 fail "~e n a aB aC"
 exact Zjs.nd
 fail "~a f d i aS"
 refine Zh4 (cn:=["play"]) ?_ (Zdd (x := "literal") (cn:=["play"]) (ci:=[1]) (by decide +kernel)) ?_ ?_ ?_
 fail "~a aw m T z"
 refine Zam (Zm3 T) (hr.mono (by decide)) ?_ ?_
 fail "~a b h b l c a a m h B d P d P"
theorem ok_law_whole (T:Top K mg):Fn P w K mg base 1 "_law_whole" ["thing","bound"] Zb9:=by
 refine(fun h=>h:_->Fn P w K mg base 1 "_law_whole" ["thing","bound"] (Zaw 2 2 Zdi)) (Zay (N:=["thing","bound"]) (k:=0) T.t_law_whole Zm8 (by fail "~U2") ?_)
 intro f cdv A outer s H E hr
 unfold Zdi
 fail "~d k 8 W a b h b"
 refine Zgs ?_ T.n_int Zpo
 fail "~a c a a 8"
 refine Zob ?_
 fail "~W a b h b"
 refine Zgs ?_ T.n_bool Zoe
 fail "~a c a a ag aY x"
theorem Zo7 (T:Top K mg):Fn P w K mg base 1 "_law_less" ["kinds","side","row"] Zhv:=by
 refine(fun h=>h:_->Fn P w K mg base 1 "_law_less" ["kinds","side","row"] (Zaw 3 7 Zea)) (Zay (N:=["kinds","side","row","found","k","literal","behind"]) (k:=0) T.t_law_less Zjb (by fail "~U3") ?_)
 intro f cdv A outer s H E hr
 unfold Zea
 have nd:=Zjb.nd
 fail "~e F g a f B e n a"
 refine Zly ?_ T.n_enumerate ?_
 fail "~a b q c a X a Y aa g a f Z Q g a f e"
 refine Zcy (i:=6) (cn:=["kinds","side"]) ?_ (Zdd (x := "one") (cn:=["kinds","side"]) (ci:=[0,1]) (by decide +kernel)) ?_ ?_ ?_ ?_ ?_ ?_
 fail "~a 1"
 refine Zbd (Zab (pv 2)) ?_ Zck
 exact Zg1 (Zab (pv 4))
 fail "~m T ao aA ad V a b h c a m h g a a d i"
 refine Zaj (Zdf hr.units) (Zab (pv 6)) ?_ (Zaq _)
 fail "~B d w"
 refine Zfh Uh Ui Zca (Zab (pv 3)) ?_
 fail "~b A c a d k 3 a b t c a"
theorem Zha (T:Top K mg):Fn P w K mg base 1 "_law_joined" ["row","other","name"] Zdv:=by
 refine(fun h=>h:_->Fn P w K mg base 1 "_law_joined" ["row","other","name"] (Zaw 3 5 Zcw)) (Zay (N:=["row","other","name","found","one"]) (k:=0) T.t_law_joined Zes (by fail "~U3") ?_)
 intro f cdv A outer s H E hr
 unfold Zcw
 fail "~e i r G"
 refine Zaj (Zis hr.units) (Zab (pv 2)) (Zab (pv 0)) ?_
 fail "~x O"
 refine Zaj (Zis hr.units) ?_ (Zab (pv 1)) ?_
 exact Zfy Zd2 (Zab (pv 2))
 fail "~x d H e"
 refine Za7 (i:=3) ?_ ?_ ?_ Zg4
 exact Zes.nd
 fail "~a f e n a 1"
 exact Zap Za3 (Zab (pv 0)) (Zab (pv 1))
 fail "~aa"
 exact Zes.nd
 fail "~a f d i ao V a b o c a e i"
 refine Zaj iinf ?_ (Zab (pv 3)) ?_
 exact Zfy Zd2 (Zab (pv 4))
 fail "~x d H d"
 refine Zuj Zgz ?_
 exact Zhs (Zab (pv 3)) (Zab (pv 4)) Zrc
 fail "~d k 3 a b"
 refine Zql ?_ ?_ T.n_sorted ?_ T.n_abs ?_
 fail "~a a a b t c a c a"
theorem Zna (T:Top K mg):Fn P w K mg base 2 "_law_first" ["claim","side","thing"] Zji:=by
 refine(fun h=>h:_->Fn P w K mg base 2 "_law_first" ["claim","side","thing"] (Zaw 3 6 Zdm)) (Zay (N:=["claim","side","thing","last","literal","row"]) (k:=1) T.t_law_first Zm0 (by fail "~U3") ?_)
 intro f cdv A outer s H E hr
 unfold Zdm
 refine Zd6 ?_ Zlf
 fail "~i"
 exact Zaj (Zdb hr.units) (Zab (pv 1)) Zb7 (Zaq _)
 fail "~e i K z aJ a b q b j a b y c a c a a d H d k"
 refine Za2 ixf ?_ (Zab (pv 2)) (fun _ _=>rfl)
 fail "~y"
theorem Zjg (T:Top K mg):Fn P w K mg base 3 "_law_step" ["claim","side","made","step"] Zfp:=by
 refine(fun h=>h:_->Fn P w K mg base 3 "_law_step" ["claim","side","made","step"] (Zaw 4 5 Zeg)) (Zay (N:=["claim","side","made","step","names"]) (k:=2) T.t_law_step Ziz (by fail "~U4") ?_)
 intro f cdv A outer s H E hr
 unfold Zeg
 fail "~e i r G K z W a b t b"
 refine Zgs ?_ T.n_tuple Zk8
 fail "~a c a a G M j a b t c a O K z W a b p b"
 refine Zgs ?_ T.n_str Ycg
 fail "~a c a a d H e i r D 5 p D M j a b t c a J z aJ a b p b j a b q c a c a a d k"
 refine Zam (Zo7 T) (hr.mono (by decide)) ?_ ?_
 fail "~a b y b l b 2 p c a a a e i r D 5 p J M j a b t c a e"
 refine Zcy (i:=4) (cn:=["claim","side"]) ?_ (Zdd (x := "k") (cn:=["claim","side"]) (ci:=[0,1]) (by decide +kernel)) ?_ ?_ ?_ ?_ ?_ ?_
 fail "~a N a b j a b y c a c a m T ao"
 refine Za2 ixf ?_ (Zab (pv 0)) (fun _ _=>rfl)
 fail "~L m"
 exact Zap Za3 (Zab (pv 0)) Zag
 exact Ziz.nd
 fail "~a a e i"
 refine Zaj (Zp0 hr.units) Zgz ?_ ?_
 refine Zh4 (cn:=["made"]) ?_ (Zdd (x := "number") (cn:=["made"]) (ci:=[2]) (by decide +kernel)) ?_ ?_ ?_
 fail "~a 1"
 refine Zbd (Zab (pv 3)) ?_ ?_
 fail "~R R m ax m aJ a b h b j a b l c a c a a x d H e i r G K z aJ a b p b 7 j a b y c a c a a O"
 refine Zaj (Zis hr.units) ?_ (Zab (pv 4)) ?_
 fail "~p x d H d k"
 refine Zam (Zha T) (hr.mono (by decide)) ?_ ?_
 fail "~a b 2 p b 2 p b p c a a a e i r D aS p 4 E b u b u c a a"
 refine Zfk Zl6 ?_ T.n_int Zpo ?_
 fail "~a b"
 exact Zd4 (Zdb hr.units) (Zab (pv 1)) Zb7 (Zaq _)
 fail "~c a J M j a b t c a d k"
 refine Zam (Zna T) (hr.mono (by decide)) ?_ ?_
 fail "~a b h b l b p c a a a d H"
theorem Zn4 (T:Top K mg):Fn P w K mg base 4 "_law_made" ["claim","side","steps"] Zho:=by
 refine(fun h=>h:_->Fn P w K mg base 4 "_law_made" ["claim","side","steps"] (Zaw 3 6 Zei)) (Zay (N:=["claim","side","steps","made","step","found"]) (k:=3) T.t_law_made Zio (by fail "~U3") ?_)
 intro f cdv A outer s H E hr
 unfold Zei
 have nd:=Zio.nd
 fail "~e F g a f B e n a aw aa g a f e as g a f"
 refine Zam (Zjg T) (hr.mono (by decide)) ?_ ?_
 fail "~a b h b l b t b o c a a a a e i"
 exact Zaj Zya (Zab (pv 5)) Zhh (Zaq _)
 fail "~d"
 exact Zb0 (Zab (pv 3))
 fail "~d w"
 refine Zfh Uh Ui Zca (Zab (pv 3)) ?_
 fail "~b A c a d"
 exact Zb0 (Zab (pv 3))
theorem Zhj (T:Top K mg):Fn P w K mg base 2 "_law_drawn_step" ["claim","side","made","kept","some"] Zc7:=by
 refine(fun h=>h:_->Fn P w K mg base 2 "_law_drawn_step" ["claim","side","made","kept","some"] (Zaw 5 10 Zbh)) (Zay (N:=["claim","side","made","kept","some","names","turn","i","j","name"]) (k:=1) T.t_law_drawn_step Zd9 (by fail "~U5") ?_)
 intro f cdv A outer s H E hr
 unfold Zbh
 have nd:=Zd9.nd
 fail "~e i r D M s 6 J aT B d k C b u b ab 6 j a b q c a c a a e i r D aU s 6 J aT B e"
 refine Zcy (i:=5) (cn:=["claim","side"]) ?_ (Zdd (x := "k") (cn:=["claim","side"]) (ci:=[0,1]) (by decide +kernel)) ?_ ?_ ?_ ?_ ?_ ?_
 fail "~a N a b j a b y c a c a m T ao"
 refine Za2 ixf ?_ (Zab (pv 0)) (fun _ _=>rfl)
 fail "~L m"
 exact Zap Za3 (Zab (pv 0)) Zag
 fail "~g a a d n a N a b j a b q c a c a aj g a f e ak g a f ab"
 refine Zap Za3 ?_ (Zab (pv 6))
 fail "~6 j a b q c a e"
 refine Za7 (i:=8) ?_ ?_ ?_ ?_
 fail "~g a f ab an 6"
 exact Zap Ze4 Zag (Zab (pv 6))
 fail "~j a b q c a d n a"
 exact Zer (Zab (pv 5))
 refine Zbx (i:=9) ?_ ?_ ?_
 fail "~g a f d i"
 refine Zaj Zok ?_ Zhh (Zaq _)
 refine Zam (Zha T) (hr.mono (by decide)) ?_ ?_
 fail "~a b"
 exact Za2 ixf (Zab (pv 2)) (Zab (pv 7)) (fun _ _=>rfl)
 fail "~b"
 exact Za2 ixf (Zab (pv 2)) (Zab (pv 8)) (fun _ _=>rfl)
 fail "~b aG c a a a d k C b u b af b aF b aG c a a a a"
 refine Zd6 ?_ Zlf
 fail "~i"
 exact Zaj (Zdb hr.units) (Zab (pv 1)) Zb7 (Zaq _)
 fail "~e i aS y 0 d H d k C b u b ab 6 j a b y c a c a a"
theorem Zg3 (T:Top K mg):Fn P w K mg base 4 "_law_drawn_steps" ["claim","side","script","at","many"] Zcp:=by
 refine(fun h=>h:_->Fn P w K mg base 4 "_law_drawn_steps" ["claim","side","script","at","many"] (Zaw 5 11 Zbe)) (Zay (N:=["claim","side","script","at","many","steps","made","kept","k","some","step"]) (k:=3) T.t_law_drawn_steps Zdx (by fail "~U5") ?_)
 intro f cdv A outer s H E hr
 unfold Zbe
 have nd:=Zdx.nd
 fail "~e as g a f B e aq g a f B e"
 refine Zcy (i:=7) (cn:=["claim"]) ?_ (Zdd (x := "play") (cn:=["claim"]) (ci:=[0]) (by decide +kernel)) ?_ ?_ ?_ ?_ ?_ ?_
 fail "~a 1"
 refine Zam (Znm T) (hr.mono (by decide)) ?_ ?_
 fail "~a b j a b y c a c a m T K z"
 refine Zam (Ziy T) (hr.mono (by decide)) ?_ ?_
 fail "~a b L b h c a a m h g a a e n a N a b o c a"
 refine Zbx (i:=8) ?_ ?_ ?_
 fail "~g a f e"
 refine Za7 (i:=9) ?_ ?_ ?_ ?_
 fail "~g a f"
 refine Zbd ?_ ?_ Zck
 fail "~au a b aK a b q b"
 exact Zap Za3 (Zab (pv 3)) (Zab (pv 8))
 fail "~c a a b v c a a R e"
 refine Za7 (i:=10) ?_ ?_ ?_ ?_
 fail "~g a f"
 refine Zam (Zhj T) (hr.mono (by decide)) ?_ ?_
 fail "~a b h b l b U b af b aG c a a a a a d i"
 exact Zaj Zok (Zab (pv 10)) Zhh (Zaq _)
 fail "~e w"
 refine Zfh Uh Ui Zca (Zab (pv 5)) ?_
 fail "~b"
 exact(Zab (pv 10))
 fail "~c a d w"
 refine Zfh Uh Ui Zca (Zab (pv 6)) ?_
 fail "~b"
 refine Zam (Zjg T) (hr.mono (by decide)) ?_ ?_
 fail "~a b h b l b U b"
 exact(Zab (pv 10))
 fail "~c a a a a c a d"
 exact Zb0 (Zab (pv 5))
theorem Zgq (T:Top K mg):Fn P w K mg base 1 "_law_behind" ["steps","many"] Zdy:=by
 refine(fun h=>h:_->Fn P w K mg base 1 "_law_behind" ["steps","many"] (Zaw 2 4 Zc3)) (Zay (N:=["steps","many","found","step"]) (k:=0) T.t_law_behind Zeo (by fail "~U2") ?_)
 intro f cdv A outer s H E hr
 unfold Zc3
 fail "~e S"
 exact Zeo.nd
 fail "~a f B e n a aB ah"
 exact Zeo.nd
 fail "~a f d 9 5 p d w ae b C b u b aV p c a a c a d 9 5 p d w ae b C b u b aV p b aV p b p c a a a a c a d w ae b t c a d aD"
theorem Znu (T:Top K mg):Fn P w K mg base 1 "_law_wider" ["kinds","side","row","some"] Zf7:=by
 refine(fun h=>h:_->Fn P w K mg base 1 "_law_wider" ["kinds","side","row","some"] (Zaw 4 7 Zdr)) (Zay (N:=["kinds","side","row","some","found","last","name"]) (k:=0) T.t_law_wider Zh3 (by fail "~U4") ?_)
 intro f cdv A outer s H E hr
 unfold Zdr
 have nd:=Zh3.nd
 fail "~e I g a f aO a b q c a e i r D aT 0 J aN ai ad V a b 2 am c a d aD e as g a f"
 refine Zfb (Zra (by rfl)) ?_ T.n_max Ybj ?_
 fail "~a b an E b v c a"
 refine Zh4 (cn:=[]) ?_ (Zdd (x := "literal") (cn:=[]) (ci:=[]) (by decide +kernel)) ?_ ?_ ?_
 fail "~a aw m ax m V a b h c a c a e n a"
 refine Zki ?_ T.n_range ?_
 fail "~a b aR b 7 j a b h c a c a a aj g a f d i r D aN ai"
 exact Zap Zgj (Zab (pv 6)) Zag
 fail "~J"
 refine Zaj Zg8 ?_ Zag (Zaq _)
 fail "~s"
 exact Za2 ixf (Zab (pv 3)) (Zab (pv 6)) (fun _ _=>rfl)
 fail "~d w al b"
 refine Zap Ze4 (Zab (pv 6)) ?_
 fail "~4 E b am b v c a a s"
 refine Zap Zfq ?_ Zag
 exact Za2 ixf (Zab (pv 3)) (Zab (pv 6)) (fun _ _=>rfl)
 fail "~c a d k 3 a b o c a"
theorem Zlb (T:Top K mg):Fn P w K mg base 1 "_law_parted" ["row","name","some"] Zcx:=by
 refine(fun h=>h:_->Fn P w K mg base 1 "_law_parted" ["row","name","some"] (Zaw 3 6 Zc4)) (Zay (N:=["row","name","some","both_v","k","literal"]) (k:=0) T.t_law_parted Zg2 (by fail "~U3") ?_)
 intro f cdv A outer s H E hr
 unfold Zc4
 have nd:=Zg2.nd
 fail "~e F g a f E b E b l c a b E b"
 exact Zfy Zd2 (Zab (pv 1))
 fail "~c a c a a e n a"
 refine Zly ?_ T.n_enumerate ?_
 fail "~a b h c a X a Y aa g a f Z Q g a f e i ar s"
 exact Za2 ixf (Zab (pv 2)) (Zab (pv 4)) (fun _ _=>rfl)
 fail "~d w"
 refine Zfh Uh Ui Zca ?_ ?_
 fail "~p b A c a d i ar s"
 exact Za2 ixf (Zab (pv 2)) (Zab (pv 4)) (fun _ _=>rfl)
 fail "~d w"
 refine Zfh Uh Ui Zca ?_ ?_
 fail "~p b A c a d k"
 refine Zh4 (cn:=[]) ?_ (Zdd (x := "one") (cn:=[]) (ci:=[]) (by decide +kernel)) ?_ ?_ ?_
 fail "~a"
 exact Zer (Zab (pv 3))
 fail "~m ax m 3 a b"
 refine Znf ?_ T.n_sorted ?_ T.n_abs ?_
 fail "~a a b h c a c a"
theorem Zmn (T:Top K mg):Fn P w K mg base 3 "_law_grown" ["kinds","side","script","at"] Zf9:=by
 refine(fun h=>h:_->Fn P w K mg base 3 "_law_grown" ["kinds","side","script","at"] (Zaw 4 14 Zdn)) (Zay (N:=["kinds","side","script","at","nodes","how","k","some","rest","j","taken","names","wide","name"]) (k:=2) T.t_law_grown Zh1 (by fail "~U4") ?_)
 intro f cdv A outer s H E hr
 unfold Zdn
 have nd:=Zh1.nd
 fail "~e I g a f E b 0 c a e"
 refine Za7 (i:=5) ?_ ?_ ?_ Zg4
 fail "~g a f e n a N a b v c a aj g a f e ak g a f"
 refine Zbd ?_ ?_ Zck
 fail "~au a b aK a b q b"
 exact Zap Za3 (Zab (pv 3)) (Zab (pv 6))
 fail "~c a a b v c a a R e"
 refine Zcy (i:=8) (cn:=["how"]) ?_ (Zdd (x := "j") (cn:=["how"]) (ci:=[5]) (by decide +kernel)) ?_ ?_ ?_ ?_ ?_ ?_
 fail "~a N a b j a b o c a c a m T"
 refine Zaj inif (Zab (pv 0)) (Zab (pv 1)) ?_
 fail "~x m h g a a e"
 refine Za7 (i:=9) ?_ ?_ ?_ ?_
 fail "~g a f"
 refine Za2 ixf (Zab (pv 8)) ?_ (fun _ _=>rfl)
 fail "~ab at j a b aF c a e"
 refine Za7 (i:=10) ?_ ?_ ?_ ?_
 fail "~g a f"
 refine Zh4 (cn:=[]) ?_ (Zdd (x := "literal") (cn:=[]) (ci:=[]) (by decide +kernel)) ?_ ?_ ?_
 fail "~a 1 aL m ax m V a b h c a e"
 refine Zcy (i:=11) (cn:=["kinds","side"]) ?_ (Zdd (x := "name") (cn:=["kinds","side"]) (ci:=[0,1]) (by decide +kernel)) ?_ ?_ ?_ ?_ ?_ ?_
 fail "~a"
 refine Zki ?_ T.n_range ?_
 fail "~a b v b 7 j a b h c a c a a m T ao aA"
 exact Zap Zgj (Zab (pv 0)) Zag
 fail "~m h g a a e"
 refine Zcy (i:=11) (cn:=["taken"]) ?_ (Zdd (x := "name") (cn:=["taken"]) (ci:=[10]) (by decide +kernel)) ?_ ?_ ?_ ?_ ?_ ?_
 fail "~a"
 exact Zer (Zab (pv 11))
 fail "~m T"
 refine Zaj (Zis hr.units) (Zab (pv 0)) (Zab (pv 1)) ?_
 fail "~x m h g a a e"
 refine Za7 (i:=12) ?_ ?_ ?_ ?_
 fail "~g a f"
 refine Zam (Znu T) (hr.mono (by decide)) ?_ ?_
 fail "~a b h b l b aL b"
 refine Zbd (Zab (pv 7)) ?_ Zck
 fail "~R c a a a a d 9 r D aU s at J"
 refine Zaj (Zdf hr.units) (Zab (pv 12)) ?_ (Zaq _)
 fail "~aL e ac C b u b j a b o c a c a a"
 exact Zhs (Zab (pv 5)) (Zab (pv 9)) Zrc
 fail "~d w al b"
 exact(Zab (pv 12))
 fail "~c a d i"
 refine Zaj (Zdf hr.units) (Zab (pv 11)) ?_ (Zaq _)
 fail "~B e"
 refine Za7 (i:=13) ?_ ?_ ?_ ?_
 fail "~g a f"
 refine Za2 ixf (Zab (pv 11)) ?_ (fun _ _=>rfl)
 fail "~ab at j a b"
 exact(Zab (pv 11))
 fail "~c a e ac C b u b j a b o c a b 7 j a b o c a b"
 exact(Zab (pv 13))
 fail "~c a a a a"
 exact Zhs (Zab (pv 5)) (Zab (pv 9)) Zrc
 fail "~d I g a f av"
 refine Zam (Zlb T) (hr.mono (by decide)) ?_ ?_
 fail "~a b aL b"
 exact(Zab (pv 13))
 fail "~b"
 refine Zbd (Zab (pv 7)) ?_ Zck
 fail "~R c a a a d k C b o b A c a a"
theorem Znt (T:Top K mg):Fn P w K mg base 1 "_law_paper" ["nodes","how","first_steps","share"] Zgh:=by
 refine(fun h=>h:_->Fn P w K mg base 1 "_law_paper" ["nodes","how","first_steps","share"] (Zaw 4 8 Zde)) (Zay (N:=["nodes","how","first_steps","share","steps","at","j","step"]) (k:=0) T.t_law_paper Zh8 (by fail "~U4") ?_)
 intro f cdv A outer s H E hr
 unfold Zde
 have nd:=Zh8.nd
 fail "~e I g a f B e"
 refine Za7 (i:=5) ?_ ?_ ?_ Zg4
 fail "~g a f e n a"
 refine Zq2 ?_ T.n_range ?_
 fail "~a b ad j a b h c a b am b am c a a a aj g a f e ak g a f"
 refine Ycw Tce PySem.F.type_dict_get Ycm (Zab (pv 2)) ?_
 fail "~b U b"
 exact Zhh
 fail "~c a a e 9 r D"
 refine Zaj iinf (Zab (pv 6)) (Zab (pv 1)) ?_
 fail "~x J 5 ap ay d ak g a f C b u b aW ap ay c a a d i"
 refine Zaj iinf (Zab (pv 6)) (Zab (pv 1)) ?_
 fail "~x d ak g a f C b u b aW ap ay b aW ap ay b ap ay c a a a a d 9 r D"
 exact Zaj Zg8 (Zab (pv 6)) Zag (Zaq _)
 fail "~D M s"
 refine Zap Zfq (Zab (pv 3)) ?_
 exact Zap Za3 (Zab (pv 6)) Zag
 fail "~J"
 refine Zaj (Zp0 hr.units) (Zab (pv 7)) (Zab (pv 4)) ?_
 fail "~x d ac"
 refine Zfh Tar Tbw (Zkl hr.units) (Zab (pv 4)) ?_
 fail "~b af c a"
 exact Zhs (Zab (pv 5)) (Zab (pv 6)) Zrc
 fail "~e ac j a b o c a"
 exact Zhs (Zab (pv 5)) (Zab (pv 6)) Zrc
 fail "~d w al b af c a d"
 exact Zb0 (Zab (pv 4))
theorem Zhm (T:Top K mg):Fn P w K mg base 4 "_law_rows_claim" ["kinds","nodes","how","some"] Zc6:=by
 refine(fun h=>h:_->Fn P w K mg base 4 "_law_rows_claim" ["kinds","nodes","how","some"] (Zaw 4 7 Zbi)) (Zay (N:=["kinds","nodes","how","some","rows","j","first_steps"]) (k:=3) T.t_law_rows_claim Zef (by fail "~U4") ?_)
 intro f cdv A outer s H E hr
 unfold Zbi
 have nd:=Zef.nd
 fail "~e"
 refine Zcy (i:=4) (cn:=["kinds"]) ?_ (Zdd (x := "one") (cn:=["kinds"]) (ci:=[0]) (by decide +kernel)) ?_ ?_ ?_ ?_ ?_ ?_
 fail "~a 1"
 refine Zbd (Zab (pv 3)) ?_ ?_
 fail "~R"
 refine Zg1 ?_
 fail "~aM s p m ax m"
 refine Zam (Zq7 T) (hr.mono (by decide)) ?_ ?_
 fail "~a b h b j a b l c a b v c a a a g a a e n a N a b j a b l c a c a Q g a f d i"
 refine Zaj inif (Zab (pv 5)) (Zab (pv 2)) ?_
 fail "~x d w"
 refine Zfh Tbs PySem.F.type_list_insert Zqs (Zab (pv 4)) ?_
 fail "~b ab"
 refine Zap Zfq ?_ ?_
 fail "~aQ aM"
 exact Zap Ze2 (Zab (pv 5)) Zag
 fail "~aR 7 j a b o c a b"
 exact Za2 ixf (Zab (pv 1)) (Zab (pv 5)) (fun _ _=>rfl)
 fail "~c a a e"
 refine Za7 (i:=6) ?_ ?_ ?_ Zg4
 fail "~g a f e n a N a b j a b l c a c a Q g a f d i"
 refine Zaj inif (Zab (pv 5)) (Zab (pv 2)) ?_
 fail "~x d ac C b u b"
 refine Zfh Tar Tbw (Zkl hr.units) (Zab (pv 4)) ?_
 fail "~b"
 exact Za2 ixf (Zab (pv 1)) (Zab (pv 5)) (fun _ _=>rfl)
 fail "~c a c a a"
 exact Zhs (Zab (pv 6)) (Zab (pv 5)) Zrc
 fail "~d k C b C b h b 3 a b o c a c a a b U c a a"
theorem Zft (T:Top K mg):Fn P w K mg base 5 "_law_made_together" ["script"] Zb8:=by
 refine(fun h=>h:_->Fn P w K mg base 5 "_law_made_together" ["script"] (Zaw 1 9 Za8)) (Zay (N:=["script","some","names","kinds","ahead","nodes","how","claim","first_steps"]) (k:=4) T.t_law_made_together Zdc (by fail "~U1") ?_)
 intro f cdv A outer s H E hr
 unfold Za8
 have nd:=Zdc.nd
 fail "~e"
 refine Za7 (i:=1) ?_ ?_ ?_ ?_
 fail "~g a f"
 refine Zbd ?_ ?_ Zck
 fail "~au a b aK a b h b v c a a b v c a a R e S g a f 4 E b v b v b v b aM s L c a a a a s L e i M s L d S g a f aM s L e F g a f"
 refine Zam (Zml T) (hr.mono (by decide)) ?_ ?_
 fail "~a b l b q c a a e ac"
 refine Zam (Zmn T) (hr.mono (by decide)) ?_ ?_
 fail "~a b t b u b h b v c a a a a X a Y Q g a f Z aj g a f e ac"
 refine Zam (Zhm T) (hr.mono (by decide)) ?_ ?_
 fail "~a b t b A b U b"
 refine Zbd (Zab (pv 1)) ?_ Zck
 fail "~R c a a a a X a Y"
 refine Zbx (i:=7) ?_ ?_ ?_
 fail "~g a f Z"
 refine Zbx (i:=8) ?_ ?_ ?_
 fail "~g a f e I g a f B e i M s L d I g a f"
 refine Zam (Zg3 T) (hr.mono (by decide)) ?_ ?_
 fail "~a b af b u b h b v b s L c a a a a a d k C b af b av"
 refine Zam (Zgq T) (hr.mono (by decide)) ?_ ?_
 fail "~a b"
 refine Zam (Znt T) (hr.mono (by decide)) ?_ ?_
 fail "~a b A b U b aF b L c a a a a b j a b o c a c a a c a a"
theorem Zla (T:Top K mg):Fn P w K mg base 8 "_law_played" ["claim","steps"] Zfg:=by
 refine(fun h=>h:_->Fn P w K mg base 8 "_law_played" ["claim","steps"] (Zaw 2 7 Zcu)) (Zay (N:=["claim","steps","plays","kind","more_plays","play","truth"]) (k:=7) T.t_law_played Zgx (by fail "~U2") ?_)
 intro f cdv A outer s H E hr
 unfold Zcu
 have nd:=Zgx.nd
 fail "~e S g a f E b 0 c a e n a 1 y ah g a f e I g a f B e n a aw Q g a f d 9"
 exact Zaj (Zdb hr.units) (Zab (pv 3)) Zb7 (Zaq _)
 fail "~e aq g a f"
 refine Zam (Zrh T) (hr.mono (by decide)) ?_ ?_
 fail "~a b h b l b A c a a a e i K z W a b U b"
 refine Zgs ?_ T.n_bool Zoe
 fail "~a c a a d P d w al b aX C b U c a c a d I g a f av E b aX C b"
 exact Zgz
 fail "~c a b aX C b"
 exact Zgz
 fail "~c a c a a d"
 refine Za7 (i:=2) ?_ ?_ ?_ (Zab (pv 4))
 fail "~g a f d k az"
 refine Zh4 (cn:=["claim"]) ?_ (Zdd (x := "play") (cn:=["claim"]) (ci:=[0]) (by decide +kernel)) ?_ ?_ ?_
 fail "~a aw m T"
 refine Zaj (Zdf hr.units) ?_ Zgz (Zaq _)
 refine Zam (Ziy T) (hr.mono (by decide)) ?_ ?_
 fail "~a b L b h c a a m h B"
theorem Ycv (T:Top K mg):Fn P w K mg base 14 "law" ["script"] Zqo:=by
 refine(fun h=>h:_->Fn P w K mg base 14 "law" ["script"] (Zaw 1 7 Zsr)) (Zay (N:=["script","k","made","stays","claim","steps","idle"]) (k:=13) T.t_law Zx6 (by fail "~U1") ?_)
 intro f cdv A outer s H E hr
 unfold Zsr
 have nd:=Zx6.nd
 fail "~e n a N a b v c a"
 refine Zbx (i:=1) ?_ ?_ ?_
 fail "~g a f e ac"
 refine Zam (Zft T) (hr.mono (by decide)) ?_ ?_
 fail "~a b"
 refine Zbd (Zab (pv 0)) ?_ Zck
 refine Zg1 ?_
 fail "~aI c a X a Y aa g a f Z Q g a f e i r D"
 exact Zaj (Zdb hr.units) (Zab (pv 1)) Zag (Zaq _)
 fail "~D M s ap au a b aK a b h b v c a a b v c a a J aU j a b 6 c a e aq g a f"
 refine Zap Ze4 ?_ ?_
 refine Zbd ?_ Zck ?_
 refine Zh4 (cn:=[]) ?_ (Zdd (x := "step") (cn:=[]) (ci:=[]) (by decide +kernel)) ?_ ?_ ?_
 fail "~a"
 exact Zer (Zab (pv 5))
 fail "~m T 5 y m h R"
 refine Zap Zgj Zag ?_
 fail "~j a b A c a d as g a f"
 refine Zap Za3 (Zab (pv 6)) ?_
 refine Zam (Zgq T) (hr.mono (by decide)) ?_ ?_
 fail "~a b A b j a b U c a c a a e S g a f"
 refine Zam (Zn4 T) (hr.mono (by decide)) ?_ ?_
 fail "~a b o b u b A c a a a e i r G"
 refine Zaj (Zdf hr.units) ?_ ?_ (Zaq _)
 fail "~j a b q c a j a b A c a O"
 refine Zaj (Zdf hr.units) ?_ ?_ (Zaq _)
 fail "~2 am 0 d P e F g a f aO a b A c a e i ao"
 refine Zam (Zqf T) (hr.mono (by decide)) ?_ ?_
 fail "~a b o b A c a a d P e i r G"
 refine Zaj Zok ?_ Zgz (Zaq _)
 refine Zam (Zjn T) (hr.mono (by decide)) ?_ ?_
 fail "~a b o b A c a a O"
 refine Zaj (Zdf hr.units) ?_ Zb7 (Zaq _)
 refine Zam (Zr0 T) (hr.mono (by decide)) ?_ ?_
 fail "~a b o b 0 c a a d P d i r G K z"
 refine Zam (Zla T) (hr.mono (by decide)) ?_ ?_
 fail "~a b o b A c a a O"
 exact Zaj (Zdf hr.units) (Zab (pv 5)) (Zab (pv 3)) (Zaq _)
 fail "~d P d P"
theorem Yc6 (T:Top K mg):Fn P w K mg base 14 "law" ["script"] Zqo:=by
 exact Ycv T
end
theorem walk {l:PySem.W.OpenLaw} {q:Vh} {loose:List Str} {XP:(Str->Option Vb)->Vy->Prop} {YP:Vs->Vy->Prop} {d:DefRec} {K:Params->Xb} (hn:l.most=some 63) (hdf:d.params.defaults=[])
  (hd:d.name = "law") (hY:∀ (w:Vs) (h:Vy),YP w h->(K w.params).In h) (hT:∀ (w:Vs) (mg:Str->Option Vb) (h:Vy),(K w.params).In h->h.Ns Vp mg->Top (K w.params) mg)
  (pure:∀ ns:List Int,ns.length<=63->∃ Hd',Zqo [.fl (ns.map .int)] []=some (.bl true,Hd')):Wes q loose XP YP l.row.toRowW d [] (fun f vs=>Tcn f vs):=by
 refine L2.walk_ofK (n:=63) (k:=14) (x := "script") (CX:=CX0) (sp:=Yat Zqo) hn (by decide) hdf ⟨rfl,by decide,by decide,rfl⟩ hY (fun w mg fa h KX G hmg=>?_) (Zr6 pure) (fun _ _ _ _ z=>z)
 have T:=hT w mg h KX G
 obtain⟨f,fd,F,hm⟩:=T.t_law
 have e0:f=fa:=by rw[hd] at hmg; rw[hm] at hmg; cases hmg; rfl
 subst e0
 have B:=F.binds (ps:=["script"]) (fun _ _ _ _ _ _ us hl=>by obtain⟨_,rfl⟩:=us1 hl; rfl)
 refine⟨fd,fun s u=>?_,fun base kb nb=>?_⟩
 ·obtain⟨oc,od,kV,doc,pm,an,cdv,ct,osl,rfl,lk,hcd⟩:=F.ex
  exact .of_eq rfl
 ·obtain⟨f',fd',G1,hb,hk,hm',oc',od',osl',lk'⟩:=(Yc6 (P:=l.prog) (w:=w) (base:=base) T).ex
  have e1:f'=f:=by rw[hm] at hm'; cases hm'; rfl
  subst e1
  have e2:fd'=fd:=by
   obtain⟨oc,od,kV,doc,pm,an,cdv,ct,osl,e3,lk,hcd⟩:=F.ex
   rw[lk] at lk'
   have e4:=Xy.inj lk'
   injection e4 with _ _ e5 _
   injection e5 with e6
   exact e6.symm
  subst e2
  exact G1
end K08
open PySem PySem.W PyProof.Rows L2 DL
local macro_rules | `(tactic| fail $s:str)=>do
 if s.getString.take 1 != "=" then Lean.Macro.throwUnsupported
 let i:=Lean.mkIdent
 match (s.getString.drop 1).toString with
  | "T" => `(tactic| (show Tf (L2.KOf $(i `KX)) _ _ _; dsimp only[L2.KOf]; refine' tf_mk $(i `KX) $(i `G) ?a ?l ?c ?k; (case a=>k_is); (case l=>k_is); (case c=>k_is); (case k=>k_is)))
  | "N" => `(tactic| (refine' PySem.W.mg_none_of $(i `KX) $(i `G) ?z; (case z=>k_is)))
  | _=>Lean.Macro.throwUnsupported
set_option maxRecDepth 100000 in
set_option maxHeartbeats 0 in
theorem PySem.Challenge.cw_allsome_k38_whole_whoever_plays_by_row_p_holds : PySem.Challenge.rw_allsome_k38_whole_whoever_plays_by_row_p.Holds := by
 w_on; o_law; refine holds_open (q:=(PySem.Challenge.vwOf PySem.Challenge.pw_allsome_k38_whole_whoever_plays_by_row_p)) (loose:=[]) (Xt:=PySem.Challenge.xt0) (XP:=XL (PySem.Challenge.vwOf PySem.Challenge.pw_allsome_k38_whole_whoever_plays_by_row_p) []) (Yf:=Hook.obs PySem.Challenge.hk0) (Ya:=Hook.val PySem.Challenge.hk0) (YP:=InK PySem.Challenge.mk0.heap_39) (N:=4470) PySem.Challenge.left0 (Hook.of PySem.Challenge.hk0) (Hook.keeps PySem.Challenge.hk0) (fun s e=>xl_of s (Wem.mp e).1) XL.keeps (by rfl) (by rfl) (by rfl) (fun s e=>recFacts_of (Wem.mp e).2) (by rfl) (by assumption) (by decide +kernel) ⟨rfl,rfl,rfl,rfl,rfl,by decide +kernel⟩ ?hw ?hc
 (case hw=>w_witness2)
 k_fill
 refine K08.walk (l:=PySem.Challenge.rw_allsome_k38_whole_whoever_plays_by_row_p) rfl rfl rfl (fun w h Y=>Y) ?T K08.pure_law
 case T =>
  intro w mg h KX G
  have c_TRUTHS:Gc (L2.KOf KX) mg "TRUTHS" K08.k_TRUTHS:=by
   dsimp only[L2.KOf]
   refine' Zub KX G ?a ?l
   (case a=>k_is); (case l=>k_is)
  have v_claims_row:Fv (L2.KOf KX) mg "claims_row" := by
   dsimp only[L2.KOf]
   refine' fv_mk KX G ?za
   (case za=>k_is)
  exact⟨by fail "=T",by fail "=T",by fail "=T",by fail "=T",by fail "=T",by fail "=T",by fail "=T",by fail "=T",by fail "=T",by fail "=T",by fail "=T",by fail "=T",by fail "=T",by fail "=T",by fail "=T",by fail "=T",by fail "=T",by fail "=T",by fail "=T",by fail "=T",by fail "=T",by fail "=T",by fail "=T",by fail "=T",by fail "=T",by fail "=T",by fail "=T",by fail "=T",by fail "=T",by fail "=T",by fail "=T",by fail "=T",by fail "=T",by fail "=T",by fail "=T",by fail "=T",by fail "=T",by fail "=T",by fail "=T",by fail "=T",by fail "=T",by fail "=T",by fail "=T",by fail "=T",by fail "=T",by fail "=T",by fail "=T",by fail "=T",by fail "=T",by fail "=T",by fail "=T",by fail "=T",by fail "=T",by fail "=N",by fail "=N",by fail "=N",by fail "=N",by fail "=N",by fail "=N",by fail "=N",by fail "=N",by fail "=N",by fail "=N",by fail "=N",by fail "=N",by fail "=N",c_TRUTHS,v_claims_row⟩
