import PyProof.Rows.All
import Wide.All
import Wide.FinOn
import Lean
import PyProof.EqAt
import PyProof.EqKinds
import PyProof.TupleCall
import KE.KDictList
import KE.KDictOf
import KE.KIntText
import KE.KItemsList
import KE.KNest
import KE.KSortKey
import KE.KSortTup
import KE.KTryMore
import PyProof.AttrMissHeap
import PyProof.AutoSeq1
import PyProof.ExcAttrAll.ValueError
import PyProof.FitsBits
import PyProof.MeetsStr2
import PyProof.MinMaxWalk
import PyProof.P3Eq
import PyProof.P3In
import PyProof.ReprLen
import PyProof.Rows.DictRows
import PyProof.Rows.Own
import PyProof.Rows.RuleB_bool
import PyProof.Rows.TupIter
import PyProof.SeqI3
import PyProof.StrBlockG
import PyProof.StrOps2
import PyProof.StrWalks
import PyProof.SumWalkG
import PyProof.TupleOfSeq
import PyProof.WalkInts
import KE.KDictOf
import KE.KNest
import KE.KSortTup
import KE.KItemsList
import KE.KTryMore
import PySem.Challenge.RW_allsome_k40_claims_spread
set_option Elab.async false
set_option compiler.extract_closed false
set_option bootstrap.genMatcherCode false
set_option linter.all false
set_option maxRecDepth 100000
open PySem.Builtin.SmallTypes renaming ownedTupleIsFree → Ua, ownedTupleHandOut → Uc
open PySem.PyData renaming eqv → Ub, canLayAll0 → Tag, canLay0 → Tbl, eqvAll → Tbt, depth → Tca, bool → Tcj, strOk → Tcx, depthAll → Tcz
open PySem.Value renaming ref → Ud, type → Ul, none → Uq, notImplemented → Tcf, builtin → Tcl, bool → Tcq
open PySem.NameKind renaming free → Ue, cell → Taa
open Ne renaming symm → Uf
open PySem.Str renaming ofString → Ug
open PyProof.Rows renaming callWith_type1 → Uh, slot_tuple_getitem → Ui
open PySem.F renaming slot_enumerate_next → Uj, slot_dict_keyiterator_next → Um, slot_list_append → Ur, type_list_append → Us, slot_zip_next → Uu, slot_tuple_iterator_next → Uv, args_enumerate_next_1 → Tab, entry_enumerate_next → Tae, called_enumerate → Taf, slot_tuple_mul → Tak, args_tuple_add_2 → Tal, slot_tuple_count → Tam, slot_list_getattribute → Tan, entry_tuple_add → Tao, slot_zip_getattribute → Taq, slot_tuple_add → Tar, args_zip_next_1 → Tas, slot_tuple_lt → Tat, entry_enumerate_new → Tau, args_dict_keyiterator_next_1 → Tav, slot_bool_hash → Taw, entry_dict_keyiterator_next → Tax, entry_zip_next → Tay, args_tuple_iterator_next_1 → Taz, slot_int_rmul → Tbd, entry_tuple_iterator_next → Tbe, args_tuple_mul_2 → Tbk, entry_tuple_mul → Tbm, type_tuple_count → Tbo, slot_list_extend → Tbp, type_list_extend → Tbq, args_tuple_lt_2 → Tbr, entry_tuple_lt → Tbv, typeCall_enumerate_1 → Tbx, newCall_enumerate_1 → Tcc, args_object_init_2 → Tch, kt_typeCall_dict_1 → Tci, args_dict_init_2 → Tcn, args_int_rmul_2 → Tcs, entry_dict_init → Tcw
open PySem renaming sizeLine_eq → Uk, mem_of_lookup → Uo, Spec → Tbc, call → Tct, seqSlot_of → Tcy, Fin → Tdi
open ForInStep renaming yield → Ut, done → Tde
open PySem.Builtin.Slice renaming slicePlaces → Uw, sliceAdjust → Tai, sliceApplied → Tbh
open PySem.Around renaming under_plainId → Ux
open PySem.Builtin.Tuple renaming tupleExact → Uy, tupleItemsOf → Tah, tupleHashOf → Taj, tupleTooMany → Tbi, tupleIsExact → Tbj
open PySem.Builtin.List renaming listTooLong → Uz, listExtendWith → Tbf
open PySem.Builtin.Dict renaming updateFrom → Tac, selfAndRest → Tbn, pairItems → Tby, showsAll → Tcd
open False renaming elim → Tad
open PySem.Obj renaming data_mapFields → Tap, mapSeq → Tbb, isFreed_of_fields → Tcb, cls_mapFields → Tcv
open PySem.Builtin.Dict_items renaming ownsTuple → Tba
open PySem.Calls renaming Name_function_global → Tbg, callWith_builtin → Tbw, evalArgs_plain → Tcg, spliced_cons → Tck, spliced_nil → Tcr
open PySem.Shared renaming heap → Tbs
open PySem.AutoSeq1 renaming idx_int → Tbu
open PySem.W renaming OpenLaw → Tbz
open True renaming intro → Tce
open PySem.Code renaming quiet_builtin → Tcm
open Sum renaming inl → Tco, inr → Tcp
open List.Pairwise renaming nil → Tcu
open PySem.PassesOwn renaming never → Tda
open PySem.SeqAt.EqAt renaming bool_bool → Tdb, int_bool → Tdc, bool_int → Tdd
open PySem.SeqAt renaming EqAt → Tdf
open PyProof.Rows.SortSt renaming mk' → Tdg
open PySem.Paired renaming length → Tdh
open PySem.Expr renaming Call → Tdj
open Lean in
local macro_rules (kind:=Lean.Parser.Command.declaration) | d=>do
 if d[0].getArgs.any (fun x=>x[0].isOfKind `Lean.Parser.Command.nonrec) then return d.setArg 0 (<- `(command| noncomputable def a:=1)).raw[0]
 else Macro.throwUnsupported
open PySem renaming wpAny_bind → Va, Value → Vb, wpAny_pure → Vc, Shared → Vd, wpAny → Vf, Addr → Vg, model → Vj, starEach → Vk, Program → Vl, Paired → Vm, wpAny_callSpecial?_slot → Vn, wpAny_field → Vo, wpAny_setField_rec → Vp, wpAny_loadPart' → Vq, wpAny_call_entry → Vr, wpAny_holding → Vs, World → Vt, Around → Vu, bootBuiltins → Vv, mainGlobals → Vw, wpAny_newObj_type → Vx, wpAny_seqItems → Vz, tupleKind → Uaa, Heap → Uab, Expr → Uac, foldedSetIterable → Uae, binaryOp → Uaf, wpAny_attempt → Uag, compareOp → Uah, sysModules → Uai, wpAny_rule → Uaj, PyData → Uak, wpAny_typeNameOfWhole_keyiter → Ual, lookup_relabel_local → Uam, IsPair → Uan, wpAny_isInstance → Uao, wpAny_pyIter_tuple → Uap, wpAny_passesOwn → Uaq, pyNext → Uar, call_meets → Uas, codeAny_builtin → Uat, backTo → Uau, DictEntry → Uav, assignEach → Uaw, rawInt → Uax, wpAny_pyIter_enum → Uay, wpAny_pyIter_list → Uaz, IsEnum → Ubc, ZipApart → Ubd, wpAny_mono → Ube, wpAny_comprehension_free → Ubf, behindInMarks → Ubg, FuncData → Ubh, wpAny_Call_Name_kw → Ubi, NameKind → Ubj, getattributeRaised → Ubk, wpAny_truthy_bool → Ubm, sliceBounds → Ubn, wpAny_newTuple → Ubp, isSubtype_stop → Ubq, codeAny_mono → Ubr, wpAny_typeOf → Ubs, wpAny_notOrdered_dict → Ubt, storedH → Ubu, Stmt → Ubv, wpAny_updateSeq_pair → Ubw, wpAny_standAt → Ubx, typeLookup → Uby, keywordEach → Ubz, Keyword → Uca, wpAny_specialOf → Ucb, wpAny_letOwnedTupleGo_enum → Ucc, compEnvC → Ucd, Scope → Ucf, wpAny_binaryOp_repeat_ref → Ucg, wpAny_setField → Uch, firstArgMember → Uci, wpAny_dictEntries → Ucj, sizeLine_eq → Uck, codeAny → Ucl, attributeBase → Ucm, field → Ucn, wpAny_letGo → Uco, wpAny_onRaise → Ucp, plainId_quiet → Ucq, noFill_tuple_add → Ucs, wpAny_Call_method_late → Ucu, codeAny_compStart_list → Ucv, wpAny_execs_nil → Ucy, swapsWith → Ucz, letOwnedTupleGo → Uda, IsEnumOut → Udb, wpAny_stack_any → Udc, wpAny_dictEpoch → Udd, wpAny_isOneOf_keyiter → Ude, am_miss_of_fast → Udf, isSubtype_tuple_tuple → Udg, typeIs_int → Udh, wpAny_newFunctionEnv → Udj, codeAny_call_builtin → Udk, IsZip → Udl, assign → Udm, holding → Udp, getItem → Udq, callerA → Udr, seq_tuple_add → Udu, IsPart → Udv, backToKw → Udw, setField → Udx, sub_enumerate → Udy, wpAny_newList → Udz, concat_meets → Uea, callType_new → Ueb, Meets → Uec, hashInt → Ued, PassesOwn → Uee, wpAny_of_eq → Uef, wpAny_mkInt → Ueg, eqIsQuiet → Ueh, stored → Uei, BindsTo → Uej, Model → Uek
open PyProof.Rows renaming wpS_bind → Ve, wpS_pure → Vh, Keyed → Vi, wpS_forRange → Vy, SortSt → Uad, wpS_mono → Uba, IntsAre → Ubb, SortKind → Ubl, wpS_modify → Ubo, seqObj → Uce, wpS_get → Ucr, subscriptTail_builtinR → Uct, IsTup → Ucw, AllBare → Ucx, wpS_lift → Udi, envOfC → Udn, boot_enumerate → Udo, getElem?_mirror_all → Uds, wpS_reverse → Udt
open PySem.Heap renaming get?_push_of_some → Xa, lt_size → Xd, get?_push_size → Xe, SameBut → Xm, size_push → Wak, ExtBut → Wec, get?_update_self → Wez
open PySem.W renaming Frag → Xb, kia_one → Wca, fnOf → Wcl, keepIn → Wcv, Looks → Wdf, nsIn → Wdn, codeIn → Weh, methodObj → Wek, cellsFrom_some → Weu, WalkO → Wfl, kitx_list → Wfu, kas_mapM → Wgd, kat_nil → Wgk, kat_one → Wgl, mg_of → Wgn
open List renaming getElem?_eq_some_iff → Xc, size_toArray → Xj, replicate → Xk, mem_cons → Xl, append_nil → Xn, getElem?_append_left → Xo, length_append → Xp, mem_append → Xs, mem_append_right → Xu, append_assoc → Xv, mem_map → Xw, getElem?_eq_getElem → Xx, getElem?_set_self → Xy, mem_singleton → Xz, map_cons → Wab, take_append_drop → Wac, mem_iff_getElem → Waf, getElem?_append_right → Wag, getElem?_map → Wah, singleton_append → Wai, drop_eq_getElem_cons → Waj, map_map → Wal, mem_cons_of_mem → Wam, exists_cons_of_length_eq_add_one → Wan, length_take → Wao, length_map → Wap, mem_of_getElem? → War, length → Was, lookup_cons → Wax, pairwise_append → Waz, map_append → Wba, replicate_succ → Wbd, getElem?_set_ne → Wbe, cons → Wbf, flatten_cons → Wbg, extract_eq_take_drop → Wbj, length_nil → Wbk, foldl_cons → Wbl, find?_cons → Wbm, length_cons → Wbo, length_eq_zero_iff → Wbq, nil_append → Wbr, forIn_cons → Wbs, take_of_length_le → Wbt, drop_of_length_le → Wbu, length_drop → Wbv, mem_range → Wbw, pairwise_iff_getElem → Wby, mem_of_mem_drop → Wbz, take_add_one → Wcb, getElem?_cons_succ → Wcd, drop_eq_nil_of_le → Wcf, mem_cons_self → Wcg, nodup_cons → Wck, take_length_add_append → Wcn, idxOf_lt_length_of_mem → Wco, nodup_append → Wcp, getElem_take → Wcq, foldl_append → Wcr, getD_eq_getElem?_getD → Wcs, mem_of_mem_take → Wcu, forIn_nil → Wcw, getElem_append_right → Wcx, countP_cons → Wda, map_congr_left → Wdb, foldl → Wdc, Perm → Wdg, filter_cons_of_pos → Wdh, filter_cons_of_neg → Wdi, reverse_perm → Wdl, flatMap_cons → Wdm, mem_iff_getElem? → Wdo, length_filter_le → Wdp, all_eq_true → Wdq, not_mem_nil → Wdr, take_length → Wdt, take_append_of_le_length → Wdu, mem_append_left → Wdv, any_cons → Wdw, range → Wdy, filterMap_cons → Wdz, of_mem_zip → Wea, mem_filterMap → Wed, zip_cons_cons → Wee, map_nil → Wef, getElem?_zip_eq_some → Wei, nodup_nil → Wej, take_sublist → Wel, mapM_toArray → Wem, getElem_drop → Wen, getElem_append_left → Wep, getElem?_replicate → Weq, zipIdx_cons → Wet, find?_cons_of_pos → Wev, find?_cons_of_neg → Wew, mem_filter → Wex, countP_le_length → Wfd, length_take_le' → Wff, lookup → Wfh, reverse_append → Wfj, zip_nil_right → Wfk, map_replicate → Wfn, map_take → Wfo, filter_append → Wfp, getElem_idxOf → Wfq, find?_eq_none → Wfr, zip_nil_left → Wfs, getElem?_set → Wft, ext_getElem? → Wfv, drop_sublist → Wfw, pairwise_map → Wfx, mem_reverse → Wge, getElem_mem → Wgg, mem_flatMap → Wgh, zipIdx_nil → Wgj, map → Wgo
open Nat renaming le_refl → Xf, ne_of_lt → Xh, lt_of_lt_of_le → Xi, le_trans → Xq, lt_irrefl → Wat, lt_succ_of_lt → Way, zero_le → Wbx, ne_of_gt → Wcc, le_of_lt → Wcj, mul_le_mul → Wcy, lt_succ_self → Wcz, lt_of_succ_lt → Wdk, succ_le_succ → Wds, min_eq_left → Web, lt_or_eq_of_le → Weg, min_le_right → Wer, succ_ne_self → Wes, mul_comm → Wey, lt_trans → Wfb, zero_add → Wfc, le_succ → Wfi, succ_mul → Wfz, add_zero → Wga, min_eq_right → Wgb, max_eq_right → Wgf
open Array renaming getElem?_eq_getElem → Xg, length_toList → Wad, toList_append → Wae, getElem?_toList → Waw, toList_push → Wbi, toList_extract → Wbp, forIn_toList → Wch, getElem?_setIfInBounds → Wci, getD_eq_getD_getElem? → Wcm, toList_reverse → Wct, getD → Wdd, getElem?_eq_none → Wdj, eraseIdxIfInBounds → Weo, Perm → Wfe, toList → Wfy
open Bool renaming false_eq_true → Xr, false_ne_true → Wau, and_eq_true → Wbc, not_true → Wdx, or_eq_true → Wfa, and_eq_true_iff → Wfg
open Option renaming some → Waa, isSome_iff_exists → Wbn, isNone_none → Wfm, getD_none → Wgc, map → Wgm
open Int renaming toNat_natCast → Waq, emod_lt_of_pos → Wav, emod_nonneg → Wbb, toNat_of_nonneg → Wce, eq_ofNat_of_zero_le → Wde, min_eq_left → Wgi
open Prod renaming mk → Wbh
theorem Zo {α β:Type} {x:Option α} {f:α->Option β} {b:β} (h:x.bind f=some b):∃ a,x=some a/\f a=some b:=Option.bind_eq_some_iff.1 h
theorem Zm {α β:Type} {x:Option α} {f:α->β} {b:β} (h:x.map f=some b):∃ a,x=some a/\f a=b:=Option.map_eq_some_iff.1 h
theorem Zb {α β:Type} (a:α) (f:α->Option β):(some a).bind f=f a:=rfl
namespace PySem.W
open PySem
/-! the top run on a tree -/
def treeOf:List Obj->Nat->BT->Option BT
  | [],_,t=>some t
  | o::r,i,t=>match ((t.ins i o).get i).isSome with
    | true=>treeOf r (i+1) (t.ins i o)
    | false=>none
theorem treeOf_abs {life}:∀ (l:List Obj) (i:Nat) (t T:BT),treeOf l i t=some T->absHeap T (i+l.length) life=⟨(absHeap t i life).objs++l.toArray,life⟩
  | [],i,t,T,h=>by cases h; simp[absHeap]
  | o::r,i,t,T,h=>by
    unfold treeOf at h
    cases e:((t.ins i o).get i).isSome with
    | false=>rw[e] at h; cases h
    | true =>
      rw[e] at h
      have a:=treeOf_abs (life:=life) r (i+1) (t.ins i o) T h
      rw[absHeap_ins e] at a
      rw[List.length_cons,show i+(r.length+1)=i+1+r.length by omega,a]
      simp[Heap.push]
def topRunT (tb:String->Option Builtin) (p:Program) (w:World) (n₀:Nat) (ann:Option Value):Nat->SharedT->Thread->Option SharedT
  | 0,_,_=>none
  | n+1,s,t=>match through t with
    | true=>some s
    | false=>match stepOk n₀ ann t with
      | false=>none
      | true=>match stepT (denote tb) p w s t with
        | some (s',t')=>topRunT tb p w n₀ ann n s' t'
        | none=>none
theorem topRun_of {tb:String->Option Builtin} {p:Program} {w:World} {n₀:Nat} {ann:Option Value}:∀ {n:Nat} {s s':SharedT} {t:Thread},topRunT tb p w n₀ ann n s t=some s'->topRun tb p w n₀ ann n s.abs t=some s'.abs
  | 0,_,_,_,h=>by cases h
  | n+1,s,s',t,h=>by
    unfold topRunT at h
    unfold topRun
    cases he:through t with
    | true=>rw[he] at h; cases h; rfl
    | false =>
      rw[he] at h
      cases hk:stepOk n₀ ann t with
      | false=>rw[hk] at h; cases h
      | true =>
        rw[hk] at h
        cases hs:stepT (denote tb) p w s t with
        | none=>rw[hs] at h; cases h
        | some r=>obtain⟨s₂,t₂⟩:=r; rw[hs] at h; rw[stepT_spec hs]; exact topRun_of h
def topT (tb:String->Option Builtin) (p:Program) (w:World) (N:Nat) (s₀:Shared):Option Shared :=
  match s₀.heap.isNs mainGlobals&&s₀.gens.size==0 with
  | true=>(treeOf s₀.heap.objs.toList 0 .nil).bind fun T=>(topRunT tb p w s₀.heap.objs.size (s₀.heap.nsMap mainGlobals "__annotations__") N ⟨T,s₀.heap.objs.size,s₀.heap.life,s₀.gens,s₀.drawn,s₀.toks,s₀.os⟩ (topStub p)).bind fun s₁ =>
    match staticsOk (importedModules p.main.body) s₀.heap s₁.abs.heap&&namesBound p s₁.abs.heap&&gensDone s₁.abs&&laidKept s₀.heap s₁.abs.heap with
    | true=>some s₁.abs
    | false=>none
  | false=>none
theorem topT_of {tb:String->Option Builtin} {p:Program} {w:World} {N:Nat} {s₀ r:Shared} (h:topT tb p w N s₀=some r):topFrom tb p w N s₀=some r:=by
  unfold topT at h
  unfold topFrom
  cases e:(s₀.heap.isNs mainGlobals&&s₀.gens.size==0) with
  | false=>rw[e] at h; cases h
  | true =>
    rw[e] at h
    obtain⟨T,h1,h⟩:=Option.bind_eq_some_iff.mp h
    obtain⟨s₁,h2,h⟩:=Option.bind_eq_some_iff.mp h
    have a:=treeOf_abs (life:=s₀.heap.life) _ _ _ _ h1
    have b:=topRun_of h2
    have c:(SharedT.mk T s₀.heap.objs.size s₀.heap.life s₀.gens s₀.drawn s₀.toks s₀.os).abs=s₀:=by
      unfold SharedT.abs
      have z:absHeap T s₀.heap.objs.size s₀.heap.life=s₀.heap:=by
        have a':=a
        rw[Nat.zero_add] at a'
        rw[show s₀.heap.objs.size=s₀.heap.objs.toList.length by simp,a']
        obtain⟨⟨objs,life⟩,g,d,t,o⟩:=s₀
        simp[absHeap,BT.list]
      show Shared.mk (absHeap T s₀.heap.objs.size s₀.heap.life) s₀.gens s₀.drawn s₀.toks s₀.os=s₀
      rw[z]
    rw[c] at b
    rw[b]
    exact h
end PySem.W
section
open PySem PySem.W PyProof.Rows
nonrec def PySem.Challenge.vwOf (p:Vl):Vl:={ p with main:={ p.main with body:=[0,2,3,4,5,6,8,9,10,11,12,13,14,15,16,17,18,19,20,21].filterMap fun i=>p.main.body[i]? } }
local macro_rules | `(tactic| o_head $_) => `(tactic| exact Tad (by assumption))
set_option maxRecDepth 100000 in
set_option maxHeartbeats 0 in
theorem PySem.Challenge.mk0:False->PySem.Challenge.rw_allsome_k40_claims_spread.Holds:=by
 intro f; w_on; o_law; k_head
nonrec def PySem.Challenge.hk0:Hook:=kHook PySem.Challenge.mk0.heap_39 [2,3,6,15,16,19,20,21,24,25,26,29,30,31,33,34,36,37,38,41,42,43,45,46,48,49,50,52,53,55,56,57,59,60,62,63,64,66,67,69,70,71,73,74,76,77,78,81,82,83,85,86,88,89,90,93,94,95,97,98,100,101,102,104,105,107,108,109,112,113,114,117,118,119,122,123,124,126,127,129,130] (fun _=>by kernel_rfl)
nonrec def PySem.Challenge.xt0 (s:Vd):Bool:=xlAt (PySem.Challenge.vwOf PySem.Challenge.pw_allsome_k40_claims_spread) [] s&&recOk (RowW.records (OpenRow.toRowW (OpenLaw.row PySem.Challenge.rw_allsome_k40_claims_spread))) s
set_option maxRecDepth 100000 in
theorem PySem.Challenge.left1 (w:World) (os:OsState):(topT treeTable (OpenLaw.row PySem.Challenge.rw_allsome_k40_claims_spread).prog w 1330 ⟨boot_heap w.params,Array.mk [],boot_drawn,boot_toks,os⟩).map (fun s=>(openSeen (PySem.Challenge.vwOf PySem.Challenge.pw_allsome_k40_claims_spread) [] (importedModules (OpenLaw.row PySem.Challenge.rw_allsome_k40_claims_spread).prog.main.body) PySem.Challenge.xt0 true s).1)=some ((openGood (PySem.Challenge.vwOf PySem.Challenge.pw_allsome_k40_claims_spread) []).1):=by
 unfold PySem.Challenge.xt0
 try rewrite[PySem.W.Fast.te4187177175401517315]
 try rewrite[PySem.W.Fast.te5923862056798008813]
 try rewrite[PySem.W.Fast.te2368527892694137696]
 try rewrite[PySem.W.Fast.te4944967477100241178]
 try rewrite[PySem.W.Fast.te2336630738873758614]
 try rewrite[PySem.W.Fast.te14364793385576792824]
 kernel_rfl
set_option maxRecDepth 100000 in
theorem PySem.Challenge.left2 (w:World) (os:OsState):(topT treeTable (OpenLaw.row PySem.Challenge.rw_allsome_k40_claims_spread).prog w 1330 ⟨boot_heap w.params,Array.mk [],boot_drawn,boot_toks,os⟩).map (fun s=>(openSeen (PySem.Challenge.vwOf PySem.Challenge.pw_allsome_k40_claims_spread) [] (importedModules (OpenLaw.row PySem.Challenge.rw_allsome_k40_claims_spread).prog.main.body) PySem.Challenge.xt0 true s).2.1)=some ((openGood (PySem.Challenge.vwOf PySem.Challenge.pw_allsome_k40_claims_spread) []).2.1):=by
 unfold PySem.Challenge.xt0
 try rewrite[PySem.W.Fast.te4187177175401517315]
 try rewrite[PySem.W.Fast.te5923862056798008813]
 try rewrite[PySem.W.Fast.te2368527892694137696]
 try rewrite[PySem.W.Fast.te4944967477100241178]
 try rewrite[PySem.W.Fast.te2336630738873758614]
 try rewrite[PySem.W.Fast.te14364793385576792824]
 kernel_rfl
set_option maxRecDepth 100000 in
theorem PySem.Challenge.left3 (w:World) (os:OsState):(topT treeTable (OpenLaw.row PySem.Challenge.rw_allsome_k40_claims_spread).prog w 1330 ⟨boot_heap w.params,Array.mk [],boot_drawn,boot_toks,os⟩).map (fun s=>(openSeen (PySem.Challenge.vwOf PySem.Challenge.pw_allsome_k40_claims_spread) [] (importedModules (OpenLaw.row PySem.Challenge.rw_allsome_k40_claims_spread).prog.main.body) PySem.Challenge.xt0 true s).2.2.1)=some ((openGood (PySem.Challenge.vwOf PySem.Challenge.pw_allsome_k40_claims_spread) []).2.2.1):=by
 unfold PySem.Challenge.xt0
 try rewrite[PySem.W.Fast.te4187177175401517315]
 try rewrite[PySem.W.Fast.te5923862056798008813]
 try rewrite[PySem.W.Fast.te2368527892694137696]
 try rewrite[PySem.W.Fast.te4944967477100241178]
 try rewrite[PySem.W.Fast.te2336630738873758614]
 try rewrite[PySem.W.Fast.te14364793385576792824]
 kernel_rfl
set_option maxRecDepth 100000 in
theorem PySem.Challenge.left456789 (w:World) (os:OsState):(topT treeTable (OpenLaw.row PySem.Challenge.rw_allsome_k40_claims_spread).prog w 1330 ⟨boot_heap w.params,Array.mk [],boot_drawn,boot_toks,os⟩).map (fun s=>((openSeen (PySem.Challenge.vwOf PySem.Challenge.pw_allsome_k40_claims_spread) [] (importedModules (OpenLaw.row PySem.Challenge.rw_allsome_k40_claims_spread).prog.main.body) PySem.Challenge.xt0 true s).2.2.2.1,(openSeen (PySem.Challenge.vwOf PySem.Challenge.pw_allsome_k40_claims_spread) [] (importedModules (OpenLaw.row PySem.Challenge.rw_allsome_k40_claims_spread).prog.main.body) PySem.Challenge.xt0 true s).2.2.2.2.1,(openSeen (PySem.Challenge.vwOf PySem.Challenge.pw_allsome_k40_claims_spread) [] (importedModules (OpenLaw.row PySem.Challenge.rw_allsome_k40_claims_spread).prog.main.body) PySem.Challenge.xt0 true s).2.2.2.2.2.1,(openSeen (PySem.Challenge.vwOf PySem.Challenge.pw_allsome_k40_claims_spread) [] (importedModules (OpenLaw.row PySem.Challenge.rw_allsome_k40_claims_spread).prog.main.body) PySem.Challenge.xt0 true s).2.2.2.2.2.2.1,(openSeen (PySem.Challenge.vwOf PySem.Challenge.pw_allsome_k40_claims_spread) [] (importedModules (OpenLaw.row PySem.Challenge.rw_allsome_k40_claims_spread).prog.main.body) PySem.Challenge.xt0 true s).2.2.2.2.2.2.2.1,(openSeen (PySem.Challenge.vwOf PySem.Challenge.pw_allsome_k40_claims_spread) [] (importedModules (OpenLaw.row PySem.Challenge.rw_allsome_k40_claims_spread).prog.main.body) PySem.Challenge.xt0 true s).2.2.2.2.2.2.2.2))=some (((openGood (PySem.Challenge.vwOf PySem.Challenge.pw_allsome_k40_claims_spread) []).2.2.2.1,(openGood (PySem.Challenge.vwOf PySem.Challenge.pw_allsome_k40_claims_spread) []).2.2.2.2.1,(openGood (PySem.Challenge.vwOf PySem.Challenge.pw_allsome_k40_claims_spread) []).2.2.2.2.2.1,(openGood (PySem.Challenge.vwOf PySem.Challenge.pw_allsome_k40_claims_spread) []).2.2.2.2.2.2.1,(openGood (PySem.Challenge.vwOf PySem.Challenge.pw_allsome_k40_claims_spread) []).2.2.2.2.2.2.2.1,(openGood (PySem.Challenge.vwOf PySem.Challenge.pw_allsome_k40_claims_spread) []).2.2.2.2.2.2.2.2)):=by
 unfold PySem.Challenge.xt0
 try rewrite[PySem.W.Fast.te4187177175401517315]
 try rewrite[PySem.W.Fast.te5923862056798008813]
 try rewrite[PySem.W.Fast.te2368527892694137696]
 try rewrite[PySem.W.Fast.te4944967477100241178]
 try rewrite[PySem.W.Fast.te2336630738873758614]
 try rewrite[PySem.W.Fast.te14364793385576792824]
 kernel_rfl
set_option maxRecDepth 100000 in
theorem PySem.Challenge.leftc (w:World) (os:OsState):(topT treeTable (OpenLaw.row PySem.Challenge.rw_allsome_k40_claims_spread).prog w 1330 ⟨boot_heap w.params,Array.mk [],boot_drawn,boot_toks,os⟩).map (fun s=>PySem.Challenge.hk0.obs s)=some (PySem.Challenge.hk0.val w):=by
 try rewrite[PySem.W.Fast.te4187177175401517315]
 try rewrite[PySem.W.Fast.te5923862056798008813]
 try rewrite[PySem.W.Fast.te2368527892694137696]
 try rewrite[PySem.W.Fast.te4944967477100241178]
 try rewrite[PySem.W.Fast.te2336630738873758614]
 try rewrite[PySem.W.Fast.te14364793385576792824]
 kernel_rfl
theorem PySem.Challenge.left0:LeftO (OpenLaw.row PySem.Challenge.rw_allsome_k40_claims_spread).prog (PySem.Challenge.vwOf PySem.Challenge.pw_allsome_k40_claims_spread) [] PySem.Challenge.xt0 PySem.Challenge.hk0.obs PySem.Challenge.hk0.val 1330:=fun w=>by
 obtain⟨⟨h,g,d,t,os⟩,hs,hv⟩:=Option.map_eq_some_iff.mp (boot_open (p:=(OpenLaw.row PySem.Challenge.rw_allsome_k40_claims_spread).prog) (N:=1330) (by kernel_rfl) (by kernel_rfl) (fun s=>by kernel_rfl) w)
 obtain⟨e1,hv⟩:=Prod.mk.inj (show (h,g,d,t)=_ from hv)
 obtain⟨e2,hv⟩:=Prod.mk.inj hv
 obtain⟨e3,e4⟩:=Prod.mk.inj hv
 subst e1; subst e2; subst e3; subst e4
 obtain⟨r,hz,hc⟩:=Option.map_eq_some_iff.mp (PySem.Challenge.leftc w os)
 have h1:=PySem.Challenge.left1 w os
 rw[hz,Option.map_some] at h1
 replace h1:=Option.some.inj h1
 have h2:=PySem.Challenge.left2 w os
 rw[hz,Option.map_some] at h2
 replace h2:=Option.some.inj h2
 have h3:=PySem.Challenge.left3 w os
 rw[hz,Option.map_some] at h3
 replace h3:=Option.some.inj h3
 have h456789:=PySem.Challenge.left456789 w os
 rw[hz,Option.map_some] at h456789
 replace h456789:=Option.some.inj h456789
 unfold openEnds
 rw[hs,Option.bind_some,topT_of hz]
 exact congrArg some (Prod.ext (Prod.ext h1 (Prod.ext h2 (Prod.ext h3 (Prod.ext (congrArg (fun z=>z.1) h456789) (Prod.ext (congrArg (fun z=>z.2.1) h456789) (Prod.ext (congrArg (fun z=>z.2.2.1) h456789) (Prod.ext (congrArg (fun z=>z.2.2.2.1) h456789) (Prod.ext (congrArg (fun z=>z.2.2.2.2.1) h456789) (congrArg (fun z=>z.2.2.2.2.2) h456789))))))))) hc)
end
namespace L2
open PySem PySem.Spec PyProof.Rows
nonrec abbrev Key:=Sum Int Str
nonrec def Zv0:Key->Vb->Bool
 | .inl k,v=>Value.isInt k v
 | .inr x,v=>Value.isStrOf x v
nonrec def keyH (w:Vt):Key->Int
 | .inl k=>Ued k
 | .inr x=>hashStr w x
theorem Zay:∀ {k:Key} {v:Vb},Zv0 k v=true->(∃ i t,k=Tco i/\v=Value.int i t)\/(∃ x t,k=Tcp x/\v=Value.str x t)
 | .inl i,v,h=>by
  obtain⟨t,e⟩:=Value.isInt_shape (k:=i) (v:=v) h
  exact .inl ⟨i,t,rfl,e⟩
 | .inr x,v,h=>by
  obtain⟨t,e⟩:=Value.isStrOf_shape (x:=x) (v:=v) h
  exact .inr ⟨x,t,rfl,e⟩
theorem Zvq (a b:Int):decide ((Tco a:Key)=Tco b)=(a==b):=by
 by_cases e:a=b
 ·subst e; simp
 ·have h:¬ (Tco a:Key)=Tco b:=fun q=>e (Sum.inl.inj q)
  rw[decide_eq_false h]
  exact(beq_eq_false_iff_ne.mpr e).symm
theorem Zxl (a b:Str):decide ((Tcp a:Key)=Tcp b)=decide (a=b):=by
 by_cases e:a=b
 ·subst e; simp
 ·have h:¬ (Tcp a:Key)=Tcp b:=fun q=>e (Sum.inr.inj q)
  rw[decide_eq_false h,decide_eq_false e]
theorem Zvr (a:Int) (b:Str):decide ((Tco a:Key)=Tcp b)=false:=decide_eq_false (fun q=>nomatch q)
theorem Zxd (a:Str) (b:Int):decide ((Tcp a:Key)=Tco b)=false:=decide_eq_false (fun q=>nomatch q)
nonrec def Zj7 (prog:Vl) (w:Vt):PySem.KeyKind prog w Key where
 is:=Zv0
 hash:=keyH w
 inj:=fun v a b ha hb=>by
  rcases Zay ha with ⟨i,t,rfl,rfl⟩ | ⟨x,t,rfl,rfl⟩
  ·rcases Zay hb with ⟨j,u,rfl,e⟩ | ⟨y,u,rfl,e⟩
   ·injection e with e1 _; rw[e1]
   ·exact nomatch e
  ·rcases Zay hb with ⟨j,u,rfl,e⟩ | ⟨y,u,rfl,e⟩
   ·exact nomatch e
   ·injection e with e1 _; rw[e1]
 byValue:=fun k v h=>by
  rcases Zay h with ⟨i,t,rfl,rfl⟩ | ⟨x,t,rfl,rfl⟩<;>rfl
 pyHash:=fun hv h=>by
  rcases Zay hv with ⟨i,t,rfl,rfl⟩ | ⟨x,t,rfl,rfl⟩
  ·exact wpAny_pyHash_int h
  ·exact wpAny_pyHash_str h
 eqBool:=fun hu hv h=>by
  rcases Zay hu with ⟨i,t,rfl,rfl⟩ | ⟨x,t,rfl,rfl⟩
  ·rcases Zay hv with ⟨j,u,rfl,rfl⟩ | ⟨y,u,rfl,rfl⟩
   ·rw[Zvq] at h; exact wpAny_eqBool_int h
   ·rw[Zvr] at h; exact SeqAt.EqAt.int_str i t y u _ _ _ _ h
  ·rcases Zay hv with ⟨j,u,rfl,rfl⟩ | ⟨y,u,rfl,rfl⟩
   ·rw[Zxd] at h; exact SeqAt.EqAt.str_int x t j u _ _ _ _ h
   ·rw[Zxl] at h; exact wpAny_eqBool_str h
 «strs»:=fun k x t v h=>by
  rcases Zay h with ⟨i,u,rfl,e⟩ | ⟨y,u,rfl,e⟩
  ·exact nomatch e
  ·injection e with e1 _
   subst e1
   cases v<;>rfl
inductive V where
 | non | bl (b:Bool) | int (i:Int) | str (x:Str) | byt (b:Array UInt8) | flt (b:UInt64) | ref (a:Vg) | ty (n:String)
nonrec def Zbc:V->Vb->Prop
 | .non,u=>u=Uq
 | .bl b,u=>u=Tcq b
 | .int i,u=>∃ t,u=Value.int i t
 | .str x,u=>∃ t,u=Value.str x t
 | .byt b,u=>∃ t,u=Value.bytes b t
 | .flt b,u=>∃ t,u=Value.float b t
 | .ref a,u=>u=Ud a
 | .ty n,u=>u=Ul n
nonrec abbrev Za9:List V->List Vb->Prop:=Vm Zbc
theorem Za9.length {xs:List V} {us:List Vb} (r:Za9 xs us):xs.length=us.length:=Tdh r
theorem Za9.get:∀ {xs:List V} {us:List Vb} {i:Nat} {x:V},Za9 xs us->xs[i]? = some x->∃ u,us[i]? = some u/\Zbc x u
 | _,_,_,_,.nil,e=>by simp at e
 | _,_,0,_,.cons r _,e=>by simp at e; subst e; exact⟨_,rfl,r⟩
 | _,_,i+1,x,.cons _ t,e=>by
  obtain⟨u,h1,h2⟩:=Za9.get (i:=i) (x:=x) t (by simpa using e)
  exact⟨u,by simpa using h1,h2⟩
theorem Za9.append:∀ {xs ys:List V} {us ws:List Vb},Za9 xs us->Za9 ys ws->Za9 (xs++ys) (us++ws)
 | _,_,_,_,.nil,s=>s
 | _,_,_,_,.cons r t,s=>.cons r (Za9.append t s)
theorem Za9.take:∀ {xs:List V} {us:List Vb} (n:Nat),Za9 xs us->Za9 (xs.take n) (us.take n)
 | _,_,0,_=>.nil
 | _,_,_+1,.nil=>.nil
 | _,_,n+1,.cons r t=>.cons r (Za9.take n t)
theorem Za9.drop:∀ {xs:List V} {us:List Vb} (n:Nat),Za9 xs us->Za9 (xs.drop n) (us.drop n)
 | _,_,0,r=>r
 | _,_,_+1,.nil=>.nil
 | _,_,n+1,.cons _ t=>Za9.drop n t
nonrec def RelO:Option V->Option Vb->Prop
 | some v,some u=>Zbc v u
 | none,none=>True
 | _,_=>False
nonrec def KV {κ:Type}:List (κ×V)->List (κ×Vb)->Prop:=Vm fun(p:κ×V) (q:κ×Vb)=>p.1=q.1/\Zbc p.2 q.2
nonrec def kV:Key->V
 | .inl i=>.int i
 | .inr x=>.str x
inductive HO where
 | lst (xs:List V)
 | tup (xs:List V)
 | dK (kvs:List (Key×V)) | dT (kvs:List (List Key×V))
 | set (S:Int->Bool) (n:Nat)
 | ins (C dx:Vg) (fs:List (Str×V))
 | own (x:Vg)
 | xd (fs:List (Str×V))
 | met (f x:Vg)
 | rng (lo hi:Int)
 | frz (o:Obj) (u:HO)
 | tbl (ps:Array Vb)
 | ext (φ:Uab->Prop)
nonrec abbrev Hp:=Vg->Option HO
nonrec def upd (H:Hp) (a:Vg) (o:HO):Hp:=fun b=>if b=a then some o else H b
theorem Zas {H:Hp} {a:Vg} {o:HO}:upd H a o a=some o:=by unfold upd; rw[if_pos rfl]
theorem Zaf {H:Hp} {a b:Vg} {o:HO} (h:b≠a):upd H a o b=H b:=by unfold upd; rw[if_neg h]
theorem Zib {H:Hp} {a b:Vg} {o u:HO} (h:H a=some o) (h':H b=some u) (d:o≠u):a≠b:=by
 intro e; subst e; rw[h] at h'; exact d (Waa.inj h')
theorem Zae {H:Hp} {a b:Vg} {o:HO} (h:H a=some o) (h':H b=none):a≠b:=by
 intro e; subst e; rw[h] at h'; cases h'
def Zh0 (h:Uab) (a:Vg) (items:Array Vb):Prop:=∃ o,h.get? a=some o/\o.cls=.type "tuple" /\ (∃ n,o.data=.seq items n)/\o.dict=none
theorem Zh0.new (h:Uab) (items:Array Vb):Zh0 (h.push { cls:=.type "tuple",data:=.seq items }) h.objs.size items:=⟨_,Xe _ rfl,rfl,⟨_,rfl⟩,rfl⟩
theorem Zh0.tup {h:Uab} {a:Vg} {items:Array Vb} (x:Zh0 h a items):Ucw h a items:=let ⟨o,e,c,d,_⟩:=x; ⟨o,e,c,d⟩
section
variable (P:Vl) (w:Vt)
nonrec def Zcr (H:Hp) (h:Uab) (a:Vg):HO->Prop
 | .lst xs=>xs.length<=sizeLine/\∃ (its:List Vb) (n:Nat),Za9 xs its/\h.get? a=some { cls:=.type "list",data:=.seq its.toArray n }
 | .tup xs=>xs.length<=sizeLine/\∃ its:List Vb,Za9 xs its/\Zh0 h a its.toArray
 | .dK kvs=>kvs.length<=sizeLine/\(a==Uai)=false/\∃ vs,KV kvs vs/\h.DictOf (Zj7 P w) a vs
 | .dT kvs=>kvs.length<=sizeLine/\(a==Uai)=false/\∃ xs:List (List Key×Vg×Vb),
   Vm (fun(p:List Key×V) (q:List Key×Vg×Vb)=>p.1=q.1/\H q.2.1=some (.tup (p.1.map kV))/\Zbc p.2 q.2.2) kvs xs /\
   ∃ o es ep,h.get? a=some o/\o.ExactDict/\o.data=.dict es ep/\es.toList=xs.map (entryOfKey (Uaa (Zj7 P w)))/\(xs.map (·.1)).Nodup
 | .set S n=>h.SetOf (intKind P w) a S n
 | .ins C dx fs=>H dx=some (.own a)/\fs.length<=1000/\dx≠a/\h.get? a=some (PySem.W.instObj C dx) /\
   ∃ mA,h.Ns1 dx mA/\(∀ f,RelO (fs.lookup f) (mA f))/\PySem.Within mA (fs.map (·.1))
 | .own _=>∃ o,h.get? a=some o
 | .xd fs=>∃ mA,h.Ns1 a mA/\∀ f,RelO (fs.lookup f) (mA f)
 | .rng lo hi=>∃ t u v,h.get? a=some { cls:=.type "range",data:=.fields #[.int lo t,.int hi u,.int 1 v] }
 | .frz o u=>h.get? a=some o/\Zcr H h a u
 | .tbl ps=>h.get? a=some { cls:=.none,data:=.fields ps }
 | .met f x=>h.get? a=some (Wek (.ref f) (.ref x))
 | .ext φ=>φ h/\(∃ o,h.get? a=some o)/\∀ h1 h2:Uab,φ h1->(∀ o,h1.get? a=some o->h2.get? a=some o)->φ h2
def HOk (H:Hp) (h:Uab):Prop:=∀ a o,H a=some o->Zcr P w H h a o
end
section
variable {P:Vl} {w:Vt} {H H':Hp} {h h':Uab} {a:Vg} {o:HO}
theorem Zcr.lt (x:Zcr P w H h a o):a<h.objs.size:=by
 cases o with
 | lst xs=>obtain⟨_,_,_,_,e⟩:=x; exact Xd e
 | tup xs=>obtain⟨_,_,_,p⟩:=x; exact p.tup.lt
 | dK kvs=>obtain⟨_,_,_,_,o,_,_,e,_⟩:=x; exact Xd e
 | dT kvs=>obtain⟨_,_,_,_,o,_,_,e,_⟩:=x; exact Xd e
 | set S n=>obtain⟨o,_,_,_,e,_⟩:=x; exact Xd e
 | ins C dx fs=>obtain⟨_,_,_,e,_⟩:=x; exact Xd e
 | own y=>obtain⟨_,e⟩:=x; exact Xd e
 | xd fs=>obtain⟨_,⟨_,_,_,e,_⟩,_⟩:=x; exact Xd e
 | rng lo hi=>obtain⟨_,_,_,e⟩:=x; exact Xd e
 | frz ob u=>obtain⟨e,_⟩:=x; exact Xd e
 | tbl ps=>exact Xd (show h.get? a=some _ from x)
 | met f y=>exact Xd (show h.get? a=some _ from x)
 | ext φ=>obtain⟨_,⟨_,e⟩,_⟩:=x; exact Xd e
theorem Paired.mapP {α β:Type} {F G:α->β->Prop}:∀ {l₁:List α} {l₂:List β},Vm F l₁ l₂->(∀ a b,F a b->G a b)->Vm G l₁ l₂
 | _,_,.nil,_=>.nil
 | _,_,.cons r t,f=>.cons (f _ _ r) (Paired.mapP t f)
theorem Zcr.stay (x:Zcr P w H h a o) (k:∀ b u,(b=a\/H b=some (.own a))->h.get? b=some u->h'.get? b=some u)
  (ho:∀ b,H b=some (.own a)->H' b=some (.own a)) (ht:∀ b xs,H b=some (.tup xs)->H' b=some (.tup xs)):Zcr P w H' h' a o:=by
 induction o with
 | lst xs=>obtain⟨z,its,n,r,e⟩:=x; exact⟨z,its,n,r,k _ _ (.inl rfl) e⟩
 | tup xs=>obtain⟨z,its,r,ob,e,c⟩:=x; exact⟨z,its,r,ob,k _ _ (.inl rfl) e,c⟩
 | dK kvs=>obtain⟨z,y,vs,r,ob,es,ep,e,c⟩:=x; exact⟨z,y,vs,r,ob,es,ep,k _ _ (.inl rfl) e,c⟩
 | dT kvs =>
  obtain⟨z,y,xs,r,ob,es,ep,e,c⟩:=x
  exact⟨z,y,xs,Paired.mapP r fun p q z=>⟨z.1,ht _ _ z.2.1,z.2.2⟩,ob,es,ep,k _ _ (.inl rfl) e,c⟩
 | set S n=>obtain⟨ob,es,ep,t,e,c⟩:=x; exact⟨ob,es,ep,t,k _ _ (.inl rfl) e,c⟩
 | ins C dx fs =>
  obtain⟨d,z,ne,e,mA,⟨od,es,ep,e2,c⟩,r⟩:=x
  exact⟨ho _ d,z,ne,k _ _ (.inl rfl) e,mA,⟨od,es,ep,k _ _ (.inr d) e2,c⟩,r⟩
 | own y=>obtain⟨ob,e⟩:=x; exact⟨ob,k _ _ (.inl rfl) e⟩
 | xd fs=>obtain⟨mA,⟨od,es,ep,e,c⟩,r⟩:=x; exact⟨mA,⟨od,es,ep,k _ _ (.inl rfl) e,c⟩,r⟩
 | rng lo hi=>obtain⟨t,u,v,e⟩:=x; exact⟨t,u,v,k _ _ (.inl rfl) e⟩
 | frz ob u ih=>obtain⟨e,q⟩:=x; exact⟨k _ _ (.inl rfl) e,ih q⟩
 | tbl ps =>
  have e:h.get? a=some { cls:=.none,data:=.fields ps }:=x
  show h'.get? a=some { cls:=.none,data:=.fields ps }
  exact k a _ (.inl rfl) e
 | met f y =>
  have e:h.get? a=some (Wek (.ref f) (.ref y)):=x
  show h'.get? a=some (Wek (.ref f) (.ref y))
  exact k a _ (.inl rfl) e
 | ext φ=>obtain⟨p,⟨o,e⟩,st⟩:=x; exact⟨st _ _ p fun o q=>k _ _ (.inl rfl) q,⟨o,k _ _ (.inl rfl) e⟩,st⟩
theorem HOk.lt (x:HOk P w H h) (e:H a=some o):a<h.objs.size:=(x a o e).lt
theorem HOk.fresh (x:HOk P w H h) (e:h.objs.size<=a):H a=none:=by
 cases q:H a with
 | none=>rfl
 | some u=>exact absurd (Xi (x.lt q) e) (Wat _)
theorem HOk.kept (x:HOk P w H h) (k:∀ b u,h.get? b=some u->h'.get? b=some u):HOk P w H h':=fun a o e =>
 (x a o e).stay (fun b u _ q=>k b u q) (fun _ q=>q) fun _ _ q=>q
theorem HOk.laid (x:HOk P w H h) (k:∀ b u,h.get? b=some u->h'.get? b=some u) (hp:h.objs.size<=a) (new:Zcr P w (upd H a o) h' a o):HOk P w (upd H a o) h':=fun b u e=>by
 have hn:=x.fresh hp
 by_cases hb:b=a
 ·subst hb; rw[Zas] at e; cases e; exact new
 ·rw[Zaf hb] at e
  exact(x b u e).stay (fun c v _ q=>k c v q) (fun c q=>by rw[Zaf (Zae q hn)]; exact q) fun c xs q=>by rw[Zaf (Zae q hn)]; exact q
end
def Rd (H:Hp) (a:Vg) (u:HO):Prop:=H a=some u\/∃ o,H a=some (.frz o u)
theorem Rd.ok {P:Vl} {w:Vt} {H:Hp} {h:Uab} {a:Vg} {u:HO} (r:Rd H a u) (x:HOk P w H h):Zcr P w H h a u:=by
 rcases r with r | ⟨o,r⟩
 ·exact x a u r
 ·obtain⟨_,q⟩:=x a _ r
  exact q
nonrec def Mut:Option HO->Prop
 | some (.lst _)=>True
 | some (.dK _)=>True
 | some (.dT _)=>True
 | some (.set _ _)=>True
 | some (.ins _ _ _)=>True
 | some (.ext _)=>True
 | _=>False
section
variable {P:Vl} {w:Vt} {H:Hp} {h h':Uab} {x e:Vg} {o':HO}
theorem HOk.write (ok:HOk P w H h) (mu:Mut (H x)) (he:e=x\/H e=some (.own x)) (k:∀ b u,b≠e->h.get? b=some u->h'.get? b=some u) (heo:∃ u,h'.get? e=some u)
  (new:Zcr P w (upd H x o') h' x o'):HOk P w (upd H x o') h':=fun b u q=>by
 have nown:∀ c y,H c=some (.own y)->c≠x:=fun c y r z=>by subst z; rw[r] at mu; exact mu
 have ntup:∀ c xs,H c=some (.tup xs)->c≠x:=fun c xs r z=>by subst z; rw[r] at mu; exact mu
 by_cases hb:b=x
 ·subst hb; rw[Zas] at q; cases q; exact new
 ·rw[Zaf hb] at q
  by_cases hbe:b=e
  ·have q':H b=some (.own x):=by
    rcases he with z | z
    ·exact absurd (hbe.trans z) hb
    ·rw[hbe]; exact z
   rw[q] at q'; cases q'
   obtain⟨v,hv⟩:=heo
   exact⟨v,by rw[hbe]; exact hv⟩
  ·refine(ok b u q).stay (fun c v hc r=>k c v ?_ r) (fun c r=>by rw[Zaf (nown c b r)]; exact r) fun c xs r=>by rw[Zaf (ntup c xs r)]; exact r
   rcases hc with rfl | hc
   ·exact hbe
   ·rintro rfl
    rcases he with z | z
    ·exact nown c b hc z
    ·rw[hc] at z; cases z; exact hb rfl
end
structure Un (fs ex:List Vg) (H H':Hp) (h h':Uab):Prop where
 keep:∀ b o,h.get? b=some o->H b=none->b∉fs->b∉ex->h'.get? b=some o
 slot:∀ b o,h.get? b=some o->H b=none->b∈fs->b∉ex->∃ sl,h'.get? b=some { o with slots:=sl }
 free:∀ b o,h.get? b=some o->H b=none->b∉ex->H' b=none
 there:∀ b o,h.get? b=some o->b∉ex->∃ o',h'.get? b=some o'
 tups:∀ b xs,H b=some (.tup xs)->H' b=some (.tup xs)
 frzs:∀ b o u,H b=some (.frz o u)->H' b=some (.frz o u)
 tbls:∀ b ps,H b=some (.tbl ps)->∃ more,H' b=some (.tbl (ps++more))
section
variable {fs fs' ex ex':List Vg} {H H1 H2:Hp} {h h1 h2 h':Uab} {a x e:Vg} {o:HO}
theorem Un.any (u:Un fs ex H H1 h h1) {b:Vg} {ob:Obj} (q:h.get? b=some ob) (n:H b=none) (hx:b∉ex):∃ sl,h1.get? b=some { ob with slots:=sl }:=by
 by_cases hb:b∈fs
 ·exact u.slot b ob q n hb hx
 ·exact⟨ob.slots,u.keep b ob q n hb hx⟩
theorem Un.kept (k:∀ b u,h.get? b=some u->h'.get? b=some u):Un fs ex H H h h' :=
 ⟨fun b ob q _ _ _=>k b ob q,fun b ob q _ _ _=>⟨ob.slots,k b ob q⟩,fun _ _ _ n _=>n,fun b ob q _=>⟨ob,k b ob q⟩,fun _ _ q=>q,fun _ _ _ q=>q,fun _ ps q=>⟨#[],by rw[q]; simp⟩⟩
theorem Un.refl:Un fs ex H H h h:=Un.kept fun _ _ q=>q
theorem Un.laid (k:∀ b u,h.get? b=some u->h'.get? b=some u) (hp:h.objs.size<=a) (hn:H a=none):Un fs ex H (upd H a o) h h' where
 keep:=fun b u q _ _ _=>k b u q
 slot:=fun b u q _ _ _=>⟨u.slots,k b u q⟩
 free:=fun b u q n _=>by rw[Zaf (Xh (Xi (Xd q) hp))]; exact n
 there:=fun b u q _=>⟨u,k b u q⟩
 tups:=fun b xs q=>by rw[Zaf (Zae q hn)]; exact q
 frzs:=fun b u xs q=>by rw[Zaf (Zae q hn)]; exact q
 tbls:=fun b ps q=>⟨#[],by rw[Zaf (Zae q hn),q]; simp⟩
theorem Un.write (mu:Mut (H x)) (he:e=x\/H e=some (.own x)) (k:∀ b u,b≠e->h.get? b=some u->h'.get? b=some u) (heo:∃ u,h'.get? e=some u):Un fs ex H (upd H x o) h h':=by
 have hx:∀ b,H b=none->b≠x:=fun b n z=>by subst z; rw[n] at mu; exact mu
 have hb:∀ b,H b=none->b≠e:=fun b n z=>by
  subst z
  rcases he with r | r
  ·exact hx b n r
  ·rw[n] at r; cases r
 have hm:∀ b u,H b=some u->¬ Mut (some u)->b≠x:=fun b u q nm z=>by subst z; rw[q] at mu; exact nm mu
 refine⟨fun b u q n _ _=>k b u (hb b n) q,fun b u q n _ _=>⟨u.slots,k b u (hb b n) q⟩,fun b u q n _=>by rw[Zaf (hx b n)]; exact n,fun b u q _=>?_,
  fun b xs q=>by rw[Zaf (hm b _ q fun z=>z)]; exact q,fun b u xs q=>by rw[Zaf (hm b _ q fun z=>z)]; exact q,fun b ps q=>⟨#[],by rw[Zaf (hm b _ q fun z=>z),q]; simp⟩⟩
 by_cases hbe:b=e
 ·subst hbe; exact heo
 ·exact⟨u,k b u hbe q⟩
end
nonrec def trk (h:Uab) (H:Hp):List Vg:=(Wdy h.objs.size).filter fun a=>(H a).isSome
nonrec def Zrl (h:Uab) (H:Hp):Uab:=PySem.W.hideAll h (trk h H)
theorem Zod (h:Uab) (H:Hp):(Zrl h H).objs.size=h.objs.size:=PySem.W.hideAll_size _ _
theorem Zqv {h:Uab} {H:Hp} {b:Vg} {o:Obj} (e:h.get? b=some o) (n:H b=none):(Zrl h H).get? b=some o :=
 PySem.W.hideAll_get _ e fun hm=>by
  have q:(H b).isSome=true:=(Wex.mp hm).2
  rw[n] at q; simp at q
theorem Zuu {h:Uab} {H:Hp} {b:Vg} {o:Obj} (e:(Zrl h H).get? b=some o):h.get? b=some o/\H b=none:=by
 have e':h.get? b=some o:=PySem.W.of_hideAll (trk h H) e
 refine⟨e',?_⟩
 cases q:H b with
 | none=>rfl
 | some x =>
  have hm:b∈trk h H:=Wex.mpr ⟨Wbw.mpr (Xd e'),by simp[q]⟩
  have z:(Zrl h H).get? b=none:=PySem.W.hideAll_none (trk h H) hm
  rw[z] at e; cases e
structure Mod (K:Xb) (mg:Str->Option Vb) (base:Uab):Prop where
 kin:K.In base
 glob:base.Ns Vw mg
 blt:∃ mb,base.Ns builtinsNs mb/\∀ x:Str,x ≠ "__name__" -> mb x=Vv x
 nolimit:base.NoLimit
structure Cx where
 prog:Vl
 w:Vt
 K:Xb
 mg:Str->Option Vb
 base:Uab
 A:Vu
 N:List Str
 s₀:Vd
 H₀:Hp
 env:Env
 outer:List Env
 stack:List Env
 ex:List Vg
 fn:Str->Bool
 calm:Bool
 pn:List (Vg×Obj)
 xe:Vb->Vd->Prop
nonrec def frs (l:List Env):List Vg:=l.filterMap (·.frame)
nonrec abbrev Cx.fs (X:Cx):List Vg:=frs X.outer
def Vis (sc:Ucf) (x:Str):Prop:=sc.names.lookup x=some .local\/sc.names.lookup x=some .cell\/sc.names.lookup x=some .free
def Loc (sc:Ucf) (x:Str):Prop:=sc.names.lookup x=some .local\/sc.names.lookup x=some .cell
def Look (env:Env) (h:Uab) (m:Str->Option Vb) (x:Str) (u:Vb):Prop :=
 (env.kindOf x=some .local/\m x=some u)\/((env.kindOf x=some .cell\/env.kindOf x=some .free)/\∃ c,env.cells.lookup x=some c/\h.IsCell c (some u))
structure Cx.Ok (X:Cx):Prop where
 mod:Mod X.K X.mg X.base
 kind:X.env.scope.kind=.function
 glob:X.env.globals=Vw
 blt:X.env.builtins=builtinsNs
 above:X.s₀.heap.objs.size<=X.env.locals
 inj:∀ x y c,X.env.cells.lookup x=some c->X.env.cells.lookup y=some c->x=y
 has:∀ x,(X.env.kindOf x=some .cell\/X.env.kindOf x=some .free)->∃ c,X.env.cells.lookup x=some c
 cab:∀ x c,X.fn x=true->X.env.cells.lookup x=some c->X.s₀.heap.objs.size<=c
 hd:X.calm=true->X.A.handled=none
 frames:X.A.frames=some X.stack
 stk:X.stack=X.outer\/(X.stack=X.env::X.outer/\X.env.frame=some X.env.locals)
 exf:∀ b∈X.ex,b≠X.env.locals/\∀ x c,X.env.cells.lookup x=some c->c≠b
 bs:∀ b o,X.base.get? b=some o->X.s₀.heap.get? b=some o/\X.H₀ b=none
 bsz:X.base.objs.size<=X.s₀.heap.objs.size
 noex:∀ b o,X.base.get? b=some o->b∉X.ex
 exfs:∀ b∈X.ex,b∉X.fs
 funs:X.s₀.heap.FunFrames X.base X.outer
 frf:∀ b∈X.fs,X.H₀ b=none
structure Inv (X:Cx) (pins:List (Vg×Obj)) (σ:List (Option V)) (H:Hp) (s:Vd):Prop where
 ok:X.Ok
 os:s.os=X.s₀.os
 bare:Ucx s.gens
 base:Un X.fs X.ex X.H₀ H X.s₀.heap s.heap
 loc:∃ m,s.heap.Ns X.env.locals m/\∀ (i:Nat) (x:Str) (v:V),X.N[i]? = some x->σ[i]? = some (some v)->Vis X.env.scope x->∃ u,Zbc v u/\Look X.env s.heap m x u
 cell:∀ x c,X.env.cells.lookup x=some c->∃ v,s.heap.IsCell c v
 free:H X.env.locals=none
 freeC:∀ x c,X.env.cells.lookup x=some c->H c=none\/(X.fn x=false/\∃ o u,H c=some (.frz o u))
 pin:∀ p∈X.pn++pins,s.heap.get? p.1=some p.2/\H p.1=none/\p.1≠X.env.locals/\p.1∉X.fs/\∀ v,p.2.data≠.cell v
 hok:HOk X.prog X.w H s.heap
 len:σ.length=X.N.length
section
variable {X:Cx} {pins:List (Vg×Obj)} {σ:List (Option V)} {H H':Hp} {s:Vd} {h':Uab}
theorem Cx.Ok.nofr (ok:X.Ok) {b:Vg} {o:Obj} (e:X.base.get? b=some o):b∉X.fs:=fun hb=>by
 have:=(ok.funs.mem hb).1
 rw[e] at this; cases this
theorem Inv.bs (I:Inv X pins σ H s):∀ b o,X.base.get? b=some o->s.heap.get? b=some o/\H b=none:=fun b o e =>
 ⟨I.base.keep b o (I.ok.bs b o e).1 (I.ok.bs b o e).2 (I.ok.nofr e) (I.ok.noex b o e),I.base.free b o (I.ok.bs b o e).1 (I.ok.bs b o e).2 (I.ok.noex b o e)⟩
theorem Inv.bk (I:Inv X pins σ H s):∀ b o,X.base.get? b=some o->s.heap.get? b=some o:=fun b o e=>(I.bs b o e).1
theorem Inv.mod (I:Inv X pins σ H s):Mod X.K X.mg X.base:=I.ok.mod
theorem Inv.kIn (I:Inv X pins σ H s):X.K.In s.heap:=I.ok.mod.kin.keeps I.bk
theorem Inv.lt (I:Inv X pins σ H s):X.env.locals<s.heap.objs.size:=let ⟨_,hn,_⟩:=I.loc; hn.lt
theorem Inv.sz (I:Inv X pins σ H s):X.s₀.heap.objs.size<=s.heap.objs.size:=Xq I.ok.above (Wcj I.lt)
theorem Inv.nofs (I:Inv X pins σ H s) {a:Vg} (h:s.heap.objs.size<=a):a∉X.fs:=fun hb=>by
 obtain⟨_,o,ho,_⟩:=I.ok.funs.mem hb
 exact absurd (Xi (Xd ho) (Xq I.sz h)) (Wat _)
theorem Inv.cne (I:Inv X pins σ H s):∀ x c,X.env.cells.lookup x=some c->c≠X.env.locals:=fun x c e z=>by
 obtain⟨v,o,ho,hd⟩:=I.cell x c e
 obtain⟨m,⟨o',es,ep,ho',hd',_⟩,_⟩:=I.loc
 rw[z,ho'] at ho; cases ho; rw[hd'] at hd; cases hd
theorem Inv.funs (I:Inv X pins σ H s):s.heap.FunFrames X.base X.outer:=by
 have all:∀ (l:List Env),(∀ b∈frs l,b∈X.fs)->X.s₀.heap.FunFrames X.base l->s.heap.FunFrames X.base l:=by
  intro l
  induction l with
  | nil=>intro _ _; trivial
  | cons env r ih =>
   intro hs hl
   obtain⟨hk,⟨L,o,hf,hn,ho,hd⟩,hr⟩:=hl
   have hL:L∈X.fs:=hs L (by unfold frs; rw[Wdz,hf]; exact Wcg)
   obtain⟨sl,e⟩:=I.base.slot L o ho (I.ok.frf L hL) hL fun z=>I.ok.exfs L z hL
   exact⟨hk,⟨L,_,hf,hn,e,hd⟩,ih (fun b hb=>hs b (by unfold frs; rw[Wdz,hf]; exact Wam _ hb)) hr⟩
 exact all X.outer (fun _ hb=>hb) I.ok.funs
theorem Inv.stack (I:Inv X pins σ H s):s.heap.FunFrames X.base X.stack:=by
 rcases I.ok.stk with e | ⟨e,hf⟩
 ·rw[e]; exact I.funs
 ·rw[e]
  obtain⟨m,hn,_⟩:=I.loc
  refine .cons (by rw[I.ok.kind]; decide) hf hn ?_ I.funs
  exact Heap.get?_none_of_le (Xq I.ok.bsz I.ok.above)
theorem Inv.stkSub (I:Inv X pins σ H s):∀ b∈frs X.stack,b∈X.env.locals::X.fs:=fun b hb=>by
 rcases I.ok.stk with e | ⟨e,hf⟩
 ·rw[e] at hb; exact Wam _ hb
 ·rw[e] at hb
  unfold frs at hb
  rw[Wdz,hf] at hb
  exact hb
theorem Inv.stkFree (I:Inv X pins σ H s):∀ b∈frs X.stack,H b=none:=fun b hb=>by
 rcases Xl.mp (I.stkSub b hb) with e | hb
 ·rw[e]; exact I.free
 ·obtain⟨_,o,ho,_⟩:=I.ok.funs.mem hb
  exact I.base.free b o ho (I.ok.frf b hb) fun z=>I.ok.exfs b z hb
theorem Inv.step {g':Array GenState} {t':Nat} {d':Drawn} {ch:List Vg} (I:Inv X pins σ H s)
  (hch:∀ b∈ch,(b∈X.ex\/X.s₀.heap.objs.size<=b)/\b≠X.env.locals/\(∀ x c,X.env.cells.lookup x=some c->c≠b)/\∀ p∈X.pn++pins,p.1≠b)
  (keep:∀ b o,b≠X.env.locals->b∉X.fs->b∉ch->s.heap.get? b=some o->H b=none->h'.get? b=some o)
  (slot:∀ b o,b≠X.env.locals->b∈X.fs->b∉ch->s.heap.get? b=some o->H b=none->∃ sl,h'.get? b=some { o with slots:=sl }) (free:∀ b o,b∉ch->s.heap.get? b=some o->H b=none->H' b=none)
  (there:∀ b o,b∉ch->s.heap.get? b=some o->∃ o',h'.get? b=some o')
  (tups:∀ b xs,H b=some (.tup xs)->H' b=some (.tup xs)) (frzs:∀ b o u,H b=some (.frz o u)->H' b=some (.frz o u)) (tbls:∀ b ps,H b=some (.tbl ps)->∃ more,H' b=some (.tbl (ps++more)))
  (ns:∀ m,s.heap.Ns X.env.locals m->h'.Ns X.env.locals m) (hok:HOk X.prog X.w H' h') (hg:Ucx g') :
  Inv X pins σ H' { s with heap:=h',gens:=g',drawn:=d',toks:=t' }:=by
 have neL:∀ b o,X.s₀.heap.get? b=some o->b≠X.env.locals:=fun b o e=>Xh (Xi (Xd e) I.ok.above)
 have neC:∀ b o,X.s₀.heap.get? b=some o->b∉X.ex->b∉ch:=fun b o e hx hb=>by
  rcases(hch b hb).1 with z | z
  ·exact hx z
  ·exact absurd (Xi (Xd e) z) (Wat _)
 have cellK:∀ x c,X.env.cells.lookup x=some c->∀ v,s.heap.IsCell c v->h'.IsCell c v:=fun x c e v ⟨o,ho,hd⟩=>by
  have nch:c∉ch:=fun z=>(hch c z).2.2.1 x c e rfl
  rcases I.freeC x c e with fc | ⟨_,o2,u2,fc⟩
  ·by_cases hc:c∈X.fs
   ·obtain⟨sl,q⟩:=slot c o (I.cne x c e) hc nch ho fc
    exact⟨_,q,hd⟩
   ·exact⟨o,keep c o (I.cne x c e) hc nch ho fc,hd⟩
  ·have h1:=(I.hok c _ fc).1
   have h2:=(hok c _ (frzs c o2 u2 fc)).1
   rw[ho] at h1
   cases h1
   exact⟨o,h2,hd⟩
 refine⟨I.ok,I.os,hg,⟨fun b o e n hb hx=>?_,fun b o e n hb hx=>?_,fun b o e n hx=>?_,fun b o e hx=>?_,fun b xs e=>tups b xs (I.base.tups b xs e),fun b o xs e=>frzs b o xs (I.base.frzs b o xs e),fun b ps e=>?_⟩,?_,fun x c e=>?_,?_,fun x c e=>?_,fun p hp=>?_,hok,I.len⟩
 ·exact keep b o (neL b o e) hb (neC b o e hx) (I.base.keep b o e n hb hx) (I.base.free b o e n hx)
 ·obtain⟨sl,e1⟩:=I.base.slot b o e n hb hx
  obtain⟨sl',e2⟩:=slot b _ (neL b o e) hb (neC b o e hx) e1 (I.base.free b o e n hx)
  exact⟨sl',e2⟩
 ·obtain⟨o',e1⟩:=I.base.there b o e hx
  exact free b o' (neC b o e hx) e1 (I.base.free b o e n hx)
 ·obtain⟨o',e1⟩:=I.base.there b o e hx
  exact there b o' (neC b o e hx) e1
 ·obtain⟨m1,e1⟩:=I.base.tbls b ps e
  obtain⟨m2,e2⟩:=tbls b _ e1
  exact⟨m1++m2,by rw[e2,Array.append_assoc]⟩
 ·obtain⟨m,hn,hl⟩:=I.loc
  refine⟨m,ns m hn,fun i x v e1 e2 e3=>?_⟩
  obtain⟨u,r,l⟩:=hl i x v e1 e2 e3
  refine⟨u,r,?_⟩
  rcases l with l | ⟨k,c,e,z⟩
  ·exact .inl l
  ·exact .inr ⟨k,c,e,cellK x c e _ z⟩
 ·obtain⟨v,z⟩:=I.cell x c e
  exact⟨v,cellK x c e v z⟩
 ·obtain⟨m,⟨o,_,_,ho,_⟩,_⟩:=I.loc
  exact free _ o (fun z=>(hch _ z).2.1 rfl) ho I.free
 ·obtain⟨v,o,ho,hd⟩:=I.cell x c e
  rcases I.freeC x c e with fc | ⟨fn,o2,u2,fc⟩
  ·exact .inl (free c o (fun z=>(hch c z).2.2.1 x c e rfl) ho fc)
  ·exact .inr ⟨fn,o2,u2,frzs c o2 u2 fc⟩
 ·obtain⟨e,n,ne,nf,d⟩:=I.pin p hp
  have nch:p.1∉ch:=fun z=>(hch p.1 z).2.2.2 p hp rfl
  exact⟨keep p.1 p.2 ne nf nch e n,free p.1 p.2 nch e n,ne,nf,d⟩
theorem Inv.un {t':Nat} (I:Inv X pins σ H s) (u:Un X.fs [] H H' s.heap h') (hok:HOk X.prog X.w H' h'):Inv X pins σ H' { s with heap:=h',toks:=t' }:=by
 obtain⟨m,⟨o,es,ep,ho,r⟩,_⟩:=id I.loc
 obtain⟨sl,hL⟩:=u.any ho I.free (by simp)
 exact I.step (g':=s.gens) (d':=s.drawn) (ch:=[]) (fun _ z=>nomatch z) (fun b o _ hb _ e n=>u.keep b o e n hb (by simp)) (fun b o _ hb _ e n=>u.slot b o e n hb (by simp)) (fun b o _ e n=>u.free b o e n (by simp)) (fun b o _ e=>u.there b o e (by simp)) u.tups u.frzs u.tbls (fun m' hm=>by
  obtain⟨o',es',ep',ho',r'⟩:=hm
  rw[ho] at ho'; cases ho'
  exact⟨_,es',ep',hL,r'⟩) hok I.bare
theorem Inv.call {g':Array GenState} {t':Nat} {d':Drawn} {ch:List Vg} (I:Inv X pins σ H s) (u:Un (frs X.stack) ch H H' s.heap h') (hok:HOk X.prog X.w H' h') (hg:Ucx g')
  (hch:∀ b∈ch,(b∈X.ex\/X.s₀.heap.objs.size<=b)/\b≠X.env.locals/\(∀ x c,X.env.cells.lookup x=some c->c≠b)/\∀ p∈X.pn++pins,p.1≠b) :
  Inv X pins σ H' { s with heap:=h',gens:=g',drawn:=d',toks:=t' }:=by
 obtain⟨m,⟨o,es,ep,ho,r⟩,_⟩:=id I.loc
 obtain⟨sl,hL⟩:=u.any ho I.free fun z=>(hch _ z).2.1 rfl
 exact I.step (ch:=ch) hch (fun b o hL hb hc e n=>u.keep b o e n (fun z=>(Xl.mp (I.stkSub b z)).elim hL hb) hc) (fun b o _ _ hc e n=>u.any e n hc) (fun b o hc e n=>u.free b o e n hc) (fun b o hc e=>u.there b o e hc) u.tups u.frzs u.tbls (fun m' hm=>by
  obtain⟨o',es',ep',ho',r'⟩:=hm
  rw[ho] at ho'; cases ho'
  exact⟨_,es',ep',hL,r'⟩) hok hg
theorem Inv.turned {t':Nat} {it:Vg} (I:Inv X pins σ H s) (k:∀ b o,b≠it->s.heap.get? b=some o->h'.get? b=some o) (hn:H it=none) (hL:it≠X.env.locals)
  (h1:it∈X.ex\/X.s₀.heap.objs.size<=it) (h2:∀ x c,X.env.cells.lookup x=some c->c≠it) (h3:∀ p∈X.pn++pins,p.1≠it):Inv X pins σ H { s with heap:=h',toks:=t' }:=by
 have nit:∀ b u,H b=some u->b≠it:=fun b u e z=>by rw[z,hn] at e; cases e
 refine I.step (g':=s.gens) (d':=s.drawn) (ch:=[it]) (fun b hb=>?_) (fun b o _ _ hc e _=>k b o (fun z=>hc (by simp[z])) e) (fun b o _ _ hc e _=>⟨o.slots,k b o (fun z=>hc (by simp[z])) e⟩) (fun _ _ _ _ n=>n)
  (fun b o hc e=>⟨o,k b o (fun z=>hc (by simp[z])) e⟩) (fun _ _ e=>e) (fun _ _ _ e=>e) (fun b ps e=>⟨#[],by rw[e]; simp⟩) (fun m hm=>?_) (fun b u e=>?_) I.bare
 ·have e:b=it:=by simpa using hb
  subst e
  exact⟨h1,hL,h2,h3⟩
 ·obtain⟨o,es,ep,ho,r⟩:=hm
  exact⟨o,es,ep,k _ o (Uf hL) ho,r⟩
 ·refine(I.hok b u e).stay (fun c v hc q=>k c v ?_ q) (fun _ q=>q) fun _ _ q=>q
  rcases hc with z | z
  ·rw[z]; exact nit b u e
  ·exact nit c _ z
theorem Inv.tok (I:Inv X pins σ H s) (t:Nat):Inv X pins σ H { s with toks:=t }:=I.un (h':=s.heap) (t':=t) Un.refl I.hok
theorem Inv.kept {t':Nat} (I:Inv X pins σ H s) (k:∀ b u,s.heap.get? b=some u->h'.get? b=some u):Inv X pins σ H { s with heap:=h',toks:=t' }:=I.un (Un.kept k) (I.hok.kept k)
theorem Inv.laid {a:Vg} {o:HO} {t':Nat} (I:Inv X pins σ H s) (k:∀ b u,s.heap.get? b=some u->h'.get? b=some u) (hp:s.heap.objs.size<=a) (new:Zcr X.prog X.w (upd H a o) h' a o) :
  Inv X pins σ (upd H a o) { s with heap:=h',toks:=t' }:=I.un (Un.laid k hp (I.hok.fresh hp)) (I.hok.laid k hp new)
theorem Inv.write {x e:Vg} {o:HO} {t':Nat} (I:Inv X pins σ H s) (mu:Mut (H x)) (he:e=x\/H e=some (.own x)) (k:∀ b u,b≠e->s.heap.get? b=some u->h'.get? b=some u) (heo:∃ u,h'.get? e=some u)
  (new:Zcr X.prog X.w (upd H x o) h' x o):Inv X pins σ (upd H x o) { s with heap:=h',toks:=t' }:=I.un (Un.write mu he k heo) (I.hok.write mu he k heo new)
theorem Inv.pins_of {pins':List (Vg×Obj)} (I:Inv X pins σ H s) (h:∀ p∈pins',s.heap.get? p.1=some p.2/\H p.1=none/\p.1≠X.env.locals/\p.1∉X.fs/\∀ v,p.2.data≠.cell v):Inv X pins' σ H s :=
 ⟨I.ok,I.os,I.bare,I.base,I.loc,I.cell,I.free,I.freeC,fun p hp=>(Xs.mp hp).elim (fun z=>I.pin p (Wdv _ z)) (h p),I.hok,I.len⟩
theorem Zk4 {N:List Str} (hN:N.Nodup) {i j:Nat} {x:Str} (a:N[i]? = some x) (b:N[j]? = some x):i=j:=by
 obtain⟨h1,e1⟩:=Xc.mp a
 obtain⟨h2,e2⟩:=Xc.mp b
 exact(List.getElem_inj hN).mp (e1.trans e2.symm)
theorem Zh6 {M:Uek} {A:Vu} {E:Vb->Vd->Prop} {i:Nat} {x:Str} {v:V} {u:Vb} {Q:Unit->Vd->Prop} (I:Inv X pins σ H s) (hN:X.N.Nodup) (hi:X.N[i]? = some x) (hx:Loc X.env.scope x) (r:Zbc v u)
  (h:∀ s',Inv X pins (σ.set i (some v)) H s'->(∃ a,Xm a s.heap s'.heap/\(a=X.env.locals\/X.env.cells.lookup x=some a))->Q () s') (hf:X.fn x=true\/X.env.scope.names.lookup x=some .local:=by first | exact .inl rfl | exact .inr rfl | assumption):Vf M A (storeName X.env x u) Q E s:=by
 obtain⟨m,hn,hl⟩:=id I.loc
 have hcls:(X.env.scope.kind==.class||(X.env.scope.kind==.module&&X.env.locals != X.env.globals))=false:=by rw[I.ok.kind]; rfl
 have hiσ:i<σ.length:=by rw[I.len]; exact(Xc.mp hi).1
 have cne:=I.cne
 have tracked:∀ {a:Vg} {h':Uab},(∃ o,s.heap.get? a=some o/\H a=none)->Xm a s.heap h'->HOk X.prog X.w H h':=fun {a h'} ha hs b ob e=>by
  obtain⟨_,_,hfree⟩:=ha
  refine(I.hok b ob e).stay (fun c w' hc q=>(hs.2 c ?_).trans q) (fun _ q=>q) fun _ _ q=>q
  rintro rfl
  rcases hc with rfl | hc
  ·rw[hfree] at e; cases e
  ·rw[hfree] at hc; cases hc
 rcases hx with hk | hk
 ·refine wpAny_storeName_local hk hn (fun h' hn' hs=>?_) hcls
  obtain⟨oL,_,_,hoL,_⟩:=id hn
  refine h _ ⟨I.ok,I.os,I.bare,⟨fun b o e n hb hx=>?_,fun b o e n hb hx=>?_,I.base.free,fun b o e hx=>?_,I.base.tups,I.base.frzs,I.base.tbls⟩,⟨_,hn',fun j y v' e1 e2 e3=>?_⟩,fun y c e=>?_,I.free,I.freeC,fun p hp=>?_,tracked ⟨oL,hoL,I.free⟩ hs,by simpa using I.len⟩ ⟨_,hs,.inl rfl⟩
  ·exact(hs.2 b (Xh (Xi (Xd e) I.ok.above))).trans (I.base.keep b o e n hb hx)
  ·obtain⟨sl,e1⟩:=I.base.slot b o e n hb hx
   exact⟨sl,(hs.2 b (Xh (Xi (Xd e) I.ok.above))).trans e1⟩
  ·obtain⟨o',e1⟩:=I.base.there b o e hx
   exact⟨o',(hs.2 b (Xh (Xi (Xd e) I.ok.above))).trans e1⟩
  ·by_cases hj:j=i
   ·subst hj
    rw[hi] at e1; cases e1
    rw[Xy hiσ] at e2
    cases e2
    exact⟨u,r,.inl ⟨hk,by simp⟩⟩
   ·rw[Wbe (Uf hj)] at e2
    obtain⟨u',r',q⟩:=hl j y v' e1 e2 e3
    refine⟨u',r',?_⟩
    rcases q with ⟨k,e⟩ | ⟨k,c,e,z⟩
    ·refine .inl ⟨k,?_⟩
     have:y≠x:=fun e=>hj (Zk4 hN e1 (e ▸ hi))
     simp[this,e]
    ·exact .inr ⟨k,c,e,z.sameBut hs (cne y c e)⟩
  ·obtain⟨w',z⟩:=I.cell y c e
   exact⟨w',z.sameBut hs (cne y c e)⟩
  ·obtain⟨e,n,ne,nf,d⟩:=I.pin p hp
   exact⟨(hs.2 p.1 ne).trans e,n,ne,nf,d⟩
 ·have hfn:X.fn x=true:=by
   rcases hf with z | z
   ·exact z
   ·rw[z] at hk; cases hk
  obtain⟨c,hc⟩:=I.ok.has x (.inl hk)
  obtain⟨w',z⟩:=I.cell x c hc
  refine wpAny_storeName_cell I.ok.kind hk hc z (fun h' hc' hs=>?_)
  obtain⟨oc,hoc,hocd⟩:=id z
  refine h { s with heap:=h' } ⟨I.ok,I.os,I.bare,⟨fun b o e n hb hx=>?_,fun b o e n hb hx=>?_,I.base.free,fun b o e hx=>?_,I.base.tups,I.base.frzs,I.base.tbls⟩,⟨m,hn.sameBut hs (Uf (cne x c hc)),fun j y v' e1 e2 e3=>?_⟩,fun y c' e=>?_,I.free,I.freeC,fun p hp=>?_,tracked ⟨oc,hoc,(I.freeC x c hc).resolve_right (fun z=>by rw[hfn] at z; cases z.1)⟩ hs,by simpa using I.len⟩ ⟨c,hs,.inr hc⟩
  ·exact(hs.2 b (Xh (Xi (Xd e) (I.ok.cab x c hfn hc)))).trans (I.base.keep b o e n hb hx)
  ·obtain⟨sl,e1⟩:=I.base.slot b o e n hb hx
   exact⟨sl,(hs.2 b (Xh (Xi (Xd e) (I.ok.cab x c hfn hc)))).trans e1⟩
  ·obtain⟨o',e1⟩:=I.base.there b o e hx
   exact⟨o',(hs.2 b (Xh (Xi (Xd e) (I.ok.cab x c hfn hc)))).trans e1⟩
  ·by_cases hj:j=i
   ·subst hj
    rw[hi] at e1; cases e1
    rw[Xy hiσ] at e2
    cases e2
    exact⟨u,r,.inr ⟨.inl hk,c,hc,hc'⟩⟩
   ·rw[Wbe (Uf hj)] at e2
    obtain⟨u',r',q⟩:=hl j y v' e1 e2 e3
    refine⟨u',r',?_⟩
    rcases q with q | ⟨k,c',e,z'⟩
    ·exact .inl q
    ·refine .inr ⟨k,c',e,z'.sameBut hs ?_⟩
     rintro rfl
     exact hj (Zk4 hN e1 (I.ok.inj _ _ _ e hc ▸ hi))
  ·by_cases hcc:c'=c
   ·subst hcc; exact⟨_,hc'⟩
   ·obtain⟨w2,z2⟩:=I.cell y c' e
    exact⟨w2,z2.sameBut hs hcc⟩
  ·obtain⟨e,n,ne,nf,d⟩:=I.pin p hp
   refine⟨(hs.2 p.1 ?_).trans e,n,ne,nf,d⟩
   intro q
   rw[q,hoc] at e
   have q':oc=p.2:=Waa.inj e
   exact d w' (by rw[<- q']; exact hocd)
theorem Zk7 {M:Uek} {A:Vu} {E:Vb->Vd->Prop} {i:Nat} {x:Str} {v:V} {u:Vb} {Q:Unit->Vd->Prop} (I:Inv X pins σ H s) (hN:X.N.Nodup) (hi:X.N[i]? = some x) (hx:Loc X.env.scope x) (r:Zbc v u)
  (h:∀ s',Inv X pins (σ.set i (some v)) H s'->Q () s') (hf:X.fn x=true\/X.env.scope.names.lookup x=some .local:=by first | exact .inl rfl | exact .inr rfl | assumption):Vf M A (storeName X.env x u) Q E s :=
 Zh6 I hN hi hx r (fun s' I' _=>h s' I') hf
theorem Inv.call' {s':Vd} {ch:List Vg} (I:Inv X pins σ H s) (ho:s'.os=s.os) (u:Un (frs X.stack) ch H H' s.heap s'.heap) (hok:HOk X.prog X.w H' s'.heap) (hg:Ucx s'.gens)
  (hch:∀ b∈ch,(b∈X.ex\/X.s₀.heap.objs.size<=b)/\b≠X.env.locals/\(∀ x c,X.env.cells.lookup x=some c->c≠b)/\∀ p∈X.pn++pins,p.1≠b):Inv X pins σ H' s':=by
 obtain⟨h',g',d',t',o'⟩:=s'
 have e:o'=s.os:=ho
 subst e
 exact I.call (g':=g') (t':=t') (d':=d') u hok hg hch
end
nonrec abbrev XK:=Vb->Option Vg->Hp->Prop
nonrec abbrev St:=List (Option V)
nonrec abbrev VK:=V->Hp->Prop
nonrec abbrev TE:=St->Hp->VK->Prop
nonrec abbrev TT:=St->Hp->(Bool->Hp->Prop)->Prop
nonrec abbrev TA:=St->Hp->(List V->Hp->Prop)->Prop
structure Ends where
 nx:St->Hp->Prop
 rt:VK
 bk:St->Hp->Prop:=fun _ _=>False
 ct:St->Hp->Prop:=fun _ _=>False
nonrec abbrev TS:=Ends->St->Hp->Prop
def EP (X:Cx) (pins:List (Vg×Obj)) (σ:St) (Q:VK) (u:Vb) (s':Vd):Prop:=∃ v H',Inv X pins σ H' s'/\Zbc v u/\Q v H'
def TP (X:Cx) (pins:List (Vg×Obj)) (σ:St) (Q:Bool->Hp->Prop) (b:Bool) (s':Vd):Prop:=∃ H',Inv X pins σ H' s'/\Q b H'
def AP (X:Cx) (pins:List (Vg×Obj)) (σ:St) (Q:List V->Hp->Prop) (us:List Vb) (s':Vd):Prop:=∃ vs H',Inv X pins σ H' s'/\Za9 vs us/\Q vs H'
def SP (X:Cx) (pins:List (Vg×Obj)) (D:Ends) (f:Flow) (s':Vd):Prop :=
 match f with
 | .next=>∃ σ' H',Inv X pins σ' H' s'/\D.nx σ' H'
 | .brk=>∃ σ' H',Inv X pins σ' H' s'/\D.bk σ' H'
 | .cont=>∃ σ' H',Inv X pins σ' H' s'/\D.ct σ' H'
 | .ret u=>∃ v σ' H',Inv X pins σ' H' s'/\Zbc v u/\D.rt v H'
def PE (X:Cx) (e:Uac) (t:TE):Prop :=
 ∀ (pins:List (Vg×Obj)) (s:Vd) (σ:St) (H:Hp) (Q:VK),Inv X pins σ H s->t σ H Q->Vf (Vj X.prog X.w) X.A (eval e X.env) (EP X pins σ Q) X.xe s
def PT (X:Cx) (e:Uac) (t:TT):Prop :=
 ∀ (pins:List (Vg×Obj)) (s:Vd) (σ:St) (H:Hp) (Q:Bool->Hp->Prop),Inv X pins σ H s->t σ H Q->Vf (Vj X.prog X.w) X.A (isTrue e X.env (eval e X.env)) (TP X pins σ Q) X.xe s
def PW (X:Cx) (e:Uac) (t:TT):Prop :=
 ∀ (whole:Sem Vb) (pins:List (Vg×Obj)) (s:Vd) (σ:St) (H:Hp) (Q:Bool->Hp->Prop),Inv X pins σ H s->t σ H Q->Vf (Vj X.prog X.w) X.A (isTrue e X.env whole) (TP X pins σ Q) X.xe s
def PA (X:Cx) (es:List Uac) (t:TA):Prop :=
 ∀ (pos:Pos) (pins:List (Vg×Obj)) (s:Vd) (σ:St) (H:Hp) (Q:List V->Hp->Prop),Inv X pins σ H s->t σ H Q->Vf (Vj X.prog X.w) X.A (spliced (Uau pos (Vk es X.env))) (AP X pins σ Q) X.xe s
def PS (X:Cx) (st:Ubv) (t:TS):Prop :=
 ∀ (pins:List (Vg×Obj)) (s:Vd) (σ:St) (H:Hp) (D:Ends),Inv X pins σ H s->t D σ H->Vf (Vj X.prog X.w) X.A (exec st X.env) (SP X pins D) X.xe s
def PSs (X:Cx) (st:List Ubv) (t:TS):Prop :=
 ∀ (pins:List (Vg×Obj)) (s:Vd) (σ:St) (H:Hp) (D:Ends),Inv X pins σ H s->t D σ H->Vf (Vj X.prog X.w) X.A (execs st X.env) (SP X pins D) X.xe s
theorem thn {α:Type} {t:Sem α} {Q Q':α->Vd->Prop} {M:Uek} {A:Vu} {E:Vb->Vd->Prop} {s:Vd} (h:Vf M A t Q E s) (hQ:∀ a s,Q a s->Q' a s):Vf M A t Q' E s:=Ube h hQ fun _ _ x=>x
section
variable {X:Cx}
nonrec def tVar (i:Nat):TE:=fun σ H Q=>∃ v,σ[i]? = some (some v)/\Q v H
nonrec def tC (v:V):TE:=fun _ H Q=>Q v H
theorem Zxj {i:Nat} {x:Str} {pos:Pos} (hN:X.N[i]? = some x) (hv:Vis X.env.scope x) (hd:(x==("__debug__" : Str))=false:=by decide) (hcd:(x==("__classdict__" : Str))=false:=by decide):PE X (.Name x pos) (tVar i):=by
 intro pins s σ H Q I h
 obtain⟨v,e,h⟩:=h
 obtain⟨m,hn,hl⟩:=I.loc
 obtain⟨u,r,l⟩:=hl i x v hN e hv
 have fin:EP X pins σ Q u s:=⟨v,H,I,r,h⟩
 rcases l with ⟨hk,hm⟩ | ⟨hk,c,hc,hcell⟩
 ·exact wpAny_Name (wpAny_loadName_local I.ok.kind hk hn hm fin) hd
 ·rcases hk with hk | hk
  ·exact wpAny_Name (wpAny_loadName_cell I.ok.kind hk hc hcell fin) hd
  ·exact wpAny_Name (wpAny_loadName_free I.ok.kind hk hc hcell fin hcd) hd
theorem Zsg {i j pos}:PE X (.Constant (.int i) j pos) (tC (.int i)):=fun _ _ _ H _ I h=>wpAny_Constant_int ⟨.int i,H,I.tok _,⟨_,rfl⟩,h⟩
theorem pe_bl {b j pos}:PE X (.Constant (.bool b) j pos) (tC (.bl b)):=fun _ _ _ H _ I h=>Constant_bool ⟨.bl b,H,I,rfl,h⟩
theorem Zwd {j pos}:PE X (.Constant .none j pos) (tC .non):=fun _ _ _ H _ I h=>Constant_none ⟨.non,H,I,rfl,h⟩
theorem Zx9 {x j pos}:PE X (.Constant (.str x) j pos) (tC (.str x)):=fun _ _ _ H _ I h=>Calls.Constant_str ⟨.str x,H,I.tok _,⟨_,rfl⟩,h⟩
def Gl (X:Cx) (x:Str):Prop:=X.env.kindOf x=some .globalImplicit
theorem Zog {E:Vb->Vd->Prop} {pins:List (Vg×Obj)} {s:Vd} {σ:St} {H:Hp} {x:Str} {u:Vb} {pos:Pos} {Q:Vb->Vd->Prop} (I:Inv X pins σ H s) (hg:Gl X x) (hm:X.mg x=some u) (h:Q u s)
  (hd:(x==("__debug__" : Str))=false:=by decide):Vf (Vj X.prog X.w) X.A (eval (.Name x pos) X.env) Q E s :=
 Tbg I.ok.kind hg (Calls.loadGlobal_global (by rw[I.ok.glob]; exact I.mod.glob.keeps I.bk) hm h) hd
theorem Zdk {E:Vb->Vd->Prop} {pins:List (Vg×Obj)} {s:Vd} {σ:St} {H:Hp} {x:Str} {u:Vb} {pos:Pos} {Q:Vb->Vd->Prop} (I:Inv X pins σ H s) (hg:Gl X x) (hm:X.mg x=none) (hv:Vv x=some u) (h:Q u s)
  (hn:x ≠ "__name__" := by decide) (hd:(x==("__debug__" : Str))=false:=by decide):Vf (Vj X.prog X.w) X.A (eval (.Name x pos) X.env) Q E s:=by
 obtain⟨mb,h1,h2⟩:=I.mod.blt
 exact Tbg I.ok.kind hg (Calls.loadGlobal_builtin (by rw[I.ok.glob]; exact I.mod.glob.keeps I.bk) hm (by rw[I.ok.blt]; exact h1.keeps I.bk) ((h2 x hn).trans hv) h) hd
theorem Zt9 {x:Str} {v:V} {u:Vb} {pos:Pos} (hg:Gl X x) (hm:X.mg x=some u) (r:Zbc v u) (hd:(x==("__debug__" : Str))=false:=by decide):PE X (.Name x pos) (tC v) :=
 fun _ _ _ H _ I h=>Zog I hg hm ⟨v,H,I,r,h⟩ hd
theorem Zun {x:Str} {v:V} {u:Vb} {pos:Pos} (hg:Gl X x) (hm:X.mg x=none) (hv:Vv x=some u) (r:Zbc v u) (hn:x ≠ "__name__" := by decide) (hd:(x==("__debug__" : Str))=false:=by decide):PE X (.Name x pos) (tC v) :=
 fun _ _ _ H _ I h=>Zdk I hg hm hv ⟨v,H,I,r,h⟩ hn hd
variable {a b:Uac} {ta tb:TE} {pos:Pos}
variable {tA tB':TT} {rest:List Uac}
nonrec def tAnd (t u:TT):TT:=fun σ H Q=>t σ H fun c H1=>if c=true then u σ H1 Q else Q false H1
nonrec def tOr (t u:TT):TT:=fun σ H Q=>t σ H fun c H1=>if c=true then Q true H1 else u σ H1 Q
nonrec def tNot (t:TT):TT:=fun σ H Q=>t σ H fun c H1=>Q (!c) H1
theorem Zs4 (ha:PT X a tA):PW X (.BoolOp .And [a] pos) tA:=by
 intro wh pins s σ H Q I h
 refine isTrue_and (thn (ha pins s σ H Q I h) fun c s1 e=>?_)
 cases c with
 | true=>exact isTrue_and_nil e
 | false=>exact e
theorem Zw6 (ha:PT X a tA):PW X (.BoolOp .Or [a] pos) tA:=by
 intro wh pins s σ H Q I h
 refine isTrue_or (thn (ha pins s σ H Q I h) fun c s1 e=>?_)
 cases c with
 | false=>exact isTrue_or_nil e
 | true=>exact e
theorem Zw3 (ha:PT X a tA) (hb:PW X (.BoolOp .And (b::rest) pos) tB'):PW X (.BoolOp .And (a::b::rest) pos) (tAnd tA tB'):=by
 intro wh pins s σ H Q I h
 refine isTrue_and (thn (ha pins s σ H _ I h) fun c s1 zz=>?_)
 obtain⟨H1,I1,q1⟩:=zz
 cases c with
 | true=>exact hb wh pins s1 σ H1 Q I1 q1
 | false=>exact⟨H1,I1,q1⟩
theorem pw_or (ha:PT X a tA) (hb:PW X (.BoolOp .Or (b::rest) pos) tB'):PW X (.BoolOp .Or (a::b::rest) pos) (tOr tA tB'):=by
 intro wh pins s σ H Q I h
 refine isTrue_or (thn (ha pins s σ H _ I h) fun c s1 zz=>?_)
 obtain⟨H1,I1,q1⟩:=zz
 cases c with
 | true=>exact⟨H1,I1,q1⟩
 | false=>exact hb wh pins s1 σ H1 Q I1 q1
theorem Zx1 (ha:PT X a tA):PT X (.UnaryOp .Not a pos) (tNot tA):=by
 intro pins s σ H Q I h
 exact isTrue_not (ha pins s σ H (fun c H1=>Q (!c) H1) I h)
nonrec def tAndV (ta tb:TE):TE:=fun σ H Q=>ta σ H fun x H1=>∃ c,x=.bl c/\if c=true then tb σ H1 Q else Q (.bl false) H1
theorem Zwq {op} {t:TE} (h:PE X a t):PE X (.BoolOp op [a] pos) t:=fun pins s σ H Q I hw=>BoolOp_one (h pins s σ H Q I hw)
theorem Zw8 (ha:PE X a ta) (hb:PE X (.BoolOp .And (b::rest) pos) tb):PE X (.BoolOp .And (a::b::rest) pos) (tAndV ta tb):=by
 intro pins s σ H Q I h
 refine BoolOp_and (thn (ha pins s σ H _ I h) fun v s1 zz=>?_)
 obtain⟨x,H1,I1,r1,q1⟩:=zz
 obtain⟨c,rfl,q1⟩:=q1
 cases r1
 refine Ubm ?_
 cases c with
 | true=>exact hb pins s1 σ H1 Q I1 q1
 | false=>exact⟨.bl false,H1,I1,rfl,q1⟩
nonrec def tIf (t:TT) (ta tb:TE):TE:=fun σ H Q=>t σ H fun c H1=>if c=true then ta σ H1 Q else tb σ H1 Q
theorem Zp2 {c:Uac} (hc:PT X c tA) (ha:PE X a ta) (hb:PE X b tb):PE X (.IfExp c a b pos) (tIf tA ta tb):=by
 intro pins s σ H Q I h
 refine wpAny_IfExp (thn (hc pins s σ H _ I h) fun d s1 zz=>?_)
 obtain⟨H1,I1,q1⟩:=zz
 cases d with
 | true=>exact ha pins s1 σ H1 Q I1 q1
 | false=>exact hb pins s1 σ H1 Q I1 q1
end
def SqL (K:Xb) (H:Hp) (a:Vg) (xs:List V):Prop :=
 Rd H a (.lst xs) \/
  ∃ (o:Obj) (its:Array Vb) (n:Nat),K.lookup a=some o/\o.cls=.type "list" /\ o.dict=none/\o.data=.seq its n/\its.size<=sizeLine/\Za9 xs its.toList
def SqT (K:Xb) (H:Hp) (a:Vg) (xs:List V):Prop :=
 Rd H a (.tup xs) \/
  ∃ (o:Obj) (its:Array Vb) (n:Nat),K.lookup a=some o/\o.cls=.type "tuple" /\ o.data=.seq its n/\its.size<=sizeLine/\Za9 xs its.toList/\o.dict=none
nonrec def absV:Vb->Option V
 | .none=>some .non
 | .bool b=>some (.bl b)
 | .int i _=>some (.int i)
 | .str x _=>some (.str x)
 | .bytes b _=>some (.byt b)
 | .float b _=>some (.flt b)
 | .ref a=>some (.ref a)
 | .type n=>some (.ty n)
 | _=>none
theorem Zbc.abs {x:V} {u:Vb} (r:Zbc x u):absV u=some x:=by
 cases x with
 | non=>cases r; rfl
 | bl _=>cases r; rfl
 | int _=>obtain⟨t,rfl⟩:=r; rfl
 | str _=>obtain⟨t,rfl⟩:=r; rfl
 | byt _=>obtain⟨t,rfl⟩:=r; rfl
 | flt _=>obtain⟨t,rfl⟩:=r; rfl
 | ref _=>cases r; rfl
 | ty _=>cases r; rfl
theorem Zbc.inj {x y:V} {u:Vb} (r:Zbc x u) (q:Zbc y u):x=y:=Waa.inj (r.abs.symm.trans q.abs)
theorem Za9.inj:∀ {xs ys:List V} {us:List Vb},Za9 xs us->Za9 ys us->xs=ys:=by
 intro xs ys us h
 induction h generalizing ys with
 | nil=>intro h'; cases h'; rfl
 | cons r t ih =>
  intro h'
  cases h' with
  | cons r' t'=>rw[r.inj r',ih t']
section
variable {X:Cx} {pins:List (Vg×Obj)} {σ:St} {H:Hp} {s:Vd} {a:Vg} {xs ys:List V}
theorem SqL.of {K:Xb} (h:H a=some (.lst xs)):SqL K H a xs:=.inl (.inl h)
theorem SqT.of {K:Xb} (h:H a=some (.tup xs)):SqT K H a xs:=.inl (.inl h)
theorem Inv.list (I:Inv X pins σ H s) (h:SqL X.K H a xs):∃ its:List Vb,Za9 xs its/\PlainL s.heap a its.toArray/\xs.length<=sizeLine:=by
 rcases h with h | ⟨o,its,n,hk,hc,hd,hs,hz,r⟩
 ·obtain⟨z,its,n,r,e⟩:=h.ok I.hok
  exact⟨its,r,⟨_,n,e,rfl,rfl,rfl⟩,z⟩
 ·refine⟨its.toList,r,⟨o,n,I.kIn a o hk,hc,hd,by simpa using hs⟩,?_⟩
  have e:=r.length
  simp only[Wad] at e
  omega
theorem Inv.tuple (I:Inv X pins σ H s) (h:SqT X.K H a xs):∃ its:List Vb,Za9 xs its/\Ucw s.heap a its.toArray/\xs.length<=sizeLine:=by
 rcases h with h | ⟨o,its,n,hk,hc,hs,hz,r,_⟩
 ·obtain⟨z,its,r,p⟩:=h.ok I.hok
  exact⟨its,r,p.tup,z⟩
 ·refine⟨its.toList,r,⟨o,I.kIn a o hk,hc,n,by simpa using hs⟩,?_⟩
  have e:=r.length
  simp only[Wad] at e
  omega
theorem Inv.list_inj (I:Inv X pins σ H s) (h:SqL X.K H a xs) (h':SqL X.K H a ys):xs=ys:=by
 obtain⟨its,r,⟨o,n,e,_,_,d⟩,_⟩:=I.list h
 obtain⟨its',r',⟨o',n',e',_,_,d'⟩,_⟩:=I.list h'
 rw[e] at e'; cases e'
 rw[d] at d'
 injection d' with d1 _
 have:its=its':=by simpa using congrArg Wfy d1
 subst this
 exact r.inj r'
theorem Inv.tuple_inj (I:Inv X pins σ H s) (h:SqT X.K H a xs) (h':SqT X.K H a ys):xs=ys:=by
 obtain⟨its,r,⟨o,e,_,n,d⟩,_⟩:=I.tuple h
 obtain⟨its',r',⟨o',e',_,n',d'⟩,_⟩:=I.tuple h'
 rw[e] at e'; cases e'
 rw[d] at d'
 injection d' with d1 _
 have:its=its':=by simpa using congrArg Wfy d1
 subst this
 exact r.inj r'
end
nonrec abbrev Cx.wish (X:Cx) (E:Vb->Vd->Prop):Cx:={ X with xe:=E }
nonrec abbrev Cx.nox (X:Cx):Cx:=X.wish fun _ _=>False
theorem Cx.Ok.wish {X:Cx} (ok:X.Ok) (E:Vb->Vd->Prop):(X.wish E).Ok :=
 ⟨ok.mod,ok.kind,ok.glob,ok.blt,ok.above,ok.inj,ok.has,ok.cab,ok.hd,ok.frames,ok.stk,ok.exf,ok.bs,ok.bsz,ok.noex,ok.exfs,ok.funs,ok.frf⟩
theorem Cx.Ok.unwish {X:Cx} {E:Vb->Vd->Prop} (ok:(X.wish E).Ok):X.Ok :=
 ⟨ok.mod,ok.kind,ok.glob,ok.blt,ok.above,ok.inj,ok.has,ok.cab,ok.hd,ok.frames,ok.stk,ok.exf,ok.bs,ok.bsz,ok.noex,ok.exfs,ok.funs,ok.frf⟩
section
variable {X:Cx} {pins:List (Vg×Obj)} {σ:St} {H:Hp} {s:Vd} {E:Vb->Vd->Prop}
theorem Inv.wish (I:Inv X pins σ H s) (E:Vb->Vd->Prop):Inv (X.wish E) pins σ H s:=⟨I.ok.wish E,I.os,I.bare,I.base,I.loc,I.cell,I.free,I.freeC,I.pin,I.hok,I.len⟩
theorem Inv.unwish (I:Inv (X.wish E) pins σ H s):Inv X pins σ H s:=⟨I.ok.unwish,I.os,I.bare,I.base,I.loc,I.cell,I.free,I.freeC,I.pin,I.hok,I.len⟩
theorem SP.unwish {D:Ends} {f:Flow} {s':Vd} (h:SP (X.wish E) pins D f s'):SP X pins D f s':=by
 cases f with
 | next=>obtain⟨σ',H',I,q⟩:=h; exact⟨σ',H',I.unwish,q⟩
 | brk=>obtain⟨σ',H',I,q⟩:=h; exact⟨σ',H',I.unwish,q⟩
 | cont=>obtain⟨σ',H',I,q⟩:=h; exact⟨σ',H',I.unwish,q⟩
 | ret u=>obtain⟨v,σ',H',I,r,q⟩:=h; exact⟨v,σ',H',I.unwish,r,q⟩
theorem PSs.nox {st:List Ubv} {t:TS} (h:PSs X.nox st t):PSs X st t:=fun pins s σ H D I hw =>
 Ube (h pins s σ H D (I.wish _) hw) (fun _ _ q=>q.unwish) fun _ _ z=>Tad z
end
section
variable {X:Cx} {st:Ubv} {rest:List Ubv} {t u:TS} {e:Uac} {te:TE} {pos:Pos}
nonrec def tNext:TS:=fun D σ H=>D.nx σ H
nonrec def tSeq (t u:TS):TS:=fun D σ H=>t { D with nx:=u D } σ H
theorem Zt8:PSs X [] tNext:=fun _ _ σ H _ I h=>Ucy ⟨σ,H,I,h⟩
theorem Zrk (h1:PS X st t) (h2:PSs X rest u):PSs X (st::rest) (tSeq t u):=by
 intro pins s σ H D I h
 refine wpAny_execs_cons (thn (h1 pins s σ H { D with nx:=u D } I h) fun f s1 q=>?_)
 cases f with
 | next =>
  obtain⟨σ',H',I',q⟩:=q
  exact h2 pins s1 σ' H' D I' q
 | ret v=>exact q
 | brk=>exact q
 | cont=>exact q
theorem Inv.quiet {pins:List (Vg×Obj)} {σ:St} {H:Hp} {s:Vd} (I:Inv X pins σ H s):interactive X.env=false:=by simp[interactive,I.ok.kind]
nonrec def tDrop (te:TE):TS:=fun D σ H=>te σ H fun _ H1=>D.nx σ H1
theorem Ztx (he:PE X e te) (hs:Ucz e none pos.line X.env=pure false:=by rfl):PS X (.Expr e pos) (tDrop te):=by
 intro pins s σ H D I h
 exact wpAny_Expr_any (thn (he pins s σ H _ I h) fun v s1 ⟨x,H1,I1,r1,q1⟩=>⟨σ,H1,I1,q1⟩) I.quiet hs
nonrec def tRet (te:TE):TS:=fun D σ H=>te σ H D.rt
theorem Zwf (he:PE X e te):PS X (.Return (some e) pos) (tRet te):=by
 intro pins s σ H D I h
 exact wpAny_Return_some (thn (he pins s σ H _ I h) fun v s1 ⟨x,H1,I1,r1,q1⟩=>⟨x,σ,H1,I1,r1,q1⟩)
nonrec def tIfS (c:TT) (t u:TS):TS:=fun D σ H=>c σ H fun b H1=>if b=true then t D σ H1 else u D σ H1
theorem ps_if {c:Uac} {a b:List Ubv} {tc:TT} (hc:PT X c tc) (ha:PSs X a t) (hb:PSs X b u):PS X (.If c a b pos) (tIfS tc t u):=by
 intro pins s σ H D I h
 refine wpAny_If (thn (hc pins s σ H _ I h) fun d s1 zz=>?_)
 obtain⟨H1,I1,q1⟩:=zz
 cases d with
 | true=>exact ha pins s1 σ H1 D I1 q1
 | false=>exact hb pins s1 σ H1 D I1 q1
end
nonrec abbrev TG:=V->St->Hp->(St->Hp->Prop)->Prop
nonrec abbrev TGs:=List V->St->Hp->(St->Hp->Prop)->Prop
def PG (X:Cx) (target:Uac) (t:TG):Prop :=
 ∀ (pins:List (Vg×Obj)) (s:Vd) (σ:St) (H:Hp) (v:V) (u:Vb) (Q:St->Hp->Prop),Inv X pins σ H s->Zbc v u->t v σ H Q ->
  Vf (Vj X.prog X.w) X.A (Udm target X.env u) (fun _ s'=>∃ σ' H',Inv X pins σ' H' s'/\Q σ' H') X.xe s
def PGs (X:Cx) (ts:List Uac) (t:TGs):Prop :=
 ∀ (pins:List (Vg×Obj)) (s:Vd) (σ:St) (H:Hp) (vs:List V) (us:List Vb) (Q:St->Hp->Prop),Inv X pins σ H s->Za9 vs us->t vs σ H Q ->
  Vf (Vj X.prog X.w) X.A (assignInOrder ((Uaw ts X.env).map (·.2)) us) (fun _ s'=>∃ σ' H',Inv X pins σ' H' s'/\Q σ' H') X.xe s
nonrec abbrev TSet:=V->V->V->Hp->(Hp->Prop)->Prop
def PSet (X:Cx) (t:TSet):Prop :=
 ∀ (pins:List (Vg×Obj)) (s:Vd) (σ:St) (H:Hp) (o i v:V) (ov iv u:Vb) (Q:Hp->Prop),Inv X pins σ H s->Zbc o ov->Zbc i iv->Zbc v u->t o i v H Q ->
  Vf (Vj X.prog X.w) X.A (setItem ov iv u) (fun _ s'=>∃ H',Inv X pins σ H' s'/\Q H') X.xe s
section
variable {X:Cx} {pos:Pos}
nonrec def Zhp (i:Nat):TG:=fun v σ H Q=>Q (σ.set i (some v)) H
theorem Zh2 {i:Nat} {x:Str} (hN:X.N.Nodup) (hi:X.N[i]? = some x) (hx:Loc X.env.scope x) (hf:X.fn x=true\/X.env.scope.names.lookup x=some .local:=by first | exact .inl rfl | exact .inr rfl | assumption):PG X (.Name x pos) (Zhp i):=by
 intro pins s σ H v u Q I r h
 exact wpAny_assign_Name (Zk7 I hN hi hx r (fun s' I'=>⟨_,H,I',h⟩) hf)
nonrec def gNil:TGs:=fun vs σ H Q=>vs=[]/\Q σ H
nonrec def Zor (t:TG) (u:TGs):TGs:=fun vs σ H Q=>∃ v r,vs=v::r/\t v σ H fun σ' H'=>u r σ' H' Q
theorem Znu:PGs X [] gNil:=by
 intro pins s σ H vs us Q I r h
 obtain⟨e,h⟩:=h
 subst e
 cases r
 exact assignInOrder_nil ⟨σ,H,I,h⟩
theorem Zh1 {e:Uac} {es:List Uac} {t:TG} {u:TGs} (h1:PG X e t) (h2:PGs X es u)
  (hs:(Uaw (e::es) X.env).map (·.2)=Udm e X.env::(Uaw es X.env).map (·.2):=by rfl):PGs X (e::es) (Zor t u):=by
 intro pins s σ H vs us Q I r h
 obtain⟨v,vr,e1,h⟩:=h
 subst e1
 cases r with
 | cons r rr =>
  rw[hs]
  refine assignInOrder_cons (thn (h1 pins s σ H _ _ _ I r h) fun _ s1 zz=>?_)
  obtain⟨σ1,H1,I1,q1⟩:=zz
  exact h2 pins s1 σ1 H1 _ _ Q I1 rr q1
nonrec def gTup (K:Xb) (n:Nat) (t:TGs):TG:=fun v σ H Q=>∃ a xs,v=.ref a/\SqT K H a xs/\xs.length=n/\t xs σ H Q
theorem Zsb {es:List Uac} {k:Nat} {t:TGs} {n:Nat} (hc:X.calm=true) (h:PGs X es t)
  (hn:(Uaw es X.env).length=n:=by rfl) (hst:(Uaw es X.env).findIdx? (·.1)=none:=by rfl):PG X (.Tuple es k pos) (gTup X.K n t):=by
 intro pins s σ H v u Q I r hw
 obtain⟨a,xs,e1,hq,hl,hw⟩:=hw
 subst e1
 cases r
 obtain⟨its,rv,ht,hz⟩:=I.tuple hq
 refine assign_Tuple_tuple (I.ok.hd hc) ht (by simp[hn,<- hl,rv.length]) hst fun h' hx=>?_
 have I1:Inv X pins σ H { s with heap:=h' }:=I.kept (t':=s.toks) fun b o e=>hx b o (Xh (Xd e)) e
 exact h pins _ σ H xs _ Q I1 (by simpa using rv) hw
nonrec def gSub (to ti:TE) (t:TSet):TG:=fun v σ H Q=>to σ H fun o H1=>ti σ H1 fun i H2=>t o i v H2 fun H3=>Q σ H3
theorem Zv3 {o i:Uac} {to ti:TE} {t:TSet} (ho:PE X o to) (hi:PE X i ti) (hs:PSet X t)
  (ha:∀ v,Udm (.Subscript o i pos) X.env v=(do
   let ov<-Udp [v] (eval o X.env)
   let iv<-Udp [v,ov] (eval i X.env)
   standAt pos
   Udp [v,ov,iv] (setItem ov iv v)
   release [v,ov,iv] []):=by intro _; rfl):PG X (.Subscript o i pos) (gSub to ti t):=by
 intro pins s σ H v u Q I r h
 rw[ha]
 refine Va (Vs (thn (ho pins s σ H _ I h) fun ov s1 zz=>?_))
 obtain⟨x,H1,I1,r1,q1⟩:=zz
 refine Va (Vs (thn (hi pins s1 σ H1 _ I1 q1) fun iv s2 zz=>?_))
 obtain⟨y,H2,I2,r2,q2⟩:=zz
 refine Va (Ubx (Va (Vs (thn (hs pins s2 σ H2 x y v ov iv u _ I2 r1 r2 r q2) fun _ s3 zz=>?_))))
 obtain⟨H3,I3,q3⟩:=zz
 exact wpAny_release ⟨σ,H3,I3,q3⟩
nonrec def tAsg (te:TE) (g:TG):TS:=fun D σ H=>te σ H fun x H1=>g x σ H1 D.nx
theorem Zv9 {tg e:Uac} {te:TE} {g:TG} (he:PE X e te) (hg:PG X tg g) (hs:swapsWithSole [tg] e pos.line X.env=pure false:=by rfl) (hw:swappedStores [tg] e X.env=pure none:=by rfl)
  (h1:(Uaw [tg] X.env).map (·.2)=[Udm tg X.env]:=by rfl):PS X (.Assign [tg] e pos) (tAsg te g):=by
 intro pins s σ H D I h
 refine wpAny_Assign_stores (thn (he pins s σ H _ I h) fun v s1 ⟨x,H1,I1,r1,q1⟩=>?_) hs hw
 rw[h1]
 exact thn (hg pins s1 σ H1 x v _ I1 r1 q1) fun _ s2 q=>q
theorem Zxk {i:Nat} {x:Str} {e:Uac} {te:TE} {pos':Pos} (hN:X.N.Nodup) (hi:X.N[i]? = some x) (hx:Loc X.env.scope x) (he:PE X e te) (hs:Ucz e (some (.Name x pos')) pos.line X.env=pure false:=by rfl) (hf:X.fn x=true\/X.env.scope.names.lookup x=some .local:=by first | exact .inl rfl | exact .inr rfl | assumption) :
  PS X (.Assign [.Name x pos'] e pos) (tAsg te (Zhp i)):=by
 intro pins s σ H D I h
 refine wpAny_Assign_Name (thn (he pins s σ H _ I h) fun v s1 ⟨y,H1,I1,r1,q1⟩=>?_) hs
 exact Zk7 I1 hN hi hx r1 (fun s2 I2=>⟨_,H1,I2,q1⟩) hf
end
section
variable {X:Cx} {pos:Pos}
nonrec def Zxt (c:TT) (tb:TS):TS:=fun D σ H=>∃ W:Nat->St->Hp->Prop,(∃ m,W m σ H)/\∀ m σ H,W m σ H ->
 c σ H fun b H1=>if b=true then ∃ N:St->Hp->Prop,(∀ σ' H',N σ' H'->∃ m',m'<m/\W m' σ' H')/\tb { D with nx:=N,ct:=N,bk:=D.nx } σ H1 else D.nx σ H1
theorem Zrb {c:Uac} {body:List Ubv} {tc:TT} {tb:TS} (hp:Uee (Vj X.prog X.w) X.A X.env X.xe) (hc:PT X c tc) (hb:PSs X body tb):PS X (.While c body [] pos) (Zxt tc tb):=by
 intro pins s σ H D I h
 obtain⟨W,⟨m0,w0⟩,turn⟩:=h
 refine wpAny_While (codeAny_whileLoop (fun n s'=>∃ σ' H',Inv X pins σ' H' s'/\W n σ' H') ?_ m0 ⟨σ,H,I,w0⟩)
 rintro n s1 ⟨σ1,H1,I1,w1⟩
 refine Uaq hp (thn (hc pins s1 σ1 H1 _ I1 (turn n σ1 H1 w1)) fun b s2 zz=>?_)
 obtain⟨H2,I2,q2⟩:=zz
 cases b with
 | true =>
  obtain⟨N,hN,q2⟩:=q2
  rw[if_pos rfl]
  refine Uaq hp (thn (hb pins s2 σ1 H2 _ I2 q2) fun f s3 q3=>?_)
  cases f with
  | next =>
   obtain⟨σ3,H3,I3,n3⟩:=q3
   obtain⟨m',hm,w3⟩:=hN σ3 H3 n3
   exact⟨m',hm,σ3,H3,I3,w3⟩
  | cont =>
   obtain⟨σ3,H3,I3,n3⟩:=q3
   obtain⟨m',hm,w3⟩:=hN σ3 H3 n3
   exact⟨m',hm,σ3,H3,I3,w3⟩
  | brk=>exact q3
  | ret v=>exact q3
 | false =>
  rw[if_neg Wau]
  exact Ucy ⟨σ1,H2,I2,q2⟩
end
structure It where
 go:Nat->Hp->Prop
 yld:Nat->Hp->V->Hp->Prop
 stop:Nat->Hp->Prop
def Zjr (X:Cx) (pins:List (Vg×Obj)) (H:Hp) (b:Vg):Prop :=
 H b=none/\b≠X.env.locals/\b∉X.fs/\(b∈X.ex\/X.s₀.heap.objs.size<=b)/\(∀ x c,X.env.cells.lookup x=some c->c≠b)/\∀ p∈X.pn++pins,p.1≠b
theorem Inv.fpOk {X:Cx} {pins:List (Vg×Obj)} {σ:St} {H H':Hp} {s:Vd} {b:Vg} (I:Inv X pins σ H s) (hb:s.heap.objs.size<=b) (hn:H' b=none):Zjr X pins H' b:=by
 refine⟨hn,Wcc (Xi I.lt hb),I.nofs hb,.inr (Xq I.sz hb),fun x c e z=>?_,fun p hp z=>?_⟩
 ·obtain⟨v,q⟩:=I.cell x c e
  exact absurd (Xi q.lt (by rw[z]; exact hb)) (Wat _)
 ·exact absurd (Xi (Xd (I.pin p hp).1) (by rw[z]; exact hb)) (Wat _)
structure Turn (P:Vl) (w:Vt) (K:Xb) (tg:Uac) (J:It) (fp:List Vg) (it:Vg) (tn:Nat->Uab->Prop):Prop where
 mem:it∈fp
 obj:∀ i h,tn i h->∀ b∈fp,∃ o,h.get? b=some o/\∀ v,o.data≠.cell v
 keep:∀ i h h',tn i h->(∀ b∈fp,∀ o,h.get? b=some o->h'.get? b=some o)->tn i h'
 item:∀ (X:Cx),X.prog=P->X.w=w->X.K=K->X.calm=true->∀ (i:Nat) (pins:List (Vg×Obj)) (s:Vd) (σ:St) (H:Hp) (E:Vb->Vd->Prop),Inv X pins σ H s->(∀ b∈fp,Zjr X pins H b)->tn i s.heap->J.go i H ->
  Vf (Vj P w) X.A (Uar (.ref it)) (fun r s1=>∃ u,r=some u /\
   Vf (Vj P w) X.A (Uda tg (.ref it) u) (fun _ s2=>∃ x H',Inv X pins σ H' s2/\Zbc x u/\J.yld i H x H'/\tn (i+1) s2.heap/\∀ b∈fp,H' b=none) E s1) E s
 done:∀ (X:Cx),X.prog=P->X.w=w->X.K=K->X.calm=true->∀ (i:Nat) (pins:List (Vg×Obj)) (s:Vd) (σ:St) (H:Hp) (E:Vb->Vd->Prop),Inv X pins σ H s->(∀ b∈fp,Zjr X pins H b)->tn i s.heap->J.stop i H ->
  Vf (Vj P w) X.A (Uar (.ref it)) (fun r s1=>r=none/\Inv X pins σ H s1) E s
 self:∀ (A:Vu) (i:Nat) (s:Vd) (Q:Vb->Vd->Prop) (E:Vb->Vd->Prop),tn i s.heap->Q (.ref it) s->Vf (Vj P w) A (pyIter (.ref it)) Q E s
nonrec abbrev TI:=St->Hp->(It->Hp->Prop)->Prop
def PIE (X:Cx) (pins:List (Vg×Obj)) (σ:St) (tg:Uac) (R:It->Hp->Prop) (itv:Vb) (s2:Vd):Prop :=
 ∃ (it:Vg) (fp:List Vg) (tn:Nat->Uab->Prop) (J:It) (H':Hp),itv=.ref it/\Inv X pins σ H' s2/\Turn X.prog X.w X.K tg J fp it tn/\tn 0 s2.heap/\(∀ b∈fp,Zjr X pins H' b)/\R J H'
def PI (X:Cx) (tg iter:Uac) (wi:TI):Prop :=
 ∀ (pins:List (Vg×Obj)) (s:Vd) (σ:St) (H:Hp) (R:It->Hp->Prop),Inv X pins σ H s->wi σ H R ->
  Vf (Vj X.prog X.w) X.A (eval iter X.env) (fun v s1=>Vf (Vj X.prog X.w) X.A (pyIter v) (PIE X pins σ tg R) X.xe s1) X.xe s
theorem Zt2 {M:Uek} {A:Vu} {E:Vb->Vd->Prop} {s:Vd} {tg:Uac} {it:Vg} {u:Vb} {o:Obj} {n:String} {vs:Array Vb} {Q:Unit->Vd->Prop} (ho:s.heap.get? it=some o) (hc:o.cls=.type n) (hd:o.data=.fields vs)
  (hn:["enumerate","zip","dict_itemiterator","dict_reverseitemiterator","odict_iterator","itertools.zip_longest","itertools.pairwise"].contains n=false) (hQ:Q () s):Vf M A (Uda tg (.ref it) u) Q E s:=by
 unfold Uda
 cases tg<;>first
  | exact Vc hQ
  | (cases u<;>first
    | exact Vc hQ
    | (refine Va (wpAny_load ho ?_)
       rw[hc,hd]
       show Vf M A (if (["enumerate","zip","dict_itemiterator","dict_reverseitemiterator","odict_iterator","itertools.zip_longest","itertools.pairwise"].contains n&&vs[0]? == some (Uax _))=true then _ else _) Q E s
       rw[if_neg (by intro h; rw[hn,Bool.false_and] at h; cases h)]
       exact Vc hQ))
nonrec def Itl (K:Xb) (a:Vg):It :=
 ⟨fun i H=>∃ xs x,SqL K H a xs/\xs[i]? = some x,fun i H x H'=>H'=H/\∀ xs,SqL K H a xs->xs[i]? = some x,fun i H=>∃ xs,SqL K H a xs/\xs.length<=i⟩
nonrec def Itt (K:Xb) (a:Vg):It :=
 ⟨fun i H=>∃ xs x,SqT K H a xs/\xs[i]? = some x,fun i H x H'=>H'=H/\∀ xs,SqT K H a xs->xs[i]? = some x,fun i H=>∃ xs,SqT K H a xs/\xs.length<=i⟩
nonrec def Itr (lo:Int) (n:Nat):It:=⟨fun i _=>i<n,fun i H x H'=>H'=H/\x=.int (lo+i),fun i _=>n<=i⟩
theorem Zmr {P:Vl} {w:Vt} {K:Xb} {tg:Uac} (a it:Vg):Turn P w K tg (Itl K a) [it] it (fun i h=>h.IsListIter it a i) where
 mem:=by simp
 obj:=fun i h st b hb=>by
  have e:b=it:=by simpa using hb
  subst e
  obtain⟨o,e,c,d⟩:=st
  exact⟨o,e,fun v z=>by rw[d] at z; cases z⟩
 keep:=fun i h h' st k=>st.at fun o e=>k it (by simp) o e
 item:=by
  intro X hP hw hK hc i pins s σ H E I hf st hg
  subst hP hw hK
  obtain⟨xs,x,hq,hx⟩:=hg
  obtain⟨its,rv,p,hz⟩:=I.list hq
  obtain⟨u,hu,ru⟩:=rv.get hx
  obtain⟨f0,f1,f2,f3,f4,f5⟩:=hf it (by simp)
  refine wpAny_pyNext_list_item st p.isList (x:=u) (by simpa using hu) fun h' st' sb=>?_
  have I1:Inv X pins σ H { s with heap:=h' }:=I.turned (t':=s.toks) (fun b o hb e=>(sb.2 b hb).trans e) f0 f1 f3 f4 f5
  obtain⟨o,e,c,d⟩:=id st'
  exact⟨u,rfl,Zt2 (s:={ s with heap:=h' }) e c d (by decide) ⟨x,H,I1,ru,⟨rfl,fun ys hy=>by rw[I.list_inj hy hq]; exact hx⟩,st',fun b hb=>(hf b hb).1⟩⟩
 done:=by
  intro X hP hw hK hc i pins s σ H E I hf st hg
  subst hP hw hK
  obtain⟨xs,hq,hx⟩:=hg
  obtain⟨its,rv,p,hz⟩:=I.list hq
  obtain⟨f0,f1,f2,f3,f4,f5⟩:=hf it (by simp)
  have hl:=rv.length
  exact wpAny_pyNext_list_end (I.ok.hd hc) st p.isList (by simp; omega) fun h' eb=>⟨rfl,I.turned (t':=s.toks) (fun b o hb e=>eb b o hb e) f0 f1 f3 f4 f5⟩
 self:=fun _ _ _ _ _ st h=>wpAny_pyIter_listiter st h
theorem Zlr {P:Vl} {w:Vt} {K:Xb} {tg:Uac} (a it:Vg):Turn P w K tg (Itt K a) [it] it (fun i h=>h.IsTupleIter it a i) where
 mem:=by simp
 obj:=fun i h st b hb=>by
  have e:b=it:=by simpa using hb
  subst e
  obtain⟨o,e,c,d⟩:=st
  exact⟨o,e,fun v z=>by rw[d] at z; cases z⟩
 keep:=fun i h h' st k=>st.at fun o e=>k it (by simp) o e
 item:=by
  intro X hP hw hK hc i pins s σ H E I hf st hg
  subst hP hw hK
  obtain⟨xs,x,hq,hx⟩:=hg
  obtain⟨its,rv,p,hz⟩:=I.tuple hq
  obtain⟨u,hu,ru⟩:=rv.get hx
  obtain⟨f0,f1,f2,f3,f4,f5⟩:=hf it (by simp)
  refine wpAny_pyNext_tuple_item st (show s.heap.IsTuple a its.toArray from p) (x:=u) (by simpa using hu) fun h' st' sb=>?_
  have I1:Inv X pins σ H { s with heap:=h' }:=I.turned (t':=s.toks) (fun b o hb e=>(sb.2 b hb).trans e) f0 f1 f3 f4 f5
  obtain⟨o,e,c,d⟩:=id st'
  exact⟨u,rfl,Zt2 (s:={ s with heap:=h' }) e c d (by decide) ⟨x,H,I1,ru,⟨rfl,fun ys hy=>by rw[I.tuple_inj hy hq]; exact hx⟩,st',fun b hb=>(hf b hb).1⟩⟩
 done:=by
  intro X hP hw hK hc i pins s σ H E I hf st hg
  subst hP hw hK
  obtain⟨xs,hq,hx⟩:=hg
  obtain⟨its,rv,p,hz⟩:=I.tuple hq
  obtain⟨f0,f1,f2,f3,f4,f5⟩:=hf it (by simp)
  have hl:=rv.length
  exact wpAny_pyNext_tuple_end (I.ok.hd hc) st (show s.heap.IsTuple a its.toArray from p) (by simp; omega) fun h' eb=>⟨rfl,I.turned (t':=s.toks) (fun b o hb e=>eb b o hb e) f0 f1 f3 f4 f5⟩
 self:=fun _ _ _ _ _ st h=>wpAny_pyIter_tupleiter st h
theorem Zl3 {P:Vl} {w:Vt} {K:Xb} {tg:Uac} (it:Vg) (lo:Int) (n:Nat):Turn P w K tg (Itr lo n) [it] it (fun i h=>IsRangeIter h it (lo+(i:Nat)*1) ((n:Int) - (i:Nat)) 1) where
 mem:=by simp
 obj:=fun i h st b hb=>by
  have e:b=it:=by simpa using hb
  subst e
  exact⟨_,st,fun v z=>by
   have z':Data.fields _=Data.cell v:=z
   cases z'⟩
 keep:=fun i h h' st k=>k it (by simp) _ st
 item:=by
  intro X hP hw hK hc i pins s σ H E I hf st hg
  subst hP hw hK
  obtain⟨f0,f1,f2,f3,f4,f5⟩:=hf it (by simp)
  have W:=Walks.range (prog:=X.prog) (w:=X.w) (I.ok.hd hc) it lo 1 n
  refine W.item i s _ _ hg st fun v h' tk hv st' kk=>?_
  obtain⟨t,rfl⟩:=hv
  have I1:Inv X pins σ H { s with heap:=h',toks:=tk }:=I.turned (fun b o hb e=>kk b o (by simpa using hb) e) f0 f1 f3 f4 f5
  refine⟨_,rfl,Zt2 (s:={ s with heap:=h',toks:=tk }) (n := "range_iterator") st' rfl rfl (by decide) ⟨.int (lo+i),H,I1,⟨t,?_⟩,⟨rfl,rfl⟩,st',fun b hb=>(hf b hb).1⟩⟩
  rw[Int.mul_one]
 done:=by
  intro X hP hw hK hc i pins s σ H E I hf st hg
  subst hP hw hK
  obtain⟨f0,f1,f2,f3,f4,f5⟩:=hf it (by simp)
  exact wpAny_pyNext_range_end (I.ok.hd hc) st (by have:n<=i:=hg; omega) fun h' eb=>⟨rfl,I.turned (t':=s.toks) (fun b o hb e=>eb b o hb e) f0 f1 f3 f4 f5⟩
 self:=fun _ _ _ _ _ st h=>wpAny_pyIter_rangeiter st h
section
variable {X:Cx} {tg:Uac}
theorem Zko {pins:List (Vg×Obj)} {σ:St} {H:Hp} {s:Vd} {R:It->Hp->Prop} {E:Vb->Vd->Prop} {lo hi:Int} {t u v:Tok} {tk:Nat} (I:Inv X pins σ H s) (h1 : -(2 ^ 62)<=lo) (h2:lo<2 ^ 62) (h3 : -(2 ^ 62)<=hi) (h4:hi<2 ^ 62)
  (q:R (Itr lo (hi - lo).toNat) H):Vf (Vj X.prog X.w) X.A (pyIter (.ref s.heap.objs.size)) (PIE X pins σ tg R) E { s with heap:=s.heap.push { cls:=.type "range",data:=.fields #[.int lo t,.int hi u,.int 1 v] },toks:=tk }:=by
 refine wpAny_pyIter_range (IsRange.new ..) (small_one h1 h2 h3 h4) ?_
 have I1:Inv X pins σ H { s with heap:=s.heap.push { cls:=.type "range",data:=.fields #[.int lo t,.int hi u,.int 1 v] },toks:=tk }:=I.kept fun b o e=>Xa _ e
 refine⟨(s.heap.push { cls:=.type "range",data:=.fields #[.int lo t,.int hi u,.int 1 v] }).objs.size,[(s.heap.push { cls:=.type "range",data:=.fields #[.int lo t,.int hi u,.int 1 v] }).objs.size],_,_,H,rfl,
  I1.kept (t':=tk) fun b o e=>Xa _ e,Zl3 _ lo (hi - lo).toNat,?_,fun b hb=>?_,q⟩
 ·have e1:lo+((0:Nat):Int)*1=lo:=by simp
  have e2:(((hi - lo).toNat:Nat):Int) - ((0:Nat):Int)=Builtin.Range.rangeSize lo hi 1:=by rw[rangeSize_one]; split<;>omega
  show IsRangeIter _ _ (lo+((0:Nat):Int)*1) ((((hi - lo).toNat:Nat):Int) - ((0:Nat):Int)) 1
  rw[e1,e2]
  exact Xe _ rfl
 ·have e:b=(s.heap.push { cls:=.type "range",data:=.fields #[.int lo t,.int hi u,.int 1 v] }).objs.size:=by simpa using hb
  subst e
  exact I1.fpOk (Xf _) (I1.hok.fresh (Xf _))
nonrec def iRng1 (ta:TA):TI:=fun σ H R=>ta σ H fun vs H1=>∃ j:Int,vs=[.int j] /\ -(2 ^ 62)<=j/\j<2 ^ 62/\R (Itr 0 j.toNat) H1
nonrec def iRng2 (ta:TA):TI:=fun σ H R=>ta σ H fun vs H1=>∃ i j:Int,vs=[.int i,.int j]/\(-(2 ^ 62)<=i/\i<2 ^ 62 /\ -(2 ^ 62)<=j/\j<2 ^ 62)/\R (Itr i (j - i).toNat) H1
theorem Zo5 {a:Uac} {ta:TA} {p pos:Pos} (hg:Gl X "range") (hm:X.mg "range" = none) (ha:PA X [a] ta) (hs:Vk [a] X.env=[(false,eval a X.env)]:=by rfl):PI X tg (.Call (.Name "range" p) [a] [] pos) (iRng1 ta):=by
 intro pins s σ H R I h
 refine Call_ (Zdk I hg hm boot_range (Uh (thn (ha pos pins s σ H _ I h) fun us s1 ⟨vs,H1,I1,r1,q1⟩=>?_) hs rfl))
 obtain⟨j,e,q1,q2,q⟩:=q1
 subst e
 cases r1 with
 | cons r rr =>
  cases rr
  obtain⟨t,rfl⟩:=r
  exact call_range_1 (Zko I1 (by omega) (by omega) q1 q2 (by simpa using q))
theorem Zpk {a b:Uac} {ta:TA} {p pos:Pos} (hg:Gl X "range") (hm:X.mg "range" = none) (ha:PA X [a,b] ta) (hs:Vk [a,b] X.env=[(false,eval a X.env),(false,eval b X.env)]:=by rfl) (hs2:Vk [b] X.env=[(false,eval b X.env)]:=by rfl) :
  PI X tg (.Call (.Name "range" p) [a,b] [] pos) (iRng2 ta):=by
 intro pins s σ H R I h
 refine Call_ (Zdk I hg hm boot_range (Uh (thn (ha pos pins s σ H _ I h) fun us s1 ⟨vs,H1,I1,r1,q1⟩=>?_) (by rw[hs,hs2]) (by rw[hs2]; rfl)))
 obtain⟨i,j,e,⟨q1,q2,q3,q4⟩,q⟩:=q1
 subst e
 cases r1 with
 | cons r rr =>
  cases rr with
  | cons r' rr =>
   cases rr
   obtain⟨t,rfl⟩:=r
   obtain⟨t',rfl⟩:=r'
   exact call_range_2 (Zko I1 q1 q2 q3 q4 q)
nonrec def tFor (wi:TI) (g:TG) (tb:TS):TS:=fun D σ H=>wi σ H fun J H1=>∃ W:Nat->Nat->St->Hp->Prop,(∃ m,W 0 m σ H1)/\∀ i m σ H,W i m σ H ->
 (J.stop i H/\D.nx σ H)\/(J.go i H/\∃ N:St->Hp->Prop,(∀ σ' H',N σ' H'->∃ m',m'<m/\W (i+1) m' σ' H')/\∀ x H',J.yld i H x H'->g x σ H' fun σ2 H2=>tb { D with nx:=N,ct:=N,bk:=D.nx } σ2 H2)
nonrec def Zhc (fp:List Vg) (h:Uab):List (Vg×Obj):=fp.filterMap fun b=>(h.get? b).map fun o=>(b,o)
theorem Zbx {fp:List Vg} {h:Uab} {b:Vg} {o:Obj} (hb:b∈fp) (e:h.get? b=some o):(b,o)∈Zhc fp h:=Wed.mpr ⟨b,hb,by rw[e]; rfl⟩
theorem Zm6 {fp:List Vg} {h:Uab} {p:Vg×Obj} (hp:p∈Zhc fp h):p.1∈fp/\h.get? p.1=some p.2:=by
 obtain⟨b,hb,e⟩:=Wed.mp hp
 cases q:h.get? b with
 | none=>rw[q] at e; cases e
 | some o =>
  rw[q] at e
  have e':(b,o)=p:=Waa.inj e
  subst e'
  exact⟨hb,q⟩
theorem Inv.pinned {pins:List (Vg×Obj)} {σ:St} {H:Hp} {s:Vd} {fp:List Vg} (I:Inv X pins σ H s) (hf:∀ b∈fp,Zjr X pins H b) (ho:∀ b∈fp,∃ o,s.heap.get? b=some o/\∀ v,o.data≠.cell v):Inv X (pins++Zhc fp s.heap) σ H s :=
 I.pins_of fun p hp=>(Xs.mp hp).elim (fun z=>I.pin p (Xu _ z)) fun z=>by
  obtain⟨hb,e⟩:=Zm6 z
  obtain⟨f0,f1,f2,_⟩:=hf p.1 hb
  obtain⟨o,e',d⟩:=ho p.1 hb
  rw[e] at e'; cases e'
  exact⟨e,f0,f1,f2,d⟩
theorem Inv.unpinned {pins pl:List (Vg×Obj)} {σ:St} {H:Hp} {s:Vd} (I:Inv X (pins++pl) σ H s):Inv X pins σ H s:=I.pins_of fun p hp=>I.pin p (Xu _ (Wdv _ hp))
theorem Zvs {iter:Uac} {body:List Ubv} {wi:TI} {g:TG} {tb:TS} {pos:Pos} (hp:Uee (Vj X.prog X.w) X.A X.env X.xe) (hc:X.calm=true) (hi:PI X tg iter wi) (hg:PG X tg g) (hb:PSs X body tb)
  (hs:∀ x,Uae iter X.env x=pure x:=by intro _; rfl):PS X (.For tg iter body [] pos) (tFor wi g tb):=by
 intro pins s σ H D I h
 refine wpAny_For (thn (hi pins s σ H _ I h) fun v s1 h1=>thn h1 fun itv s2 h2=>?_) hs
 obtain⟨it,fp,tn,J,H2,e,I2,T,st2,f2,W,⟨m0,w0⟩,turn⟩:=h2
 subst e
 -- what stays true of the iterator's objects through the loop
 have stat:∀ {H':Hp},(∀ b∈fp,H' b=none)->∀ b∈fp,Zjr X pins H' b:=fun hn b hb=>⟨hn b hb,(f2 b hb).2⟩
 refine codeAny_forLoop_any (fun n s'=>∃ i σ' H',Inv X pins σ' H' s'/\tn i s'.heap/\(∀ b∈fp,H' b=none)/\W i n σ' H') ?_ m0 ⟨0,σ,H2,I2,st2,fun b hb=>(f2 b hb).1,w0⟩
 rintro n s3 ⟨i,σ3,H3,I3,st3,fr3,w3⟩
 rcases turn i n σ3 H3 w3 with ⟨stop,qn⟩ | ⟨go,N,hN,step⟩
 ·refine Uaq hp (thn (T.done X rfl rfl rfl hc i pins s3 σ3 H3 X.xe I3 (stat fr3) st3 stop) fun r s4 zz=>?_)
  obtain⟨hr,I4⟩:=zz
  subst hr
  exact Ucy ⟨σ3,H3,I4,qn⟩
 ·refine Uaq hp (thn (T.item X rfl rfl rfl hc i pins s3 σ3 H3 X.xe I3 (stat fr3) st3 go) fun r s4 zz=>?_)
  obtain⟨u,hr,h4⟩:=zz
  subst hr
  refine Uaq hp (thn h4 fun _ s5 zz=>?_)
  obtain⟨x,H5,I5,r5,y5,st5,fr5⟩:=zz
  have I5':=I5.pinned (stat fr5) (T.obj _ _ st5)
  refine Uaq hp (thn (hg _ s5 σ3 H5 x u _ I5' r5 (step x H5 y5)) fun _ s6 zz=>?_)
  obtain⟨σ6,H6,I6,q6⟩:=zz
  refine Uaq hp (thn (hb _ s6 σ6 H6 _ I6 q6) fun f s7 q7=>?_)
  have again:∀ {σ7:St} {H7:Hp},Inv X (pins++Zhc fp s5.heap) σ7 H7 s7->N σ7 H7->∃ m,m<n/\∃ i σ' H',Inv X pins σ' H' s7/\tn i s7.heap/\(∀ b∈fp,H' b=none)/\W i m σ' H':=fun {σ7 H7} I7 n7=>by
   obtain⟨m',hm,w7⟩:=hN σ7 H7 n7
   refine⟨m',hm,i+1,σ7,H7,I7.unpinned,T.keep _ _ _ st5 fun b hb o e=>(I7.pin (b,o) (Xu _ (Xu _ (Zbx hb e)))).1,fun b hb=>?_,w7⟩
   obtain⟨o,e,d⟩:=T.obj _ _ st5 b hb
   exact(I7.pin (b,o) (Xu _ (Xu _ (Zbx hb e)))).2.1
  cases f with
  | next=>obtain⟨σ7,H7,I7,n7⟩:=q7; exact again I7 n7
  | cont=>obtain⟨σ7,H7,I7,n7⟩:=q7; exact again I7 n7
  | brk=>obtain⟨σ7,H7,I7,q7⟩:=q7; exact⟨σ7,H7,I7.unpinned,q7⟩
  | ret v=>obtain⟨x7,σ7,H7,I7,r7,q7⟩:=q7; exact⟨x7,σ7,H7,I7.unpinned,r7,q7⟩
end
nonrec abbrev R2:=V->V->Hp->VK->Prop
def OpR (X:Cx) (f:Vb->Vb->Sem Vb) (r:R2):Prop :=
 ∀ (pins:List (Vg×Obj)) (s:Vd) (σ:St) (H:Hp) (x y:V) (v u:Vb) (Q:VK),Inv X pins σ H s->Zbc x v->Zbc y u->r x y H Q ->
  Vf (Vj X.prog X.w) X.A (f v u) (EP X pins σ Q) X.xe s
def UnR (X:Cx) (f:Vb->Sem Vb) (r:V->Hp->VK->Prop):Prop :=
 ∀ (pins:List (Vg×Obj)) (s:Vd) (σ:St) (H:Hp) (x:V) (v:Vb) (Q:VK),Inv X pins σ H s->Zbc x v->r x H Q ->
  Vf (Vj X.prog X.w) X.A (f v) (EP X pins σ Q) X.xe s
def Zhq (X:Cx) (f:Vb) (r:List V->Hp->VK->Prop):Prop :=
 ∀ (pins:List (Vg×Obj)) (s:Vd) (σ:St) (H:Hp) (xs:List V) (us:List Vb) (Q:VK),Inv X pins σ H s->Za9 xs us->r xs H Q ->
  Vf (Vj X.prog X.w) X.A (call f us) (EP X pins σ Q) X.xe s
def TruR (X:Cx) (r:V->Hp->(Bool->Hp->Prop)->Prop):Prop :=
 ∀ (pins:List (Vg×Obj)) (s:Vd) (σ:St) (H:Hp) (x:V) (v:Vb) (Q:Bool->Hp->Prop),Inv X pins σ H s->Zbc x v->r x H Q ->
  Vf (Vj X.prog X.w) X.A (truthy v) (TP X pins σ Q) X.xe s
nonrec def tOp (r:R2) (ta tb:TE):TE:=fun σ H Q=>ta σ H fun x H1=>tb σ H1 fun y H2=>r x y H2 Q
nonrec def tUn (r:V->Hp->VK->Prop) (ta:TE):TE:=fun σ H Q=>ta σ H fun x H1=>r x H1 Q
nonrec def rI (C:Int->Int->Prop) (g:Int->Int->V):R2:=fun x y H Q=>∃ i j,x=.int i/\y=.int j/\C i j/\Q (g i j) H
nonrec def rI0 (g:Int->Int->V):R2:=fun x y H Q=>∃ i j,x=.int i/\y=.int j/\Q (g i j) H
nonrec def rU (g:Int->V):V->Hp->VK->Prop:=fun x H Q=>∃ i,x=.int i/\Q (g i) H
section
variable {X:Cx} {a b c:Uac} {ta tb tc:TE} {pos:Pos}
theorem binT (ha:PE X a ta) (hb:PE X b tb) {pins:List (Vg×Obj)} {s:Vd} {σ:St} {H:Hp} {R:V->V->Hp->Prop} (I:Inv X pins σ H s)
  (h:ta σ H fun x H1=>tb σ H1 fun y H2=>R x y H2) {Q:Vb->Vd->Prop} {f:Vb->Vb->Sem Vb}
  (hf:∀ v u s2 x y H2,Inv X pins σ H2 s2->Zbc x v->Zbc y u->R x y H2->Vf (Vj X.prog X.w) X.A (f v u) Q X.xe s2) :
  Vf (Vj X.prog X.w) X.A (eval a X.env) (fun v s₁=>Vf (Vj X.prog X.w) X.A (eval b X.env) (fun u s₂=>Vf (Vj X.prog X.w) X.A (f v u) Q X.xe s₂) X.xe s₁) X.xe s:=by
 refine thn (ha pins s σ H _ I h) fun v s1 zz=>?_
 obtain⟨x,H1,I1,r1,q1⟩:=zz
 refine thn (hb pins s1 σ H1 _ I1 q1) fun u s2 zz=>?_
 obtain⟨y,H2,I2,r2,q2⟩:=zz
 exact hf v u s2 x y H2 I2 r1 r2 q2
theorem pe_op {op:Operator} {r:R2} (ho:OpR X (Uaf op) r) (ha:PE X a ta) (hb:PE X b tb):PE X (.BinOp a op b pos) (tOp r ta tb):=by
 intro pins s σ H Q I h
 exact wpAny_BinOp (binT ha hb I h fun v u s2 x y H2 I2 rx ry q=>ho pins s2 σ H2 x y v u Q I2 rx ry q)
theorem pe_un {op:UnaryOp} {r:V->Hp->VK->Prop} (ho:UnR X (unaryOp op) r) (ha:PE X a ta):PE X (.UnaryOp op a pos) (tUn r ta):=by
 intro pins s σ H Q I h
 exact UnaryOp_ (thn (ha pins s σ H _ I h) fun v s1 ⟨x,H1,I1,r1,q1⟩=>ho pins s1 σ H1 x v Q I1 r1 q1)
theorem opI {f:Vb->Vb->Sem Vb} {C:Int->Int->Prop} {g:Int->Int->Int}
  (rule:∀ (i j:Int) (t u:Tok) (s:Vd) (Q:Vb->Vd->Prop) (E:Vb->Vd->Prop),C i j->Q (.int (g i j) s.toks) { s with toks:=s.toks+1 }->Vf (Vj X.prog X.w) X.A (f (.int i t) (.int j u)) Q E s) :
  OpR X f (rI C fun i j=>.int (g i j)):=by
 intro pins s σ H x y v u Q I rx ry h
 obtain⟨i,j,rfl,rfl,hc,q⟩:=h
 obtain⟨t,rfl⟩:=rx
 obtain⟨t',rfl⟩:=ry
 exact rule i j t t' s _ _ hc ⟨.int (g i j),H,I.tok _,⟨_,rfl⟩,q⟩
theorem opI0 {f:Vb->Vb->Sem Vb} {g:Int->Int->Int}
  (rule:∀ (i j:Int) (t u:Tok) (s:Vd) (Q:Vb->Vd->Prop) (E:Vb->Vd->Prop),Q (.int (g i j) s.toks) { s with toks:=s.toks+1 }->Vf (Vj X.prog X.w) X.A (f (.int i t) (.int j u)) Q E s) :
  OpR X f (rI0 fun i j=>.int (g i j)):=by
 intro pins s σ H x y v u Q I rx ry h
 obtain⟨i,j,rfl,rfl,q⟩:=h
 obtain⟨t,rfl⟩:=rx
 obtain⟨t',rfl⟩:=ry
 exact rule i j t t' s _ _ ⟨.int (g i j),H,I.tok _,⟨_,rfl⟩,q⟩
theorem opB0 {f:Vb->Vb->Sem Vb} {g:Int->Int->Bool}
  (rule:∀ (i j:Int) (t u:Tok) (s:Vd) (Q:Vb->Vd->Prop) (E:Vb->Vd->Prop),Q (.bool (g i j)) s->Vf (Vj X.prog X.w) X.A (f (.int i t) (.int j u)) Q E s) :
  OpR X f (rI0 fun i j=>.bl (g i j)):=by
 intro pins s σ H x y v u Q I rx ry h
 obtain⟨i,j,rfl,rfl,q⟩:=h
 obtain⟨t,rfl⟩:=rx
 obtain⟨t',rfl⟩:=ry
 exact rule i j t t' s _ _ ⟨.bl (g i j),H,I,rfl,q⟩
def Zxn (i j:Int):Prop:=0<j/\j<1073741824
def Zxr (i j:Int):Prop:=0<=j/\j<=1000000/\i.natAbs<2 ^ 64
def Zrx (i j:Int):Prop:=(-(2 ^ 64)<i/\i<2 ^ 64)\/(-(2 ^ 64)<j/\j<2 ^ 64)
theorem Zrx.ok {i j:Int} (h:Zrx i j):IntMulOk i j:=by
 rcases h with ⟨h1,h2⟩ | ⟨h1,h2⟩
 ·exact .of_left (intBits_le_64 h1 h2)
 ·exact .of_right (intBits_le_64 h1 h2)
theorem Zvz:OpR X (Uaf .Add) (rI0 fun i j=>.int (i+j)):=opI0 fun _ _ _ _ _ _ _ q=>add_int q
theorem Zwt:OpR X (Uaf .Sub) (rI0 fun i j=>.int (i - j)):=opI0 fun _ _ _ _ _ _ _ q=>sub_int q
theorem Zvm:OpR X (Uaf .Mult) (rI Zrx fun i j=>.int (i*j)):=opI fun _ _ _ _ _ _ _ hc q=>mul_int q hc.ok
theorem Ztk:OpR X (Uaf .FloorDiv) (rI Zxn fun i j=>.int (i / j)):=opI fun i j _ _ _ _ _ hc q=>by
 have h1:(0:Int)<j:=hc.1
 have h2:j<1073741824:=hc.2
 exact floordiv_int (by omega) (by rw[Int.fdiv_eq_ediv_of_nonneg i (by omega)]; exact q) (.inl (PyProof.noPylong_small (by omega)))
theorem Zx2:OpR X (Uaf .Mod) (rI (fun _ j=>0<j) fun i j=>.int (i % j)):=opI fun i j _ _ _ _ _ hc q=>by
 have h1:(0:Int)<j:=hc
 exact mod_int' (by omega) (by rw[Int.fmod_eq_emod_of_nonneg i (by omega)]; exact q)
theorem Zxz:OpR X (Uaf .Pow) (rI Zxr fun i j=>.int (i ^ j.toNat)):=opI fun _ _ _ _ _ _ _ hc q=>pow_int_small hc.1 hc.2.1 hc.2.2 q
theorem unI {f:Vb->Sem Vb} {g:Int->Int}
  (rule:∀ (i:Int) (t:Tok) (s:Vd) (Q:Vb->Vd->Prop) (E:Vb->Vd->Prop),Q (.int (g i) s.toks) { s with toks:=s.toks+1 }->Vf (Vj X.prog X.w) X.A (f (.int i t)) Q E s) :
  UnR X f (rU fun i=>.int (g i)):=by
 intro pins s σ H x v Q I rx h
 obtain⟨i,rfl,q⟩:=h
 obtain⟨t,rfl⟩:=rx
 exact rule i t s _ _ ⟨.int (g i),H,I.tok _,⟨_,rfl⟩,q⟩
theorem Zx7:UnR X (unaryOp .USub) (rU fun i=>.int (-i)):=unI fun _ _ _ _ _ q=>neg_int q
end
section
variable {X:Cx} {a b c:Uac} {ta tb tc:TE} {pos:Pos}
theorem op_lt:OpR X (Uah .Lt) (rI0 fun i j=>.bl (decide (i<j))):=opB0 fun _ _ _ _ _ _ _ q=>lt_int q
theorem op_gt:OpR X (Uah .Gt) (rI0 fun i j=>.bl (decide (j<i))):=opB0 fun _ _ _ _ _ _ _ q=>gt_int q
theorem op_ge:OpR X (Uah .GtE) (rI0 fun i j=>.bl (decide (j<=i))):=opB0 fun _ _ _ _ _ _ _ q=>ge_int q
theorem Zaw (b:Uac) {op:CmpOp} (h:op≠.In:=by decide) (h2:op≠.NotIn:=by decide):Ubg op b=false:=by
 have e1:(op==CmpOp.In)=false:=by cases op<;>first | rfl | exact absurd rfl h
 have e2:(op==CmpOp.NotIn)=false:=by cases op<;>first | rfl | exact absurd rfl h2
 cases b<;>simp[Ubg,e1,e2]
theorem Zt0 {op:CmpOp} {r:R2} (ho:OpR X (Uah op) r) (ha:PE X a ta) (hb:PE X b tb) (hm:Ubg op b=false):PE X (.Compare a [op] [b] pos) (tOp r ta tb):=by
 intro pins s σ H Q I h
 exact wpAny_Compare1 (binT ha hb I h fun v u s2 x y H2 I2 rx ry q=>ho pins s2 σ H2 x y v u Q I2 rx ry q) hm
nonrec def tTest (t:TE):TT:=fun σ H Q=>t σ H fun x H'=>∃ k,x=.bl k/\Q k H'
theorem Zt7 {op:CmpOp} {r:R2} (ho:OpR X (Uah op) r) (ha:PE X a ta) (hb:PE X b tb) (hm:Ubg op b=false):PT X (.Compare a [op] [b] pos) (tTest (tOp r ta tb)):=by
 intro pins s σ H Q I h
 refine wpAny_isTrue_Compare1 (thn (ha pins s σ H _ I h) fun v s1 ⟨x,H1,I1,r1,q1⟩=>thn (hb pins s1 σ H1 _ I1 q1) fun u s2 ⟨y,H2,I2,r2,q2⟩ =>
  thn (ho pins s2 σ H2 x y v u _ I2 r1 r2 q2) fun c s3 ⟨z,H3,I3,r3,k,e,q3⟩=>?_) hm
 subst e
 cases r3
 exact Ubm ⟨H3,I3,q3⟩
def TruV (K:Xb) (x:V) (H:Hp) (k:Bool):Prop :=
 match x with
 | .non=>k=false
 | .bl b=>k=b
 | .int i=>k=(i != 0)
 | .str y=>y.length<=sizeLine/\k=((y.length:Int) != 0)
 | .byt y=>y.size<=sizeLine/\k=((y.size:Int) != 0)
 | .ref p=>(∃ xs,SqL K H p xs/\k = !xs.isEmpty)\/(∃ xs,SqT K H p xs/\k = !xs.isEmpty)\/∃ kvs,H p=some (.dK kvs)/\k = !kvs.isEmpty
 | _=>False
theorem Zmh {κ:Type} {kvs:List (κ×V)} {vs:List (κ×Vb)} (r:KV kvs vs):(!vs.isEmpty) = !kvs.isEmpty:=by
 cases r<;>rfl
theorem Zg3 {xs:List V} {its:List Vb} (r:Za9 xs its):(!its.toArray.isEmpty) = !xs.isEmpty:=by
 cases r<;>simp
theorem Zi3:(sizeLine:Nat)<2 ^ 63:=by rw[Uck]; decide
theorem Zwr:TruR X (fun x H Q=>∃ k,TruV X.K x H k/\Q k H):=by
 intro pins s σ H x v Q I rx h
 obtain⟨k,e,q⟩:=h
 have hl:=Zi3
 have hs:sizeLine=16777216:=Uck
 cases x with
 | non =>
  cases rx
  have e':k=false:=e
  subst e'
  exact truthy_none ⟨H,I,q⟩
 | bl b =>
  cases rx
  have e':k=b:=e
  subst e'
  exact Ubm ⟨H,I,q⟩
 | int i =>
  obtain⟨t,rfl⟩:=rx
  have e':k=(i != 0):=e
  subst e'
  exact PySem.P.truthy_int ⟨H,I,q⟩
 | str y =>
  obtain⟨t,rfl⟩:=rx
  obtain⟨hy,e'⟩:y.length<=sizeLine/\k=((y.length:Int) != 0):=e
  subst e'
  exact PySem.P.truthy_str (by omega) ⟨H,I.tok _,q⟩
 | byt y =>
  obtain⟨t,rfl⟩:=rx
  obtain⟨hy,e'⟩:y.size<=sizeLine/\k=((y.size:Int) != 0):=e
  subst e'
  exact PySem.W.truthy_bytes (by omega) ⟨H,I.tok _,q⟩
 | ref p =>
  cases rx
  have e':(∃ xs,SqL X.K H p xs/\k = !xs.isEmpty)\/(∃ xs,SqT X.K H p xs/\k = !xs.isEmpty)\/∃ kvs,H p=some (.dK kvs)/\k = !kvs.isEmpty:=e
  rcases e' with ⟨xs,hx,e'⟩ | ⟨xs,hx,e'⟩ | ⟨kvs,hx,e'⟩
  ·subst e'
   obtain⟨its,r,pl,hz⟩:=I.list hx
   have hlen:=r.length
   exact wpAny_truthy_list pl.isList (by simp only[Xj]; omega) ⟨H,I.tok _,by rw[Zg3 r]; exact q⟩
  ·subst e'
   obtain⟨its,r,pl,hz⟩:=I.tuple hx
   have hlen:=r.length
   exact truthy_tuple pl (by simp only[Xj]; omega) ⟨H,I.tok _,by rw[Zg3 r]; exact q⟩
  ·subst e'
   obtain⟨hz,hS,vs,r,m⟩:kvs.length<=sizeLine/\(p==Uai)=false/\∃ vs,KV kvs vs/\s.heap.DictOf (Zj7 X.prog X.w) p vs:=I.hok p _ hx
   have hlen:kvs.length=vs.length:=Tdh r
   exact wpAny_truthy_dict hS m (by omega) ⟨H,I.tok _,by rw[Zmh r]; exact q⟩
 | _=>exact(show False from e).elim
theorem Zqb (ha:PE X a ta) (he:∀ whole,isTrue a X.env whole=(do let v<-whole; standAt a.pos; Udp [v] (truthy v))) :
  PT X a (fun σ H Q=>ta σ H fun x H'=>∃ k,TruV X.K x H' k/\Q k H'):=by
 intro pins s σ H Q I h
 exact isTrue_plain (thn (ha pins s σ H _ I h) fun v s1 ⟨x,H1,I1,r1,q1⟩=>Zwr pins s1 σ H1 x v Q I1 r1 q1) (he _)
theorem Zma:OpR X (Uaf .Add) (fun x y H Q=>∃ i j,x=.str i/\y=.str j/\i.length+j.length<=sizeLine/\Q (.str (i++j)) H):=by
 intro pins s σ H x y v u Q I rx ry h
 obtain⟨i,j,rfl,rfl,hz,q⟩:=h
 obtain⟨t,rfl⟩:=rx
 obtain⟨t',rfl⟩:=ry
 exact add_str (fun t' tk=>⟨.str (i++j),H,I.tok _,⟨_,rfl⟩,q⟩) hz
theorem Zhl {x:V} {us:List Vb} (r:Za9 [x] us):∃ u,us=[u]/\Zbc x u:=by
 cases r with
 | cons r1 r2=>cases r2; exact⟨_,rfl,r1⟩
theorem Zs6 {x y:V} {us:List Vb} (r:Za9 [x,y] us):∃ u w',us=[u,w']/\Zbc x u/\Zbc y w':=by
 cases r with
 | cons r1 r2 =>
  cases r2 with
  | cons r3 r4=>cases r4; exact⟨_,_,rfl,r1,r3⟩
theorem Zqz:Zhq X (.builtin "abs") (fun xs H Q=>∃ i,xs=[.int i]/\Q (.int (if i<0 then -i else i)) H):=by
 intro pins s σ H xs us Q I r h
 obtain⟨i,rfl,q⟩:=h
 obtain⟨u,rfl,t,rfl⟩:=Zhl r
 exact call_abs_int fun u tk=>⟨.int (if i<0 then -i else i),H,I.tok _,⟨_,rfl⟩,q⟩
theorem Zne (hc:X.calm=true):Zhq X (.builtin "max") (fun xs H Q=>∃ i j,xs=[.int i,.int j]/\Q (.int (if j > i then j else i)) H):=by
 intro pins s σ H xs us Q I r h
 obtain⟨i,j,rfl,q⟩:=h
 obtain⟨u,w',rfl,⟨t,rfl⟩,⟨t',rfl⟩⟩:=Zs6 r
 refine max_two_ints (I.ok.hd hc) fun h' tk k=>⟨_,H,I.kept k,?_,q⟩
 by_cases hj:j > i
 ·rw[if_pos hj,if_pos hj]; exact⟨_,rfl⟩
 ·rw[if_neg hj,if_neg hj]; exact⟨_,rfl⟩
theorem Zi4:Zhq X (.type "int") (fun xs H Q=>(∃ i,xs=[.int i]/\Q (.int i) H)\/∃ k,xs=[.bl k]/\Q (.int (if k then 1 else 0)) H):=by
 intro pins s σ H xs us Q I r h
 rcases h with ⟨i,rfl,q⟩ | ⟨k,rfl,q⟩
 ·obtain⟨u,rfl,t,rfl⟩:=Zhl r
  exact call_int_int ⟨.int i,H,I,⟨_,rfl⟩,q⟩
 ·obtain⟨u,rfl,r1⟩:=Zhl r
  cases r1
  exact call_int_bool ⟨.int (if k then 1 else 0),H,I.tok _,⟨_,rfl⟩,q⟩
end
structure Room (k:Nat) (A:Vu):Prop where
 hd:A.handled=none
 dp:A.depth+3*k+5<recursionLimit
 un:A.units+16*k+200<cLine
 gd:A.guards=some []
theorem Room.mono {j k:Nat} {A:Vu} (r:Room k A) (h:j<=k):Room j A:=⟨r.hd,by have:=r.dp; omega,by have:=r.un; omega,r.gd⟩
theorem Room.deeper {k:Nat} {A:Vu} (r:Room (k+1) A) (env:Env):Room k (A.deeper env) :=
 ⟨r.hd,by have:=r.dp; show A.depth+1+3*k+5<_; omega,by have:=r.un; show A.units+3+16*k+200<_; omega,r.gd⟩
theorem Room.depth {k:Nat} {A:Vu} (r:Room k A):A.depth<recursionLimit:=by have:=r.dp; omega
theorem Room.units {k:Nat} {A:Vu} (r:Room k A):A.units+64<cLine:=by have:=r.un; omega
nonrec def tNil:TA:=fun _ H Q=>Q [] H
nonrec def tCons (ta:TE) (tr:TA):TA:=fun σ H Q=>ta σ H fun x H1=>tr σ H1 fun xs H2=>Q (x::xs) H2
section
variable {X:Cx} {e:Uac} {es:List Uac} {te:TE} {t:TA} {pos:Pos}
theorem Zvx:PA X [] tNil:=fun _ _ _ _ H Q I h=>Tcr ⟨[],H,I,.nil,h⟩
theorem Ztr (ha:PE X e te) (hr:PA X es t) (hs:Vk (e::es) X.env=(false,eval e X.env)::Vk es X.env:=by rfl):PA X (e::es) (tCons te t):=by
 intro pos pins s σ H Q I h
 rw[hs]
 show Vf _ _ (spliced ((false,eval e X.env)::Uau pos (Vk es X.env))) _ _ s
 refine Tck (thn (ha pins s σ H _ I h) fun u s1 zz=>?_)
 obtain⟨x,H1,I1,r1,q1⟩:=zz
 exact thn (hr pos pins s1 σ H1 _ I1 q1) fun us s2 ⟨xs,H2,I2,r2,q2⟩=>⟨x::xs,H2,I2,.cons r1 r2,q2⟩
nonrec def tTup (t:TA):TE:=fun σ H Q=>t σ H fun xs H1=>xs.length<=sizeLine/\∀ p,H1 p=none->Q (.ref p) (upd H1 p (.tup xs))
nonrec def tLst (t:TA):TE:=fun σ H Q=>t σ H fun xs H1=>xs.length<=sizeLine/\∀ p,H1 p=none->Q (.ref p) (upd H1 p (.lst xs))
theorem Zw5 {x1} (h:PA X es t):PE X (.Tuple es x1 pos) (tTup t):=by
 intro pins s σ H Q I hq
 refine wpAny_Tuple_spliced (thn (h pos pins s σ H _ I hq) fun us s1 ⟨xs,H1,I1,r,z,q⟩=>⟨by rw[<- r.length]; exact z,?_⟩)
 have hf:H1 s1.heap.objs.size=none:=I1.hok.fresh (Xf _)
 refine⟨.ref s1.heap.objs.size,upd H1 s1.heap.objs.size (.tup xs),I1.laid (t':=s1.toks) (fun b u e=>Xa _ e) (Xf _) ?_,rfl,q _ hf⟩
 exact⟨z,us,r,⟨_,Xe _ rfl,rfl,⟨_,rfl⟩,rfl⟩⟩
theorem Zwo (h:PA X es t):PE X (.List es pos) (tLst t):=by
 intro pins s σ H Q I hq
 refine wpAny_List_spliced (thn (h pos pins s σ H _ I hq) fun us s1 ⟨xs,H1,I1,r,z,q⟩=>⟨by rw[<- r.length]; exact z,?_⟩)
 have hf:H1 s1.heap.objs.size=none:=I1.hok.fresh (Xf _)
 refine⟨.ref s1.heap.objs.size,upd H1 s1.heap.objs.size (.lst xs),I1.laid (t':=s1.toks) (fun b u e=>Xa _ e) (Xf _) ?_,rfl,q _ hf⟩
 exact⟨z,us,0,r,Xe _ rfl⟩
end
nonrec abbrev Sp:=List V->Hp->VK->XK->Prop
nonrec abbrev CXT:=List Env->Hp->Vd->XK->Vb->Vd->Prop
structure Env0 (P:Vl) (w:Vt) (K:Xb) (mg:Str->Option Vb) (base:Uab) (A:Vu) (outer:List Env) (s:Vd) (H:Hp):Prop where
 frames:A.frames=some outer
 mod:Mod K mg base
 bs:∀ b o,base.get? b=some o->s.heap.get? b=some o/\H b=none
 bsz:base.objs.size<=s.heap.objs.size
 funs:s.heap.FunFrames base outer
 frf:∀ b∈frs outer,H b=none
 hok:HOk P w H s.heap
 bare:Ucx s.gens
def CE (outer:List Env) (P:Vl) (w:Vt) (H:Hp) (s:Vd) (Q:VK) (u:Vb) (s':Vd):Prop :=
 ∃ v H',s'.os=s.os/\Ucx s'.gens/\Un (frs outer) [] H H' s.heap s'.heap/\HOk P w H' s'.heap/\Zbc v u/\Q v H'
def CR (CX:CXT) (outer:List Env) (P:Vl) (w:Vt) (H:Hp) (s:Vd) (Q:VK) (E:XK) (r:Result) (s':Vd):Prop :=
 match r with
 | .ok (.ret u)=>CE outer P w H s Q u s'
 | .ok _=>False
 | .error e=>CX outer H s E e s'
structure FnOk (P:Vl) (w:Vt) (K:Xb) (mg:Str->Option Vb) (base:Uab) (CX:CXT) (k:Nat) (f:Vg) (fd:Ubh) (ps:List Str) (sp:Sp):Prop where
 len:∀ vs H Q E,sp vs H Q E->vs.length=ps.length
 run:∀ (A:Vu) (outer:List Env) (s:Vd) (H:Hp) (args:Args) (us:List Vb) (vs:List V) (Q:VK) (E:XK),Room k A->Env0 P w K mg base A outer s H->Uej s fd args (ps.zip us)->Za9 vs us->sp vs H Q E ->
  Ucl (Vj P w) A (.call (.ref f) args) (CR CX outer P w H s Q E) s
section
variable {X:Cx} {pins:List (Vg×Obj)} {σ:St} {H:Hp} {s s':Vd}
theorem Inv.env0 (I:Inv X pins σ H s):Env0 X.prog X.w X.K X.mg X.base X.A X.stack s H :=
 ⟨I.ok.frames,I.ok.mod,I.bs,Xq I.ok.bsz I.sz,I.stack,I.stkFree,I.hok,I.bare⟩
theorem Inv.after {Q:VK} {u:Vb} (I:Inv X pins σ H s) (h:CE X.stack X.prog X.w H s Q u s'):EP X pins σ Q u s':=by
 obtain⟨v,H',os,bare,un,hok,r,q⟩:=h
 obtain⟨hh,g,d,t,os'⟩:=s'
 obtain rfl:os'=s.os:=os
 exact⟨v,H',I.call (h':=hh) (g':=g) (d':=d) (t':=t) (ch:=[]) un hok bare (fun b z=>absurd z (by simp)),r,q⟩
end
nonrec def tCall (sp:Sp) (dvs:List V) (E:XK) (t:TA):TE:=fun σ H Q=>t σ H fun vs H1=>sp (vs++dvs) H1 Q E
def Zjz (K:Xb) (fd:Ubh) (ps:List Str) (ds:List Vb):Prop :=
 ∀ (s:Vd) (us:List Vb),K.In s.heap->(us++ds).length=ps.length->Uej s fd ⟨us,[]⟩ (ps.zip (us++ds))
theorem Zjz.all {K:Xb} {fd:Ubh} {ps:List Str} (h:∀ us:List Vb,us.length=ps.length->bindArgs fd ⟨us,[]⟩=pure (ps.zip us)):Zjz K fd ps []:=fun s us _ hl=>by
 rw[Xn] at hl ⊢
 exact .of_eq (h us hl)
def Zm3 (CX:CXT) (X:Cx) (E:XK):Prop:=∀ (pins:List (Vg×Obj)) (σ:St) (H:Hp) (s:Vd) (e:Vb) (s':Vd),Inv X pins σ H s->CX X.stack H s E e s'->X.xe e s'
section
variable {X:Cx} {CX:CXT} {k:Nat} {f C:Vg} {fd:Ubh} {ps:List Str} {sp:Sp} {dvs:List V} {ds:List Vb} {E:XK} {x m:Str} {p pos apos:Pos} {e o:Uac} {es:List Uac} {ta:TE} {t:TA}
theorem Zxb {pins:List (Vg×Obj)} {σ:St} {H:Hp} {s:Vd} {Q:VK} {us:List Vb} {vs:List V} (F:FnOk X.prog X.w X.K X.mg X.base CX k f fd ps sp) (hr:Room k X.A) (hb:Zjz X.K fd ps ds) (hd:Za9 dvs ds) (hx:Zm3 CX X E)
  (I:Inv X pins σ H s) (r:Za9 vs us) (h:sp (vs++dvs) H Q E):Vf (Vj X.prog X.w) X.A (call (.ref f) us) (EP X pins σ Q) X.xe s:=by
 have r2:Za9 (vs++dvs) (us++ds):=r.append hd
 have hl:(us++ds).length=ps.length:=by rw[<- r2.length]; exact F.len _ _ _ _ h
 refine wpAny_call (Ubr (F.run X.A X.stack s H ⟨us,[]⟩ (us++ds) (vs++dvs) Q E hr I.env0 (hb s us I.kIn hl) r2 h) fun r s' hq=>?_)
 cases r with
 | error e=>exact hx pins σ H s e s' I hq
 | ok fl =>
  cases fl with
  | ret u=>exact I.after hq
  | next=>exact Tad hq
  | brk=>exact Tad hq
  | cont=>exact Tad hq
theorem Zug (F:FnOk X.prog X.w X.K X.mg X.base CX k f fd ps sp) (hr:Room k X.A) (hg:Gl X x) (hm:X.mg x=some (.ref f)) (hk:Wcv X.K (.ref f)=true) (hb:Zjz X.K fd ps ds) (hd:Za9 dvs ds) (hx:Zm3 CX X E)
  (ha:PA X (e::es) t) (hdb:(x==("__debug__" : Str))=false:=by decide) (he:Vk (e::es) X.env=(false,eval e X.env)::Vk es X.env:=by rfl) (hpl:(Uau pos (Vk es X.env)).any (·.1)=false:=by rfl) :
  PE X (.Call (.Name x p) (e::es) [] pos) (tCall sp dvs E t):=by
 intro pins s σ H Q I h
 refine Ubi (Zog I hg hm ?_ hdb)
 refine PySem.W.callWith_K (h₀:=X.base) I.ok.mod.kin hk (thn (ha pos pins s σ H _ I h) fun us s1 ⟨vs,H1,I1,r,q⟩=>⟨I1.kIn,?_⟩) he hpl
 exact Zxb F hr hb hd hx I1 r q
end
structure FnScope (N P:List Str) (sc:Ucf):Prop where
 kind:sc.kind=.function
 co:sc.isCoroutine=false
 gen:sc.isGenerator=false
 nd:N.Nodup
 pre:N.take P.length=P
 par:∀ x∈P,sc.names.lookup x=some .local\/sc.names.lookup x=some .cell
 nofree:∀ y∈sc.names,y.2≠.free
theorem Zi9 {kindOf:Str->Option Ubj} {x:Str}:∀ {binds:List (Str×Vb)} {m:Str->Option Vb},(∀ v,(x,v)∉binds)->bindL kindOf binds m x=m x
 | [],_,_=>rfl
 | (n,v)::r,m,h=>by
  unfold bindL
  rw[Zi9 fun w hw=>h w (Wam _ hw)]
  split
  ·have:x≠n:=by rintro rfl; exact h v Wcg
   simp[this]
  ·rfl
theorem Zii {kindOf:Str->Option Ubj} {x:Str}:∀ {binds:List (Str×Vb)} {m:Str->Option Vb},(∀ v,(x,v)∉binds)->bindC kindOf binds m x=m x
 | [],_,_=>rfl
 | (n,v)::r,m,h=>by
  unfold bindC
  rw[Zii fun w hw=>h w (Wam _ hw)]
  split
  ·rfl
  ·have:x≠n:=by rintro rfl; exact h v Wcg
   simp[this]
theorem Zif {kindOf:Str->Option Ubj} {x:Str} {v:Vb}:∀ {P:List Str} {vs:List Vb} {i:Nat} {m:Str->Option Vb},P.Nodup->P[i]? = some x->vs[i]? = some v->kindOf x=some .local ->
  bindL kindOf (P.zip vs) m x=some v
 | [],_,_,_,_,h,_,_=>by simp at h
 | _::_,[],_,_,_,_,h,_=>by simp at h
 | p::P,w::vs,0,m,nd,h1,h2,hk=>by
  simp at h1 h2; subst h1; subst h2
  show bindL kindOf ((p,w)::P.zip vs) m p=_
  unfold bindL
  rw[Zi9 fun v hv=>(Wck.mp nd).1 (Wea hv).1,if_pos hk]
  simp
 | p::P,w::vs,i+1,m,nd,h1,h2,hk=>by
  show bindL kindOf ((p,w)::P.zip vs) m x=_
  unfold bindL
  exact Zif (i:=i) (Wck.mp nd).2 (by simpa using h1) (by simpa using h2) hk
theorem Zh5 {kindOf:Str->Option Ubj} {x:Str} {v:Vb}:∀ {P:List Str} {vs:List Vb} {i:Nat} {m:Str->Option Vb},P.Nodup->P[i]? = some x->vs[i]? = some v->kindOf x≠some .local ->
  bindC kindOf (P.zip vs) m x=some v
 | [],_,_,_,_,h,_,_=>by simp at h
 | _::_,[],_,_,_,_,h,_=>by simp at h
 | p::P,w::vs,0,m,nd,h1,h2,hk=>by
  simp at h1 h2; subst h1; subst h2
  show bindC kindOf ((p,w)::P.zip vs) m p=_
  unfold bindC
  rw[Zii fun v hv=>(Wck.mp nd).1 (Wea hv).1,if_neg hk]
  simp
 | p::P,w::vs,i+1,m,nd,h1,h2,hk=>by
  show bindC kindOf ((p,w)::P.zip vs) m x=_
  unfold bindC
  exact Zh5 (i:=i) (Wck.mp nd).2 (by simpa using h1) (by simpa using h2) hk
nonrec def start (N:List Str) (vs:List V):St:=vs.map some++Xk (N.length - vs.length) none
nonrec def Zps (CX:CXT) (P:Vl) (w:Vt) (K:Xb) (mg:Str->Option Vb) (base:Uab) (N:List Str) (qual:Str) (scope:Ucf) (f:Vg) (cd:Vb) (A:Vu) (outer:List Env) (s:Vd) (H:Hp) (E:XK):Cx where
 prog:=P
 w:=w
 K:=K
 mg:=mg
 base:=base
 A:=A.deeper (Udn qual scope s.heap.objs.size f cd)
 N:=N
 s₀:=s
 H₀:=H
 env:=Udn qual scope s.heap.objs.size f cd
 outer:=outer
 stack:=Udn qual scope s.heap.objs.size f cd::outer
 ex:=[]
 calm:=true
 fn:=fun _=>true
 pn:=[]
 xe:=fun e s'=>Vf (Vj P w) (A.deeper (Udn qual scope s.heap.objs.size f cd)) (leaving (Udn qual scope s.heap.objs.size f cd) e) (fun _ s''=>CX outer H s E e s'') (fun e' s''=>CX outer H s E e' s'') s'
theorem Zfd {sc:Ucf} {n:Nat} {x:Str} (h:sc.names.lookup x=some .cell):∃ c,(cellsFrom n sc.names []).lookup x=some c:=by
 have q:=Weu sc.names n [] (.inl h)
 exact Wbn.mp q
theorem Zpn {CX:CXT} {P:Vl} {w:Vt} {K:Xb} {mg:Str->Option Vb} {base:Uab} {N ps:List Str} {qual:Str} {scope:Ucf} {f:Vg} {cd:Vb} {A:Vu} {outer:List Env} {s s1:Vd} {H:Hp} {E:XK} {us:List Vb} {vs:List V}
  (S:FnScope N ps scope) (hd:A.handled=none) (e0:Env0 P w K mg base A outer s H) (hl:vs.length=ps.length) (r:Za9 vs us)
  (x:InCallC s s.heap.objs.size (bindL (Udn qual scope s.heap.objs.size f cd).kindOf (ps.zip us) fun _=>none) (cellsFrom (s.heap.objs.size+1) scope.names []) (bindC (Udn qual scope s.heap.objs.size f cd).kindOf (ps.zip us) fun _=>none) s1) :
  Inv (Zps CX P w K mg base N qual scope f cd A outer s H E) [] (start N vs) H s1:=by
 have hpl:ps.length<=N.length:=by have:=congrArg Was S.pre; rw[Wao] at this; omega
 obtain⟨h1,tk,rfl,hk⟩:=x.done
 have noA:∀ b:Vg,b∉(Zps CX P w K mg base N qual scope f cd A outer s H E).ex:=fun b z=>absurd (show b∈([]:List Vg) from z) (by simp)
 refine⟨⟨e0.mod,S.kind,rfl,rfl,Xf _,fun y z c h1 h2=>?_,fun y hy=>?_,fun y c _ h=>?_,fun _=>hd,Around.frames_deeper e0.frames,.inr ⟨rfl,rfl⟩,fun b z=>absurd z (noA b),e0.bs,e0.bsz,fun b _ _=>noA b,fun b z=>absurd z (noA b),e0.funs,e0.frf⟩,
  rfl,e0.bare,Un.kept hk,⟨_,x.toInCall.ns,fun i y v h1 h2 h3=>?_⟩,fun y c h=>⟨_,x.cell y c h⟩,e0.hok.fresh (Xf _),fun y c h=>?_,fun p hp=>absurd (show p∈([]:List (Vg×Obj)) from hp) (by simp),e0.hok.kept hk,?_⟩
 ·exact name_of_addr x.apart (Uo h1) (Uo h2)
 ·have hy:scope.names.lookup y=some .cell\/scope.names.lookup y=some .free:=hy
  rcases hy with hy | hy
  ·exact Zfd hy
  ·exact absurd rfl (S.nofree _ (Uo hy))
 ·exact Wcj (x.above y c (Uo h))
 ·have hi:i<vs.length:=by
   unfold start at h2
   by_cases hi:i<vs.length
   ·exact hi
   ·rw[Wag (by simpa using hi)] at h2
    rw[Weq] at h2
    split at h2<;>cases h2
  have ha:vs[i]? = some v:=by
   unfold start at h2
   rw[Xo (by simpa using hi),Wah] at h2
   cases e:vs[i]? with
   | none=>rw[e] at h2; cases h2
   | some a=>rw[e] at h2; cases h2; rfl
  obtain⟨u,hu,rv⟩:=r.get ha
  have hp:ps[i]? = some y:=by
   rw[<- S.pre,List.getElem?_take_of_lt (by omega)]; exact h1
  have ndP:ps.Nodup:=by rw[<- S.pre]; exact S.nd.sublist (Wel _ _)
  refine⟨u,rv,?_⟩
  rcases S.par y (War hp) with k | k
  ·exact .inl ⟨k,Zif ndP hp hu k⟩
  ·obtain⟨c,e⟩:=Zfd (n:=s.heap.objs.size+1) k
   refine .inr ⟨.inl k,c,e,?_⟩
   have q:=x.cell y c e
   rw[Zh5 ndP hp hu (by show scope.names.lookup y≠_; rw[k]; decide)] at q
   exact q
 ·exact .inl (e0.hok.fresh (Wcj (x.above y c (Uo h))))
 ·unfold start
  show _=N.length
  rw[Xp,Wap,List.length_replicate]
  omega
theorem fn_of {CX:CXT} {P:Vl} {w:Vt} {K:Xb} {mg:Str->Option Vb} {base:Uab} {k:Nat} {f:Vg} {name qual:Str} {params:Arguments} {body:List Ubv} {scope:Ucf} {dV kV doc pm cdv ct oc:Vb} {an od:Option Vg}
  {osl:Array (Option Vb)} {N ps:List Str} {sp:Sp} (lk:K.lookup f=some ⟨oc,od,.func (Wcl name qual params body scope dV kV doc pm an cdv ct),osl⟩) (hcd:Weh K cdv qual=true) (S:FnScope N ps scope)
  (len:∀ vs H Q E,sp vs H Q E->vs.length=ps.length)
  (hbody:∀ (A:Vu) (outer:List Env) (s:Vd) (H:Hp) (vs:List V) (Q:VK) (E:XK),Room k (A.deeper (Udn qual scope s.heap.objs.size f cdv))->sp vs H Q E ->
   ∃ t,PSs (Zps CX P w K mg base N qual scope f cdv A outer s H E) body t/\t { nx:=fun _ H'=>Q .non H',rt:=Q } (start N vs) H) :
  FnOk P w K mg base CX (k+1) f (Wcl name qual params body scope dV kV doc pm an cdv ct) ps sp:=by
 refine⟨len,fun A outer s H args us vs Q E hr e0 hb r hsp=>?_⟩
 have hl:=len _ _ _ _ hsp
 have KX:K.In s.heap:=e0.mod.kin.keeps fun b o e=>(e0.bs b o e).1
 have lim:s.heap.NoLimit:=e0.mod.nolimit.keeps fun b o e=>(e0.bs b o e).1
 have hkind:∀ y∈ps.zip us,scope.names.lookup y.1=some .local\/(scope.names.lookup y.1=some .cell/\((cellsFrom (s.heap.objs.size+1) scope.names []).lookup y.1).isSome=true):=fun⟨n,v⟩ hy=>by
  rcases S.par n (Wea hy).1 with q | q
  ·exact .inl q
  ·exact .inr ⟨q,Weu _ _ _ (.inl q)⟩
 refine codeAny_call_function hr.depth (KX _ _ lk) rfl S.co S.gen rfl (PySem.W.codeRec_of KX hcd) (hb _ _ _ _ ?_)
 refine wpAny_newFunctionEnv_cells S.kind hkind fun env he s1 x=>?_
 subst he
 refine⟨lim.keeps x.toInCall.keep,codeAny_func ?_⟩
 obtain⟨t,ht,hq⟩:=hbody A outer s H vs Q E (hr.deeper _) hsp
 have I:Inv (Zps CX P w K mg base N qual scope f cdv A outer s H E) [] (start N vs) H s1:=Zpn S hr.hd e0 hl r x
 refine Ube (ht [] s1 (start N vs) H _ I hq) (fun fl s' hs=>?_) fun e s' hs=>hs
 have fin:∀ {σ':St} {H':Hp} {v:V} {u:Vb},Inv (Zps CX P w K mg base N qual scope f cdv A outer s H E) [] σ' H' s'->Zbc v u->Q v H'->CE outer P w H s Q u s' :=
  fun {σ' H' v u} J rv q=>⟨v,H',J.os,J.bare,J.base,J.hok,rv,q⟩
 cases fl with
 | ret u =>
  obtain⟨v,σ',H',J,rv,q⟩:=hs
  exact fin J rv q
 | next =>
  obtain⟨σ',H',J,q⟩:=hs
  exact fin (v:=V.non) (u:=Uq) J rfl q
 | brk =>
  obtain⟨_,_,_,q⟩:=hs
  exact Tad q
 | cont =>
  obtain⟨_,_,_,q⟩:=hs
  exact Tad q
section
variable {X:Cx} {x:Str} {p pos:Pos} {e:Uac} {es:List Uac} {t:TA} {id T:String} {r:List V->Hp->VK->Prop}
nonrec def tCB (r:List V->Hp->VK->Prop) (t:TA):TE:=fun σ H Q=>t σ H fun vs H1=>r vs H1 Q
theorem Zre (hc:Zhq X (.builtin id) r) (hg:Gl X x) (hm:X.mg x=none) (hv:Vv x=some (.builtin id)) (ha:PA X (e::es) t) (hn:x ≠ "__name__" := by decide) (hdb:(x==("__debug__" : Str))=false:=by decide)
  (he:Vk (e::es) X.env=(false,eval e X.env)::Vk es X.env:=by rfl) (hpl:(Uau pos (Vk es X.env)).any (·.1)=false:=by rfl):PE X (.Call (.Name x p) (e::es) [] pos) (tCB r t):=by
 intro pins s σ H Q I h
 refine Ubi (Zdk I hg hm hv ?_ hn hdb)
 exact PyProof.Rows.callWith_builtin1 (thn (ha pos pins s σ H _ I h) fun us s1 ⟨vs,H1,I1,r1,q1⟩=>hc pins s1 σ H1 vs us Q I1 r1 q1) he hpl
theorem Zns (hc:Zhq X (.type T) r) (hg:Gl X x) (hm:X.mg x=none) (hv:Vv x=some (.type T)) (ha:PA X (e::es) t) (hn:x ≠ "__name__" := by decide) (hdb:(x==("__debug__" : Str))=false:=by decide)
  (he:Vk (e::es) X.env=(false,eval e X.env)::Vk es X.env:=by rfl) (hpl:(Uau pos (Vk es X.env)).any (·.1)=false:=by rfl):PE X (.Call (.Name x p) (e::es) [] pos) (tCB r t):=by
 intro pins s σ H Q I h
 refine Ubi (Zdk I hg hm hv ?_ hn hdb)
 exact Uh (thn (ha pos pins s σ H _ I h) fun us s1 ⟨vs,H1,I1,r1,q1⟩=>hc pins s1 σ H1 vs us Q I1 r1 q1) he hpl
end
end L2
namespace HT
open PySem PyProof.Rows
nonrec def lexLt:List Int->List Int->Bool
 | [],[]=>false
 | [],_::_=>true
 | _::_,[]=>false
 | x::xs,y::ys=>if x=y then lexLt xs ys else decide (x<y)
theorem lexLt_cons (x y:Int) (xs ys:List Int):lexLt (x::xs) (y::ys)=if x=y then lexLt xs ys else decide (x<y):=rfl
theorem Zhx:lexLt [] []=false:=rfl
theorem Zgl (y:Int) (ys:List Int):lexLt [] (y::ys)=true:=rfl
theorem Zgm (x:Int) (xs:List Int):lexLt (x::xs) []=false:=rfl
theorem eqAt_int (A:Vu) (s:Vd) (a:Int) (t:Tok) (c:Int) (u:Tok):∃ e,Tdf A s (.int a t) (.int c u) e/\(e=true ↔ a=c) :=
 ⟨(a==c),SeqAt.EqAt.int_int a t c u,by simp⟩
theorem Zrn (A:Vu) (s:Vd) (a:Int) (t:Tok) (c:Int) (u:Tok) (prog:Vl) (w:Vt) (E:Vb->Vd->Prop) (Q:Vb->Vd->Prop) (h:Q (.bool (decide (a<c))) s) :
  Vf (Vj prog w) A (richCompare .Lt (.int a t) (.int c u)) Q E s :=
 (PyProof.Rows.lt_int h:Vf (Vj prog w) A (Uah .Lt (.int a t) (.int c u)) Q E s)
section
open PySem.SeqAt
open PySem.AutoSeq1 (wpAny_loadPart')
open PySem.MeetsSeq PySem.MeetsSeq2 PySem.MeetsSeq3
theorem tuple_lt_ints (l b:Vg) (items items2:Array Vb) (n n2:Nat) (dd dd2:Option Vg) (sl sl2:Array (Option Vb)) (ns ms:List Int) (hi:Ubb items.toList ns) (hj:Ubb items2.toList ms) :
  Uec (Builtin.«tuple.__lt__» ⟨[.ref l,.ref b],[]⟩)
   (fun _ R s=>s.heap.get? l=some { cls:=.type "tuple",dict:=dd,data:=.seq items n,slots:=sl }/\s.heap.get? b=some { cls:=.type "tuple",dict:=dd2,data:=.seq items2 n2,slots:=sl2 } /\
    R (.ok (.ret (.bool (lexLt ns ms)))) s) :=
 .of_wp fun prog w A R s h=>by
  obtain⟨hp,g,d,tk,os⟩:=s; obtain⟨hl,hb,h⟩:=h
  have f2:=AutoSeq1.sub_tuple_tuple
  have z1:items.size=ns.length:=by rw[<- hi.length]; simp
  have z2:items2.size=ms.length:=by rw[<- hj.length]; simp
  wp_walk using Vq hl,Vq hb,wpAny_forIn_list _ (fun rest b s'=>b.1=none/\s'=⟨hp,g,d,tk,os⟩/\∃ (vs ws:List Vb) (ns' ms':List Int),rest=vs.zip ws /\
   Ubb vs ns'/\Ubb ws ms'/\ns'.length+items2.size=ms'.length+items.size/\R (.ok (.ret (.bool (lexLt ns' ms')))) ⟨hp,g,d,tk,os⟩) _
  case turn =>
   rintro⟨y,x⟩ rest b s' ⟨hb',rfl,vs,ws,ns',ms',hz,hvi,hwi,hlen,hR⟩
   cases hvi with
   | nil=>rw[Wfs] at hz; cases hz
   | cons a t hvi' =>
    cases hwi with
    | nil=>rw[Wfk] at hz; cases hz
    | cons c u hwi' =>
     rw[Wee] at hz
     injection hz with hyx hrest
     injection hyx with hy hx
     subst hy hx
     rw[lexLt_cons] at hR
     simp only[Wbo] at hlen
     obtain⟨e,he,hiff⟩:=eqAt_int A.in1 ⟨hp,g,d,tk,os⟩ a t c u
     refine Va (he prog w _ _ ?_)
     cases e with
     | true =>
      rw[if_pos (hiff.mp rfl)] at hR
      wp_walk
      exact⟨rfl,rfl,_,_,_,_,hrest,hvi',hwi',by omega,hR⟩
     | false =>
      rw[if_neg (fun q=>absurd (hiff.mpr q) Wau)] at hR
      have hri:=Zrn A.in1 ⟨hp,g,d,tk,os⟩ a t c u prog w
      wp_walk using hri
      exact⟨_,rfl,by simpa using hR⟩
  case fin =>
   rintro⟨b1,b2⟩ s' ⟨hb',rfl,vs,ws,ns',ms',hz,hvi,hwi,hlen,hR⟩
   simp only at hb'
   subst hb'
   have hv:lexLt ns' ms'=decide (items.size<items2.size):=by
    cases hvi with
    | nil =>
     cases hwi with
     | nil =>
      simp only[Wbk] at hlen
      rw[Zhx]
      exact(decide_eq_false (by omega)).symm
     | cons c u hw =>
      simp only[Wbk,Wbo] at hlen
      rw[Zgl]
      exact(decide_eq_true (by omega)).symm
    | cons a t hv =>
     cases hwi with
     | nil =>
      simp only[Wbk,Wbo] at hlen
      rw[Zgm]
      exact(decide_eq_false (by omega)).symm
     | cons c u hw =>
      rw[Wee] at hz
      cases hz
   rw[hv] at hR
   wp_walk
   exact⟨_,rfl,by simpa [Builtin.Tuple.tupleCompareSizes] using hR⟩
  case h =>
   exact⟨rfl,rfl,items.toList,items2.toList,ns,ms,rfl,hi,hj,by omega,h⟩
end
section
variable {prog:Vl} {w:Vt} {A:Vu} {E:Vb->Vd->Prop} {s:Vd}
theorem lt_tupInts {l b:Vg} {items items2:Array Vb} {ns ms:List Int} {Q:Vb->Vd->Prop} (hl:Ucw s.heap l items) (hb:Ucw s.heap b items2) (hi:Ubb items.toList ns) (hj:Ubb items2.toList ms)
  (hu:A.units<cLine) (h:Q (.bool (lexLt ns ms)) s):Vf (Vj prog w) A (Uah .Lt (.ref l) (.ref b)) Q E s:=by
 obtain⟨⟨cls,dd,data,sl⟩,ho,hc,n,hd⟩:=id hl
 obtain⟨⟨cls2,dd2,data2,sl2⟩,ho2,hc2,n2,hd2⟩:=id hb
 simp only at hc hd hc2 hd2
 subst hc hd hc2 hd2
 exact richCompare_meets_room (op:=.Lt) ⟨_,ho,rfl⟩ ⟨_,ho2,rfl⟩ Tat Tbv (Tbr _ _) (tuple_lt_ints l b items items2 n n2 dd dd2 sl sl2 ns ms hi hj)
  ⟨ho,ho2,show Tcq (lexLt ns ms)≠Tcf/\Q (.bool (lexLt ns ms)) s from⟨(fun x=>nomatch x),h⟩⟩ hu
theorem cat_tup {t b:Vg} {vs ws:List Vb} {Q:Vb->Vd->Prop} (ht:Ucw s.heap t vs.toArray) (hb:Ucw s.heap b ws.toArray) (hv:vs≠[])
  (h1:ws=[]->Q (.ref t) s) (h2:ws≠[]->Q (.ref s.heap.objs.size) { s with heap:=s.heap.push { cls:=.type "tuple",data:=.seq (vs++ws).toArray } })
  (hsz:vs.length+ws.length<=sizeLine):Vf (Vj prog w) A (Uaf .Add (.ref t) (.ref b)) Q E s:=by
 obtain⟨⟨cls,dd,data,sl⟩,ho,hc,n,hd⟩:=id ht
 obtain⟨⟨cls2,dd2,data2,sl2⟩,ho2,hc2,n2,hd2⟩:=id hb
 simp only at hc hd hc2 hd2
 subst hc hd hc2 hd2
 have e:vs.toArray++ws.toArray=(vs++ws).toArray:=by simp
 by_cases hw:ws=[]
 ·exact Uea ⟨_,ho,rfl⟩ ⟨_,ho2,rfl⟩ Ucs Udu Tar Tao (Tal _ _)
   (tuple_addW1 t b vs.toArray ws.toArray n n2 dd dd2 sl sl2 (by simpa using hv) (by simp[hw])) ⟨ho,ho2,h1 hw⟩
 ·refine Uea ⟨_,ho,rfl⟩ ⟨_,ho2,rfl⟩ Ucs Udu Tar Tao (Tal _ _)
   (tuple_addW2 t b vs.toArray ws.toArray n n2 dd dd2 sl sl2 (by simpa using hv) (by simpa using hw) (by rw[Xj,Xj]; exact hsz)) ⟨ho,ho2,?_⟩
  rw[e]
  exact h2 hw
nonrec def sIx (n d:Nat):Option Int->Nat
 | none=>d
 | some v=>if v<0 then (v+(n:Int)).toNat else min v.toNat n
theorem Zx0 (n d:Nat) (hd:d<=n) (o:Option Int):sIx n d o<=n:=by
 cases o with
 | none=>exact hd
 | some v =>
  show (if v<0 then (v+(n:Int)).toNat else min v.toNat n)<=n
  by_cases hv:v<0
  ·rw[if_pos hv]; omega
  ·rw[if_neg hv]; exact Wer _ _
theorem mm0 (i:Int) (n:Nat) (h:¬ i<0):min i (n:Int)=((min i.toNat n:Nat):Int):=by
 obtain⟨m,rfl⟩:=Wde (Int.not_lt.mp h)
 rw[Waq]
 rcases Nat.le_total m n with z | z
 ·rw[Web z,Wgi (Int.ofNat_le.mpr z)]
 ·rw[Wgb z,Int.min_eq_right (Int.ofNat_le.mpr z)]
theorem mm1 (i:Int) (n:Nat) (h:¬ i<0):max 0 (min i (n:Int))=((min i.toNat n:Nat):Int):=by
 rw[mm0 i n h]; exact Int.max_eq_right (Int.natCast_nonneg _)
theorem mm2 (i:Int) (n:Nat) (h:i<0):max 0 (min (i+(n:Int)) n)=((i+(n:Int)).toNat:Int):=by
 rw[Wgi (by omega),Int.max_comm]
 exact(Int.toNat_eq_max _).symm
theorem Zn9 (v:Int) (n d:Nat):(if v<0 then max (v+(n:Int)) 0 else min v (n:Int))=((sIx n d (some v):Nat):Int):=by
 show (if v<0 then max (v+(n:Int)) 0 else min v (n:Int))=(((if v<0 then (v+(n:Int)).toNat else min v.toNat n):Nat):Int)
 by_cases hv:v<0
 ·simp only[if_pos hv]; omega
 ·simp only[if_neg hv]; exact mm0 v n hv
theorem Zl6 (lo hi:Option Int) (n:Nat):Tai lo hi 1 (n:Int)=(((sIx n 0 lo:Nat):Int),((sIx n n hi:Nat):Int)):=by
 have h1:¬ ((1:Int)<0):=by omega
 unfold Tai
 simp only[h1,if_false]
 refine Prod.ext ?_ ?_
 ·cases lo with
  | none=>rfl
  | some v=>exact Zn9 v n 0
 ·cases hi with
  | none=>rfl
  | some v=>exact Zn9 v n n
theorem Zl9 (i j:Nat):Uw (i:Int) (j:Int) 1=j - i:=by
 unfold Uw
 have h1:(1:Int) > 0:=by omega
 simp only[h1,if_true,Int.ediv_one]
 split<;>omega
theorem Zgt {v:Vb} {o:Option Int} {Q:Option Int->Vd->Prop} (p:Udv v o) (h:Q o s):Vf (Vj prog w) A (Builtin.Slice.slicePartIndex v) Q E s:=by
 cases p with
 | none=>exact slicePart_none h
 | int i t=>exact slicePart_int h
theorem sliceApplied_gen {sl:Vg} {vl vu:Vb} {lo hi:Option Int} {n:Nat} {Q:Int×Int×Nat->Vd->Prop} (hs:s.heap.IsSliceOf sl vl vu .none) (pl:Udv vl lo) (pu:Udv vu hi)
  (h:Q (((sIx n 0 lo:Nat):Int),1,sIx n n hi - sIx n 0 lo) s):Vf (Vj prog w) A (Tbh (.ref sl) (pure (n:Int))) Q E s:=by
 obtain⟨os,hos,hcs,hds⟩:=id hs
 unfold Tbh Builtin.Slice.sliceFields
 refine Va (Va (Vo hos hds (x:=vl) rfl (Va (Vo hos hds (x:=vu) rfl (Va (Vo hos hds (x:=.none) rfl (Vc ?_)))))))
 refine Va (slicePart_none ?_)
 show Vf _ _ (if ((1:Int)==0)=true then _ else _) _ _ s
 rw[if_neg (by decide)]
 refine Va (Zgt pl (Va (Zgt pu (Va (Vc ?_)))))
 show Vf _ _ (match Tai lo hi 1 (n:Int) with | (lo,hi)=>pure (lo,(1:Int),Uw lo hi 1)) _ _ s
 rw[Zl6 lo hi n]
 show Vf _ _ (pure (((sIx n 0 lo:Nat):Int),(1:Int),Uw ((sIx n 0 lo:Nat):Int) ((sIx n n hi:Nat):Int) 1)) _ _ s
 rw[Zl9]
 exact Vc h
theorem Zp6 (xs:Array Vb) (i k:Nat):((Wdy k).filterMap fun(m:Nat)=>xs[((i:Int)+(m:Int)*1).toNat]?).toArray=((xs.toList.drop i).take k).toArray:=by
 have e:(fun(m:Nat)=>xs[((i:Int)+(m:Int)*1).toNat]?)=fun m=>xs[i+m]? := by
  funext m
  have:((i:Int)+(m:Int)*1).toNat=i+m:=by omega
  rw[this]
 rw[e]
 have:=pick_run xs i k
 rw[List.filterMap_map] at this
 have e2:((fun x=>xs[x]?) ∘ fun x=>i+x)=fun m=>xs[i+m]? := rfl
 rw[e2] at this
 rw[this]
theorem getItem_tuple_cut {t sl:Vg} {items:Array Vb} {vl vu:Vb} {lo hi:Option Int} {Q:Vb->Vd->Prop} (ht:Ucw s.heap t items) (hs:s.heap.IsSliceOf sl vl vu .none) (pl:Udv vl lo) (pu:Udv vu hi)
  (hw:¬ (sIx items.size 0 lo=0/\sIx items.size items.size hi=items.size))
  (h:Q (.ref s.heap.objs.size) { s with heap:=s.heap.push { cls:=.type "tuple",data:=.seq ((items.toList.drop (sIx items.size 0 lo)).take (sIx items.size items.size hi - sIx items.size 0 lo)).toArray } })
  (hsz:items.size<=sizeLine):Vf (Vj prog w) A (Udq (.ref t) (.ref sl)) Q E s:=by
 have htake:sizeOk (.seq ((items.toList.drop (sIx items.size 0 lo)).take (sIx items.size items.size hi - sIx items.size 0 lo)).toArray):=by
  show ((items.toList.drop (sIx items.size 0 lo)).take (sIx items.size items.size hi - sIx items.size 0 lo)).toArray.size<=sizeLine
  rw[Xj,Wao,Wbv,Wad]
  exact Xq (Wer _ _) (Xq (Nat.sub_le _ _) hsz)
 have hj:sIx items.size items.size hi<=items.size:=Zx0 _ _ (Xf _) hi
 obtain⟨os,hos,hcs,hds⟩:=id hs
 have hTs:s.TypeIs (.ref sl) "slice" := ⟨os,hos,hcs⟩
 unfold Udq
 try with_reducible refine Vs ?_
 first | refine Va (Vc ?_) | skip
 refine Va (wpAny_sequenceKey ht.typeIs (by decide) ?_)
 refine Va (Vn (name:=Ug "__getitem__") ht.typeIs Ui
  (Vr Ui ht.typeIs entry_tuple_getitem ?_ (args_tuple_getitem _ _)))
 show Vf _ _ (Tah (.ref t) >>= _) _ _ s
 refine Va (tupleItemsOf_ ht ?_)
 refine Va (Ubs hTs ?_)
 rw[if_pos (by decide)]
 refine Va (sliceApplied_gen hs pl pu ?_)
 have hno:¬ ((((sIx items.size 0 lo:Nat):Int)==0&&(1:Int)==1&&(sIx items.size items.size hi - sIx items.size 0 lo)==items.size)=true):=by
  intro q
  rw[Wbc,Wbc] at q
  have q1:((sIx items.size 0 lo:Nat):Int)=0:=eq_of_beq q.1.1
  have q2:sIx items.size items.size hi - sIx items.size 0 lo=items.size:=eq_of_beq q.2
  exact hw ⟨by omega,by omega⟩
 show Vf _ _ (if (((sIx items.size 0 lo:Nat):Int)==0&&(1:Int)==1&&(sIx items.size items.size hi - sIx items.size 0 lo)==items.size)=true then _ else _) _ _ s
 rw[if_neg hno,Zp6]
 first
  | exact Va (m:=Uy _) (Vx (Vc ⟨_,rfl,Vc h⟩) htake)
  | exact Va (m:=Uy _) (Vx (Va (Vc (Vc ⟨_,rfl,Vc h⟩))) htake)
  | exact Va (Va (m:=Uy _) (Vx (Vc (Vc ⟨_,rfl,Vc h⟩)) htake))
  | exact Va (Va (m:=Uy _) (Vx (Vc ⟨_,rfl,Vc h⟩) htake))
end
end HT
namespace L2
open PySem PySem.Spec PyProof.Rows
nonrec abbrev TO:=St->Hp->(Option Int->Hp->Prop)->Prop
def PO (X:Cx) (e:Option Uac) (t:TO):Prop :=
 ∀ (pins:List (Vg×Obj)) (s:Vd) (σ:St) (H:Hp) (Q:Option Int->Hp->Prop),Inv X pins σ H s->t σ H Q ->
  Vf (Vj X.prog X.w) X.A (evalPart e X.env) (fun u s'=>∃ o H',Inv X pins σ H' s'/\Udv u o/\Q o H') X.xe s
nonrec def Zs5:TO:=fun _ H Q=>Q none H
nonrec def tPart (t:TE):TO:=fun σ H Q=>t σ H fun x H1=>∃ i,x=.int i/\Q (some i) H1
theorem Zg4 {ns:List Int}:∀ {us:List Vb},Za9 (ns.map V.int) us->Ubb us ns:=by
 induction ns with
 | nil=>intro us r; rw[Wef] at r; cases r; exact .nil
 | cons n ns ih =>
  intro us r
  rw[Wab] at r
  cases r with
  | cons r1 r2 =>
   obtain⟨t,e⟩:=r1
   subst e
   exact .cons n t (ih r2)
section
variable {X:Cx} {e:Uac} {te:TE} {lo hi:Option Uac} {tl th:TO} {pos p2:Pos}
theorem Zu8:PO X none Zs5:=by
 intro pins s σ H Q I h
 rw[evalPart_none]
 exact Vc ⟨none,H,I,.none,h⟩
theorem Zuj (h:PE X e te):PO X (some e) (tPart te):=by
 intro pins s σ H Q I hw
 rw[evalPart_some]
 refine thn (h pins s σ H _ I hw) fun u s1 zz=>?_
 obtain⟨x,H1,I1,r1,q1⟩:=zz
 obtain⟨i,rfl,q⟩:=q1
 obtain⟨t,rfl⟩:=r1
 exact⟨some i,H1,I1,.int i t,q⟩
def SlR (X:Cx) (r:V->Option Int->Option Int->Hp->VK->Prop):Prop :=
 ∀ (pins:List (Vg×Obj)) (s:Vd) (σ:St) (H:Hp) (x:V) (v vl vu:Vb) (lo hi:Option Int) (sl:Vg) (Q:VK),Inv X pins σ H s->Zbc x v->s.heap.IsSliceOf sl vl vu .none->Udv vl lo->Udv vu hi->r x lo hi H Q ->
  ∃ T id,Uby (.type T) "__getitem__" = pure (some (.builtin id))/\s.TypeIs v T/\Vf (Vj X.prog X.w) X.A (Udq v (.ref sl)) (EP X pins σ Q) X.xe s
nonrec def tSl (r:V->Option Int->Option Int->Hp->VK->Prop) (te:TE) (tl th:TO):TE:=fun σ H Q=>te σ H fun x H1=>tl σ H1 fun l H2=>th σ H2 fun u H3=>r x l u H3 Q
theorem Zqk {r:V->Option Int->Option Int->Hp->VK->Prop} (hr:SlR X r) (he:PE X e te) (hl:PO X lo tl) (hu:PO X hi th):PE X (.Subscript e (.Slice lo hi none p2) pos) (tSl r te tl th):=by
 intro pins s σ H Q I h
 refine Subscript_ (thn (he pins s σ H _ I h) fun v s1 zz=>?_)
 obtain⟨x,H1,I1,r1,q1⟩:=zz
 refine wpAny_Slice (thn (hl pins s1 σ H1 _ I1 q1) fun vl s2 ⟨l,H2,I2,pl,q2⟩=>thn (hu pins s2 σ H2 _ I2 q2) fun vu s3 zz=>?_)
 obtain⟨u,H3,I3,pu,q3⟩:=zz
 rw[evalPart_none]
 refine Vc ?_
 have I4:Inv X pins σ H3 { s3 with heap:=s3.heap.push { cls:=.type "slice",data:=.fields #[vl,vu,.none] } }:=I3.kept (t':=s3.toks) fun b ob q=>Xa _ q
 obtain⟨T,id,hT,ht,hg⟩:=hr pins { s3 with heap:=s3.heap.push { cls:=.type "slice",data:=.fields #[vl,vu,.none] } } σ H3 x v vl vu l u s3.heap.objs.size Q I4 r1 (Heap.IsSliceOf.new ..) pl pu q3
 show Vf (Vj X.prog X.w) X.A (subscriptTail e (.Slice lo hi none p2) v (.ref s3.heap.objs.size)) (EP X pins σ Q) X.xe { s3 with heap:=s3.heap.push { cls:=.type "slice",data:=.fields #[vl,vu,.none] } }
 exact tail_any (ops:=[.ref s3.heap.objs.size,v]) ht hT hg (by with_unfolding_all rfl)
nonrec def Zsv (xs:List V) (lo hi:Option Int):List V:=(xs.drop (HT.sIx xs.length 0 lo)).take (HT.sIx xs.length xs.length hi - HT.sIx xs.length 0 lo)
theorem Zcu (xs:List V) (lo hi:Option Int):(Zsv xs lo hi).length<=xs.length:=by
 unfold Zsv
 rw[Wao,Wbv]
 exact Xq (Wer _ _) (Nat.sub_le _ _)
nonrec def rSlT (K:Xb):V->Option Int->Option Int->Hp->VK->Prop:=fun x lo hi H Q=>∃ a xs,x=.ref a/\SqT K H a xs /\
 ¬ (HT.sIx xs.length 0 lo=0/\HT.sIx xs.length xs.length hi=xs.length)/\∀ p,H p=none->Q (.ref p) (upd H p (.tup (Zsv xs lo hi)))
theorem Zw9:SlR X (rSlT X.K):=by
 intro pins s σ H x v vl vu lo hi sl Q I rx hs pl pu h
 obtain⟨a,xs,rfl,hx,hw,q⟩:=h
 cases rx
 obtain⟨its,r,ht,hz⟩:=I.tuple hx
 have hlen:its.toArray.size=xs.length:=by rw[Xj]; exact r.length.symm
 refine⟨"tuple",_,Ui.lookup,ht.typeIs,?_⟩
 refine HT.getItem_tuple_cut ht hs pl pu (by rw[hlen]; exact hw) ?_ (by rw[hlen]; exact hz)
 rw[hlen]
 refine⟨.ref s.heap.objs.size,_,I.laid (t':=s.toks) (o:=.tup (Zsv xs lo hi)) (fun b ob q=>Xa _ q) (Xf _) ?_,rfl,q _ (I.hok.fresh (Xf _))⟩
 exact⟨Xq (Zcu xs lo hi) hz,_,(r.drop (HT.sIx xs.length 0 lo)).take (HT.sIx xs.length xs.length hi - HT.sIx xs.length 0 lo),Zh0.new _ _⟩
nonrec def rCatT (K:Xb):R2:=fun x y H Q=>∃ a b xs ys,x=.ref a/\y=.ref b/\SqT K H a xs/\SqT K H b ys/\xs≠[]/\xs.length+ys.length<=sizeLine /\
 (ys=[]->Q (.ref a) H)/\(ys≠[]->∀ p,H p=none->Q (.ref p) (upd H p (.tup (xs++ys))))
theorem Za9.nil_iff {xs:List V} {us:List Vb} (r:Za9 xs us):us=[] ↔ xs=[]:=by
 cases r with
 | nil=>simp
 | cons _ _=>simp
theorem Zoe:OpR X (Uaf .Add) (rCatT X.K):=by
 intro pins s σ H x y v u Q I rx ry h
 obtain⟨a,b,xs,ys,rfl,rfl,ha,hb,hx,hz,q1,q2⟩:=h
 cases rx
 cases ry
 obtain⟨its,r1,p1,_⟩:=I.tuple ha
 obtain⟨its2,r2,p2,_⟩:=I.tuple hb
 refine HT.cat_tup p1 p2 (fun z=>hx (r1.nil_iff.mp z)) (fun z=>⟨.ref a,H,I,rfl,q1 (r2.nil_iff.mp z)⟩) (fun z=>?_) (by rw[<- r1.length,<- r2.length]; exact hz)
 refine⟨.ref s.heap.objs.size,_,I.laid (t':=s.toks) (o:=.tup (xs++ys)) (fun b ob q=>Xa _ q) (Xf _) ?_,rfl,q2 (fun w=>z (r2.nil_iff.mpr w)) _ (I.hok.fresh (Xf _))⟩
 exact⟨by rw[Xp]; exact hz,_,r1.append r2,Zh0.new _ _⟩
end
nonrec def ixN (n:Nat) (i:Int):Option Nat:=if 0<=i then (if i<n then some i.toNat else none) else if -(n:Int)<=i then some (i+n).toNat else none
nonrec def atI {α:Type} (xs:List α) (i:Int):Option α:=(ixN xs.length i).bind fun j=>xs[j]?
theorem Zt5 {n:Nat} {i:Int} {j:Nat} (h:ixN n i=some j):seqIndex? i n=some j/\j<n /\ -(n:Int)<=i/\i<n:=by
 unfold ixN at h
 by_cases h0:0<=i
 ·rw[if_pos h0] at h
  by_cases h1:i<n
  ·rw[if_pos h1] at h
   have e:i.toNat=j:=Waa.inj h
   exact⟨by rw[seqIndex_of h0 h1,e],by omega,by omega,h1⟩
  ·rw[if_neg h1] at h; cases h
 ·rw[if_neg h0] at h
  by_cases h1 : -(n:Int)<=i
  ·rw[if_pos h1] at h
   have e:(i+n).toNat=j:=Waa.inj h
   exact⟨by rw[seqIndex_neg (by omega) h1,e],by omega,h1,by omega⟩
  ·rw[if_neg h1] at h; cases h
theorem Zm4 {α:Type} {xs:List α} {i:Int} {v:α} (h:atI xs i=some v):∃ j,seqIndex? i xs.length=some j/\xs[j]? = some v/\j<xs.length /\ -(xs.length:Int)<=i/\i<xs.length:=by
 unfold atI at h
 cases e:ixN xs.length i with
 | none=>rw[e] at h; cases h
 | some j =>
  rw[e] at h
  obtain⟨h1,h2,h3,h4⟩:=Zt5 e
  exact⟨j,h1,h,h2,h3,h4⟩
theorem Zcb {α:Type} {xs:List α} {j:Nat} {v:α} (h:xs[j]? = some v):atI xs (j:Int)=some v:=by
 have hj:j<xs.length:=(Xc.mp h).1
 have e:ixN xs.length (j:Int)=some j:=by
  unfold ixN
  rw[if_pos (by omega),if_pos (by omega)]; simp
 unfold atI; rw[e]; exact h
def Zmz (b:Uac):Prop:=∀ o i,subscripted b false o i=operate [o,i] (Udq o i)
def IxR (X:Cx) (r:R2):Prop :=
 ∀ (value slice:Uac) (pins:List (Vg×Obj)) (s:Vd) (σ:St) (H:Hp) (x y:V) (v u:Vb) (Q:VK),Inv X pins σ H s->Zbc x v->Zbc y u->r x y H Q ->
  subscripted slice false v u=operate [v,u] (Udq v u)->Vf (Vj X.prog X.w) X.A (subscriptTail value slice v u) (EP X pins σ Q) X.xe s
def MtR (X:Cx) (id:String) (r:V->List V->Hp->VK->Prop):Prop :=
 ∀ (pins:List (Vg×Obj)) (s:Vd) (σ:St) (H:Hp) (x:V) (xs:List V) (v:Vb) (us:List Vb) (Q:VK),Inv X pins σ H s->Zbc x v->Za9 xs us->r x xs H Q ->
  Vf (Vj X.prog X.w) X.A (call (.builtin id) (v::us)) (EP X pins σ Q) X.xe s
section
variable {X:Cx} {a b:Uac} {ta tb:TE} {pos:Pos}
theorem pe_ix {r:R2} (hr:IxR X r) (ha:PE X a ta) (hb:PE X b tb) (hs:Zmz b):PE X (.Subscript a b pos) (tOp r ta tb):=by
 intro pins s σ H Q I h
 exact Subscript_ (binT ha hb I h fun v u s2 x y H2 I2 rx ry q=>hr a b pins s2 σ H2 x y v u Q I2 rx ry q (hs _ _))
nonrec def rIxL (K:Xb):R2:=fun x y H Q=>∃ p xs i v,x=.ref p/\y=.int i/\SqL K H p xs/\atI xs i=some v/\Q v H
nonrec def rIxT (K:Xb):R2:=fun x y H Q=>∃ p xs i v,x=.ref p/\y=.int i/\SqT K H p xs/\atI xs i=some v/\Q v H
theorem Ztb:IxR X (rIxL X.K):=by
 intro value slice pins s σ H x y v u Q I rx ry h hs
 obtain⟨p,xs,i,z,rfl,rfl,hq,he,q⟩:=h
 cases rx
 obtain⟨t,rfl⟩:=ry
 obtain⟨its,r,pl,hz⟩:=I.list hq
 obtain⟨j,h1,h2,h3,h4,h5⟩:=Zm4 he
 obtain⟨w,ew,rw'⟩:=r.get h2
 have hl:=r.length
 have hn:=Zi3
 have fin:EP X pins σ Q w s:=⟨z,H,I,rw',q⟩
 by_cases h0:0<=i
 ·have hj:i.toNat=j:=by
   rw[seqIndex_of h0 h5] at h1
   exact Waa.inj h1
  exact item_listR pl.isList h0 (by omega) (by rw[hj]; simpa using ew) fin hs
 ·have hj:(i+(its.toArray.size:Int)).toNat=j:=by
   rw[seqIndex_neg (by omega) h4] at h1
   rw[Xj,<- hl]
   exact Waa.inj h1
  exact Uct (x:=w) pl.isList.typeIs slot_list_getitem.lookup
   (wpAny_getItem_list_neg (Q:=fun r s'=>r=w/\EP X pins σ Q r s') pl.isList (by omega) (by rw[Xj]<;>omega) (by omega) (by rw[hj]; simpa using ew) ⟨rfl,fin⟩) hs
theorem Zw1:IxR X (rIxT X.K):=by
 intro value slice pins s σ H x y v u Q I rx ry h hs
 obtain⟨p,xs,i,z,rfl,rfl,hq,he,q⟩:=h
 cases rx
 obtain⟨t,rfl⟩:=ry
 obtain⟨its,r,pl,hz⟩:=I.tuple hq
 obtain⟨j,h1,h2,h3,h4,h5⟩:=Zm4 he
 obtain⟨w,ew,rw'⟩:=r.get h2
 have hl:=r.length
 have hn:=Zi3
 have fin:EP X pins σ Q w s:=⟨z,H,I,rw',q⟩
 exact Uct (x:=w) pl.typeIs slot_tuple_getitem.lookup
  (getItem_tuple (j:=j) (Q:=fun r s'=>r=w/\EP X pins σ Q r s') pl (by omega) (by omega) (by rw[Xj,<- hl]; exact h1) (by simpa using ew) ⟨rfl,fin⟩) hs
theorem Zix (lo hi:Option Int) (n:Nat):(Ubn lo hi none n).1=((HT.sIx n 0 lo:Nat):Int)/\(Ubn lo hi none n).2.1=((HT.sIx n n hi:Nat):Int)/\(Ubn lo hi none n).2.2=1:=by
 refine⟨?_,?_,rfl⟩
 ·cases lo with
  | none=>simp[Ubn,HT.sIx]
  | some i =>
   simp only[Ubn,HT.sIx,Wgc,show (1:Int) > 0 by decide,if_true]
   by_cases h:i<0
   ·simp only[h,if_true]; exact HT.mm2 i n h
   ·simp only[h,if_false]; exact HT.mm1 i n h
 ·cases hi with
  | none=>simp[Ubn,HT.sIx]
  | some i =>
   simp only[Ubn,HT.sIx,Wgc,show (1:Int) > 0 by decide,if_true]
   by_cases h:i<0
   ·simp only[h,if_true]; exact HT.mm2 i n h
   ·simp only[h,if_false]; exact HT.mm1 i n h
theorem Zhk (its:List Vb) (lo hi:Option Int):slicePick its.toArray lo hi none=((its.drop (HT.sIx its.length 0 lo)).take (HT.sIx its.length its.length hi - HT.sIx its.length 0 lo)).toArray:=by
 obtain⟨h1,h2,h3⟩:=Zix lo hi its.toArray.size
 unfold slicePick
 rw[h1,h2,h3]
 simp only[sliceRange_one,pick_run,Xj]<;>rfl
nonrec def rSlL (K:Xb):V->Option Int->Option Int->Hp->VK->Prop:=fun x lo hi H Q=>∃ a xs,x=.ref a/\SqL K H a xs/\∀ p,H p=none->Q (.ref p) (upd H p (.lst (Zsv xs lo hi)))
theorem Zs9:SlR X (rSlL X.K):=by
 intro pins s σ H x v vl vu lo hi sl Q I rx hs pl pu h
 obtain⟨a,xs,rfl,hx,q⟩:=h
 cases rx
 obtain⟨its,r,ht,hz⟩:=I.list hx
 have hlen:=r.length
 refine⟨"list",_,slot_list_getitem.lookup,ht.isList.typeIs,?_⟩
 refine wpAny_getItem_list_slice ht.isList hs pl pu .none (by simp) ?_ (by rw[Xj]<;>omega)
 rw[Zhk,<- hlen]
 refine⟨.ref s.heap.objs.size,_,I.laid (t':=s.toks) (o:=.lst (Zsv xs lo hi)) (fun b ob q=>Xa _ q) (Xf _) ?_,rfl,q _ (I.hok.fresh (Xf _))⟩
 exact⟨Xq (Zcu xs lo hi) hz,_,0,(r.drop (HT.sIx xs.length 0 lo)).take (HT.sIx xs.length xs.length hi - HT.sIx xs.length 0 lo),Xe _ rfl⟩
theorem Zig:Zhq X (.builtin "len") (fun xs H Q=>∃ p ys,xs=[.ref p]/\(SqL X.K H p ys\/SqT X.K H p ys)/\Q (.int ys.length) H):=by
 intro pins s σ H xs us Q I r h
 obtain⟨p,ys,rfl,hq,q⟩:=h
 obtain⟨u,rfl,rx⟩:=Zhl r
 cases rx
 have hn:=Zi3
 rcases hq with hq | hq
 ·obtain⟨its,r',pl,hz⟩:=I.list hq
  have hlen:=r'.length
  exact Calls.call_len_list pl.isList (by simp only[Xj]<;>omega) ⟨.int ys.length,H,I.tok _,⟨s.toks+1,by rw[Xj,hlen]⟩,q⟩
 ·obtain⟨its,r',pl,hz⟩:=I.tuple hq
  have hlen:=r'.length
  exact len_tuple pl (by simp only[Xj]<;>omega) ⟨.int ys.length,H,I.tok _,⟨s.toks+1,by rw[Xj,hlen]⟩,q⟩
theorem Zi7:Zhq X (.builtin "len") (fun xs H Q=>∃ z,xs=[.str z]/\z.length<=sizeLine/\Q (.int z.length) H):=by
 intro pins s σ H xs us Q I r h
 obtain⟨z,rfl,hz,q⟩:=h
 obtain⟨u,rfl,t,rfl⟩:=Zhl r
 have hn:=Zi3
 exact len_str (by omega) ⟨.int z.length,H,I.tok _,⟨_,rfl⟩,q⟩
theorem Zhu:Zhq X (.type "tuple") (fun xs H Q=>∃ p ys,xs=[.ref p]/\((SqL X.K H p ys/\∀ l,H l=none->Q (.ref l) (upd H l (.tup ys)))\/(SqT X.K H p ys/\Q (.ref p) H))):=by
 intro pins s σ H xs us Q I r h
 obtain⟨p,ys,rfl,h⟩:=h
 obtain⟨u,rfl,rx⟩:=Zhl r
 cases rx
 rcases h with ⟨hq,q⟩ | ⟨hq,q⟩
 ·obtain⟨its,r',pl,hz⟩:=I.list hq
  have hlen:=r'.length
  refine call_tuple_list pl.isList (fun h' kp=>?_) (by simp only[Xj]<;>omega)
  have I1:Inv X pins σ H { s with heap:=h' }:=I.kept (t':=s.toks) kp
  have I2:Inv X pins σ (upd H h'.objs.size (.tup ys)) { s with heap:=h'.push { cls:=.type "tuple",data:=.seq its.toArray } } :=
   I1.laid (t':=s.toks) (fun b o e=>Xa _ e) (Xf _) (show Zcr X.prog X.w _ _ _ (.tup ys) from⟨hz,its,r',Zh0.new _ _⟩)
  exact⟨.ref h'.objs.size,_,I2,rfl,q _ (I1.hok.fresh (Xf _))⟩
 ·obtain⟨its,r',pl,hz⟩:=I.tuple hq
  exact call_tuple_same pl ⟨.ref p,H,I,rfl,q⟩
def tyV (K:Xb) (T:String) (x:V) (H:Hp):Prop:=match x with
 | .str _=>T = "str"
 | .int _=>T = "int"
 | .ref p=>(T = "list" /\ ∃ xs,SqL K H p xs)\/(T = "tuple" /\ ∃ o,K.lookup p=some o/\o.cls=.type "tuple" /\ o.dict=none) \/
   (T = "dict" /\ ((∃ kvs,H p=some (.dK kvs))\/∃ kvs,H p=some (.dT kvs)))\/(T = "set" /\ ∃ S n,H p=some (.set S n))
 | _=>False
theorem Zw4 {pins:List (Vg×Obj)} {σ:St} {H:Hp} {s:Vd} {T:String} {x:V} {v:Vb} (I:Inv X pins σ H s) (r:Zbc x v) (ty:tyV X.K T x H) :
  s.TypeIs v T/\∀ a,v=.ref a->∃ ob,s.heap.get? a=some ob/\ob.dict=none:=by
 cases x with
 | str z =>
  obtain⟨t,rfl⟩:=r
  cases (show T = "str" from ty)
  exact⟨typeIs_str s z t,fun _ e=>nomatch e⟩
 | int i =>
  obtain⟨t,rfl⟩:=r
  cases (show T = "int" from ty)
  exact⟨Udh s i t,fun _ e=>nomatch e⟩
 | ref p =>
  cases r
  rcases ty with ⟨rfl,xs,hq⟩ | ⟨rfl,o,hk,hc,hd⟩ | ⟨rfl,hk⟩ | ⟨rfl,S,n,hk⟩
  ·obtain⟨its,_,pl,_⟩:=I.list hq
   refine⟨pl.isList.typeIs,fun a e=>?_⟩
   cases e
   obtain⟨o,n,e,c,hd,_⟩:=pl
   exact⟨o,e,hd⟩
  ·refine⟨⟨o,I.kIn p o hk,hc⟩,fun a e=>?_⟩
   cases e
   exact⟨o,I.kIn _ o hk,hd⟩
  ·have z:∃ o,s.heap.get? p=some o/\o.ExactDict:=by
    rcases hk with ⟨kvs,hk⟩ | ⟨kvs,hk⟩
    ·obtain⟨_,_,_,_,o,_,_,e,ex,_⟩:=I.hok p _ hk
     exact⟨o,e,ex⟩
    ·obtain⟨_,_,_,_,o,_,_,e,ex,_⟩:=I.hok p _ hk
     exact⟨o,e,ex⟩
   obtain⟨o,e,ex⟩:=z
   refine⟨⟨o,e,ex.1⟩,fun a e2=>?_⟩
   cases e2
   exact⟨o,e,ex.2.1⟩
  ·obtain⟨o,_,_,_,e,ex,_⟩:=I.hok p _ hk
   refine⟨⟨o,e,ex.1⟩,fun a e2=>?_⟩
   cases e2
   exact⟨o,e,ex.2.1⟩
 | _=>exact Tad ty
nonrec def tBM (K:Xb) (T:String) (r:V->List V->Hp->VK->Prop) (to:TE) (t:TA):TE:=fun σ H Q=>to σ H fun x H1=>tyV K T x H1/\t σ H1 fun xs H2=>r x xs H2 Q
variable {o e:Uac} {es:List Uac} {to:TE} {t:TA} {name:Str} {apos cpos:Pos} {T id:String} {r:V->List V->Hp->VK->Prop}
theorem pe_bm (pa:PlainAttrs T) (slot:Slot T name id) (hty:typeOf (.builtin id)=pure (.type "method_descriptor")) (hm:MtR X id r) (ho:PE X o to) (ha:PA X (e::es) t)
  (hbase:Ucm o name X.env (eval o X.env)=eval o X.env:=by rfl)
  (hfew:((Uau cpos (Vk (e::es) X.env)).all (fun x => !x.1)&&(Udw cpos (Ubz [] X.env)).all (fun x=>x.1.isSome)
   && decide ((e::es).length+([]:List Uca).length+(if ([]:List Uca).isEmpty then 0 else 1)<30))=true:=by rfl)
  (hline:(apos.endLine==cpos.line)=true:=by rfl) (hs:Vk (e::es) X.env=(false,eval e X.env)::Vk es X.env:=by rfl) (hplain:(Uau cpos (Vk es X.env)).any (·.1)=false:=by rfl) :
  PE X (.Call (.Attribute o name apos) (e::es) [] cpos) (tBM X.K T r to t):=by
 intro pins s σ H Q I h
 refine Ucu hbase hfew hline rfl (thn (ho pins s σ H _ I h) fun v s1 zz=>?_)
 obtain⟨x,H1,I1,r1,ty,q1⟩:=zz
 obtain⟨h1,h2⟩:=Zw4 I1 r1 ty
 refine⟨T,id,pa,slot,hty,h1,h2,?_⟩
 have hA:=ha cpos pins s1 σ H1 _ I1 q1
 rw[hs] at hA ⊢
 refine Tbw (by show (false||(Uau cpos (Vk es X.env)).any (·.1))=false; rw[hplain]<;>rfl) (Tcg ?_)
 exact thn hA fun us s2 ⟨vs,H2,I2,r2,q2⟩=>hm pins s2 σ H2 x vs v us Q I2 r1 r2 q2
end
def MtM (X:Cx) (id:String) (r:V->List V->Hp->VK->Prop):Prop :=
 ∀ (pins:List (Vg×Obj)) (s:Vd) (σ:St) (H:Hp) (x:V) (xs:List V) (v:Vb) (us:List Vb) (Q:VK),Inv X pins σ H s->Zbc x v->Za9 xs us->r x xs H Q ->
  Vf (Vj X.prog X.w) X.A (call (.builtin id) (v::us)) (EP X pins σ Q) X.xe s
theorem Za9.one:∀ {x:V} {us:List Vb},Za9 [x] us->∃ u,us=[u]/\Zbc x u:=by
 intro x us h
 cases h with
 | cons r t=>cases t; exact⟨_,rfl,r⟩
theorem Za9.rep {xs:List V} {us:List Vb} (h:Za9 xs us):∀ k:Nat,Za9 (Xk k xs).flatten (Xk k us).flatten
 | 0=>.nil
 | k+1=>by
  rw[Wbd,Wbd,Wbg,Wbg]
  exact Za9.append h (Za9.rep h k)
theorem Zgf (its:List Vb):∀ (k:Nat) (acc:List Vb),
  Wdc (fun x1 x2=>x1++x2) acc.toArray (Xk k its.toArray)=(acc++(Xk k its).flatten).toArray
 | 0,acc=>by simp
 | k+1,acc=>by
  have e:acc.toArray++its.toArray=(acc++its).toArray:=by simp
  have e2:(acc++its)++(Xk k its).flatten=acc++(Xk (k+1) its).flatten:=by
   rw[Wbd,Wbg,Xv]
  rw[<- e2,<- Zgf its k (acc++its),<- e,Wbd,Wbl]
section
variable {X:Cx} {pins:List (Vg×Obj)} {σ:St} {H:Hp} {s:Vd} {l b:Vg} {xs ys zs:List V}
theorem Inv.lset {its its':List Vb} {n:Nat} {f:Array Vb->Array Vb} {t':Nat} (I:Inv X pins σ H s) (hH:H l=some (.lst xs))
  (e:s.heap.get? l=some { cls:=.type "list",data:=.seq its.toArray n }) (hf:f its.toArray=its'.toArray) (hv:Za9 ys its') (hz:ys.length<=sizeLine) :
  Inv X pins σ (upd H l (.lst ys)) { s with heap:=s.heap.update l (Tbb f),toks:=t' }:=by
 have q:=PySem.IsL.update e f
 rw[hf] at q
 refine I.write (x:=l) (e:=l) (by rw[hH]; exact trivial) (.inl rfl) (fun b' u hb hu=>(Heap.get?_update_other s.heap (Tbb f) (Uf hb)).trans hu) ⟨_,q⟩ ?_
 exact⟨hz,its',_,hv,q⟩
theorem Inv.lnew {its:List Vb} {t':Nat} (I:Inv X pins σ H s) (hv:Za9 ys its) (hz:ys.length<=sizeLine) :
  Inv X pins σ (upd H s.heap.objs.size (.lst ys)) { s with heap:=s.heap.push { cls:=.type "list",data:=.seq its.toArray },toks:=t' } :=
 I.laid (fun _ _ q=>Xa _ q) (Xf _) ⟨hz,its,0,hv,Xe _ rfl⟩
theorem Inv.fresh (I:Inv X pins σ H s):H s.heap.objs.size=none:=I.hok.fresh (Xf _)
theorem Inv.lstM (I:Inv X pins σ H s) (hH:H l=some (.lst xs)):xs.length<=sizeLine/\∃ (its:List Vb) (n:Nat),Za9 xs its/\xs.length=its.length/\s.heap.get? l=some { cls:=.type "list",data:=.seq its.toArray n }:=by
 obtain⟨z,its,n,r,e⟩:=I.hok l _ hH
 exact⟨z,its,n,r,r.length,e⟩
theorem Zk0 {n:Nat} (h:n<=sizeLine):Uz n=false:=by
 unfold Uz
 exact decide_eq_false (by omega)
end
section
variable {X:Cx}
nonrec def Zur:V->List V->Hp->VK->Prop:=fun x vs H Q=>∃ l xs y,x=.ref l/\vs=[y]/\H l=some (.lst xs)/\xs.length<sizeLine/\Q .non (upd H l (.lst (xs++[y])))
theorem Zf7:MtM X "list.append" Zur:=by
 intro pins s σ H x vs v us Q I rx rv h
 obtain⟨l,xs,y,rfl,rfl,hH,hz,q⟩:=h
 cases rx
 obtain⟨u,rfl,ru⟩:=rv.one
 obtain⟨z,its,n,r,hl,e⟩:=I.lstM hH
 refine Uas F.slot_list_append ⟨_,e,rfl⟩ F.entry_list_append (F.args_list_append_2 _ _) (PySem.list_append l its.toArray n u (by rw[Xj]; omega)) ⟨e,?_⟩
 refine⟨.non,_,I.lset (its':=its++[u]) hH e (by simp) (r.append (.cons ru .nil)) ?_,rfl,q⟩
 rw[Xp,List.length_singleton]
 omega
nonrec def Zus:V->List V->Hp->VK->Prop:=fun x vs H Q=>∃ l b xs zs,x=.ref l/\vs=[.ref b]/\H l=some (.lst xs)/\H b=some (.lst zs)/\xs.length+zs.length<=sizeLine/\Q .non (upd H l (.lst (xs++zs)))
theorem Zpd:MtM X "list.extend" Zus:=by
 intro pins s σ H x vs v us Q I rx rv h
 obtain⟨l,b,xs,zs,rfl,rfl,hH,hB,hz,q⟩:=h
 cases rx
 obtain⟨u,rfl,ru⟩:=rv.one
 cases ru
 obtain⟨z,its,n,r,hl,e⟩:=I.lstM hH
 obtain⟨z2,its2,n2,r2,hl2,e2⟩:=I.lstM hB
 have hsz:its.toArray.size+its2.toArray.size<=sizeLine:=by rw[Xj,Xj]; omega
 have hlong:¬ (!its.toArray.isEmpty&&Uz (its.toArray.size+its2.toArray.size))=true:=by
  rw[Zk0 hsz,Bool.and_false]
  exact Wau
 refine Uas F.slot_list_extend ⟨_,e,rfl⟩ F.entry_list_extend (F.args_list_extend_2 _ _)
  (AutoSeq1.list_extend_list_list_0 l its.toArray n b its2.toArray n2 hlong (by rw[Xj]; omega) (by omega)) ⟨e,e2,?_⟩
 refine⟨.non,_,I.lset (its':=its++its2) hH e (by simp) (r.append r2) ?_,rfl,q⟩
 rw[Xp]
 omega
nonrec def rCat:R2:=fun x y H Q=>∃ l b xs zs,x=.ref l/\y=.ref b/\H l=some (.lst xs)/\H b=some (.lst zs)/\xs.length+zs.length<=sizeLine/\∀ p,H p=none->Q (.ref p) (upd H p (.lst (xs++zs)))
theorem Zxu:OpR X (Uaf .Add) rCat:=by
 intro pins s σ H x y v u Q I rx ry h
 obtain⟨l,b,xs,zs,rfl,rfl,hH,hB,hz,q⟩:=h
 cases rx
 cases ry
 obtain⟨z,its,n,r,hl,e⟩:=I.lstM hH
 obtain⟨z2,its2,n2,r2,hl2,e2⟩:=I.lstM hB
 refine PySem.P.add_list e e2 ?_ (by rw[Xj,Xj]; omega)
 have ea:its.toArray++its2.toArray=(its++its2).toArray:=by simp
 rw[ea]
 exact⟨.ref _,_,I.lnew (t':=s.toks) (r.append r2) (by rw[Xp]; omega),rfl,q _ I.fresh⟩
nonrec def rRep:R2:=fun x y H Q=>∃ l k xs,x=.ref l/\y=.int k/\H l=some (.lst xs) /\ -(2 ^ 63)<=k/\k<2 ^ 63/\xs.length*k.toNat<=sizeLine /\
 ∀ p,H p=none->Q (.ref p) (upd H p (.lst (Xk k.toNat xs).flatten))
theorem Zj3 {α:Type} (xs:List α) (k:Nat):(Xk k xs).flatten.length=k*xs.length:=by
 induction k with
 | zero=>simp
 | succ k ih=>rw[Wbd,Wbg,Xp,ih,Wfz,Nat.add_comm]
theorem Zvy:OpR X (Uaf .Mult) rRep:=by
 intro pins s σ H x y v u Q I rx ry h
 obtain⟨l,k,xs,rfl,rfl,hH,h1,h2,hz,q⟩:=h
 cases rx
 obtain⟨t,rfl⟩:=ry
 obtain⟨z,its,n,r,hl,e⟩:=I.lstM hH
 have hlen:its.toArray.size*k.toNat<=sizeLine:=by rw[Xj,<- hl]; exact hz
 have hcap:¬ its.toArray.size*k.toNat > (2 ^ 63 - 1) / 8:=by
  have:(sizeLine:Nat)<=(2 ^ 63 - 1) / 8:=by decide
  omega
 have hfit:¬ (!Builtin.List.listFitsIndex k)=true:=by
  rw[fitsIndex_both h1 h2]
  exact Wau
 have hlong:¬ Uz (its.toArray.size*k.toNat)=true:=by
  rw[Zk0 hlen]
  exact Wau
 have hnew:Wdc (fun x1 x2=>x1++x2) #[] (Xk (if its.toArray.isEmpty=true then 0 else k.toNat) its.toArray)=(Xk k.toNat its).flatten.toArray:=by
  have f0:∀ m:Nat,Wdc (fun x1 x2=>x1++x2) #[] (Xk m its.toArray)=(Xk m its).flatten.toArray:=fun m=>by
   have:=Zgf its m []
   rw[Wbr] at this
   exact this
  rw[f0]
  cases its with
  | nil=>simp
  | cons a r'=>rw[if_neg (by simp)]
 refine Ucg (T := "list") (U := "int") (by decide) ⟨_,e,rfl⟩ (fun s'=>Udh s' k t) noFill_list_mul F.fills_int_mul Tbd repeat_list F.slot_int_index.lookup
  (Uas Tbd (Udh s k t) F.entry_int_rmul (Tcs _ _) (int___rmul___int_list k t l its.toArray n)
   ⟨e,rfl,⟨_,e,rfl⟩,Uas F.slot_list_mul ⟨_,e,rfl⟩ F.entry_list_mul (F.args_list_mul_2 _ _) (AutoListH.list___mul___list_int_3 l its.toArray n k t hfit hcap hlong) ⟨e,?_⟩⟩)
 rw[hnew]
 exact⟨.ref _,_,I.lnew (t':=s.toks) (r.rep k.toNat) (by rw[Zj3,Wey]; exact hz),rfl,q _ I.fresh⟩
end
section
variable {prog:Vl} {w:Vt} {A:Vu} {E:Vb->Vd->Prop} {s:Vd}
set_option maxRecDepth 100000 in
end
end L2
namespace Att
open PySem PySem.W PySem.Calls PyProof.Rows
theorem Zfo {P:Params} {h:Uab}:∀ (ns:List Int) (vs:List Vb),WellAll P h vs (ns.map WData.int)->Ubb vs ns:=by
 intro ns
 induction ns with
 | nil =>
  intro vs w
  rw[Wef] at w
  cases w
  exact .nil
 | cons n ns ih =>
  intro vs w
  rw[Wab] at w
  cases w with
  | cons a b =>
   cases a
   exact .cons _ _ (ih _ b)
theorem Zoy {l:OpenLaw} {n:Nat} (hn:l.most=some n) {P:Params} {h:Uab} {args:List WData} {vals:List Vb}
  (hpre:l.row.toRowW.claim.pre args=true) (hwl:WellAll P h vals args) :
  ∃ a vs ns,vals=[Ud a]/\args=[WData.list (ns.map WData.int)]/\h.get? a=some { cls:=.type "list",data:=.seq vs.toArray }/\Ubb vs ns/\ns.length<=n:=by
 have hsh:WShape.hasAll [] args [.list .int]=true:=(pre_splitW hpre).1
 have hc:l.pre.holds [] { args:=args }=true:=(pre_splitW hpre).2
 obtain⟨d,r,rfl,h1,h2⟩:=hasAllW_cons hsh
 obtain rfl:=hasAllW_nil h2
 obtain⟨xs,rfl,h3⟩:=hasW_list h1
 obtain⟨ns,rfl⟩:=items_int h3
 have hlen:ns.length<=n:=by
  unfold OpenLaw.pre at hc
  have h4:(WTm.not (.lt (.lit (.int (n:Int))) (.len (.arg 0)))).holds [] { args:=[.list (ns.map .int)] }=true:=by
   have h4:=(holds_andW hc).1
   rw[hn] at h4
   exact h4
  have h5:=condW_of h4 (w_not (w_lt w_lit (w_len_list (w_arg rfl))))
  rw[Wap] at h5
  refine Nat.le_of_not_lt fun q=>?_
  have q':(n:Int)<((ns.length:Nat):Int):=by omega
  first
   | (rw[decide_eq_true q'] at h5; exact absurd h5 (by decide))
   | (simp at h5; omega)
 cases hwl with
 | cons w1 w2 =>
  cases w2
  cases w1 with
  | list ho hall=>exact⟨_,_,ns,rfl,rfl,ho,Zfo ns _ hall,hlen⟩
theorem Zpl (l:OpenLaw) (args:List WData):l.row.toRowW.claim.post args (.bool true) args=true :=
 postW_of (r:=l.row.toRowW) (X:=(true==true))
  (show WShape.has [] (.bool true) .bool=true by first | rfl | decide | simp[WShape.has,WShape.arms,WShape.armsAll])
  (show (WTm.eq .res (.lit (.bool true))).value [] { args:=args,res:=some (.bool true),after:=args }=some (.bool (true==true)) from w_eq_bool (w_res rfl) w_lit) rfl
theorem attach_call {l:OpenLaw} {n:Nat} {q:Vl} {loose:List Str} {XP:(Str->Option Vb)->Uab->Prop} {YP:Vt->Uab->Prop} {d:DefRec}
  (hn:l.most=some n) (hdf:d.params.defaults=[])
  (call:∀ (w:Vt) (s₀ s₁:Vd) (mg mb:Str->Option Vb) (fa:Vg) (o:Obj) (pm cd doc:Vb) (a:Vg) (vs:List Vb) (ns:List Int),
   Ground q loose [] XP w s₀ mg mb s₁.heap->YP w s₁.heap ->
   s₁.heap.get? fa=some o->o.data=.func (docDef d.name d.params d.body d.scope pm cd doc)->s₁.heap.CodeRec cd d.name->mg d.name=some (.ref fa) ->
   s₁.heap.get? a=some { cls:=.type "list",data:=.seq vs.toArray }->Ubb vs ns->ns.length<=n->s₁.gens = #[] ->
   Ucl (Vj l.prog w) Udr (.call (.ref fa) ⟨[.ref a],[]⟩) (fun r s'=>r=.ok (.ret (.bool true))/\OldK s₁.heap s'.heap/\s'.os=s₁.os/\Ucx s'.gens) s₁) :
  WalkO q loose XP YP l.row.toRowW d [] (fun f vs=>Tct f vs):=by
 intro w s₀ s₁ mg mb G Y fa o pm cd doc dV kV ho hd hcd hD hmg hg args vals as hpre hlay hrd hwl hlo
 obtain rfl:dV=.none:=Dflts.none hD hdf
 obtain rfl:kV=.none:=Dflts.noKw hD
 obtain⟨a,vs,ns,rfl,rfl,hobj,hints,hlen⟩:=Zoy hn hpre hwl
 refine enter_call (Ubr (call w s₀ s₁ mg mb fa o pm cd doc a vs ns G Y ho (fd_plain hd) hcd hmg hobj hints hlen hg) fun r s' hq=>?_)
 obtain⟨rfl,h2,h3,h4⟩:=hq
 exact⟨.inl ⟨.bool true,.bool true,[],rfl,fun _=>rfl,.bool true,Zpl l _,fun _=>⟨Tcu,fun _ hm=>(nomatch hm)⟩⟩,h2,h3,h4⟩
end Att
namespace L2
open PySem PySem.Spec PyProof.Rows
theorem Ziy:∀ {vs:List Vb} {ns:List Int},Ubb vs ns->Za9 (ns.map V.int) vs
 | _,_,.nil=>.nil
 | _,_,.cons n t h=>.cons ⟨t,rfl⟩ (Ziy h)
def Zxh (H:Hp):Prop:=∀ b,H b=none\/∃ o xs,H b=some (.frz o (.lst xs))
theorem Zpx {P:Vl} {w:Vt} {K:Xb} {mg mb:Str->Option Vb} {CX:CXT} {k:Nat} {fa a:Vg} {fd:Ubh} {x:Str} {sp:Sp} {s₁:Vd} {vs:List Vb} {ns:List Int}
  (KX:K.In s₁.heap) (hns:s₁.heap.Ns Vw mg) (hb:s₁.heap.Ns builtinsNs mb) (hbb:∀ x:Str,x ≠ "__name__" -> mb x=Vv x) (hlim:s₁.heap.NoLimit) (hg:s₁.gens = #[])
  (ha:s₁.heap.get? a=some { cls:=.type "list",data:=.seq vs.toArray }) (hi:Ubb vs ns) (hl:ns.length<=sizeLine) (hr:Room k Udr)
  (F:∀ base:Uab,K.In base->base.Ns Vw mg->FnOk P w K mg base CX k fa fd [x] sp) (hbind:∀ (s:Vd) (u:Vb),Uej s fd ⟨[u],[]⟩ [(x,u)])
  (hsp:∀ H:Hp,Zxh H->SqL K H a (ns.map V.int)->sp [.ref a] H (fun v _=>v=.bl true) fun _ _ _=>False)
  (hCX:∀ H e s',CX [] H s₁ (fun _ _ _=>False) e s'->False) :
  Ucl (Vj P w) Udr (.call (.ref fa) ⟨[.ref a],[]⟩) (fun r s'=>r=.ok (.ret (.bool true))/\OldK s₁.heap s'.heap/\s'.os=s₁.os/\Ucx s'.gens) s₁:=by
 have rv:=Ziy hi
 have lenV:=hi.length
 -- from an abstract heap in which nothing but the script may be tracked
 have core:∀ H:Hp,Zxh H->SqL K H a (ns.map V.int)->HOk P w H s₁.heap->(∀ b,H b≠none->b=a)->(H a≠none->K.lookup a=none) ->
   Ucl (Vj P w) Udr (.call (.ref fa) ⟨[.ref a],[]⟩) (fun r s'=>r=.ok (.ret (.bool true))/\OldK s₁.heap s'.heap/\s'.os=s₁.os/\Ucx s'.gens) s₁:=by
  intro H hO hS hok hA hK
  have base_of:∀ {b:Vg} {o:Obj},s₁.heap.get? b=some o->H b=none->(Zrl s₁.heap H).get? b=some o:=fun e n=>Zqv e n
  have noA:∀ {b:Vg} {o:Obj} {es:Array Uav} {ep:Nat},s₁.heap.get? b=some o->o.data=.dict es ep->H b=none:=fun {b o es ep} e d=>by
   cases q:H b with
   | none=>rfl
   | some u =>
    have e':b=a:=hA b (by rw[q]; simp)
    subst e'
    rw[ha] at e; cases e
    have d':Data.seq vs.toArray _=Data.dict es ep:=d
    cases d'
  have nsK:∀ {b:Vg} {m:Str->Option Vb},s₁.heap.Ns b m->(Zrl s₁.heap H).Ns b m:=fun {b m} ⟨o,es,ep,e,d,r⟩=>⟨o,es,ep,base_of e (noA e d),d,r⟩
  have hKb:K.In (Zrl s₁.heap H):=fun b o e=>base_of (KX b o e) (by
   cases q:H b with
   | none=>rfl
   | some u =>
    have e':b=a:=hA b (by rw[q]; simp)
    subst e'
    rw[hK (by rw[q]; simp)] at e; cases e)
  have hM:Mod K mg (Zrl s₁.heap H):=⟨hKb,nsK hns,⟨mb,nsK hb,hbb⟩,let ⟨mc,h1,h2⟩:=hlim; ⟨mc,nsK h1,h2⟩⟩
  have e0:Env0 P w K mg (Zrl s₁.heap H) Udr [] s₁ H:=⟨rfl,hM,fun b o e=>Zuu e,Nat.le_of_eq (Zod _ _),trivial,fun b hb=>absurd (show b∈([]:List Vg) from hb) (by simp),hok,.of_eq hg⟩
  refine Ubr ((F _ hKb (nsK hns)).run Udr [] s₁ H ⟨[.ref a],[]⟩ [.ref a] [.ref a] _ _ hr e0 (hbind s₁ (.ref a)) (.cons rfl .nil) (hsp H hO hS)) fun r s' h=>?_
  cases r with
  | error e=>exact(hCX H e s' h).elim
  | ok fl =>
   cases fl with
   | next=>exact Tad h
   | brk=>exact Tad h
   | cont=>exact Tad h
   | ret u =>
    obtain⟨v,H',os,bare,un,hok',r',q⟩:=h
    have q':v=.bl true:=q
    subst q'
    obtain rfl:u=Tcq true:=r'
    refine⟨rfl,OldK.of_keep fun b o e=>?_,os,bare⟩
    cases q:H b with
    | none=>exact un.keep b o e q (by intro z; exact absurd (show b∈([]:List Vg) from z) (by simp)) (by simp)
    | some u =>
     rcases hO b with z | ⟨ob,xs,z⟩
     ·rw[q] at z; cases z
     ·have z2:=un.frzs b ob _ z
      obtain⟨e1,_⟩:=hok b _ z
      obtain⟨e2,_⟩:=hok' b _ z2
      rw[e] at e1; cases e1
      exact e2
 cases hk:K.lookup a with
 | some o =>
  -- the script is one of the module's own objects
  have e:=KX a o hk
  rw[ha] at e
  cases e
  refine core (fun _=>none) (fun _=>.inl rfl) (.inr ⟨_,vs.toArray,_,hk,rfl,rfl,rfl,by rw[Xj,lenV]; exact hl,by simpa using rv⟩) (fun b u z=>by have z':(none:Option HO)=some u:=z; cases z') (fun b z=>absurd rfl z) fun z=>absurd rfl z
 | none =>
  refine core (fun b=>if b=a then some (.frz { cls:=.type "list",data:=.seq vs.toArray } (.lst (ns.map V.int))) else none) (fun b=>?_) (.inl (.inr ⟨{ cls:=.type "list",data:=.seq vs.toArray },if_pos rfl⟩)) (fun b u z=>?_) (fun b z=>?_) fun _=>hk
  ·by_cases hb:b=a
   ·exact .inr ⟨_,_,if_pos hb⟩
   ·exact .inl (if_neg hb)
  ·by_cases hb:b=a
   ·have z':=(if_pos hb).symm.trans z
    cases z'
    subst hb
    exact⟨ha,by rw[Wap]; exact hl,vs,_,rv,ha⟩
   ·have z':=(if_neg hb).symm.trans z
    cases z'
  ·by_cases hb:b=a
   ·exact hb
   ·exact absurd (if_neg hb) z
nonrec abbrev KOf {K:Xb} {h:Uab} (_:K.In h):Xb:=K
theorem Ztw {l:Tbz} {n k:Nat} {q:Vl} {loose:List Str} {XP:(Str->Option Vb)->Uab->Prop} {YP:Vt->Uab->Prop} {d:DefRec} {K:Params->Xb} {CX:Vt->CXT} {sp:Vt->Sp} {x:Str}
  (hn:l.most=some n) (hn2:n<=sizeLine) (hdf:d.params.defaults=[]) (hr:Room k Udr)
  (hY:∀ (w:Vt) (h:Uab),YP w h->(K w.params).In h)
  (F:∀ (w:Vt) (mg:Str->Option Vb) (fa:Vg) (h:Uab),(K w.params).In h->h.Ns Vw mg->mg d.name=some (.ref fa) ->
   ∃ fd:Ubh,(∀ (s:Vd) (u:Vb),Uej s fd ⟨[u],[]⟩ [(x,u)]) /\
    ∀ base:Uab,(K w.params).In base->base.Ns Vw mg->FnOk l.prog w (K w.params) mg base (CX w) k fa fd [x] (sp w))
  (hsp:∀ (w:Vt) (H:Hp) (a:Vg) (ns:List Int),ns.length<=n->Zxh H->SqL (K w.params) H a (ns.map V.int)->sp w [.ref a] H (fun v _=>v=.bl true) fun _ _ _=>False)
  (hCX:∀ (w:Vt) (H:Hp) (s:Vd) (e:Vb) (s':Vd),CX w [] H s (fun _ _ _=>False) e s'->False) :
  Wfl q loose XP YP l.row.toRowW d [] (fun f vs=>Tct f vs):=by
 refine Att.attach_call hn hdf fun w s₀ s₁ mg mb fa o pm cd doc a vs ns G Y ho hd hcd hmg hobj hints hlen hg=>?_
 have KX:=hY w _ Y
 obtain⟨fd,hb,hF⟩:=F w mg fa _ KX G.T.g hmg
 exact Zpx KX G.T.g G.T.b G.T.builtins G.T.nolimit hg hobj hints (Xq hlen hn2) hr hF hb (fun H hO hS=>hsp w H a ns hlen hO hS) fun H e s'=>hCX w H s₁ e s'
theorem walk_ofK {l:Tbz} {n k:Nat} {q:Vl} {loose:List Str} {XP:(Str->Option Vb)->Uab->Prop} {YP:Vt->Uab->Prop} {d:DefRec} {K:Params->Xb} {CX:CXT} {sp:Xb->Sp} {x:Str}
  (hn:l.most=some n) (hn2:n<=sizeLine) (hdf:d.params.defaults=[]) (hr:Room k Udr)
  (hY:∀ (w:Vt) (h:Uab),YP w h->(K w.params).In h)
  (F:∀ (w:Vt) (mg:Str->Option Vb) (fa:Vg) (h:Uab),(K w.params).In h->h.Ns Vw mg->mg d.name=some (.ref fa) ->
   ∃ fd:Ubh,(∀ (s:Vd) (u:Vb),Uej s fd ⟨[u],[]⟩ [(x,u)]) /\
    ∀ base:Uab,(K w.params).In base->base.Ns Vw mg->FnOk l.prog w (K w.params) mg base CX k fa fd [x] (sp (K w.params)))
  (hsp:∀ (K:Xb) (H:Hp) (a:Vg) (ns:List Int),ns.length<=n->Zxh H->SqL K H a (ns.map V.int)->sp K [.ref a] H (fun v _=>v=.bl true) fun _ _ _=>False)
  (hCX:∀ (H:Hp) (s:Vd) (e:Vb) (s':Vd),CX [] H s (fun _ _ _=>False) e s'->False) :
  Wfl q loose XP YP l.row.toRowW d [] (fun f vs=>Tct f vs) :=
 Ztw (K:=K) (CX:=fun _=>CX) (sp:=fun w=>sp (K w.params)) hn hn2 hdf hr hY F (fun w H a ns h1 h2 h3=>hsp (K w.params) H a ns h1 h2 h3) fun _ H s e s'=>hCX H s e s'
nonrec def Zdp (s:Ubv):Arguments:=match s with
 | .FunctionDef _ a _ _ _ _ _ _ _ _=>a
 | _=>{ posonlyargs:=[],args:=[],vararg:=none,kwonlyargs:=[],kw_defaults:=[],kwarg:=none,defaults:=[] }
nonrec def Zcd (s:Ubv):List Ubv:=match s with
 | .FunctionDef _ _ b _ _ _ _ _ _ _=>b
 | _=>[]
nonrec def Zag (s:Ubv):Ucf:=match s with
 | .FunctionDef _ _ _ _ _ _ sc _ _ _=>sc
 | _=>{ kind:=.function,names:=[],isGenerator:=false,isCoroutine:=false }
nonrec abbrev CX0:CXT:=fun _ _ _ _ _ _=>False
nonrec abbrev E0:XK:=fun _ _ _=>False
theorem pass0 {X:Cx}:Zm3 CX0 X E0:=fun _ _ _ _ _ _ _ h=>h.elim
structure Fun (K:Xb) (x qual:Str) (st:Ubv) (f:Vg) (fd:Ubh):Prop where
 ex:∃ (oc:Vb) (od:Option Vg) (kV doc pm:Vb) (an:Option Vg) (cdv ct:Vb) (osl:Array (Option Vb)),
  fd=Wcl x qual (Zdp st) (Zcd st) (Zag st) .none kV doc pm an cdv ct/\K.lookup f=some ⟨oc,od,.func fd,osl⟩/\Weh K cdv qual=true
 kp:Wcv K (.ref f)=true
section
variable {P:Vl} {w:Vt} {K:Xb} {mg:Str->Option Vb} {base:Uab}
theorem Fun.ok {x qual:Str} {st:Ubv} {f:Vg} {fd:Ubh} {N ps:List Str} {k:Nat} {sp:Sp} (F:Fun K x qual st f fd) (S:FnScope N ps (Zag st)) (len:∀ vs H Q E,sp vs H Q E->vs.length=ps.length)
  (hbody:∀ (cdv:Vb) (A:Vu) (outer:List Env) (s:Vd) (H:Hp) (vs:List V) (Q:VK) (E:XK),Room k (A.deeper (Udn qual (Zag st) s.heap.objs.size f cdv))->sp vs H Q E ->
   ∃ t,PSs (Zps CX0 P w K mg base N qual (Zag st) f cdv A outer s H E).nox (Zcd st) t/\t { nx:=fun _ H'=>Q .non H',rt:=Q } (start N vs) H):FnOk P w K mg base CX0 (k+1) f fd ps sp:=by
 obtain⟨oc,od,kV,doc,pm,an,cdv,ct,osl,rfl,lk,hcd⟩:=F.ex
 refine fn_of lk hcd S len fun A outer s H vs Q E hr hsp=>?_
 obtain⟨t,h,q⟩:=hbody cdv A outer s H vs Q E hr hsp
 exact⟨t,h.nox,q⟩
theorem Fun.binds {x qual:Str} {st:Ubv} {f:Vg} {fd:Ubh} {ps:List Str} (F:Fun K x qual st f fd)
  (h:∀ (kV doc pm:Vb) (an:Option Vg) (cdv ct:Vb) (us:List Vb),us.length=ps.length->bindArgs (Wcl x qual (Zdp st) (Zcd st) (Zag st) .none kV doc pm an cdv ct) ⟨us,[]⟩=pure (ps.zip us)):Zjz K fd ps []:=by
 obtain⟨oc,od,kV,doc,pm,an,cdv,ct,osl,rfl,lk,hcd⟩:=F.ex
 exact .all (h kV doc pm an cdv ct)
theorem Zwg {x qual:Str} {st:Ubv} {f:Vg} {oc:Vb} {od an:Option Vg} {osl:Array (Option Vb)} {kV doc pm cdv ct:Vb} (l:K.lookup f=some ⟨oc,od,.func (Wcl x qual (Zdp st) (Zcd st) (Zag st) .none kV doc pm an cdv ct),osl⟩)
  (c:Weh K cdv qual=true) (k:Wcv K (.ref f)=true):Fun K x qual st f (Wcl x qual (Zdp st) (Zcd st) (Zag st) .none kV doc pm an cdv ct):=⟨⟨oc,od,kV,doc,pm,an,cdv,ct,osl,rfl,l,c⟩,k⟩
end
section
variable {X:Cx}
theorem pv (i:Nat) {x:Str} {pos:Pos} (hN:X.N[i]? = some x:=by rfl) (hv:Vis X.env.scope x:=by first | exact Or.inl rfl | exact Or.inr (Or.inl rfl) | exact Or.inr (Or.inr rfl)) (hd:(x==("__debug__" : Str))=false:=by decide)
  (hcd:(x==("__classdict__" : Str))=false:=by decide):PE X (.Name x pos) (tVar i):=Zxj hN hv hd hcd
end
end L2
set_option maxHeartbeats 4000000
set_option autoImplicit false
namespace DL
open PySem PySem.Spec PyProof.Rows L2
nonrec def Zms:Vb->Option Int
 | .int i _=>some i
 | .bool b=>some (if b then 1 else 0)
 | _=>none
nonrec def Zfa (k:Int) (v:Vb):Bool:=Zms v==some k
theorem Zcp {k:Int} {v:Vb} (h:Zfa k v=true):(∃ t,v=.int k t)\/∃ b,v=.bool b/\k=(if b then 1 else 0):=by
 have h:Zms v=some k:=eq_of_beq h
 cases v with
 | int i t=>exact .inl ⟨t,by cases h; rfl⟩
 | bool b=>exact .inr ⟨b,rfl,(Waa.inj h).symm⟩
 | _=>cases h
section
variable {prog:Vl} {w:Vt} {A:Vu} {E:Vb->Vd->Prop} {s:Vd}
theorem Zjm {b:Bool} {Q:Int->Vd->Prop} (h:Q (Ued (if b then 1 else 0)) { s with toks:=s.toks+1 }):Vf (Vj prog w) A (pyHash (.bool b)) Q E s:=by
 have hr:=rawHash_range (if b then 1 else 0)
 have tb:s.TypeIs (.bool b) "bool" := rfl
 unfold pyHash
 have hv:[Tcq b].any Value.onHeap=false:=rfl
 refine Va ?_
 rw[cRoomFor,if_neg (by rw[hv]; exact Wau)]; refine Vc ?_
 refine Va (Ucb tb Taw.lookup ?_)
 show Vf _ _ (if (some (Tcl "int.__hash__")==some Uq)=true then _ else _) Q E s
 rw[if_neg (by rw[beq_builtin_none]; exact Wau)]
 refine Va (Ucb tb Taw.lookup ?_)
 show Vf _ _ (callSpecialIfBoundUnlessNone? (.bool b) "__hash__" _ >>= _) Q E s
 refine Va (wpAny_callSpecialIfBoundUnlessNone?_slot tb Taw
  (Vr Taw tb entry_int_hash
   (show Vf _ _ (do ret (<- mkInt (rawHash (if b then 1 else 0)))) _ _ s from wpAny_ret_mkInt ?_) (args_int_hash _)))
 show Vf _ _ (if (decide (-(2:Int) ^ 63<=rawHash (if b then 1 else 0))&&decide (rawHash (if b then 1 else 0)<2 ^ 63))=true then _ else _) Q E _
 rw[if_pos (by rw[decide_eq_true hr.1,decide_eq_true hr.2]; rfl)]
 exact Vc h
end
nonrec def Zam (prog:Vl) (w:Vt):KeyKind prog w Int where
 is:=Zfa
 hash:=Ued
 inj:=fun v a b ha hb=>by
  unfold Zfa at ha hb
  have:=(eq_of_beq ha).symm.trans (eq_of_beq hb)
  exact Waa.inj this
 byValue:=fun k v h=>by rcases Zcp h with ⟨t,rfl⟩ | ⟨b,rfl,_⟩<;>rfl
 pyHash:=fun hv h=>by
  rcases Zcp hv with ⟨t,rfl⟩ | ⟨b,rfl,rfl⟩
  ·exact wpAny_pyHash_int h
  ·exact Zjm h
 eqBool:=fun {A E s a b u v Q} hu hv h=>by
  rcases Zcp hu with ⟨t,rfl⟩ | ⟨c,rfl,rfl⟩<;>rcases Zcp hv with ⟨t',rfl⟩ | ⟨c',rfl,rfl⟩
  ·exact wpAny_eqBool_int h
  ·exact Tdc _ _ _ prog w E Q h
  ·exact Tdd _ _ _ prog w E Q h
  ·refine Tdb _ _ prog w E Q ?_
   have e:(c==c')=decide ((if c then (1:Int) else 0)=(if c' then 1 else 0)):=by cases c<;>cases c'<;>rfl
   rw[e]; exact h
 «strs»:=fun k x t v h=>by simp[Zfa,Zms] at h
nonrec def iIsz (k:Int) (v:Vb):Bool:=match v with
 | .int i _=>i==k
 | _=>false
theorem Zlu {k:Int} {v:Vb} (h:iIsz k v=true):∃ t,v=.int k t:=by
 cases v with
 | int i t=>exact⟨t,by rw[eq_of_beq (show (i==k)=true from h)]⟩
 | _=>cases h
theorem Zf6 {k:Int} {t:Tok}:iIsz k (.int k t)=true:=beq_self_eq_true k
theorem Zde {k:Int} {v:Vb} (h:iIsz k v=true):Zfa k v=true:=by
 obtain⟨t,rfl⟩:=Zlu h
 exact beq_self_eq_true (some k)
nonrec def Zpq (prog:Vl) (w:Vt):KeyKind prog w Int where
 is:=iIsz
 hash:=Ued
 inj:=fun v a b ha hb=>(Zam prog w).inj v a b (Zde ha) (Zde hb)
 byValue:=fun k v h=>(Zam prog w).byValue k v (Zde h)
 pyHash:=fun hv h=>(Zam prog w).pyHash (Zde hv) h
 eqBool:=fun {A E s a b u v Q} hu hv h=>(Zam prog w).eqBool (a:=a) (b:=b) (Zde hu) (Zde hv) h
 «strs»:=fun k x t v h=>by cases h
inductive D where
 | non | bl (b:Bool) | int (i:Int) | str (x:Str) | ty (n:String) | tup (xs:List D) | fl (xs:List D) | ref (n:Nat)
inductive DO where
 | lst (xs:List D) | dic (kvs:List (D×D)) (fz:Bool) | dci (kvs:List (Int×D)) | dcn (kvs:List (D×D)) | obj (cn:Str) (fs:List (Str×D)) | exc (cn:Str) | clo (n:String) (x:Str) (d:D) | tab (n:String) (b:Bool)
nonrec abbrev HD:=List DO
nonrec abbrev SD:=List (Option D)
def FzL (K:Xb) (H:Hp) (a:Vg) (xs:List V):Prop :=
 (∃ o,H a=some (.frz o (.lst xs))) \/
  ∃ (o:Obj) (its:Array Vb) (n:Nat),K.lookup a=some o/\o.cls=.type "list" /\ o.dict=none/\o.data=.seq its n/\its.size<=sizeLine/\Za9 xs its.toList
theorem FzL.sq {K:Xb} {H:Hp} {a:Vg} {xs:List V} (h:FzL K H a xs):SqL K H a xs:=by
 rcases h with h | h
 ·exact .inl (.inr h)
 ·exact .inr h
nonrec def Zxp (n:String):Bool:=n == "bool" || n == "int" || n == "str" || n == "tuple" || n == "list"
mutual
noncomputable def Rep (K:Xb) (H:Hp) (ι:List Vg):D->V->Prop
 | .non,v=>v=.non
 | .bl b,v=>v=.bl b
 | .int i,v=>v=.int i
 | .str x,v=>v=.str x
 | .ty n,v=>(Zxp n=true/\v=.ty n)\/(Zxp n=false/\∃ a,v=.ref a/\Wdn K Vw (Ug n)=some (some (.ref a)))
 | .tup ds,v=>∃ a vs,v=.ref a/\SqT K H a vs/\Zit K H ι ds vs
 | .fl ds,v=>∃ a vs,v=.ref a/\FzL K H a vs/\Zit K H ι ds vs
 | .ref n,v=>∃ a,v=.ref a/\ι[n]? = some a
noncomputable def Zit (K:Xb) (H:Hp) (ι:List Vg):List D->List V->Prop
 | [],vs=>vs=[]
 | d::ds,vs=>∃ v r,vs=v::r/\Rep K H ι d v/\Zit K H ι ds r
end
section
variable {α β:Type} {F G:α->β->Prop}
theorem Prd.len:∀ {xs:List α} {us:List β},Vm F xs us->xs.length=us.length
 | _,_,.nil=>rfl
 | _,_,.cons _ t=>by simp[Prd.len t]
theorem Prd.get:∀ {xs:List α} {us:List β} {i:Nat} {x:α},Vm F xs us->xs[i]? = some x->∃ u,us[i]? = some u/\F x u
 | _,_,_,_,.nil,e=>by simp at e
 | _,_,0,_,.cons r _,e=>by simp at e; subst e; exact⟨_,rfl,r⟩
 | _,_,i+1,x,.cons _ t,e=>by
  obtain⟨u,h1,h2⟩:=Prd.get (i:=i) (x:=x) t (by simpa using e)
  exact⟨u,by simpa using h1,h2⟩
theorem Prd.append:∀ {xs ys:List α} {us ws:List β},Vm F xs us->Vm F ys ws->Vm F (xs++ys) (us++ws)
 | _,_,_,_,.nil,s=>s
 | _,_,_,_,.cons r t,s=>.cons r (Prd.append t s)
theorem Prd.take:∀ {xs:List α} {us:List β} (n:Nat),Vm F xs us->Vm F (xs.take n) (us.take n)
 | _,_,0,_=>.nil
 | _,_,_+1,.nil=>.nil
 | _,_,n+1,.cons r t=>.cons r (Prd.take n t)
theorem Prd.drop:∀ {xs:List α} {us:List β} (n:Nat),Vm F xs us->Vm F (xs.drop n) (us.drop n)
 | _,_,0,r=>r
 | _,_,_+1,.nil=>.nil
 | _,_,n+1,.cons _ t=>Prd.drop n t
theorem Prd.rep {xs:List α} {us:List β} (h:Vm F xs us):∀ k:Nat,Vm F (Xk k xs).flatten (Xk k us).flatten
 | 0=>.nil
 | k+1=>by
  rw[Wbd,Wbg,Wbd,Wbg]
  exact Prd.append h (Prd.rep h k)
theorem Prd.imp:∀ {xs:List α} {us:List β},Vm F xs us->(∀ a b,a∈xs->F a b->G a b)->Vm G xs us
 | _,_,.nil,_=>.nil
 | _,_,.cons r t,f=>.cons (f _ _ (by simp) r) (Prd.imp t fun a b h=>f a b (by simp[h]))
end
section
variable {K:Xb} {H H':Hp} {ι ι':List Vg}
theorem Zb6:∀ {ds:List D} {vs:List V},Zit K H ι ds vs ↔ Vm (Rep K H ι) ds vs
 | [],vs=>by
  constructor
  ·intro h; rw[Zit] at h; subst h; exact .nil
  ·intro h; cases h; rw[Zit]
 | d::ds,vs=>by
  constructor
  ·intro h; rw[Zit] at h
   obtain⟨v,r,rfl,h1,h2⟩:=h
   exact .cons h1 (Zb6.mp h2)
  ·intro h
   cases h with
   | cons h1 h2=>rw[Zit]; exact⟨_,_,rfl,h1,Zb6.mpr h2⟩
@[simp] theorem rep_non {v:V}:Rep K H ι .non v ↔ v=.non:=by rw[Rep]
@[simp] theorem rep_bl {b:Bool} {v:V}:Rep K H ι (.bl b) v ↔ v=.bl b:=by rw[Rep]
@[simp] theorem rep_int {i:Int} {v:V}:Rep K H ι (.int i) v ↔ v=.int i:=by rw[Rep]
@[simp] theorem rep_str {x:Str} {v:V}:Rep K H ι (.str x) v ↔ v=.str x:=by rw[Rep]
theorem Zr8 {n:String} {v:V} (h:Zxp n=true):Rep K H ι (.ty n) v ↔ v=.ty n:=by rw[Rep]; simp[h]
theorem Zan {ds:List D} {v:V}:Rep K H ι (.tup ds) v ↔ ∃ a vs,v=.ref a/\SqT K H a vs/\Vm (Rep K H ι) ds vs:=by
 rw[Rep]
 constructor
 ·rintro⟨a,vs,h1,h2,h3⟩; exact⟨a,vs,h1,h2,Zb6.mp h3⟩
 ·rintro⟨a,vs,h1,h2,h3⟩; exact⟨a,vs,h1,h2,Zb6.mpr h3⟩
theorem Zek {ds:List D} {v:V}:Rep K H ι (.fl ds) v ↔ ∃ a vs,v=.ref a/\FzL K H a vs/\Vm (Rep K H ι) ds vs:=by
 rw[Rep]
 constructor
 ·rintro⟨a,vs,h1,h2,h3⟩; exact⟨a,vs,h1,h2,Zb6.mp h3⟩
 ·rintro⟨a,vs,h1,h2,h3⟩; exact⟨a,vs,h1,h2,Zb6.mpr h3⟩
theorem Zao {n:Nat} {v:V}:Rep K H ι (.ref n) v ↔ ∃ a,v=.ref a/\ι[n]? = some a:=by rw[Rep]
structure Lw (K:Xb) (H:Hp) (ι:List Vg) (H':Hp) (ι':List Vg):Prop where
 tup:∀ a xs,SqT K H a xs->SqT K H' a xs
 fz:∀ a xs,FzL K H a xs->FzL K H' a xs
 pre:∃ t,ι'=ι++t
 fr:∀ a o u,H a=some (.frz o u)->H' a=some (.frz o u)
structure Le (K:Xb) (H:Hp) (ι:List Vg) (H':Hp) (ι':List Vg):Prop extends Lw K H ι H' ι' where
 frame:∀ a o,H a=some o->a∉ι->H' a=some o/\a∉ι'
theorem Le.refl:Le K H ι H ι:=⟨⟨fun _ _ h=>h,fun _ _ h=>h,⟨[],by simp⟩,fun _ _ _ h=>h⟩,fun _ _ h n=>⟨h,n⟩⟩
theorem Le.trans {H1 H2:Hp} {ι1 ι2:List Vg} (a:Le K H ι H1 ι1) (b:Le K H1 ι1 H2 ι2):Le K H ι H2 ι2:=by
 refine⟨⟨fun x xs h=>b.tup x xs (a.tup x xs h),fun x xs h=>b.fz x xs (a.fz x xs h),?_,fun x o u h=>b.fr x o u (a.fr x o u h)⟩,fun x o h n=>?_⟩
 ·obtain⟨t,e⟩:=a.pre
  obtain⟨u,e'⟩:=b.pre
  exact⟨t++u,by rw[e',e,Xv]⟩
 ·obtain⟨h1,n1⟩:=a.frame x o h n
  exact b.frame x o h1 n1
theorem Lw.get (l:Lw K H ι H' ι') {n:Nat} {a:Vg} (h:ι[n]? = some a):ι'[n]? = some a:=by
 obtain⟨t,e⟩:=l.pre
 rw[e,Xo (by exact(Xc.mp h).1),h]
mutual
theorem Rep.monoW (l:Lw K H ι H' ι'):∀ {d:D} {v:V},Rep K H ι d v->Rep K H' ι' d v
 | .non,v,h=>by rw[Rep] at h ⊢; exact h
 | .bl _,v,h=>by rw[Rep] at h ⊢; exact h
 | .int _,v,h=>by rw[Rep] at h ⊢; exact h
 | .str _,v,h=>by rw[Rep] at h ⊢; exact h
 | .ty _,v,h=>by rw[Rep] at h ⊢; exact h
 | .tup ds,v,h=>by
  rw[Rep] at h ⊢
  obtain⟨a,vs,h1,h2,h3⟩:=h
  exact⟨a,vs,h1,l.tup a vs h2,Zit.monoW l h3⟩
 | .fl ds,v,h=>by
  rw[Rep] at h ⊢
  obtain⟨a,vs,h1,h2,h3⟩:=h
  exact⟨a,vs,h1,l.fz a vs h2,Zit.monoW l h3⟩
 | .ref n,v,h=>by
  rw[Rep] at h ⊢
  obtain⟨a,h1,h2⟩:=h
  exact⟨a,h1,l.get h2⟩
theorem Zit.monoW (l:Lw K H ι H' ι'):∀ {ds:List D} {vs:List V},Zit K H ι ds vs->Zit K H' ι' ds vs
 | [],vs,h=>by rw[Zit] at h ⊢; exact h
 | d::ds,vs,h=>by
  rw[Zit] at h ⊢
  obtain⟨v,r,h1,h2,h3⟩:=h
  exact⟨v,r,h1,Rep.monoW l h2,Zit.monoW l h3⟩
end
theorem Rep.mono (l:Le K H ι H' ι') {d:D} {v:V} (h:Rep K H ι d v):Rep K H' ι' d v:=Rep.monoW l.toLw h
theorem Prd.monoW (l:Lw K H ι H' ι') {ds:List D} {vs:List V} (h:Vm (Rep K H ι) ds vs):Vm (Rep K H' ι') ds vs:=Zb6.mp (Zit.monoW l (Zb6.mpr h))
theorem Prd.mono (l:Le K H ι H' ι') {ds:List D} {vs:List V} (h:Vm (Rep K H ι) ds vs):Vm (Rep K H' ι') ds vs:=Prd.monoW l.toLw h
nonrec def Zv4:D->Option Int
 | .int i=>some i
 | .bl b=>some (if b then 1 else 0)
 | _=>none
nonrec def Zjb:List D->Option (List Int)
 | []=>some []
 | d::r=>(Zv4 d).bind fun k=>(Zjb r).map fun ks=>k::ks
nonrec def nk:D->Option (List Int)
 | .tup ds=>Zjb ds
 | _=>none
nonrec def Zxq (ks:List Int):Int:=reduceHash (Taj (ks.map Ued))
def Zb5 (a:Vg) (xs:List (List Int×Vg×Vb)) (h:Uab):Prop :=
 ∃ o es ep,h.get? a=some o/\o.ExactDict/\o.data=.dict es ep/\es.toList=xs.map (fun x=>(⟨Zxq x.1,.ref x.2.1,x.2.2⟩:Uav))/\(xs.map (·.1)).Nodup
theorem Zb5.keep {a:Vg} {xs:List (List Int×Vg×Vb)} {h1 h2:Uab} (d:Zb5 a xs h1) (k:∀ o,h1.get? a=some o->h2.get? a=some o):Zb5 a xs h2:=by
 obtain⟨o,es,ep,e,r⟩:=d
 exact⟨o,es,ep,k o e,r⟩
def Zmi (K:Xb) (H:Hp) (ι:List Vg) (p:D×D) (x:List Int×Vg×Vb):Prop:=nk p.1=some x.1/\Rep K H ι p.1 (.ref x.2.1)/\∃ v,Zbc v x.2.2/\Rep K H ι p.2 v
def Zgq (a:Vg) (xs:List (Int×Vb)) (h:Uab):Prop:=∀ (p:Vl) (w:Vt),h.DictOf (Zpq p w) a xs
theorem Zgq.keep {a:Vg} {xs:List (Int×Vb)} {h1 h2:Uab} (d:Zgq a xs h1) (k:∀ o,h1.get? a=some o->h2.get? a=some o):Zgq a xs h2:=fun p w=>by
 obtain⟨o,es,ep,e,r⟩:=d p w
 exact⟨o,es,ep,k o e,r⟩
def Zlv (K:Xb) (H:Hp) (ι:List Vg) (p:Int×D) (x:Int×Vb):Prop:=p.1=x.1/\∃ v,Zbc v x.2/\Rep K H ι p.2 v
nonrec def nk2:D->Option (Int×List Int)
 | .tup [a,b]=>(Zv4 a).bind fun i=>(nk b).map fun ks=>(i,ks)
 | _=>none
nonrec def Zrp (k:Int×List Int):Int:=reduceHash (Taj [Ued k.1,Zxq k.2])
def Zgo (a:Vg) (xs:List ((Int×List Int)×Vg×Vb)) (h:Uab):Prop :=
 ∃ o es ep,h.get? a=some o/\o.ExactDict/\o.data=.dict es ep/\es.toList=xs.map (fun x=>(⟨Zrp x.1,.ref x.2.1,x.2.2⟩:Uav))/\(xs.map (·.1)).Nodup
theorem Zgo.keep {a:Vg} {xs:List ((Int×List Int)×Vg×Vb)} {h1 h2:Uab} (d:Zgo a xs h1) (k:∀ o,h1.get? a=some o->h2.get? a=some o):Zgo a xs h2:=by
 obtain⟨o,es,ep,e,r⟩:=d
 exact⟨o,es,ep,k o e,r⟩
def Zpt (K:Xb) (H:Hp) (ι:List Vg) (p:D×D) (x:(Int×List Int)×Vg×Vb):Prop:=nk2 p.1=some x.1/\Rep K H ι p.1 (.ref x.2.1)/\∃ v,Zbc v x.2.2/\Rep K H ι p.2 v
def FRep (K:Xb) (H:Hp) (ι:List Vg) (p:Str×D) (x:Str×V):Prop:=p.1=x.1/\Rep K H ι p.2 x.2
def ExcAt (a C:Vg) (h:Uab):Prop:=∃ o,h.get? a=some o/\o.cls=.ref C
nonrec def fzO (a:Vg) (o:Obj):HO:=.frz o (.ext fun h=>h.get? a=some o)
nonrec def Zwk:Ubv->Pos
 | .FunctionDef _ _ _ _ _ _ _ _ _ p=>p
 | _=>default
nonrec def Zvp:Ubv->Str
 | .FunctionDef n _ _ _ _ _ _ _ _ _=>n
 | _=>default
def Zsn (K:Xb) (n:String) (st:Ubv):Prop:=∃ f0 o0 fd0 rest,Wdn K Vw (Ug n)=some (some (.ref f0))/\K.lookup f0=some o0/\o0.data=.func fd0/\fd0.body=.stmts (st::rest)
def Zmp (H:Hp) (c':Vg) (qual:Str):Prop:=∃ o vs t,H c'=some (fzO c' o)/\o.data=.fields vs/\vs[1]? = some (.str qual t)
def Zrm (K:Xb) (H:Hp) (n:String) (x:Str) (a:Vg) (w:V):Prop :=
 ∃ st nm qual doc pm ct c c' oc uc u,Zsn K n st/\H a=some (fzO a (PySem.W.fnMade nm qual (Zdp st) (Zcd st) (Zag st) [(x,c)] doc pm c' ct))/\Zmp H c' qual/\H c=some (.frz oc uc)/\oc.data=.cell (some u)/\Zbc w u
def TabAt (K:Xb) (H:Hp) (n:String) (a:Vg) (b:Bool):Prop :=
 ∃ st c ps,Zsn K n st/\PySem.W.tabIn K (Ug n)=some (c,a)/\H a=some (.tbl ps)/\TriplesOk ps.toList/\(b=false->codeAmong (Zwk st) ps.toList=none) /\
  (b=true->∃ c',codeAmong (Zwk st) ps.toList=some (.ref c')/\Zmp H c' (Ug n ++ ".<locals>." ++ Zvp st))
nonrec def Zl5 (K:Xb) (H:Hp) (ι:List Vg) (a:Vg):DO->Prop
 | .lst ds=>∃ vs,H a=some (.lst vs)/\Vm (Rep K H ι) ds vs
 | .dic kvs fz=>(a==Uai)=false/\kvs.length<=sizeLine/\∃ xs,(if fz=true then ∃ o,H a=some (.frz o (.ext (Zb5 a xs))) else H a=some (.ext (Zb5 a xs)))/\Vm (Zmi K H ι) kvs xs
 | .dci kvs=>(a==Uai)=false/\kvs.length<=sizeLine/\∃ xs,H a=some (.ext (Zgq a xs))/\Vm (Zlv K H ι) kvs xs
 | .dcn kvs=>(a==Uai)=false/\kvs.length<=sizeLine/\∃ xs,H a=some (.ext (Zgo a xs))/\Vm (Zpt K H ι) kvs xs
 | .obj cn fs=>∃ C dx xs,Wdn K Vw cn=some (some (.ref C))/\H a=some (.ins C dx xs)/\Vm (FRep K H ι) fs xs
 | .exc cn=>∃ C,Wdn K Vw cn=some (some (.ref C))/\H a=some (.ext (ExcAt a C))
 | .clo n x d=>∃ w,Zrm K H n x a w/\Rep K H ι d w
 | .tab n b=>TabAt K H n a b
structure HRep (K:Xb) (H:Hp) (ι:List Vg) (Hd:HD):Prop where
 len:ι.length=Hd.length
 nd:ι.Nodup
 obj:∀ (n:Nat) (a:Vg) (o:DO),ι[n]? = some a->Hd[n]? = some o->Zl5 K H ι a o
theorem Zl5.there {a:Vg} {o:DO} (h:Zl5 K H ι a o):H a≠none:=by
 cases o with
 | lst ds=>obtain⟨vs,e,_⟩:=h; rw[e]; simp
 | dic kv fz =>
  obtain⟨_,_,xs,e,_⟩:=h
  cases fz with
  | true=>rw[if_pos rfl] at e; obtain⟨ob,e⟩:=e; rw[e]; simp
  | false=>rw[if_neg (by simp)] at e; rw[e]; simp
 | dci kv=>obtain⟨_,_,xs,e,_⟩:=h; rw[e]; simp
 | dcn kv=>obtain⟨_,_,xs,e,_⟩:=h; rw[e]; simp
 | obj cn fs=>obtain⟨C,dx,xs,_,e,_⟩:=h; rw[e]; simp
 | exc cn=>obtain⟨C,_,e⟩:=h; rw[e]; simp
 | clo n x d=>obtain⟨w,⟨_,_,_,_,_,_,_,_,_,_,_,_,e,_⟩,_⟩:=h; rw[e]; simp
 | tab n b=>obtain⟨_,_,_,_,_,e,_⟩:=h; rw[e]; simp
theorem Zmp.step {c':Vg} {qual:Str} (h:Zmp H c' qual) (l:Lw K H ι H' ι'):Zmp H' c' qual:=by
 obtain⟨o,vs,t,e,r⟩:=h
 exact⟨o,vs,t,l.fr _ _ _ e,r⟩
theorem Zrm.step {n:String} {x:Str} {a:Vg} {w:V} (h:Zrm K H n x a w) (l:Lw K H ι H' ι'):Zrm K H' n x a w:=by
 obtain⟨st,nm,qual,doc,pm,ct,c,c',oc,uc,u,h1,h2,h3,h4,h5⟩:=h
 exact⟨st,nm,qual,doc,pm,ct,c,c',oc,uc,u,h1,l.fr _ _ _ h2,h3.step l,l.fr _ _ _ h4,h5⟩
theorem Zl5.step {a:Vg} {o:DO} (h:Zl5 K H ι a o) (l:Lw K H ι H' ι') (e:H' a=H a):Zl5 K H' ι' a o:=by
 cases o with
 | lst ds=>obtain⟨vs,q,r⟩:=h; exact⟨vs,by rw[e,q],Prd.monoW l r⟩
 | dic kv fz=>obtain⟨h1,h2,xs,q,r⟩:=h; exact⟨h1,h2,xs,by rw[e]; exact q,Prd.imp r fun p x _ z=>⟨z.1,Rep.monoW l z.2.1,let ⟨v,z1,z2⟩:=z.2.2; ⟨v,z1,Rep.monoW l z2⟩⟩⟩
 | dci kv=>obtain⟨h1,h2,xs,q,r⟩:=h; exact⟨h1,h2,xs,by rw[e]; exact q,Prd.imp r fun p x _ z=>⟨z.1,let ⟨v,z1,z2⟩:=z.2; ⟨v,z1,Rep.monoW l z2⟩⟩⟩
 | dcn kv=>obtain⟨h1,h2,xs,q,r⟩:=h; exact⟨h1,h2,xs,by rw[e]; exact q,Prd.imp r fun p x _ z=>⟨z.1,Rep.monoW l z.2.1,let ⟨v,z1,z2⟩:=z.2.2; ⟨v,z1,Rep.monoW l z2⟩⟩⟩
 | obj cn fs=>obtain⟨C,dx,xs,h1,q,r⟩:=h; exact⟨C,dx,xs,h1,by rw[e]; exact q,Prd.imp r fun p x _ z=>⟨z.1,Rep.monoW l z.2⟩⟩
 | exc cn=>obtain⟨C,h1,q⟩:=h; exact⟨C,h1,by rw[e]; exact q⟩
 | clo n x d=>obtain⟨w,h1,h2⟩:=h; exact⟨w,h1.step l,Rep.monoW l h2⟩
 | tab n b =>
  obtain⟨st,c,ps,h1,h2,h3,h4,h5,h6⟩:=h
  refine⟨st,c,ps,h1,h2,by rw[e]; exact h3,h4,h5,fun hb=>?_⟩
  obtain⟨c',h7,h8⟩:=h6 hb
  exact⟨c',h7,h8.step l⟩
theorem HRep.has {Hd:HD} (h:HRep K H ι Hd) {a:Vg} (hm:a∈ι):∃ (n:Nat) (o:DO),ι[n]? = some a/\Hd[n]? = some o/\Zl5 K H ι a o:=by
 obtain⟨n,hn⟩:=Wdo.mp hm
 have hl:n<Hd.length:=by rw[<- h.len]; exact(Xc.mp hn).1
 exact⟨n,Hd[n],hn,by simp[hl],h.obj n a Hd[n] hn (by simp[hl])⟩
theorem HRep.fresh {Hd:HD} (h:HRep K H ι Hd) {p:Vg} (hp:H p=none):p∉ι:=fun hm=>by
 obtain⟨_,_,_,_,o⟩:=h.has hm
 exact o.there hp
theorem HRep.keep {Hd:HD} (h:HRep K H ι Hd) (l:Lw K H ι H' ι) (e:∀ a∈ι,H' a=H a):HRep K H' ι Hd :=
 ⟨h.len,h.nd,fun n a o h1 h2=>(h.obj n a o h1 h2).step l (e a (War h1))⟩
theorem Lw.fresh {p:Vg} (hp:H p=none) (o:HO):Lw K H ι (upd H p o) ι where
 tup:=fun a xs h=>by
  rcases h with (h | ⟨ob,h⟩) | h
  ·exact .inl (.inl (by rw[Zaf (Zae h hp)]; exact h))
  ·exact .inl (.inr ⟨ob,by rw[Zaf (Zae h hp)]; exact h⟩)
  ·exact .inr h
 fz:=fun a xs h=>by
  rcases h with ⟨ob,h⟩ | h
  ·exact .inl ⟨ob,by rw[Zaf (Zae h hp)]; exact h⟩
  ·exact .inr h
 pre:=⟨[],by simp⟩
 fr:=fun a ob u h=>by rw[Zaf (Zae h hp)]; exact h
theorem Le.fresh {p:Vg} (hp:H p=none) (o:HO):Le K H ι (upd H p o) ι:=⟨Lw.fresh hp o,fun a ob h n=>⟨by rw[Zaf (Zae h hp)]; exact h,n⟩⟩
theorem Le.fresh1 {p:Vg} (hp:H p=none) (o:HO):Le K H ι (upd H p o) (ι++[p]) where
 tup:=(Le.fresh (ι:=ι) hp o).tup
 fz:=(Le.fresh (ι:=ι) hp o).fz
 pre:=⟨[p],rfl⟩
 fr:=(Le.fresh (K:=K) (ι:=ι) hp o).fr
 frame:=fun a ob h n=>⟨by rw[Zaf (Zae h hp)]; exact h,by
  have:=Zae h hp
  simp[n,this]⟩
theorem HRep.tup {Hd:HD} (h:HRep K H ι Hd) {p:Vg} (hp:H p=none) (o:HO):HRep K (upd H p o) ι Hd :=
 h.keep (Lw.fresh hp o) fun a ha=>Zaf fun z=>by subst z; exact h.fresh hp ha
theorem HRep.new {Hd:HD} (h:HRep K H ι Hd) {p:Vg} (hp:H p=none) {u:HO} {o:DO} (ho:Zl5 K (upd H p u) (ι++[p]) p o):HRep K (upd H p u) (ι++[p]) (Hd++[o]):=by
 have hf:=h.fresh hp
 refine⟨by simp[h.len],by simp only[Wcp,h.nd,true_and]; exact⟨by simp,fun a ha b hb e=>hf (by simp at hb; rw[<- hb,<- e]; exact ha)⟩,fun n a ob h1 h2=>?_⟩
 by_cases hn:n<ι.length
 ·rw[Xo hn] at h1
  rw[Xo (by rw[<- h.len]; exact hn)] at h2
  have ha:a∈ι:=War h1
  exact(h.obj n a ob h1 h2).step (Le.fresh1 hp u).toLw (Zaf fun z=>by subst z; exact hf ha)
 ·rw[Wag (by omega)] at h1
  rw[Wag (by rw[<- h.len]; omega)] at h2
  rw[<- h.len] at h2
  have:n - ι.length=0:=by
   have:=(Xc.mp h1).1
   simp at this; omega
  rw[this] at h1 h2
  simp at h1 h2
  subst h1; subst h2
  exact ho
nonrec def Zyd:HO->Prop
 | .lst _=>True
 | .ext _=>True
 | .ins _ _ _=>True
 | .tbl _=>True
 | _=>False
theorem Le.upd {a:Vg} (ha:a∈ι) {o:HO} (e:H a=some o) (lo:Zyd o) (u:HO):Le K H ι (upd H a u) ι where
 tup:=fun b xs h=>by
  rcases h with (h | ⟨ob,h⟩) | h
  ·refine .inl (.inl ?_)
   rw[Zaf (Zib h e (by rintro rfl; exact lo))]; exact h
  ·refine .inl (.inr ⟨ob,?_⟩)
   rw[Zaf (Zib h e (by rintro rfl; exact lo))]; exact h
  ·exact .inr h
 fz:=fun b xs h=>by
  rcases h with ⟨ob,h⟩ | h
  ·refine .inl ⟨ob,?_⟩
   rw[Zaf (Zib h e (by rintro rfl; exact lo))]; exact h
  ·exact .inr h
 pre:=⟨[],by simp⟩
 fr:=fun b ob w h=>by rw[Zaf (Zib h e (by rintro rfl; exact lo))]; exact h
 frame:=fun b ob h n=>⟨by rw[Zaf (by rintro rfl; exact n ha)]; exact h,n⟩
theorem HRep.upd {Hd:HD} (h:HRep K H ι Hd) {n:Nat} {a:Vg} (hn:ι[n]? = some a) {o u:HO} (e:H a=some o) (lo:Zyd o) {ob:DO} (ho:Zl5 K (upd H a u) ι a ob):HRep K (upd H a u) ι (Hd.set n ob):=by
 refine⟨by simp[h.len],h.nd,fun m b oc h1 h2=>?_⟩
 by_cases hm:n=m
 ·subst hm
  rw[hn] at h1; cases h1
  rw[Wft] at h2
  rw[if_pos rfl] at h2
  split at h2
  ·cases h2; exact ho
  ·cases h2
 ·rw[Wbe hm] at h2
  have hb:b≠a:=fun z=>by
   subst z
   have l1:=(Xc.mp hn).1
   exact hm ((List.getElem?_inj l1 h.nd).mp (hn.trans h1.symm))
  exact(h.obj m b oc h1 h2).step (Le.upd (War hn) e lo u).toLw (Zaf hb)
theorem HRep.add {Hd:HD} (h:HRep K H ι Hd) {p:Vg} (hp:p∉ι) {o:DO} (ho:Zl5 K H (ι++[p]) p o):HRep K H (ι++[p]) (Hd++[o]):=by
 refine⟨by simp[h.len],by simp only[Wcp,h.nd,true_and]; exact⟨by simp,fun a ha b hb e=>hp (by simp at hb; rw[<- hb,<- e]; exact ha)⟩,fun n a ob h1 h2=>?_⟩
 by_cases hn:n<ι.length
 ·rw[Xo hn] at h1
  rw[Xo (by rw[<- h.len]; exact hn)] at h2
  exact(h.obj n a ob h1 h2).step ⟨fun _ _ z=>z,fun _ _ z=>z,⟨[p],rfl⟩,fun _ _ _ z=>z⟩ rfl
 ·rw[Wag (by omega)] at h1
  rw[Wag (by rw[<- h.len]; omega)] at h2
  rw[<- h.len] at h2
  have:n - ι.length=0:=by
   have:=(Xc.mp h1).1
   simp at this; omega
  rw[this] at h1 h2
  simp at h1 h2
  subst h1; subst h2
  exact ho
theorem Lw.side {p:Vg} {ys:List V} (hp:H p=some (.lst ys)) (u:HO):Lw K H ι (L2.upd H p u) ι where
 tup:=fun a xs h=>by
  rcases h with (h | ⟨ob,h⟩) | h
  ·refine .inl (.inl ?_)
   rw[Zaf (Zib h hp (by intro z; cases z))]; exact h
  ·refine .inl (.inr ⟨ob,?_⟩)
   rw[Zaf (Zib h hp (by intro z; cases z))]; exact h
  ·exact .inr h
 fz:=fun a xs h=>by
  rcases h with ⟨ob,h⟩ | h
  ·refine .inl ⟨ob,?_⟩
   rw[Zaf (Zib h hp (by intro z; cases z))]; exact h
  ·exact .inr h
 pre:=⟨[],by simp⟩
 fr:=fun a ob w h=>by rw[Zaf (Zib h hp (by intro z; cases z))]; exact h
theorem Lw.trans {H1 H2:Hp} {ι1 ι2:List Vg} (a:Lw K H ι H1 ι1) (b:Lw K H1 ι1 H2 ι2):Lw K H ι H2 ι2:=by
 refine⟨fun x xs h=>b.tup x xs (a.tup x xs h),fun x xs h=>b.fz x xs (a.fz x xs h),?_,fun x o u h=>b.fr x o u (a.fr x o u h)⟩
 obtain⟨t,e⟩:=a.pre
 obtain⟨u,e'⟩:=b.pre
 exact⟨t++u,by rw[e',e,Xv]⟩
theorem Le.side {H1:Hp} {ι1:List Vg} {p:Vg} {ys:List V} (l:Le K H ι H1 ι1) (h0:H p=none) (h1:H1 p=some (.lst ys)) (u:HO):Le K H ι (L2.upd H1 p u) ι1 :=
 ⟨l.toLw.trans (Lw.side h1 u),fun a o h n=>by
  obtain⟨q,m⟩:=l.frame a o h n
  exact⟨by rw[Zaf (Zae h h0)]; exact q,m⟩⟩
structure SRep (K:Xb) (H:Hp) (ι:List Vg) (σ:L2.St) (σd:SD):Prop where
 len:σ.length=σd.length
 var:∀ (i:Nat) (d:D),σd[i]? = some (some d)->∃ v,σ[i]? = some (some v)/\Rep K H ι d v
theorem SRep.mono {σ:L2.St} {σd:SD} (s:SRep K H ι σ σd) (l:Le K H ι H' ι'):SRep K H' ι' σ σd :=
 ⟨s.len,fun i d h=>let ⟨v,h1,h2⟩:=s.var i d h; ⟨v,h1,h2.mono l⟩⟩
theorem SRep.set {σ:L2.St} {σd:SD} {d:D} {v:V} (s:SRep K H ι σ σd) (r:Rep K H ι d v) (i:Nat):SRep K H ι (σ.set i (some v)) (σd.set i (some d)):=by
 refine⟨by simp[s.len],fun j e h=>?_⟩
 by_cases hj:i=j
 ·subst hj
  rw[Wft] at h ⊢
  rw[if_pos rfl] at h ⊢
  split at h
  ·rename_i hl
   rw[if_pos (by rw[s.len]; exact hl)]
   cases h
   exact⟨v,rfl,r⟩
  ·cases h
 ·rw[Wbe hj] at h ⊢
  exact s.var j e h
end
nonrec def Zky:Uac->Bool
 | .Starred _ _=>false
 | _=>true
theorem Zbj {e:Uac} {es:List Uac} {env:Env} (h:Zky e=true):Vk (e::es) env=(false,eval e env)::Vk es env:=by
 cases e<;>first | rfl | cases h
theorem Zb7 {pos:Pos} {env:Env}:∀ {es:List Uac},es.all Zky=true->(Uau pos (Vk es env)).any (·.1)=false
 | [],_=>rfl
 | e::es,h=>by
  rw[List.all_cons,Wbc] at h
  rw[Zbj h.1]
  show (false||(Uau pos (Vk es env)).any (·.1))=false
  rw[Zb7 h.2]
  rfl
theorem Zk1 {pos:Pos} {env:Env} {es:List Uac} (h:es.all Zky=true) (hl:es.length<30):((Uau pos (Vk es env)).all (fun x => !x.1)&&(Udw pos (Ubz [] env)).all (fun x=>x.1.isSome)
   && decide (es.length+([]:List Uca).length+(if ([]:List Uca).isEmpty then 0 else 1)<30))=true:=by
 have h1:=Zb7 (pos:=pos) (env:=env) h
 have h2:(Uau pos (Vk es env)).all (fun x => !x.1)=true:=by
  rw[Wdq]
  intro x hx
  rw[List.any_eq_false] at h1
  have:=h1 x hx
  simpa using this
 have h3:decide (es.length+([]:List Uca).length+(if ([]:List Uca).isEmpty then 0 else 1)<30)=true:=by
  rw[decide_eq_true_eq]
  simpa using hl
 rw[h2,h3]
 rfl
nonrec abbrev EF:=SD->HD->Option (D×HD)
nonrec abbrev TF:=SD->HD->Option (Bool×HD)
nonrec abbrev AF:=SD->HD->Option (List D×HD)
inductive FD where
 | nx | bk | ct | rt (d:D)
nonrec abbrev SF:=SD->HD->Option (FD×SD×HD)
nonrec abbrev GF:=D->SD->HD->Option (SD×HD)
nonrec abbrev FF:=List D->HD->Option (D×HD)
nonrec abbrev F2:=D->D->HD->Option (D×HD)
def QE (K:Xb) (H:Hp) (ι:List Vg) (d:D) (Hd':HD) (Q:VK):Prop:=∀ v H' ι',Le K H ι H' ι'->HRep K H' ι' Hd'->Rep K H' ι' d v->Q v H'
nonrec def rdE (K:Xb) (f:EF):TE:=fun σ H Q=>∃ ι σd Hd d Hd',SRep K H ι σ σd/\HRep K H ι Hd/\f σd Hd=some (d,Hd')/\QE K H ι d Hd' Q
nonrec def rdT (K:Xb) (f:TF):TT:=fun σ H Q=>∃ ι σd Hd b Hd',SRep K H ι σ σd/\HRep K H ι Hd/\f σd Hd=some (b,Hd')/\∀ H' ι',Le K H ι H' ι'->HRep K H' ι' Hd'->Q b H'
nonrec def rdA (K:Xb) (f:AF):TA:=fun σ H Q=>∃ ι σd Hd ds Hd',SRep K H ι σ σd/\HRep K H ι Hd/\f σd Hd=some (ds,Hd')/\∀ vs H' ι',Le K H ι H' ι'->HRep K H' ι' Hd'->Vm (Rep K H' ι') ds vs->Q vs H'
def QS (K:Xb) (H:Hp) (ι:List Vg) (fl:FD) (σd':SD) (Hd':HD) (E:Ends):Prop:=∀ σ' H' ι',Le K H ι H' ι'->HRep K H' ι' Hd'->SRep K H' ι' σ' σd' ->
 match fl with
 | .nx=>E.nx σ' H'
 | .bk=>E.bk σ' H'
 | .ct=>E.ct σ' H'
 | .rt d=>∀ v,Rep K H' ι' d v->E.rt v H'
nonrec def rdS (K:Xb) (f:SF):TS:=fun E σ H=>∃ ι σd Hd fl σd' Hd',SRep K H ι σ σd/\HRep K H ι Hd/\f σd Hd=some (fl,σd',Hd')/\QS K H ι fl σd' Hd' E
nonrec def rdG (K:Xb) (g:GF):TG:=fun v σ H Q=>∃ ι σd Hd d σd' Hd',SRep K H ι σ σd/\HRep K H ι Hd/\Rep K H ι d v/\g d σd Hd=some (σd',Hd') /\
 ∀ σ' H' ι',Le K H ι H' ι'->HRep K H' ι' Hd'->SRep K H' ι' σ' σd'->Q σ' H'
nonrec def rd2 (K:Xb) (g:F2):R2:=fun x y H Q=>∃ ι dx dy Hd d Hd',HRep K H ι Hd/\Rep K H ι dx x/\Rep K H ι dy y/\g dx dy Hd=some (d,Hd')/\QE K H ι d Hd' Q
nonrec def rd1 (K:Xb) (g:D->HD->Option (D×HD)):V->Hp->VK->Prop:=fun x H Q=>∃ ι dx Hd d Hd',HRep K H ι Hd/\Rep K H ι dx x/\g dx Hd=some (d,Hd')/\QE K H ι d Hd' Q
nonrec def rdC (K:Xb) (g:FF):List V->Hp->VK->Prop:=fun vs H Q=>∃ ι ds Hd d Hd',HRep K H ι Hd/\Vm (Rep K H ι) ds vs/\g ds Hd=some (d,Hd')/\QE K H ι d Hd' Q
nonrec def rdM (K:Xb) (g:D->List D->HD->Option (D×HD)):V->List V->Hp->VK->Prop:=fun v vs H Q=>∃ ι x ds Hd d Hd',HRep K H ι Hd/\Rep K H ι x v/\Vm (Rep K H ι) ds vs/\g x ds Hd=some (d,Hd')/\QE K H ι d Hd' Q
def PEf (X:Cx) (e:Uac) (f:EF):Prop:=PE X e (rdE X.K f)
def PTf (X:Cx) (e:Uac) (f:TF):Prop:=PT X e (rdT X.K f)
def PWf (X:Cx) (e:Uac) (f:TF):Prop:=PW X e (rdT X.K f)
def PAf (X:Cx) (es:List Uac) (f:AF):Prop:=PA X es (rdA X.K f)
def PSf (X:Cx) (st:Ubv) (f:SF):Prop:=PS X st (rdS X.K f)
def Zqe (X:Cx) (st:List Ubv) (f:SF):Prop:=PSs X st (rdS X.K f)
def PGf (X:Cx) (tg:Uac) (g:GF):Prop:=PG X tg (rdG X.K g)
def OpF (X:Cx) (f:Vb->Vb->Sem Vb) (g:F2):Prop:=OpR X f (rd2 X.K g)
def UnF (X:Cx) (f:Vb->Sem Vb) (g:D->HD->Option (D×HD)):Prop:=UnR X f (rd1 X.K g)
def Zgn (X:Cx) (f:Vb) (g:FF):Prop:=Zhq X f (rdC X.K g)
def IxF (X:Cx) (g:F2):Prop:=IxR X (rd2 X.K g)
def MtF (X:Cx) (id:String) (g:D->List D->HD->Option (D×HD)):Prop:=MtR X id (rdM X.K g)
section
variable {X:Cx} {e a b c:Uac} {es:List Uac} {pos:Pos} {st:Ubv} {sts:List Ubv}
theorem PEi {t t':TE} (h:PE X e t) (i:∀ σ H Q,t' σ H Q->t σ H Q):PE X e t':=fun pins s σ H Q I q=>h pins s σ H Q I (i σ H Q q)
theorem PTi {t t':TT} (h:PT X e t) (i:∀ σ H Q,t' σ H Q->t σ H Q):PT X e t':=fun pins s σ H Q I q=>h pins s σ H Q I (i σ H Q q)
theorem PWi {t t':TT} (h:PW X e t) (i:∀ σ H Q,t' σ H Q->t σ H Q):PW X e t':=fun wh pins s σ H Q I q=>h wh pins s σ H Q I (i σ H Q q)
theorem PAi {t t':TA} (h:PA X es t) (i:∀ σ H Q,t' σ H Q->t σ H Q):PA X es t':=fun ps pins s σ H Q I q=>h ps pins s σ H Q I (i σ H Q q)
theorem PSi {t t':TS} (h:PS X st t) (i:∀ E σ H,t' E σ H->t E σ H):PS X st t':=fun pins s σ H E I q=>h pins s σ H E I (i E σ H q)
theorem PSsi {t t':TS} (h:PSs X sts t) (i:∀ E σ H,t' E σ H->t E σ H):PSs X sts t':=fun pins s σ H E I q=>h pins s σ H E I (i E σ H q)
theorem PGi {t t':TG} (h:PG X e t) (i:∀ v σ H Q,t' v σ H Q->t v σ H Q):PG X e t':=fun pins s σ H v u Q I r q=>h pins s σ H v u Q I r (i v σ H Q q)
theorem OpRi {f:Vb->Vb->Sem Vb} {t t':R2} (h:OpR X f t) (i:∀ x y H Q,t' x y H Q->t x y H Q):OpR X f t':=fun pins s σ H x y v u Q I r1 r2 q=>h pins s σ H x y v u Q I r1 r2 (i x y H Q q)
nonrec def Zac (i:Nat):EF:=fun σ H=>(σ[i]?).join.map fun d=>(d,H)
nonrec def eC (d:D):EF:=fun _ H=>some (d,H)
theorem Zaa {i:Nat} {x:Str} (h:PE X (.Name x pos) (tVar i)):PEf X (.Name x pos) (Zac i):=by
 refine PEi h fun σ H Q zz=>?_
 obtain⟨ι,σd,Hd,d,Hd',s,hr,e,q⟩:=zz
 unfold Zac at e
 cases hx:σd[i]? with
 | none=>rw[hx] at e; cases e
 | some o =>
  cases o with
  | none=>rw[hx] at e; cases e
  | some d0 =>
   rw[hx] at e
   have e':(d0,Hd)=(d,Hd'):=Waa.inj e
   obtain⟨rfl,rfl⟩:=Wbh.inj e'
   obtain⟨v,h1,h2⟩:=s.var i d0 hx
   exact⟨v,h1,q v H ι Le.refl hr h2⟩
theorem Zl0 {v:V} {d:D} (h:PE X e (tC v)) (r:∀ H ι,Rep X.K H ι d v):PEf X e (eC d):=by
 refine PEi h fun σ H Q zz=>?_
 obtain⟨ι,σd,Hd,d',Hd',s,hr,e,q⟩:=zz
 cases e
 exact q v H ι Le.refl hr (r H ι)
theorem Zad {i j}:PEf X (.Constant (.int i) j pos) (eC (.int i)):=Zl0 Zsg fun _ _=>by simp
theorem Zfy {b j}:PEf X (.Constant (.bool b) j pos) (eC (.bl b)):=Zl0 pe_bl fun _ _=>by simp
theorem Zhf {j}:PEf X (.Constant .none j pos) (eC .non):=Zl0 Zwd fun _ _=>by simp
theorem Zhj {x j}:PEf X (.Constant (.str x) j pos) (eC (.str x)):=Zl0 Zx9 fun _ _=>by simp
theorem Zkn {x:Str} {n:String} (hg:Gl X x) (hm:X.mg x=none) (hv:Vv x=some (.type n)) (hn:x ≠ "__name__" := by decide) (hd:(x==("__debug__" : Str))=false:=by decide) (ht:Zxp n=true:=by decide):PEf X (.Name x pos) (eC (.ty n)) :=
 Zl0 (Zun (v:=.ty n) hg hm hv rfl hn hd) fun _ _=>(Zr8 ht).mpr rfl
nonrec def eOp (g:F2) (fa fb:EF):EF:=fun σ H=>(fa σ H).bind fun p=>(fb σ p.2).bind fun q=>g p.1 q.1 q.2
theorem Zrs {fa fb:EF} {g:F2} {σ:L2.St} {H:Hp} {Q:VK} {K:Xb} (h:rdE K (eOp g fa fb) σ H Q):tOp (rd2 K g) (rdE K fa) (rdE K fb) σ H Q:=by
 obtain⟨ι,σd,Hd,d,Hd',s,hr,e,q⟩:=h
 obtain⟨⟨x,H1⟩,e1,e⟩:=Zo e
 obtain⟨⟨y,H2⟩,e2,e⟩:=Zo e
 exact⟨ι,σd,Hd,x,H1,s,hr,e1,fun v1 H1' ι1 l1 h1 r1=>⟨ι1,σd,H1,y,H2,s.mono l1,h1,e2,fun v2 H2' ι2 l2 h2 r2 =>
  ⟨ι2,x,y,H2,d,Hd',h2,r1.mono l2,r2,e,fun v H' ι' l h r=>q v H' ι' ((l1.trans l2).trans l) h r⟩⟩⟩
theorem Zak {op:Operator} {g:F2} {fa fb:EF} (ho:OpF X (Uaf op) g) (ha:PEf X a fa) (hb:PEf X b fb):PEf X (.BinOp a op b pos) (eOp g fa fb) :=
 PEi (pe_op ho ha hb) fun _ _ _ h=>Zrs h
theorem Zc3 {op:CmpOp} {g:F2} {fa fb:EF} (ho:OpF X (Uah op) g) (ha:PEf X a fa) (hb:PEf X b fb) (hm:Ubg op b=false):PEf X (.Compare a [op] [b] pos) (eOp g fa fb) :=
 PEi (Zt0 ho ha hb hm) fun _ _ _ h=>Zrs h
theorem Zbl {g:F2} {fa fb:EF} (ho:IxF X g) (ha:PEf X a fa) (hb:PEf X b fb) (hs:Zmz b):PEf X (.Subscript a b pos) (eOp g fa fb) :=
 PEi (pe_ix ho ha hb hs) fun _ _ _ h=>Zrs h
nonrec def eUn (g:D->HD->Option (D×HD)) (fa:EF):EF:=fun σ H=>(fa σ H).bind fun p=>g p.1 p.2
theorem Zna {op:UnaryOp} {g:D->HD->Option (D×HD)} {fa:EF} (ho:UnF X (unaryOp op) g) (ha:PEf X a fa):PEf X (.UnaryOp op a pos) (eUn g fa):=by
 refine PEi (pe_un ho ha) fun σ H Q zz=>?_
 obtain⟨ι,σd,Hd,d,Hd',s,hr,e,q⟩:=zz
 obtain⟨⟨x,H1⟩,e1,e⟩:=Zo e
 exact⟨ι,σd,Hd,x,H1,s,hr,e1,fun v1 H1' ι1 l1 h1 r1=>⟨ι1,x,H1,d,Hd',h1,r1,e,fun v H' ι' l h r=>q v H' ι' (l1.trans l) h r⟩⟩
nonrec def blD:D->Option Bool
 | .bl b=>some b
 | _=>none
nonrec def tOf (f:EF):TF:=fun σ H=>(f σ H).bind fun p=>(blD p.1).map fun b=>(b,p.2)
theorem Zpm {K:Xb} {H:Hp} {ι:List Vg} {d:D} {b:Bool} {v:V} (e:blD d=some b) (r:Rep K H ι d v):v=.bl b:=by
 cases d<;>simp[blD] at e
 subst e
 simpa using r
theorem Zau {op:CmpOp} {g:F2} {fa fb:EF} (ho:OpF X (Uah op) g) (ha:PEf X a fa) (hb:PEf X b fb) (hm:Ubg op b=false):PTf X (.Compare a [op] [b] pos) (tOf (eOp g fa fb)):=by
 refine PTi (Zt7 ho ha hb hm) fun σ H Q zz=>?_
 obtain⟨ι,σd,Hd,bb,Hd',s,hr,e,q⟩:=zz
 obtain⟨⟨x,H1⟩,e1,e⟩:=Zo e
 obtain⟨b',eb,e⟩:=Zm e
 cases e
 exact Zrs ⟨ι,σd,Hd,x,H1,s,hr,e1,fun v H' ι' l h r=>⟨bb,Zpm eb r,q H' ι' l h⟩⟩
nonrec def Zpv:D->HD->Option Bool
 | .non,_=>some false
 | .bl b,_=>some b
 | .int i,_=>some (i != 0)
 | .tup xs,_=>some (!xs.isEmpty)
 | .fl xs,_=>some (!xs.isEmpty)
 | .str x,_=>if x.length<=sizeLine then some ((x.length:Int) != 0) else none
 | .ref n,H=>match H[n]? with
  | some (.lst xs)=>some (!xs.isEmpty)
  | _=>none
 | _,_=>none
theorem Zfn {α β:Type} {F:α->β->Prop} {xs:List α} {us:List β} (r:Vm F xs us):(!us.isEmpty) = !xs.isEmpty:=by cases r<;>rfl
theorem Zva {K:Xb} {H:Hp} {ι:List Vg} {Hd:HD} {d:D} {k:Bool} {v:V} (hr:HRep K H ι Hd) (r:Rep K H ι d v) (e:Zpv d Hd=some k):TruV K v H k:=by
 cases d with
 | non=>simp at r; subst r; simp[Zpv] at e; subst e; exact rfl
 | bl b=>simp at r; subst r; simp[Zpv] at e; subst e; exact rfl
 | int i=>simp at r; subst r; simp[Zpv] at e; subst e; exact rfl
 | ty n=>simp[Zpv] at e
 | str x =>
  simp at r; subst r
  simp only[Zpv] at e
  split at e
  ·rename_i hl
   cases e
   exact⟨hl,rfl⟩
  ·cases e
 | tup xs =>
  obtain⟨ad,vs,rfl,h,p⟩:=Zan.mp r
  cases (show some (!xs.isEmpty)=some k from e)
  exact .inr (.inl ⟨vs,h,by rw[Zfn p]⟩)
 | fl xs =>
  obtain⟨ad,vs,rfl,h,p⟩:=Zek.mp r
  cases (show some (!xs.isEmpty)=some k from e)
  exact .inl ⟨vs,h.sq,by rw[Zfn p]⟩
 | ref n =>
  obtain⟨ad,rfl,h⟩:=Zao.mp r
  simp only[Zpv] at e
  split at e
  ·rename_i xs ho
   cases e
   obtain⟨vs,h1,p⟩:=hr.obj n ad _ h ho
   exact .inl ⟨vs,SqL.of h1,by rw[Zfn p]⟩
  ·cases e
nonrec def Zpr (f:EF):TF:=fun σ H=>(f σ H).bind fun p=>(Zpv p.1 p.2).map fun b=>(b,p.2)
theorem Zih {fa:EF} (ha:PEf X a fa) (he:∀ whole,isTrue a X.env whole=(do let v<-whole; standAt a.pos; Udp [v] (truthy v))):PTf X a (Zpr fa):=by
 refine PTi (Zqb ha he) fun σ H Q zz=>?_
 obtain⟨ι,σd,Hd,bb,Hd',s,hr,e,q⟩:=zz
 obtain⟨⟨x,H1⟩,e1,e⟩:=Zo e
 obtain⟨b',eb,e⟩:=Zm e
 cases e
 exact⟨ι,σd,Hd,x,H1,s,hr,e1,fun v H' ι' l h r=>⟨bb,Zva h r eb,q H' ι' l h⟩⟩
nonrec def tNo (t:TF):TF:=fun σ H=>(t σ H).map fun p=>(!p.1,p.2)
nonrec def tAn (t u:TF):TF:=fun σ H=>(t σ H).bind fun p=>if p.1=true then u σ p.2 else some (false,p.2)
nonrec def Zmj (t u:TF):TF:=fun σ H=>(t σ H).bind fun p=>if p.1=true then some (true,p.2) else u σ p.2
theorem Ztn {t:TF} (h:PTf X a t):PTf X (.UnaryOp .Not a pos) (tNo t):=by
 refine PTi (Zx1 h) fun σ H Q zz=>?_
 obtain⟨ι,σd,Hd,bb,Hd',s,hr,e,q⟩:=zz
 obtain⟨⟨x,H1⟩,e1,e⟩:=Zm e
 cases e
 exact⟨ι,σd,Hd,x,H1,s,hr,e1,fun H' ι' l h=>q H' ι' l h⟩
theorem Zqy {t:TF} (h:PTf X a t):PWf X (.BoolOp .And [a] pos) t:=Zs4 h
theorem Zuk {t:TF} (h:PTf X a t):PWf X (.BoolOp .Or [a] pos) t:=Zw6 h
theorem Zuy {t u:TF} (h:PTf X a t) (h2:PWf X (.BoolOp .And (b::es) pos) u):PWf X (.BoolOp .And (a::b::es) pos) (tAn t u):=by
 refine PWi (Zw3 h h2) fun σ H Q zz=>?_
 obtain⟨ι,σd,Hd,bb,Hd',s,hr,e,q⟩:=zz
 obtain⟨⟨x,H1⟩,e1,e⟩:=Zo e
 refine⟨ι,σd,Hd,x,H1,s,hr,e1,fun H' ι' l h=>?_⟩
 cases x with
 | true =>
  rw[if_pos rfl]
  exact⟨ι',σd,H1,bb,Hd',s.mono l,h,by simpa using e,fun H2 ι2 l2 h2=>q H2 ι2 (l.trans l2) h2⟩
 | false =>
  rw[if_neg (by simp)]
  simp at e
  obtain⟨rfl,rfl⟩:=e
  exact q H' ι' l h
theorem Zyb {t u:TF} (h:PTf X a t) (h2:PWf X (.BoolOp .Or (b::es) pos) u):PWf X (.BoolOp .Or (a::b::es) pos) (Zmj t u):=by
 refine PWi (pw_or h h2) fun σ H Q zz=>?_
 obtain⟨ι,σd,Hd,bb,Hd',s,hr,e,q⟩:=zz
 obtain⟨⟨x,H1⟩,e1,e⟩:=Zo e
 refine⟨ι,σd,Hd,x,H1,s,hr,e1,fun H' ι' l h=>?_⟩
 cases x with
 | true =>
  rw[if_pos rfl]
  simp at e
  obtain⟨rfl,rfl⟩:=e
  exact q H' ι' l h
 | false =>
  rw[if_neg (by simp)]
  exact⟨ι',σd,H1,bb,Hd',s.mono l,h,by simpa using e,fun H2 ι2 l2 h2=>q H2 ι2 (l.trans l2) h2⟩
theorem PWf.pt {t:TF} (h:PWf X a t):PTf X a t:=h _
nonrec def eAn (f g:EF):EF:=fun σ H=>(f σ H).bind fun p=>(blD p.1).bind fun b=>if b=true then g σ p.2 else some (.bl false,p.2)
nonrec def eIf (t:TF) (f g:EF):EF:=fun σ H=>(t σ H).bind fun p=>if p.1=true then f σ p.2 else g σ p.2
theorem Zuv {op} {f:EF} (h:PEf X a f):PEf X (.BoolOp op [a] pos) f:=Zwq h
theorem Zto {f g:EF} (h:PEf X a f) (h2:PEf X (.BoolOp .And (b::es) pos) g):PEf X (.BoolOp .And (a::b::es) pos) (eAn f g):=by
 refine PEi (Zw8 h h2) fun σ H Q zz=>?_
 obtain⟨ι,σd,Hd,d,Hd',s,hr,e,q⟩:=zz
 obtain⟨⟨x,H1⟩,e1,e⟩:=Zo e
 obtain⟨b',eb,e⟩:=Zo e
 refine⟨ι,σd,Hd,x,H1,s,hr,e1,fun v H' ι' l h r=>⟨b',Zpm eb r,?_⟩⟩
 cases b' with
 | true =>
  rw[if_pos rfl]
  exact⟨ι',σd,H1,d,Hd',s.mono l,h,by simpa using e,fun v2 H2 ι2 l2 h2 r2=>q v2 H2 ι2 (l.trans l2) h2 r2⟩
 | false =>
  rw[if_neg (by simp)]
  simp at e
  obtain⟨rfl,rfl⟩:=e
  exact q _ H' ι' l h (by simp)
theorem Zx3 {t:TF} {f g:EF} (hc:PTf X c t) (ha:PEf X a f) (hb:PEf X b g):PEf X (.IfExp c a b pos) (eIf t f g):=by
 refine PEi (Zp2 hc ha hb) fun σ H Q zz=>?_
 obtain⟨ι,σd,Hd,d,Hd',s,hr,e,q⟩:=zz
 obtain⟨⟨x,H1⟩,e1,e⟩:=Zo e
 refine⟨ι,σd,Hd,x,H1,s,hr,e1,fun H' ι' l h=>?_⟩
 cases x with
 | true =>
  rw[if_pos rfl]
  exact⟨ι',σd,H1,d,Hd',s.mono l,h,by simpa using e,fun v2 H2 ι2 l2 h2 r2=>q v2 H2 ι2 (l.trans l2) h2 r2⟩
 | false =>
  rw[if_neg (by simp)]
  exact⟨ι',σd,H1,d,Hd',s.mono l,h,by simpa using e,fun v2 H2 ι2 l2 h2 r2=>q v2 H2 ι2 (l.trans l2) h2 r2⟩
nonrec def Zah:AF:=fun _ H=>some ([],H)
nonrec def Zab (f:EF) (g:AF):AF:=fun σ H=>(f σ H).bind fun p=>(g σ p.2).map fun q=>(p.1::q.1,q.2)
theorem Zjq:PAf X [] Zah:=by
 refine PAi Zvx fun σ H Q zz=>?_
 obtain⟨ι,σd,Hd,d,Hd',s,hr,e,q⟩:=zz
 cases e
 exact q [] H ι Le.refl hr .nil
theorem Zq3 {f:EF} {g:AF} (ha:PEf X e f) (hr:PAf X es g) (hs:Vk (e::es) X.env=(false,eval e X.env)::Vk es X.env:=by exact Zbj rfl):PAf X (e::es) (Zab f g):=by
 refine PAi (Ztr ha hr hs) fun σ H Q zz=>?_
 obtain⟨ι,σd,Hd,d,Hd',s,hr,e,q⟩:=zz
 obtain⟨⟨x,H1⟩,e1,e⟩:=Zo e
 obtain⟨⟨y,H2⟩,e2,e⟩:=Zm e
 cases e
 exact⟨ι,σd,Hd,x,H1,s,hr,e1,fun v1 H1' ι1 l1 h1 r1=>⟨ι1,σd,H1,y,H2,s.mono l1,h1,e2,fun vs H2' ι2 l2 h2 r2=>q _ H2' ι2 (l1.trans l2) h2 (.cons (r1.mono l2) r2)⟩⟩
nonrec def mkT (xs:List D) (H:HD):Option (D×HD):=if xs.length<=sizeLine then some (.tup xs,H) else none
nonrec def mkL (xs:List D) (H:HD):Option (D×HD):=if xs.length<=sizeLine then some (.ref H.length,H++[.lst xs]) else none
theorem Zfe {xs:List D} {H:HD} {r:D×HD} (h:mkT xs H=some r):xs.length<=sizeLine/\r=(.tup xs,H):=by
 unfold mkT at h
 split at h
 ·rename_i hl; cases h; exact⟨hl,rfl⟩
 ·cases h
theorem Zht {xs:List D} {H:HD} {r:D×HD} (h:mkL xs H=some r):xs.length<=sizeLine/\r=(.ref H.length,H++[.lst xs]):=by
 unfold mkL at h
 split at h
 ·rename_i hl; cases h; exact⟨hl,rfl⟩
 ·cases h
theorem Zfu {K:Xb} {H:Hp} {ι:List Vg} {Hd Hd':HD} {xs:List D} {vs:List V} {d:D} {Q:VK} (hr:HRep K H ι Hd) (r:Vm (Rep K H ι) xs vs) (e:mkT xs Hd=some (d,Hd')) (q:QE K H ι d Hd' Q) :
  vs.length<=sizeLine/\∀ p,H p=none->Q (.ref p) (upd H p (.tup vs)):=by
 obtain⟨hl,e⟩:=Zfe e
 cases e
 refine⟨by rw[<- Prd.len r]; exact hl,fun p hp=>?_⟩
 exact q _ _ ι (Le.fresh hp _) (hr.tup hp _) (Zan.mpr ⟨p,vs,rfl,SqT.of Zas,Prd.mono (Le.fresh hp _) r⟩)
theorem Zgc {K:Xb} {H:Hp} {ι:List Vg} {Hd Hd':HD} {xs:List D} {vs:List V} {d:D} {Q:VK} (hr:HRep K H ι Hd) (r:Vm (Rep K H ι) xs vs) (e:mkL xs Hd=some (d,Hd')) (q:QE K H ι d Hd' Q) :
  vs.length<=sizeLine/\∀ p,H p=none->Q (.ref p) (upd H p (.lst vs)):=by
 obtain⟨hl,e⟩:=Zht e
 cases e
 refine⟨by rw[<- Prd.len r]; exact hl,fun p hp=>?_⟩
 refine q _ _ (ι++[p]) (Le.fresh1 hp _) (hr.new hp ⟨vs,Zas,Prd.mono (Le.fresh1 hp _) r⟩) (Zao.mpr ⟨p,rfl,?_⟩)
 rw[<- hr.len]; simp
nonrec def Zca (f:AF):EF:=fun σ H=>(f σ H).bind fun p=>mkT p.1 p.2
nonrec def Zel (f:AF):EF:=fun σ H=>(f σ H).bind fun p=>mkL p.1 p.2
theorem Zo2 {f:AF} {x1} (h:PAf X es f):PEf X (.Tuple es x1 pos) (Zca f):=by
 refine PEi (Zw5 h) fun σ H Q zz=>?_
 obtain⟨ι,σd,Hd,d,Hd',s,hr,e,q⟩:=zz
 obtain⟨⟨x,H1⟩,e1,e⟩:=Zo e
 exact⟨ι,σd,Hd,x,H1,s,hr,e1,fun vs H' ι' l h r=>Zfu h r e fun v2 H2 ι2 l2 h2 r2=>q v2 H2 ι2 (l.trans l2) h2 r2⟩
theorem Zno {f:AF} (h:PAf X es f):PEf X (.List es pos) (Zel f):=by
 refine PEi (Zwo h) fun σ H Q zz=>?_
 obtain⟨ι,σd,Hd,d,Hd',s,hr,e,q⟩:=zz
 obtain⟨⟨x,H1⟩,e1,e⟩:=Zo e
 exact⟨ι,σd,Hd,x,H1,s,hr,e1,fun vs H' ι' l h r=>Zgc h r e fun v2 H2 ι2 l2 h2 r2=>q v2 H2 ι2 (l.trans l2) h2 r2⟩
nonrec def eCB (g:FF) (f:AF):EF:=fun σ H=>(f σ H).bind fun p=>g p.1 p.2
theorem Zv6 {f:AF} {g:FF} {σ:L2.St} {H:Hp} {Q:VK} {K:Xb} (h:rdE K (eCB g f) σ H Q):tCB (rdC K g) (rdA K f) σ H Q:=by
 obtain⟨ι,σd,Hd,d,Hd',s,hr,e,q⟩:=h
 obtain⟨⟨x,H1⟩,e1,e⟩:=Zo e
 exact⟨ι,σd,Hd,x,H1,s,hr,e1,fun vs H' ι' l h r=>⟨ι',x,H1,d,Hd',h,r,e,fun v2 H2 ι2 l2 h2 r2=>q v2 H2 ι2 (l.trans l2) h2 r2⟩⟩
theorem Zch {x:Str} {id:String} {g:FF} {f:AF} {p:Pos} (hc:Zgn X (.builtin id) g) (hg:Gl X x) (hm:X.mg x=none) (hv:Vv x=some (.builtin id)) (ha:PAf X (e::es) f) (hn:x ≠ "__name__" := by decide) (hdb:(x==("__debug__" : Str))=false:=by decide)
  (he:Vk (e::es) X.env=(false,eval e X.env)::Vk es X.env:=by exact Zbj rfl) (hpl:(Uau pos (Vk es X.env)).any (·.1)=false:=by exact Zb7 rfl):PEf X (.Call (.Name x p) (e::es) [] pos) (eCB g f) :=
 PEi (Zre hc hg hm hv ha hn hdb he hpl) fun _ _ _ h=>Zv6 h
theorem Zdf {x:Str} {T:String} {g:FF} {f:AF} {p:Pos} (hc:Zgn X (.type T) g) (hg:Gl X x) (hm:X.mg x=none) (hv:Vv x=some (.type T)) (ha:PAf X (e::es) f) (hn:x ≠ "__name__" := by decide) (hdb:(x==("__debug__" : Str))=false:=by decide)
  (he:Vk (e::es) X.env=(false,eval e X.env)::Vk es X.env:=by exact Zbj rfl) (hpl:(Uau pos (Vk es X.env)).any (·.1)=false:=by exact Zb7 rfl):PEf X (.Call (.Name x p) (e::es) [] pos) (eCB g f) :=
 PEi (Zns hc hg hm hv ha hn hdb he hpl) fun _ _ _ h=>Zv6 h
nonrec def spF (K:Xb) (n:Nat) (F:FF):Sp:=fun vs H Q _=>∃ ι ds Hd d Hd',ds.length=n/\HRep K H ι Hd/\Vm (Rep K H ι) ds vs/\F ds Hd=some (d,Hd')/\QE K H ι d Hd' Q
nonrec def Zax (n:Nat) (F:FF) (f:AF):EF:=fun σ H=>(f σ H).bind fun p=>if p.1.length=n then F p.1 p.2 else none
theorem Zp7 {k n:Nat} {f:Vg} {fd:Ubh} {ps:List Str} {x:Str} {p:Pos} {F:FF} {fa:AF} (G:FnOk X.prog X.w X.K X.mg X.base CX0 k f fd ps (spF X.K n F)) (hr:Room k X.A) (hg:Gl X x) (hm:X.mg x=some (.ref f)) (hk:Wcv X.K (.ref f)=true)
  (hb:Zjz X.K fd ps []) (ha:PAf X (e::es) fa) (hdb:(x==("__debug__" : Str))=false:=by decide) (he:Vk (e::es) X.env=(false,eval e X.env)::Vk es X.env:=by exact Zbj rfl) (hpl:(Uau pos (Vk es X.env)).any (·.1)=false:=by exact Zb7 rfl) :
  PEf X (.Call (.Name x p) (e::es) [] pos) (Zax n F fa):=by
 refine PEi (Zug (E:=E0) G hr hg hm hk hb .nil pass0 ha hdb he hpl) fun σ H Q zz=>?_
 obtain⟨ι,σd,Hd,d,Hd',s,hr,e,q⟩:=zz
 obtain⟨⟨x,H1⟩,e1,e⟩:=Zo e
 refine⟨ι,σd,Hd,x,H1,s,hr,e1,fun vs H' ι' l h r=>?_⟩
 dsimp only at e
 split at e
 ·rename_i hl
  exact⟨ι',x,H1,d,Hd',hl,h,by simpa using r,e,fun v2 H2 ι2 l2 h2 r2=>q v2 H2 ι2 (l.trans l2) h2 r2⟩
 ·cases e
nonrec def Ze7:D->HD->Bool
 | .ref n,H=>match H[n]? with
  | some (.lst _)=>true
  | _=>false
 | _,_=>false
theorem Zqm {K:Xb} {H:Hp} {ι:List Vg} {Hd:HD} {d:D} {v:V} (hr:HRep K H ι Hd) (r:Rep K H ι d v) (e:Ze7 d Hd=true):tyV K "list" v H:=by
 cases d with
 | ref n =>
  obtain⟨ad,rfl,h⟩:=Zao.mp r
  simp only[Ze7] at e
  split at e
  ·rename_i xs ho
   obtain⟨vs,h1,p⟩:=hr.obj n ad _ h ho
   exact .inl ⟨rfl,vs,SqL.of h1⟩
  ·cases e
 | _=>simp[Ze7] at e
nonrec def eLM (g:D->List D->HD->Option (D×HD)) (fo:EF) (f:AF):EF:=fun σ H=>(fo σ H).bind fun o=>if Ze7 o.1 o.2=true then (f σ o.2).bind fun p=>g o.1 p.1 p.2 else none
theorem Zft {o:Uac} {name:Str} {apos cpos:Pos} {id:String} {g:D->List D->HD->Option (D×HD)} {fo:EF} {f:AF} (slot:Slot "list" name id) (hty:typeOf (.builtin id)=pure (.type "method_descriptor")) (hm:MtF X id g) (ho:PEf X o fo) (ha:PAf X (e::es) f)
  (hbase:Ucm o name X.env (eval o X.env)=eval o X.env:=by rfl)
  (hfew:((Uau cpos (Vk (e::es) X.env)).all (fun x => !x.1)&&(Udw cpos (Ubz [] X.env)).all (fun x=>x.1.isSome)
   && decide ((e::es).length+([]:List Uca).length+(if ([]:List Uca).isEmpty then 0 else 1)<30))=true:=by exact Zk1 rfl (by decide))
  (hline:(apos.endLine==cpos.line)=true:=by rfl) (hs:Vk (e::es) X.env=(false,eval e X.env)::Vk es X.env:=by exact Zbj rfl) (hplain:(Uau cpos (Vk es X.env)).any (·.1)=false:=by exact Zb7 rfl) :
  PEf X (.Call (.Attribute o name apos) (e::es) [] cpos) (eLM g fo f):=by
 refine PEi (pe_bm PySem.F.plainAttrs_list slot hty hm ho ha hbase hfew hline hs hplain) fun σ H Q zz=>?_
 obtain⟨ι,σd,Hd,d,Hd',s,hr,e,q⟩:=zz
 obtain⟨⟨x,H1⟩,e1,e⟩:=Zo e
 dsimp only at e
 split at e
 ·rename_i hl
  obtain⟨⟨y,H2⟩,e2,e⟩:=Zo e
  exact⟨ι,σd,Hd,x,H1,s,hr,e1,fun v1 H1' ι1 l1 h1 r1=>⟨Zqm h1 r1 hl,ι1,σd,H1,y,H2,s.mono l1,h1,e2,fun vs H2' ι2 l2 h2 r2 =>
   ⟨ι2,x,y,H2,d,Hd',h2,r1.mono l2,r2,e,fun v H' ι' l h r=>q v H' ι' ((l1.trans l2).trans l) h r⟩⟩⟩
 ·cases e
nonrec def Zaq:SF:=fun σ H=>some (.nx,σ,H)
nonrec def Zai (f g:SF):SF:=fun σ H=>(f σ H).bind fun r=>match r.1 with
 | .nx=>g r.2.1 r.2.2
 | _=>some r
theorem Zld:Zqe X [] Zaq:=by
 refine PSsi Zt8 fun E σ H zz=>?_
 obtain⟨ι,σd,Hd,fl,σd',Hd',s,hr,e,q⟩:=zz
 cases e
 exact q σ H ι Le.refl hr s
theorem Zje {f g:SF} (h1:PSf X st f) (h2:Zqe X sts g):Zqe X (st::sts) (Zai f g):=by
 refine PSsi (Zrk h1 h2) fun E σ H zz=>?_
 obtain⟨ι,σd,Hd,fl,σd',Hd',s,hr,e,q⟩:=zz
 obtain⟨⟨f1,σ1,H1⟩,e1,e⟩:=Zo e
 refine⟨ι,σd,Hd,f1,σ1,H1,s,hr,e1,fun σ' H' ι' l h ss=>?_⟩
 cases f1 with
 | nx=>exact⟨ι',σ1,H1,fl,σd',Hd',ss,h,e,fun σ2 H2 ι2 l2 h2 s2=>q σ2 H2 ι2 (l.trans l2) h2 s2⟩
 | bk=>cases e; exact q σ' H' ι' l h ss
 | ct=>cases e; exact q σ' H' ι' l h ss
 | rt d=>cases e; exact q σ' H' ι' l h ss
nonrec def Zc0 (f:EF):SF:=fun σ H=>(f σ H).map fun p=>(.rt p.1,σ,p.2)
theorem Zcw {f:EF} (he:PEf X e f):PSf X (.Return (some e) pos) (Zc0 f):=by
 refine PSi (Zwf he) fun E σ H zz=>?_
 obtain⟨ι,σd,Hd,fl,σd',Hd',s,hr,e,q⟩:=zz
 obtain⟨⟨x,H1⟩,e1,e⟩:=Zm e
 cases e
 exact⟨ι,σd,Hd,x,H1,s,hr,e1,fun v H' ι' l h r=>q σ H' ι' l h (s.mono l) v r⟩
nonrec def Zcy (f:EF):SF:=fun σ H=>(f σ H).map fun p=>(.nx,σ,p.2)
theorem Zrh {f:EF} (he:PEf X e f) (hs:Ucz e none pos.line X.env=pure false:=by rfl):PSf X (.Expr e pos) (Zcy f):=by
 refine PSi (Ztx he hs) fun E σ H zz=>?_
 obtain⟨ι,σd,Hd,fl,σd',Hd',s,hr,e,q⟩:=zz
 obtain⟨⟨x,H1⟩,e1,e⟩:=Zm e
 cases e
 exact⟨ι,σd,Hd,x,H1,s,hr,e1,fun v H' ι' l h r=>q σ H' ι' l h (s.mono l)⟩
nonrec def sIf (t:TF) (f g:SF):SF:=fun σ H=>(t σ H).bind fun p=>if p.1=true then f σ p.2 else g σ p.2
theorem Zk2 {t:TF} {f g:SF} {as bs:List Ubv} (hc:PTf X c t) (ha:Zqe X as f) (hb:Zqe X bs g):PSf X (.If c as bs pos) (sIf t f g):=by
 refine PSi (ps_if hc ha hb) fun E σ H zz=>?_
 obtain⟨ι,σd,Hd,fl,σd',Hd',s,hr,e,q⟩:=zz
 obtain⟨⟨x,H1⟩,e1,e⟩:=Zo e
 refine⟨ι,σd,Hd,x,H1,s,hr,e1,fun H' ι' l h=>?_⟩
 cases x with
 | true =>
  rw[if_pos rfl]
  exact⟨ι',σd,H1,fl,σd',Hd',s.mono l,h,by simpa using e,fun σ2 H2 ι2 l2 h2 s2=>q σ2 H2 ι2 (l.trans l2) h2 s2⟩
 | false =>
  rw[if_neg (by simp)]
  exact⟨ι',σd,H1,fl,σd',Hd',s.mono l,h,by simpa using e,fun σ2 H2 ι2 l2 h2 s2=>q σ2 H2 ι2 (l.trans l2) h2 s2⟩
nonrec def Za6 (i:Nat) (f:EF):SF:=fun σ H=>(f σ H).map fun p=>(.nx,σ.set i (some p.1),p.2)
theorem Za2 {i:Nat} {x:Str} {f:EF} {pos':Pos} (hN:X.N.Nodup) (hi:X.N[i]? = some x) (hx:Loc X.env.scope x) (he:PEf X e f) (hs:Ucz e (some (.Name x pos')) pos.line X.env=pure false:=by rfl) (hf:X.fn x=true\/X.env.scope.names.lookup x=some .local:=by first | exact .inl rfl | exact .inr rfl | assumption) :
  PSf X (.Assign [.Name x pos'] e pos) (Za6 i f):=by
 refine PSi (Zxk hN hi hx he hs hf) fun E σ H zz=>?_
 obtain⟨ι,σd,Hd,fl,σd',Hd',s,hr,e,q⟩:=zz
 obtain⟨⟨x,H1⟩,e1,e⟩:=Zm e
 cases e
 exact⟨ι,σd,Hd,x,H1,s,hr,e1,fun v H' ι' l h r=>q _ H' ι' l h ((s.mono l).set r i)⟩
nonrec def gNm (i:Nat):GF:=fun d σ H=>some (σ.set i (some d),H)
theorem Za0 {i:Nat} {x:Str} (hN:X.N.Nodup) (hi:X.N[i]? = some x) (hx:Loc X.env.scope x) (hf:X.fn x=true\/X.env.scope.names.lookup x=some .local:=by first | exact .inl rfl | exact .inr rfl | assumption):PGf X (.Name x pos) (gNm i):=by
 refine PGi (Zh2 hN hi hx hf) fun v σ H Q zz=>?_
 obtain⟨ι,σd,Hd,d,σd',Hd',s,hr,r,e,q⟩:=zz
 cases e
 exact q _ H ι Le.refl hr (s.set r i)
nonrec abbrev Zvk:=D->D->D->HD->Option HD
nonrec def rdSet (K:Xb) (g:Zvk):TSet:=fun o i v H Q=>∃ ι od id vd Hd Hd',HRep K H ι Hd/\Rep K H ι od o/\Rep K H ι id i/\Rep K H ι vd v/\g od id vd Hd=some Hd'/\∀ H' ι',Le K H ι H' ι'->HRep K H' ι' Hd'->Q H'
def Zvw (X:Cx) (g:Zvk):Prop:=PSet X (rdSet X.K g)
nonrec def gSb (fo fi:EF) (g:Zvk):GF:=fun d σ H=>(fo σ H).bind fun o=>(fi σ o.2).bind fun i=>(g o.1 i.1 d i.2).map fun H'=>(σ,H')
theorem Zpi {o i:Uac} {fo fi:EF} {g:Zvk} (ho:PEf X o fo) (hi:PEf X i fi) (hs:Zvw X g)
  (ha:∀ v,Udm (.Subscript o i pos) X.env v=(do
   let ov<-Udp [v] (eval o X.env)
   let iv<-Udp [v,ov] (eval i X.env)
   standAt pos
   Udp [v,ov,iv] (setItem ov iv v)
   release [v,ov,iv] []):=by intro _; rfl):PGf X (.Subscript o i pos) (gSb fo fi g):=by
 refine PGi (Zv3 ho hi hs ha) fun v σ H Q zz=>?_
 obtain⟨ι,σd,Hd,d,σd',Hd',s,hr,r,e,q⟩:=zz
 obtain⟨⟨x,H1⟩,e1,e⟩:=Zo e
 obtain⟨⟨y,H2⟩,e2,e⟩:=Zo e
 obtain⟨H3,e3,e⟩:=Zm e
 obtain⟨rfl,rfl⟩:=Wbh.inj e
 exact⟨ι,σd,Hd,x,H1,s,hr,e1,fun v1 H1' ι1 l1 h1 r1=>⟨ι1,σd,H1,y,H2,s.mono l1,h1,e2,fun v2 H2' ι2 l2 h2 r2 =>
  ⟨ι2,x,y,d,H2,H3,h2,r1.mono l2,r2,r.mono (l1.trans l2),e3,fun H' ι' l h=>q σ H' ι' ((l1.trans l2).trans l) h (s.mono ((l1.trans l2).trans l))⟩⟩⟩
nonrec abbrev GFs:=List D->SD->HD->Option (SD×HD)
nonrec def rdGs (K:Xb) (g:GFs):TGs:=fun vs σ H Q=>∃ ι σd Hd ds σd' Hd',SRep K H ι σ σd/\HRep K H ι Hd/\Vm (Rep K H ι) ds vs/\g ds σd Hd=some (σd',Hd') /\
 ∀ σ' H' ι',Le K H ι H' ι'->HRep K H' ι' Hd'->SRep K H' ι' σ' σd'->Q σ' H'
def PGsf (X:Cx) (ts:List Uac) (g:GFs):Prop:=PGs X ts (rdGs X.K g)
nonrec def gNl:GFs:=fun ds σ H=>match ds with
 | []=>some (σ,H)
 | _=>none
nonrec def gCn (g:GF) (h:GFs):GFs:=fun ds σ H=>match ds with
 | d::r=>(g d σ H).bind fun p=>h r p.1 p.2
 | []=>none
theorem PGsi {ts:List Uac} {t t':TGs} (h:PGs X ts t) (i:∀ v σ H Q,t' v σ H Q->t v σ H Q):PGs X ts t':=fun pins s σ H v u Q I r q=>h pins s σ H v u Q I r (i v σ H Q q)
theorem Zrv:PGsf X [] gNl:=by
 refine PGsi Znu fun vs σ H Q zz=>?_
 obtain⟨ι,σd,Hd,ds,σd',Hd',s,hr,r,e,q⟩:=zz
 cases r with
 | nil=>cases e; exact⟨rfl,q σ H ι Le.refl hr s⟩
 | cons _ _=>cases e
theorem Zim {g:GF} {h:GFs} (h1:PGf X e g) (h2:PGsf X es h) (hs:(Uaw (e::es) X.env).map (·.2)=Udm e X.env::(Uaw es X.env).map (·.2):=by rfl):PGsf X (e::es) (gCn g h):=by
 refine PGsi (Zh1 h1 h2 hs) fun vs σ H Q zz=>?_
 obtain⟨ι,σd,Hd,ds,σd',Hd',s,hr,r,e,q⟩:=zz
 cases r with
 | nil=>cases e
 | cons r rr =>
  obtain⟨⟨σ1,H1⟩,e1,e⟩:=Zo e
  exact⟨_,_,rfl,ι,σd,Hd,_,σ1,H1,s,hr,r,e1,fun σ' H' ι' l h ss=>⟨ι',σ1,H1,_,σd',Hd',ss,h,Prd.mono l rr,e,fun σ2 H2 ι2 l2 h2 s2=>q σ2 H2 ι2 (l.trans l2) h2 s2⟩⟩
nonrec def gTp (n:Nat) (g:GFs):GF:=fun d σ H=>match d with
 | .tup ds=>if ds.length=n then g ds σ H else none
 | _=>none
theorem Zu4 {k n:Nat} {g:GFs} (hc:X.calm=true) (h:PGsf X es g) (hn:(Uaw es X.env).length=n:=by rfl) (hst:(Uaw es X.env).findIdx? (·.1)=none:=by rfl):PGf X (.Tuple es k pos) (gTp n g):=by
 refine PGi (Zsb hc h hn hst) fun v σ H Q zz=>?_
 obtain⟨ι,σd,Hd,d,σd',Hd',s,hr,r,e,q⟩:=zz
 cases d with
 | tup ds =>
  obtain⟨a,vs,rfl,h1,p⟩:=Zan.mp r
  simp only[gTp] at e
  split at e
  ·rename_i hl
   exact⟨a,vs,rfl,h1,by rw[<- Prd.len p]; exact hl,ι,σd,Hd,ds,σd',Hd',s,hr,p,e,q⟩
  ·cases e
 | _=>simp[gTp] at e
nonrec def Zra (f:EF) (g:GF):SF:=fun σ H=>(f σ H).bind fun p=>(g p.1 σ p.2).map fun q=>(.nx,q.1,q.2)
theorem Zhw {tg:Uac} {f:EF} {g:GF} (he:PEf X e f) (hg:PGf X tg g) (hs:swapsWithSole [tg] e pos.line X.env=pure false:=by rfl) (hw:swappedStores [tg] e X.env=pure none:=by rfl)
  (h1:(Uaw [tg] X.env).map (·.2)=[Udm tg X.env]:=by rfl):PSf X (.Assign [tg] e pos) (Zra f g):=by
 refine PSi (Zv9 he hg hs hw h1) fun E σ H zz=>?_
 obtain⟨ι,σd,Hd,fl,σd',Hd',s,hr,e,q⟩:=zz
 obtain⟨⟨x,H1⟩,e1,e⟩:=Zo e
 obtain⟨⟨σ2,H2⟩,e2,e⟩:=Zm e
 cases e
 exact⟨ι,σd,Hd,x,H1,s,hr,e1,fun v H' ι' l h r=>⟨ι',σd,H1,x,σ2,H2,s.mono l,h,r,e2,fun σ3 H3 ι3 l3 h3 s3=>q σ3 H3 ι3 (l.trans l3) h3 s3⟩⟩
nonrec abbrev Zem:=List (Nat×DO)
def Zbn (own:Zem) (H:HD):Prop:=∀ p∈own,H[p.1]? = some p.2
nonrec abbrev ItF:=SD->HD->Option ((List D×Zem)×HD)
structure ItRep (K:Xb) (J:It) (xs:List D) (own:Zem) (H0:Hp) (ι0:List Vg):Prop where
 go:∀ i H ι Hd,Le K H0 ι0 H ι->HRep K H ι Hd->Zbn own Hd->i<xs.length->J.go i H
 yld:∀ i H ι Hd d x H',Le K H0 ι0 H ι->HRep K H ι Hd->Zbn own Hd->xs[i]? = some d->J.yld i H x H'->∃ ι',Le K H ι H' ι'/\HRep K H' ι' Hd/\Rep K H' ι' d x
 stop:∀ i H ι Hd,Le K H0 ι0 H ι->HRep K H ι Hd->Zbn own Hd->xs.length<=i->J.stop i H
nonrec def rdI (K:Xb) (f:ItF):TI:=fun σ H R=>∃ ι σd Hd xs own Hd',SRep K H ι σ σd/\HRep K H ι Hd/\f σd Hd=some ((xs,own),Hd')/\∀ J H' ι',Le K H ι H' ι'->HRep K H' ι' Hd'->ItRep K J xs own H' ι'->R J H'
def PIf (X:Cx) (tg iter:Uac) (f:ItF):Prop:=PI X tg iter (rdI X.K f)
theorem PIi {tg iter:Uac} {t t':TI} (h:PI X tg iter t) (i:∀ σ H R,t' σ H R->t σ H R):PI X tg iter t':=fun pins s σ H R I q=>h pins s σ H R I (i σ H R q)
open Classical in
nonrec def Zgk (own:Zem) (g:GF) (body:SF):List D->SF
 | [],σ,H=>if Zbn own H then some (.nx,σ,H) else none
 | x::r,σ,H=>if Zbn own H then (g x σ H).bind fun p=>(body p.1 p.2).bind fun q=>match q.1 with
   | .nx=>Zgk own g body r q.2.1 q.2.2
   | .ct=>Zgk own g body r q.2.1 q.2.2
   | .bk=>some (.nx,q.2.1,q.2.2)
   | .rt d=>some (.rt d,q.2.1,q.2.2)
  else none
nonrec def Zfh (it:ItF) (g:GF) (body:SF):SF:=fun σ H=>(it σ H).bind fun p=>Zgk p.1.2 g body p.1.1 σ p.2
theorem Zth {tg iter:Uac} {body:List Ubv} {f:ItF} {g:GF} {b:SF} (hp:Uee (Vj X.prog X.w) X.A X.env X.xe) (hc:X.calm=true) (hi:PIf X tg iter f) (hg:PGf X tg g) (hb:Zqe X body b)
  (hs:∀ x,Uae iter X.env x=pure x:=by intro _; rfl):PSf X (.For tg iter body [] pos) (Zfh f g b):=by
 refine PSi (Zvs hp hc hi hg hb hs) fun E σ H zz=>?_
 obtain⟨ι,σd,Hd,fl,σf,Hf,s,hr,e,q⟩:=zz
 obtain⟨⟨⟨xs,own⟩,H1⟩,e1,e⟩:=Zo e
 refine⟨ι,σd,Hd,xs,own,H1,s,hr,e1,fun J H0 ι0 l0 h0 it=>?_⟩
 refine⟨fun i m σ H=>m=xs.length - i/\i<=xs.length/\∃ ι σd Hd,Le X.K H0 ι0 H ι/\SRep X.K H ι σ σd/\HRep X.K H ι Hd/\Zgk own g b (xs.drop i) σd Hd=some (fl,σf,Hf),
  ⟨xs.length,by simp,Wbx _,ι0,σd,H1,Le.refl,s.mono l0,h0,by simpa using e⟩,?_⟩
 rintro i m σ2 H2 ⟨rfl,hi,ι2,σd2,Hd2,l2,s2,h2,e2⟩
 by_cases hlt:i<xs.length
 ·have ed:xs.drop i=xs[i]::xs.drop (i+1):=Waj hlt
  rw[ed,Zgk] at e2
  split at e2
  ·rename_i ok
   obtain⟨⟨σ3,H3⟩,e3,e2⟩:=Zo e2
   obtain⟨⟨f4,σ4,H4⟩,e4,e2⟩:=Zo e2
   refine .inr ⟨it.go i H2 ι2 Hd2 l2 h2 ok hlt,fun σ' H'=>(xs.length - (i+1)=xs.length - (i+1)/\i+1<=xs.length/\∃ ι σd Hd,Le X.K H0 ι0 H' ι/\SRep X.K H' ι σ' σd/\HRep X.K H' ι Hd/\Zgk own g b (xs.drop (i+1)) σd Hd=some (fl,σf,Hf)),
    fun σ' H' p=>⟨_,by omega,p⟩,fun x H' y=>?_⟩
   obtain⟨ι3,l3,h3,r3⟩:=it.yld i H2 ι2 Hd2 xs[i] x H' l2 h2 ok (by simp[hlt]) y
   refine⟨ι3,σd2,Hd2,xs[i],σ3,H3,s2.mono l3,h3,r3,e3,fun σ5 H5 ι5 l5 h5 s5=>?_⟩
   refine⟨ι5,σ3,H3,f4,σ4,H4,s5,h5,e4,fun σ6 H6 ι6 l6 h6 s6=>?_⟩
   have L:Le X.K H0 ι0 H6 ι6:=((l2.trans l3).trans l5).trans l6
   cases f4 with
   | nx=>exact⟨rfl,hlt,ι6,σ4,H4,L,s6,h6,e2⟩
   | ct=>exact⟨rfl,hlt,ι6,σ4,H4,L,s6,h6,e2⟩
   | bk=>cases e2; exact q σ6 H6 ι6 (l0.trans L) h6 s6
   | rt d=>cases e2; exact q σ6 H6 ι6 (l0.trans L) h6 s6
  ·cases e2
 ·have hi':i=xs.length:=by omega
  rw[Wcf (by omega),Zgk] at e2
  split at e2
  ·rename_i ok
   have e3:(FD.nx,σd2,Hd2)=(fl,σf,Hf):=Waa.inj e2
   obtain⟨rfl,e4⟩:=Wbh.inj e3
   obtain⟨rfl,rfl⟩:=Wbh.inj e4
   exact .inl ⟨it.stop i H2 ι2 _ l2 h2 ok (by omega),q σ2 H2 ι2 (l0.trans l2) h2 s2⟩
  ·cases e2
end
nonrec def Zce (n N:Nat) (b:SF):FF:=fun ds H=>if ds.length=n then (b (ds.map some++Xk (N - ds.length) none) H).bind fun r=>match r.1 with
  | .rt d=>some (d,r.2.2)
  | .nx=>some (.non,r.2.2)
  | _=>none
 else none
section
variable {P:Vl} {w:Vt} {K:Xb} {mg:Str->Option Vb} {base:Uab}
theorem fn_f {x qual:Str} {st:Ubv} {f:Vg} {fd:Ubh} {N ps:List Str} {k:Nat} {b:SF} (F:Fun K x qual st f fd) (S:FnScope N ps (Zag st))
  (hb:∀ (cdv:Vb) (A:Vu) (outer:List Env) (s:Vd) (H:Hp) (E:XK),Room k (A.deeper (Udn qual (Zag st) s.heap.objs.size f cdv)) ->
   Zqe (Zps CX0 P w K mg base N qual (Zag st) f cdv A outer s H E).nox (Zcd st) b):FnOk P w K mg base CX0 (k+1) f fd ps (spF K ps.length (Zce ps.length N.length b)):=by
 refine F.ok S (fun vs H Q E h=>?_) (fun cdv A outer s H vs Q E hr h=>?_)
 ·obtain⟨ι,ds,Hd,d,Hd',hl,_,r,_⟩:=h
  rw[<- Prd.len r]; exact hl
 ·obtain⟨ι,ds,Hd,d,Hd',hl,hh,r,e,q⟩:=h
  refine⟨_,hb cdv A outer s H E hr,?_⟩
  unfold Zce at e
  rw[if_pos hl] at e
  obtain⟨⟨fl,σ1,H1⟩,e1,e⟩:=Zo e
  refine⟨ι,_,Hd,fl,σ1,H1,?_,hh,e1,fun σ' H' ι' l h ss=>?_⟩
  ·refine⟨by simp[L2.start,Prd.len r],fun i d0 h0=>?_⟩
   unfold L2.start
   by_cases hi:i<ds.length
   ·rw[Xo (by simpa using hi),Wah] at h0
    cases ed:ds[i]? with
    | none=>rw[ed] at h0; cases h0
    | some d1 =>
     rw[ed] at h0
     cases h0
     obtain⟨v,hv,rv⟩:=Prd.get r ed
     refine⟨v,?_,rv⟩
     rw[Xo (by rw[Wap,<- Prd.len r]; exact hi),Wah,hv]
     rfl
   ·rw[Wag (by simpa using hi),Weq] at h0
    split at h0<;>cases h0
  ·cases fl with
   | rt d1=>cases e; exact fun v rv=>q v H' ι' l h rv
   | nx=>cases e; exact q .non H' ι' l h (by simp)
   | bk=>cases e
   | ct=>cases e
end
nonrec def Ze5 (env:Env):List (Str×Ubj)->List (Str×Vg)->List (Str×Vg)
 | [],cs=>cs
 | (n,k)::r,cs=>Ze5 env r (if k=.free then (match env.cells.lookup n with | some a=>(n,a)::cs | none=>cs) else cs)
theorem Zew (env:Env) (scope:Ucf) (h:∀ y∈scope.names,y.2=.free->(env.cells.lookup y.1).isSome=true):closureFor scope env=pure (Ze5 env scope.names []):=by
 have key:∀ (ns:List (Str×Ubj)) (cs:List (Str×Vg)),(∀ y∈ns,y.2=.free->(env.cells.lookup y.1).isSome=true) ->
   (forIn ns cs fun(x:Str×Ubj) cs=>match x with
    | (name,kind)=>if (kind==.free)=true then (do let a<-cellOf env name; pure (Ut ((name,a)::cs))) else pure (Ut cs):Sem (List (Str×Vg)))=pure (Ze5 env ns cs):=by
  intro ns
  induction ns with
  | nil=>intro cs _; rfl
  | cons x r ih =>
   intro cs hh
   obtain⟨n,k⟩:=x
   have hr:=ih
   rw[Wbs]
   by_cases hk:k=.free
   ·subst hk
    have q:=hh (n,.free) (by simp) rfl
    cases e:env.cells.lookup n with
    | none=>rw[e] at q; cases q
    | some a =>
     have e2:cellOf env n=pure a:=by unfold cellOf; rw[e]
     simp only[beq_self_eq_true,if_true,e2,pure_bind,Ze5,e]
     exact ih _ fun y hy=>hh y (Wam _ hy)
   ·have hb:(k==Ue)=false:=by simpa using hk
    simp only[hb,Xr,if_false,pure_bind,Ze5,hk]
    exact ih _ fun y hy=>hh y (Wam _ hy)
 have e:closureFor scope env=((forIn scope.names [] fun(x:Str×Ubj) cs=>match x with
    | (name,kind)=>if (kind==.free)=true then (do let a<-cellOf env name; pure (Ut ((name,a)::cs))) else pure (Ut cs):Sem (List (Str×Vg))) >>= pure):=rfl
 rw[e,bind_pure]
 exact key scope.names [] h
theorem Zea (env:Env):∀ (ns:List (Str×Ubj)) (cs:List (Str×Vg)),(∀ x c,cs.lookup x=some c->env.cells.lookup x=some c)->∀ x c,(Ze5 env ns cs).lookup x=some c->env.cells.lookup x=some c
 | [],cs,h=>h
 | (n,k)::r,cs,h=>by
  unfold Ze5
  refine Zea env r _ ?_
  split
  ·cases e:env.cells.lookup n with
   | none=>exact h
   | some a =>
    intro x c q
    dsimp only at q
    rw[Wax] at q
    split at q
    ·rename_i hb
     have hb':x=n:=by simpa using hb
     subst hb'; cases q; exact e
    ·exact h x c q
  ·exact h
theorem Zhe (env:Env):∀ (ns:List (Str×Ubj)) (cs:List (Str×Vg)) (x:Str),((cs.lookup x).isSome=true\/((x,Ue)∈ns/\(env.cells.lookup x).isSome=true))->((Ze5 env ns cs).lookup x).isSome=true
 | [],cs,x,h=>by
  rcases h with h | ⟨h,_⟩
  ·exact h
  ·simp at h
 | (n,k)::r,cs,x,h=>by
  unfold Ze5
  refine Zhe env r _ x ?_
  by_cases hk:k=.free
  ·rw[if_pos hk]
   cases e:env.cells.lookup n with
   | none =>
    rcases h with h | ⟨h,h2⟩
    ·exact .inl h
    ·rcases Xl.mp h with h | h
     ·cases h; rw[e] at h2; cases h2
     ·exact .inr ⟨h,h2⟩
   | some a =>
    dsimp only
    rw[Wax]
    by_cases hx:x=n
    ·subst hx; simp
    ·have:(x==n)=false:=by simpa using hx
     rw[this]
     rcases h with h | ⟨h,h2⟩
     ·exact .inl h
     ·rcases Xl.mp h with h | h
      ·cases h; exact absurd rfl hx
      ·exact .inr ⟨h,h2⟩
  ·rw[if_neg hk]
   rcases h with h | ⟨h,h2⟩
   ·exact .inl h
   ·rcases Xl.mp h with h | h
    ·cases h; exact absurd rfl hk
    ·exact .inr ⟨h,h2⟩
theorem Zd0 {env:Env}:∀ {names:List (Str×Ubj)} {x:Str},names.lookup x=some .free ->
  ((names.map fun(n,k)=>if (k==Ue&&env.scope.kind==.function&&env.kindOf n==some .cell) then (n,Taa) else (n,k)).lookup x=some .cell \/
   (names.map fun(n,k)=>if (k==Ue&&env.scope.kind==.function&&env.kindOf n==some .cell) then (n,Taa) else (n,k)).lookup x=some .free)
 | [],_,h=>by simp at h
 | (n,k)::r,x,h=>by
  have ih:=@Zd0 env r x
  show Wfh x ((if (k==Ue&&env.scope.kind==.function&&env.kindOf n==some .cell)=true then (n,Taa) else (n,k))::_)=_\/Wfh x ((if (k==Ue&&env.scope.kind==.function&&env.kindOf n==some .cell)=true then (n,Taa) else (n,k))::_)=_
  cases hx:x==n with
  | true =>
   simp only[Wax,hx] at h
   cases h
   by_cases hc:(Ue==Ue&&env.scope.kind==.function&&env.kindOf n==some .cell)=true
   ·rw[if_pos hc]; simp only[Wax,hx]; simp
   ·rw[if_neg hc]; simp only[Wax,hx]; simp
  | false =>
   simp only[Wax,hx] at h
   by_cases hc:(k==Ue&&env.scope.kind==.function&&env.kindOf n==some .cell)=true
   ·rw[if_pos hc]; simp only[Wax,hx]; exact ih h
   ·rw[if_neg hc]; simp only[Wax,hx]; exact ih h
theorem Zc7 {env:Env}:∀ {names:List (Str×Ubj)} {x:Str},(∀ y∈names,y.2≠.cell) ->
  ((names.map fun(n,k)=>if (k==Ue&&env.scope.kind==.function&&env.kindOf n==some .cell) then (n,Taa) else (n,k)).lookup x=some .cell \/
   (names.map fun(n,k)=>if (k==Ue&&env.scope.kind==.function&&env.kindOf n==some .cell) then (n,Taa) else (n,k)).lookup x=some .free)->(x,Ue)∈names
 | [],_,_,h=>by simp at h
 | (n,k)::r,x,hn,h=>by
  have ih:=@Zc7 env r x (fun y hy=>hn y (Wam _ hy))
  have h:Wfh x ((if (k==Ue&&env.scope.kind==.function&&env.kindOf n==some .cell)=true then (n,Taa) else (n,k))::_)=_\/Wfh x ((if (k==Ue&&env.scope.kind==.function&&env.kindOf n==some .cell)=true then (n,Taa) else (n,k))::_)=_:=h
  cases hx:x==n with
  | true =>
   have hx':x=n:=by simpa using hx
   subst hx'
   by_cases hc:(k==Ue&&env.scope.kind==.function&&env.kindOf x==some .cell)=true
   ·have hk:k=.free:=by
     rw[Wbc,Wbc] at hc
     simpa using hc.1.1
    subst hk; simp
   ·rw[if_neg hc] at h
    simp only[Wax,hx] at h
    rcases h with h | h
    ·cases h; exact absurd rfl (hn (x,.cell) (by simp))
    ·cases h; simp
  | false =>
   refine Wam _ (ih ?_)
   by_cases hc:(k==Ue&&env.scope.kind==.function&&env.kindOf n==some .cell)=true
   ·rw[if_pos hc] at h; simp only[Wax,hx] at h; exact h
   ·rw[if_neg hc] at h; simp only[Wax,hx] at h; exact h
nonrec def blk (X:Cx) (scope:Ucf) (N:List Str) (cl:List (Str×Vg)) (C:Vg) (s:Vd) (H:Hp) (fp:List Vg) (pn:List (Vg×Obj)):Cx where
 prog:=X.prog
 w:=X.w
 K:=X.K
 mg:=X.mg
 base:=X.base
 A:=X.A
 N:=N
 s₀:=s
 H₀:=H
 env:=Ucd scope cl C X.env
 outer:=X.stack
 stack:=X.stack
 ex:=fp
 fn:=fun _=>false
 calm:=X.calm
 pn:=pn
 xe:=fun _ _=>False
structure BlkOk (X:Cx) (scope:Ucf) (x:Str) (cn:List Str) (ci:List Nat):Prop where
 kind:scope.kind=.function
 nocell:∀ y∈scope.names,y.2≠.cell
 names:∀ y∈scope.names,y.2=.local->scope.names.lookup y.1=some .local
 tgt:scope.names.lookup x=some .local
 free:∀ y∈scope.names,y.2=.free->(X.env.cells.lookup y.1).isSome=true
 nd:(x::cn).Nodup
 len:ci.length=cn.length
 cap:∀ (j:Nat) (y:Str),cn[j]? = some y->∃ i,ci[j]? = some i/\X.N[i]? = some y/\scope.names.lookup y=some .free/\(X.env.kindOf y=some .cell\/X.env.kindOf y=some .free)
nonrec def Zgh (ci:List Nat) (σ:L2.St):L2.St:=ci.map fun i=>(σ[i]?).join
section
variable {X:Cx} {pins:List (Vg×Obj)} {σ:L2.St} {H:Hp} {s:Vd} {scope:Ucf} {x:Str} {cn:List Str} {ci:List Nat} {fp:List Vg}
theorem Zuf {h₁:Uab} {tk:Nat} {o₁:Obj} (I:Inv X pins σ H s) (B:BlkOk X scope x cn ci) (hf:∀ b∈fp,Zjr X pins H b) (hlt:∀ b∈fp,b<s.heap.objs.size)
  (hns:h₁.Ns s.heap.objs.size (fun _=>none)) (hsb:Xm s.heap.objs.size (s.heap.push o₁) h₁) :
  Inv (blk X scope (x::cn) (Ze5 X.env scope.names []) s.heap.objs.size s H fp (X.pn++pins)) [] (none::Zgh ci σ) H { s with heap:=h₁,toks:=tk }:=by
 have old:∀ b o,s.heap.get? b=some o->h₁.get? b=some o:=fun b o e=>hsb.extBut b o (Xh (Xd e)) (Xa _ e)
 have sub:=Zea X.env scope.names [] (by intro x c h; simp at h)
 have has:∀ y,(y,Ue)∈scope.names->∃ c,(Ze5 X.env scope.names []).lookup y=some c:=fun y hy =>
  Wbn.mp (Zhe X.env scope.names [] y (.inr ⟨hy,B.free _ hy rfl⟩))
 refine⟨⟨I.ok.mod,B.kind,I.ok.glob,I.ok.blt,Xf _,fun y z c h1 h2=>I.ok.inj y z c (sub y c h1) (sub z c h2),fun y hy=>has y (Zc7 B.nocell hy),fun y c hy=>absurd hy (by show ¬ (false=true); simp),I.ok.hd,I.ok.frames,.inl rfl,
   fun b hb=>⟨Xh (hlt b hb),fun y c e=>(hf b hb).2.2.2.2.1 y c (sub y c e)⟩,I.bs,Xq I.ok.bsz I.sz,fun b o e hb=>?_,fun b hb z=>?_,I.stack,I.stkFree⟩,
  rfl,I.bare,Un.kept old,⟨_,hns,fun i y v h1 h2 h3=>?_⟩,fun y c e=>?_,I.hok.fresh (Xf _),fun y c e=>(I.freeC y c (sub y c e)).imp id fun z=>⟨rfl,z.2⟩,fun p hp=>?_,I.hok.kept old,?_⟩
 ·rcases(hf b hb).2.2.2.1 with z | z
  ·exact I.ok.noex b o e z
  ·exact absurd (Xi (Xd e) (Xq I.ok.bsz z)) (Wat _)
 ·exact(Xl.mp (I.stkSub b z)).elim (hf b hb).2.1 (hf b hb).2.2.1
 ·cases i with
  | zero=>simp at h2
  | succ j =>
   have h1':cn[j]? = some y:=by simpa [blk] using h1
   have h2':(Zgh ci σ)[j]? = some (some v):=by simpa using h2
   obtain⟨i,e1,e2,e3,e4⟩:=B.cap j y h1'
   have e5:σ[i]? = some (some v):=by
    unfold Zgh at h2'
    rw[Wah,e1] at h2'
    simp at h2'
    cases e:σ[i]? with
    | none=>rw[e] at h2'; cases h2'
    | some o=>rw[e] at h2'; simp at h2'; rw[h2']
   obtain⟨m,hn,hl⟩:=I.loc
   have hv:Vis X.env.scope y:=by
    rcases e4 with e4 | e4
    ·exact .inr (.inl e4)
    ·exact .inr (.inr e4)
   obtain⟨u,r,l⟩:=hl i y v e2 e5 hv
   refine⟨u,r,.inr ⟨Zd0 e3,?_⟩⟩
   obtain⟨c,ec⟩:=has y (Uo e3)
   refine⟨c,ec,?_⟩
   rcases l with ⟨l,_⟩ | ⟨_,c',ec',hc⟩
   ·rcases e4 with e4 | e4<;>rw[e4] at l<;>cases l
   ·rw[sub y c ec] at ec'
    cases ec'
    obtain⟨ob,q1,q2⟩:=hc
    exact⟨ob,old _ _ q1,q2⟩
 ·obtain⟨v,ob,q1,q2⟩:=I.cell y c (sub y c e)
  exact⟨v,ob,old _ _ q1,q2⟩
 ·have hp':p∈X.pn++pins:=by simpa [blk] using hp
  obtain⟨q1,q2,q3,q4,q5⟩:=I.pin p hp'
  refine⟨old _ _ q1,q2,Xh (Xd q1),fun z=>?_,q5⟩
  exact(Xl.mp (I.stkSub p.1 z)).elim q3 q4
 ·simp[blk,Zgh,B.len]
def PTs (X:Cx) (ifs:List Uac) (t:TT):Prop :=
 ∀ (pins:List (Vg×Obj)) (s:Vd) (σ:L2.St) (H:Hp) (Q:Bool->Hp->Prop),Inv X pins σ H s->t σ H Q ->
  Vf (Vj X.prog X.w) X.A (forIn ifs true fun c r=>if r=true then do let ok<-isTrue c X.env (eval c X.env); pure (Ut ok) else pure (Ut r)) (TP X pins σ Q) X.xe s
theorem Zs2:PTs X [] (fun _ H Q=>Q true H):=fun _ _ _ H _ I h=>wpAny_tests_nil ⟨H,I,h⟩
theorem Ztu {c:Uac} {t:TT} (h:PT X c t):PTs X [c] t:=fun pins s σ H Q I q=>wpAny_tests_one (h pins s σ H Q I q)
def LcW (J:It) (ci:List Nat) (tt:TT) (te:TE) (σ:L2.St) (Q:VK) (H1:Hp):Prop:=∀ p,H1 p=none->∃ W:Nat->Nat->List V->Hp->Prop,(∃ m,W 0 m [] (upd H1 p (.lst [])))/\∀ i m ys H,W i m ys H ->
 H p=some (.lst ys)/\((J.stop i H/\Q (.ref p) H)\/(J.go i H/\∀ v H',J.yld i H v H'->tt (some v::Zgh ci σ) H' fun b H2 =>
  if b=true then te (some v::Zgh ci σ) H2 fun y H3=>H3 p=some (.lst ys)/\ys.length<sizeLine/\∃ m',m'<m/\W (i+1) m' (ys++[y]) (upd H3 p (.lst (ys++[y])))
  else ∃ m',m'<m/\W (i+1) m' ys H2))
structure Gone (X:Cx) (pins:List (Vg×Obj)) (H:Hp) (s:Vd) (C:Vg):Prop where
 ns:∃ m,s.heap.Ns C m
 free:H C=none
 nl:C≠X.env.locals
 up:X.s₀.heap.objs.size<=C
 nc:∀ x c,X.env.cells.lookup x=some c->c≠C
 np:∀ p∈X.pn++pins,p.1≠C
theorem Gone.go {σ:L2.St} {h':Uab} {C:Vg} (g:Gone X pins H s C) (I:Inv X pins σ H s) (hs:Xm C s.heap h'):Inv X pins σ H { s with heap:=h' } :=
 I.turned (t':=s.toks) (fun b o hb e=>hs.extBut b o hb e) g.free g.nl (.inr g.up) g.nc g.np
theorem Zks {elt iter:Uac} {px pos:Pos} {ifs:List Uac} {tt:TT} {te:TE} {Q:VK} {E:Vb->Vd->Prop} {RR:Vb->Vg->Result->Vd->Prop} {it:Vg} {tn:Nat->Uab->Prop} {J:It}
  (I:Inv X pins σ H s) (hc:X.calm=true) (B:BlkOk X scope x cn ci) (T:Turn X.prog X.w X.K (.Name x px) J fp it tn) (st:tn 0 s.heap) (hf:∀ b∈fp,Zjr X pins H b)
  (ht:∀ cl C s H fp pn,PTs (blk X scope (x::cn) cl C s H fp pn) ifs tt) (he:∀ cl C s H fp pn,PE (blk X scope (x::cn) cl C s H fp pn) elt te)
  (hw:LcW J ci tt te σ Q H) (hRR:∀ p C H' s',Inv X pins σ H' s'->Gone X pins H' s' C->Q (.ref p) H'->RR (.ref p) C (.ok .next) s') :
  Vf (Vj X.prog X.w) X.A (newList []) (fun acc s₃=>Vf (Vj X.prog X.w) X.A (newFunctionEnv scope X.env.globals (Ze5 X.env scope.names []) [] X.env.qual none .none (some X.env)) (fun cenv s₄ =>
   Ucl (Vj X.prog X.w) X.A (.compStart (.ListComp elt [⟨.Name x px,iter,ifs,0⟩] scope pos) 0 (.ref it) acc { cenv with scope:=relabel scope X.env }) (RR acc cenv.locals) s₄) E s₃) E s:=by
 have hp0:H s.heap.objs.size=none:=I.hok.fresh (Xf _)
 obtain⟨W,⟨m0,w0⟩,turn⟩:=hw _ hp0
 refine Vx (Udj B.nocell (by intro y hy; simp at hy) (fun h₁ hns₁ hsb₁=>?_) B.kind)
 dsimp only at hns₁ hsb₁ ⊢
 have I3:Inv X pins σ (upd H s.heap.objs.size (.lst [])) { s with heap:=s.heap.push { cls:=.type "list",dict:=none,data:=.seq ([]:List Vb).toArray } } :=
  I.laid (t':=s.toks) (fun b u e=>Xa _ e) (Xf _) ⟨Wbx _,[],0,.nil,Xe _ rfl⟩
 generalize hH3:s.heap.push { cls:=.type "list",dict:=none,data:=.seq ([]:List Vb).toArray }=hp3 at hns₁ hsb₁ I3 ⊢
 have flt:∀ b∈fp,b<s.heap.objs.size:=fun b hb=>by
  obtain⟨o,e,_⟩:=T.obj 0 _ st b hb
  exact Xd e
 have sz3:hp3.objs.size=s.heap.objs.size+1:=by rw[<- hH3,Wak]
 have f3:∀ b∈fp,Zjr X pins (upd H s.heap.objs.size (.lst [])) b:=fun b hb=>⟨by rw[Zaf (Xh (flt b hb))]; exact(hf b hb).1,(hf b hb).2⟩
 have old3:∀ b o,s.heap.get? b=some o->hp3.get? b=some o:=fun b o e=>by rw[<- hH3]; exact Xa _ e
 have I4:=Zuf (s:={ s with heap:=hp3 }) (tk:=s.toks+([]:List (Str×Vb)).length) I3 B f3 (fun b hb=>by show b<hp3.objs.size; rw[sz3]; exact Way (flt b hb)) (by simpa using hns₁) hsb₁
 have old4:∀ b o,hp3.get? b=some o->h₁.get? b=some o:=fun b o e=>hsb₁.extBut b o (Xh (Xd e)) (Xa _ e)
 generalize hX':blk X scope (x::cn) (Ze5 X.env scope.names []) hp3.objs.size { s with heap:=hp3 } (upd H s.heap.objs.size (.lst [])) fp (X.pn++pins)=X' at I4
 have ePr:X'.prog=X.prog:=by rw[<- hX']; rfl
 have eW:X'.w=X.w:=by rw[<- hX']; rfl
 have eK:X'.K=X.K:=by rw[<- hX']; rfl
 have eA:X'.A=X.A:=by rw[<- hX']; rfl
 have eEnv:X'.env=Ucd scope (Ze5 X.env scope.names []) hp3.objs.size X.env:=by rw[<- hX']; rfl
 have eEx:X'.ex=fp:=by rw[<- hX']; rfl
 have ht':PTs X' ifs tt:=by rw[<- hX']; exact ht _ _ _ _ _ _
 have he':PE X' elt te:=by rw[<- hX']; exact he _ _ _ _ _ _
 have eXe:X'.xe=fun _ _=>False:=by rw[<- hX']; rfl
 have hg':PG X' (.Name x px) (Zhp 0):=by
  rw[<- hX']
  exact Zh2 (X:=blk X scope (x::cn) _ _ _ _ _ _) B.nd rfl (.inl (Uam B.tgt)) (.inr (Uam B.tgt))
 -- the iterator's objects, seen from the block
 have stat:∀ {H':Hp},(∀ b∈fp,H' b=none)->∀ b∈fp,Zjr X' [] H' b:=fun {H'} hn b hb=>by
  rw[<- hX']
  refine⟨hn b hb,(by show b≠hp3.objs.size; rw[sz3]; exact Xh (Way (flt b hb))),fun z=>(Xl.mp (I3.stkSub b z)).elim (hf b hb).2.1 (hf b hb).2.2.1,.inl hb,fun y c e=>?_,fun p hp=>?_⟩
  ·exact(hf b hb).2.2.2.2.1 y c (Zea X.env scope.names [] (by intro x c h; simp at h) y c e)
  ·exact(hf b hb).2.2.2.2.2 p (by simpa [blk] using hp)
 have back:∀ {σ':L2.St} {H':Hp} {s':Vd},Inv X' [] σ' H' s'->Inv X pins σ H' s'/\Gone X pins H' s' hp3.objs.size:=fun {σ' H' s'} I5=>by
  have u:Un (frs X.stack) fp (upd H s.heap.objs.size (.lst [])) H' hp3 s'.heap:=by
   have:=I5.base
   rw[<- hX'] at this
   exact this
  have hok:HOk X.prog X.w H' s'.heap:=by have:=I5.hok; rw[ePr,eW] at this; exact this
  have ho:s'.os=s.os:=by have:=I5.os; rw[<- hX'] at this; exact this
  refine⟨I3.call' ho u hok I5.bare fun b hb=>⟨(hf b hb).2.2.2.1,(hf b hb).2.1,(hf b hb).2.2.2.2.1,(hf b hb).2.2.2.2.2⟩,?_,?_,?_,?_,fun y c e z=>?_,fun p hp z=>?_⟩
  ·obtain⟨m,hn,_⟩:=I5.loc
   rw[eEnv] at hn
   exact⟨m,hn⟩
  ·have:=I5.free
   rw[eEnv] at this
   exact this
  ·exact Wcc (I3.lt)
  ·exact I3.sz
  ·obtain⟨v,q⟩:=I3.cell y c e
   exact absurd (Xi q.lt (by rw[z]; exact Xf _)) (Wat _)
  ·have:=Xd (I3.pin p hp).1
   rw[z] at this
   exact Wat _ this
 have loop:Ucl (Vj X.prog X.w) X.A (.compLoop (.ListComp elt [⟨.Name x px,iter,ifs,0⟩] scope pos) 0 (.ref it) (.ref s.heap.objs.size) (Ucd scope (Ze5 X.env scope.names []) hp3.objs.size X.env))
   (RR (.ref s.heap.objs.size) hp3.objs.size) { s with heap:=h₁,toks:=s.toks+([]:List (Str×Vb)).length }:=by
  refine codeAny_loop rfl (fun n s'=>∃ i o ys H',Inv X' [] (o::Zgh ci σ) H' s'/\tn i s'.heap/\(∀ b∈fp,H' b=none)/\W i n ys H') (fun n s' hI=>?_) m0
   ⟨0,none,[],_,I4,T.keep _ _ _ st (fun b hb o e=>old4 b o (old3 b o e)),fun b hb=>(f3 b hb).1,w0⟩
  obtain⟨i,o,ys,H',I5,st5,fr5,w5⟩:=hI
  show Vf _ X.A ((compTurn (.ListComp elt [⟨.Name x px,iter,ifs,0⟩] scope pos) 0 (.ref it) (.ref s.heap.objs.size) (Ucd scope (Ze5 X.env scope.names []) hp3.objs.size X.env)).onRaise (fun x=>do noteFrame x (Ucd scope (Ze5 X.env scope.names []) hp3.objs.size X.env); theTreesLotGoes x)) _ _ s'
  refine wpAny_noted ?_
  rw[compTurn_list,<- eEnv,<- ePr,<- eW,<- eA]
  refine Ube (E:=fun _ _=>False) ?_ (fun _ _ q=>q) (fun _ _ z=>z.elim)
  obtain⟨hpl,wt⟩:=turn i n ys H' w5
  refine Va (Ubx (Va ?_))
  rcases wt with ⟨stop,q⟩ | ⟨go,step⟩
  ·have z:=T.done X' ePr eW eK (by rw[<- hX']; exact hc) i [] s' _ H' (fun _ _=>False) I5 (stat fr5) st5 stop
   rw[<- ePr,<- eW] at z
   refine thn z fun r s6 zz=>?_
   obtain⟨hr,I6⟩:=zz
   subst hr
   obtain⟨J1,g1⟩:=back I6
   exact Vc (hRR _ _ H' s6 J1 g1 q)
  ·have z:=T.item X' ePr eW eK (by rw[<- hX']; exact hc) i [] s' _ H' (fun _ _=>False) I5 (stat fr5) st5 go
   rw[<- ePr,<- eW] at z
   refine thn z fun r s6 zz=>?_
   obtain⟨u,hr,h6⟩:=zz
   subst hr
   refine Va (thn h6 fun _ s7 zz=>?_)
   obtain⟨v,H7,I7,r7,y7,st7,fr7⟩:=zz
   have I7':=I7.pinned (stat fr7) (T.obj _ _ st7)
   rw[<- eXe]
   refine Va (thn (hg' _ s7 _ H7 v u _ I7' r7 (show Zhp 0 v (o::Zgh ci σ) H7 (fun σ8 H8=>σ8=some v::Zgh ci σ/\H8=H7) from⟨rfl,rfl⟩)) fun _ s8 zz=>?_)
   obtain⟨σ8,H8,I8,e8,e8'⟩:=zz
   subst e8 e8'
   refine Va (thn (ht' _ s8 _ _ _ I8 (step v _ y7)) fun b s9 zz=>?_)
   obtain⟨H9,I9,q9⟩:=zz
   have tnK:∀ {σ':L2.St} {H':Hp} {s':Vd},Inv X' (([]:List (Vg×Obj))++Zhc fp s7.heap) σ' H' s'->tn (i+1) s'.heap/\∀ b∈fp,H' b=none:=fun {σ' H' s'} I' =>
    ⟨T.keep _ _ _ st7 fun b hb o e=>(I'.pin (b,o) (Xu _ (Xu _ (Zbx hb e)))).1,fun b hb=>by
     obtain⟨ob,e,d⟩:=T.obj _ _ st7 b hb
     exact(I'.pin (b,ob) (Xu _ (Xu _ (Zbx hb e)))).2.1⟩
   cases b with
   | false =>
    obtain⟨m',hm,w9⟩:=q9
    obtain⟨t9,f9⟩:=tnK I9
    exact Vc ⟨rfl,m',hm,i+1,_,ys,H9,I9.unpinned,t9,f9,w9⟩
   | true =>
    refine Va (Va (thn (he' _ s9 _ _ _ I9 q9) fun yv s10 zz=>?_))
    obtain⟨y,H10,I10,r10,hp10,hz10,m',hm,w10⟩:=zz
    refine Va (thn (Zf7 (X:=X') _ s10 _ H10 (.ref s.heap.objs.size) [y] (.ref s.heap.objs.size) [yv] (fun _ H11=>H11=upd H10 s.heap.objs.size (.lst (ys++[y]))) I10 rfl (.cons r10 .nil) ⟨_,ys,y,rfl,rfl,hp10,hz10,rfl⟩) fun _ s11 zz=>?_)
    obtain⟨_,H11,I11,_,e11⟩:=zz
    subst e11
    obtain⟨t11,f11⟩:=tnK I11
    exact Vc (Vc ⟨rfl,m',hm,i+1,_,ys++[y],_,I11.unpinned,t11,f11,w10⟩)
 exact Ucv loop (T.self _ 0 _ _ _ (T.keep _ _ _ st (fun b hb o e=>old4 b o (old3 b o e))) loop)
nonrec def tLC (wi:TI) (ci:List Nat) (tt:TT) (te:TE):TE:=fun σ H Q=>wi σ H fun J H1=>LcW J ci tt te σ Q H1
theorem pe_lc {elt iter:Uac} {px pos:Pos} {ifs:List Uac} {wi:TI} {tt:TT} {te:TE} (hc:X.calm=true) (B:BlkOk X scope x cn ci) (hi:PI X (.Name x px) iter wi)
  (ht:∀ cl C s H fp pn,PTs (blk X scope (x::cn) cl C s H fp pn) ifs tt) (he:∀ cl C s H fp pn,PE (blk X scope (x::cn) cl C s H fp pn) elt te)
  (hs:∀ x,Uae iter X.env x=pure x:=by rintro _; rfl):PE X (.ListComp elt [⟨.Name x px,iter,ifs,0⟩] scope pos) (tLC wi ci tt te):=by
 intro pins s σ H Q I h
 rw[eval_ListComp]
 refine Ubf (use:=none) rfl hs (Zew X.env scope B.free) B.kind B.names ?_
 refine thn (hi pins s σ H _ I h) fun v s1 h1=>thn h1 fun itv s2 h2=>?_
 obtain⟨it,fp,tn,J,H2,e,I2,T,st2,f2,w2⟩:=h2
 subst e
 refine Zks (RR:=fun acc C=>compPost (Vj X.prog X.w) X.A X.xe none (EP X pins σ Q) acc C) I2 hc B T st2 f2 ht he w2 fun p C H' s' I' g q=>?_
 obtain⟨m,hn⟩:=g.ns
 exact⟨m,hn,fun h' hs'=>⟨.ref p,H',g.go I' hs',rfl,q⟩⟩
theorem Zrd {elt iter:Uac} {px py pos spos:Pos} {ifs:List Uac} {wi:TI} {tt:TT} {te:TE} {i:Nat} {y:Str} (hc:X.calm=true) (B:BlkOk X scope x cn ci) (hi:PI X (.Name x px) iter wi)
  (ht:∀ cl C s H fp pn,PTs (blk X scope (x::cn) cl C s H fp pn) ifs tt) (he:∀ cl C s H fp pn,PE (blk X scope (x::cn) cl C s H fp pn) elt te)
  (hN:X.N.Nodup) (hiN:X.N[i]? = some y) (hy:X.env.scope.names.lookup y=some .local)
  (hsw:Ucz (.ListComp elt [⟨.Name x px,iter,ifs,0⟩] scope pos) (some (.Name y py)) spos.line X.env=pure true:=by rfl)
  (hs:∀ x,Uae iter X.env x=pure x:=by rintro _; rfl):PS X (.Assign [.Name y py] (.ListComp elt [⟨.Name x px,iter,ifs,0⟩] scope pos) spos) (tAsg (tLC wi ci tt te) (Zhp i)):=by
 intro pins s σ H E I h
 rw[exec_Assign_Name_used _ _ _ _ hsw]
 refine Va (Ubx (Va ?_))
 show Vf _ X.A (do let _<-comprehension (.ListComp elt [⟨.Name x px,iter,ifs,0⟩] scope pos) scope X.env _ (newList []) false (eval iter X.env) (some (Udm (.Name y py) X.env))) _ _ s
 refine Va (Ube (Ubf (use:=some (Udm (.Name y py) X.env)) (Q:=fun _ s'=>SP X pins E .next s') rfl hs (Zew X.env scope B.free) B.kind B.names ?_) (fun _ s' hq=>Vc (Vc hq)) fun _ _ e=>e)
 refine thn (hi pins s σ H _ I h) fun v s1 h1=>thn h1 fun itv s2 h2=>?_
 obtain⟨it,fp,tn,J,H2,e,I2,T,st2,f2,w2⟩:=h2
 subst e
 refine Zks (RR:=fun acc C=>compPost (Vj X.prog X.w) X.A X.xe (some (Udm (.Name y py) X.env)) (fun _ s'=>SP X pins E .next s') acc C) I2 hc B T st2 f2 ht he w2 fun p C H' s' I' g q=>?_
 show Vf _ X.A (Udm (.Name y py) X.env (.ref p)) _ _ _
 have hk:X.env.kindOf y=some .local:=hy
 refine wpAny_assign_Name (Zh6 I' hN hiN (.inl hy) (v:=.ref p) (u:=.ref p) rfl (fun s'' I'' ch=>?_) (.inr hy))
 obtain⟨m,hn⟩:=g.ns
 obtain⟨a,hsb,ha⟩:=ch
 have haC:C≠a:=by
  rcases ha with ha | ha
  ·rw[ha]; exact g.nl
  ·exact Uf (g.nc y a ha)
 have hn2:s''.heap.Ns C m:=hn.sameBut hsb haC
 exact⟨m,hn2,fun h' hs'=>⟨_,H',Gone.go ⟨⟨m,hn2⟩,g.free,g.nl,g.up,g.nc,g.np⟩ I'' hs',q⟩⟩
end
nonrec def Zpu (ci:List Nat) (σd:SD):SD:=ci.map fun i=>(σd[i]?).join
open Classical in
nonrec def Zdj (own:Zem) (c0:SD) (tt:TF) (te:EF):List D->HD->Option (List D×HD)
 | [],H=>if Zbn own H then some ([],H) else none
 | x::r,H=>if Zbn own H then (tt (some x::c0) H).bind fun t=>if t.1=true then (te (some x::c0) t.2).bind fun e=>(Zdj own c0 tt te r e.2).map fun q=>(e.1::q.1,q.2) else Zdj own c0 tt te r t.2 else none
nonrec def eLC (it:ItF) (ci:List Nat) (tt:TF) (te:EF):EF:=fun σ H=>(it σ H).bind fun p=>(Zdj p.1.2 (Zpu ci σ) tt te p.1.1 p.2).bind fun q=>mkL q.1 q.2
nonrec def Zjj:TF:=fun _ H=>some (true,H)
def Zwn (X:Cx) (ifs:List Uac) (t:TF):Prop:=PTs X ifs (rdT X.K t)
section
variable {X:Cx} {scope:Ucf} {x:Str} {cn:List Str} {ci:List Nat}
theorem Zqq:Zwn X [] Zjj:=by
 rintro pins s σ H Q I ⟨ι,σd,Hd,b,Hd',sr,hr,e,q⟩
 cases e
 exact Zs2 pins s σ H Q I (q H ι Le.refl hr)
theorem Zk5 {c:Uac} {t:TF} (h:PTf X c t):Zwn X [c] t:=Ztu h
theorem SRep.cap {K:Xb} {H:Hp} {ι:List Vg} {σ:L2.St} {σd:SD} {d:D} {v:V} (s:SRep K H ι σ σd) (r:Rep K H ι d v):SRep K H ι (some v::Zgh ci σ) (some d::Zpu ci σd):=by
 refine⟨by simp[Zgh,Zpu],fun i e h=>?_⟩
 cases i with
 | zero=>simp at h; subst h; exact⟨v,rfl,r⟩
 | succ j =>
  simp only[Wcd,Zgh,Zpu,Wah] at h ⊢
  cases ej:ci[j]? with
  | none=>rw[ej] at h; simp at h
  | some i =>
   rw[ej] at h
   simp only[Option.map_some,Waa.injEq] at h ⊢
   cases es:σd[i]? with
   | none=>rw[es] at h; simp at h
   | some o =>
    rw[es] at h
    simp at h
    subst h
    obtain⟨u,h1,h2⟩:=s.var i e es
    exact⟨u,by rw[h1]; rfl,h2⟩
nonrec abbrev LcI (K:Xb) (H0:Hp) (ι0:List Vg) (p:Vg) (cp:List D->HD->Option (List D×HD)) (xs ds:List D) (H2:HD) (i m:Nat) (ys:List V) (H:Hp):Prop:=m=xs.length - i/\i<=xs.length/\H p=some (.lst ys)/\∃ ι Hd done rest,Le K H0 ι0 H ι/\p∉ι/\HRep K H ι Hd/\Vm (Rep K H ι) done ys/\cp (xs.drop i) Hd=some (rest,H2)/\ds=done++rest
theorem Zwe {K:Xb} {it:ItF} {tt:TF} {te:EF} {σ:L2.St} {H:Hp} {Q:VK} (h:rdE K (eLC it ci tt te) σ H Q):tLC (rdI K it) ci (rdT K tt) (rdE K te) σ H Q:=by
 obtain⟨ι,σd,Hd,d,Hd',s,hr,e,q⟩:=h
 obtain⟨⟨⟨xs,own⟩,H1⟩,e1,e⟩:=Zo e
 obtain⟨⟨ds,H2⟩,e2,e⟩:=Zo e
 obtain⟨hz,e⟩:=Zht e
 cases e
 dsimp only at e2 hz
 refine⟨ι,σd,Hd,xs,own,H1,s,hr,e1,fun J H0 ι0 l0 h0 itr p hp=>?_⟩
 have s0:=s.mono l0
 refine⟨LcI K H0 ι0 p (Zdj own (Zpu ci σd) tt te) xs ds H2,
  ⟨xs.length,by simp,Wbx _,Zas,ι0,H1,[],ds,Le.fresh hp _,h0.fresh hp,h0.tup hp _,.nil,by simpa using e2,by simp⟩,?_⟩
 rintro i m ys H5 ⟨rfl,hi,hpl,ι5,Hd5,done,rest,l5,np5,h5,pd5,e5,eds⟩
 refine⟨hpl,?_⟩
 by_cases hlt:i<xs.length
 ·have ed:xs.drop i=xs[i]::xs.drop (i+1):=Waj hlt
  rw[ed,Zdj] at e5
  split at e5
  ·rename_i ok
   obtain⟨⟨b6,H6⟩,e6,e5⟩:=Zo e5
   refine .inr ⟨itr.go i H5 ι5 Hd5 l5 h5 ok hlt,fun v H' y=>?_⟩
   obtain⟨ι6,l6,h6,r6⟩:=itr.yld i H5 ι5 Hd5 xs[i] v H' l5 h5 ok (by simp[hlt]) y
   obtain⟨hp6,np6⟩:=l6.frame p _ hpl np5
   have s6:=SRep.cap (ci:=ci) (s0.mono (l5.trans l6)) r6
   refine⟨ι6,_,Hd5,b6,H6,s6,h6,e6,fun H7 ι7 l7 h7=>?_⟩
   obtain⟨hp7,np7⟩:=l7.frame p _ hp6 np6
   have L7:=(l5.trans l6).trans l7
   cases b6 with
   | true =>
    rw[if_pos rfl]
    dsimp only at e5
    rw[if_pos rfl] at e5
    obtain⟨⟨d8,H8⟩,e8,e5⟩:=Zo e5
    obtain⟨⟨r9,H9⟩,e9,e5⟩:=Zm e5
    cases e5
    refine⟨ι7,_,H6,d8,H8,s6.mono l7,h7,e8,fun v8 H8' ι8 l8 h8 rr8=>?_⟩
    obtain⟨hp8,np8⟩:=l8.frame p _ hp7 np7
    have ly:ys.length<sizeLine:=by
     rw[<- Prd.len pd5]
     rw[eds] at hz
     simp at hz
     omega
    have w8:Lw K H8' ι8 (upd H8' p (.lst (ys++[v8]))) ι8:=Lw.side hp8 _
    refine⟨hp8,ly,xs.length - (i+1),by omega,rfl,hlt,Zas,ι8,H8,done++[d8],r9,(L7.trans l8).side hp hp8 _,np8,h8.keep w8 (fun a ha=>Zaf fun z=>by subst z; exact np8 ha),?_,e9,by rw[eds]; simp⟩
    exact Prd.append (Prd.monoW w8 (Prd.mono ((l6.trans l7).trans l8) pd5)) (.cons (Rep.monoW w8 rr8) .nil)
   | false =>
    rw[if_neg (by simp)]
    dsimp only at e5
    rw[if_neg (by simp)] at e5
    exact⟨xs.length - (i+1),by omega,rfl,hlt,hp7,ι7,H6,done,rest,L7,np7,h7,Prd.mono (l6.trans l7) pd5,e5,eds⟩
  ·cases e5
 ·rw[Wcf (by omega),Zdj] at e5
  split at e5
  ·rename_i ok
   have e6:(([]:List D),Hd5)=(rest,H2):=Waa.inj e5
   obtain⟨rfl,rfl⟩:=Wbh.inj e6
   refine .inl ⟨itr.stop i H5 ι5 _ l5 h5 ok (by omega),?_⟩
   have w5:Lw K H5 ι5 H5 (ι5++[p]):=⟨fun _ _ z=>z,fun _ _ z=>z,⟨[p],rfl⟩,fun _ _ _ z=>z⟩
   have L:=l0.trans l5
   simp at eds
   subst eds
   refine q _ H5 (ι5++[p]) ⟨L.toLw.trans w5,fun a o ha na=>?_⟩ (h5.add np5 ⟨ys,hpl,Prd.monoW w5 pd5⟩) (Zao.mpr ⟨p,rfl,by rw[<- h5.len]; simp⟩)
   obtain⟨q1,q2⟩:=L.frame a o ha na
   refine⟨q1,?_⟩
   have:a≠p:=fun z=>by
    subst z
    have:=(l0.frame a o ha na).1
    rw[hp] at this; cases this
   simp[q2,this]
  ·cases e5
theorem Ze2 {elt iter:Uac} {px pos:Pos} {ifs:List Uac} {it:ItF} {tt:TF} {te:EF} (hc:X.calm=true) (B:BlkOk X scope x cn ci) (hi:PIf X (.Name x px) iter it)
  (ht:∀ cl C s H fp pn,Zwn (blk X scope (x::cn) cl C s H fp pn) ifs tt) (he:∀ cl C s H fp pn,PEf (blk X scope (x::cn) cl C s H fp pn) elt te)
  (hs:∀ x,Uae iter X.env x=pure x:=by rintro _; rfl):PEf X (.ListComp elt [⟨.Name x px,iter,ifs,0⟩] scope pos) (eLC it ci tt te) :=
 PEi (pe_lc (tt:=rdT X.K tt) (te:=rdE X.K te) hc B hi ht he hs) fun _ _ _ h=>Zwe h
theorem Zin {elt iter:Uac} {px py pos spos:Pos} {ifs:List Uac} {it:ItF} {tt:TF} {te:EF} {i:Nat} {y:Str} (hc:X.calm=true) (B:BlkOk X scope x cn ci) (hi:PIf X (.Name x px) iter it)
  (ht:∀ cl C s H fp pn,Zwn (blk X scope (x::cn) cl C s H fp pn) ifs tt) (he:∀ cl C s H fp pn,PEf (blk X scope (x::cn) cl C s H fp pn) elt te)
  (hN:X.N.Nodup) (hiN:X.N[i]? = some y) (hy:X.env.scope.names.lookup y=some .local)
  (hsw:Ucz (.ListComp elt [⟨.Name x px,iter,ifs,0⟩] scope pos) (some (.Name y py)) spos.line X.env=pure true:=by rfl)
  (hs:∀ x,Uae iter X.env x=pure x:=by rintro _; rfl):PSf X (.Assign [.Name y py] (.ListComp elt [⟨.Name x px,iter,ifs,0⟩] scope pos) spos) (Za6 i (eLC it ci tt te)):=by
 refine PSi (Zrd (tt:=rdT X.K tt) (te:=rdE X.K te) hc B hi ht he hN hiN hy hsw hs) fun E σ H zz=>?_
 obtain⟨ι,σd,Hd,fl,σd',Hd',s,hr,e,q⟩:=zz
 obtain⟨⟨x,H1⟩,e1,e⟩:=Zm e
 cases e
 exact Zwe ⟨ι,σd,Hd,x,H1,s,hr,e1,fun v H' ι' l h r=>q _ H' ι' l h ((s.mono l).set r i)⟩
end
theorem Zs1:fillsNumberSlot (.type "tuple") "mul" = pure false :=
 PySem.fillsNumberSlot_seq (id := "tuple.__mul__") (r:=some (.builtin "tuple.__rmul__")) Tak.lookup (by decide +kernel) F.slot_tuple_rmul.lookup (by decide +kernel)
theorem repT:seqRepeat? (.type "tuple")=pure (some (.builtin "tuple.__mul__")):=by
 unfold seqRepeat?
 rw[Tcy (T := "tuple") (name := "__mul__") (id := "tuple.__mul__") Tak.lookup (by decide +kernel),Tcy (T := "tuple") (name := "__rmul__") (id := "tuple.__rmul__") F.slot_tuple_rmul.lookup (by decide +kernel)]
 rfl
section
variable {dd:Option Vg} {sl:Array (Option Vb)}
theorem rmulT (a:Int) (t:Tok) (l:Vg) (items:Array Vb) (n:Nat) :
  Uec (Builtin.«int.__rmul__» ⟨[.int a t,.ref l],[]⟩) (fun _ R s=>s.heap.get? l=some { cls:=.type "tuple",dict:=dd,data:=.seq items n,slots:=sl }/\R (.ok (.ret Tcf)) s) :=
 .of_wp fun prog w A R s h=>by obtain⟨hp,g,d,tk,os⟩:=s; obtain⟨hl,h⟩:=h; wp_walk; exact⟨_,rfl,h⟩
theorem Zpf (l:Vg) (items:Array Vb) (n:Nat) (x:Int) (u:Tok) (h1:(decide (x < -(2 ^ 63))||decide (x ≥ 2 ^ 63))=false) (h2:(items.isEmpty||x==1)=true) :
  Uec (Builtin.«tuple.__mul__» ⟨[.ref l,.int x u],[]⟩) (fun _ R s=>s.heap.get? l=some { cls:=.type "tuple",dict:=dd,data:=.seq items n,slots:=sl }/\R (.ok (.ret (.ref l))) s) :=
 .of_wp fun prog w A R s h=>by
  obtain⟨hp,g,d,tk,os⟩:=s; obtain⟨hl,h⟩:=h
  have f1:=Tbu
  wp_walk
  simp only[h1,Xr,if_false]
  wp_walk using Vq hl
  simp only[h2,if_true]
  wp_walk using Vq hl
  exact⟨_,rfl,h⟩
theorem Znp (l:Vg) (items:Array Vb) (n:Nat) (x:Int) (u:Tok) (h1:(decide (x < -(2 ^ 63))||decide (x ≥ 2 ^ 63))=false) (h2:(items.isEmpty||x==1)=false) (h3:(decide (x<=0)||items.isEmpty)=true) :
  Uec (Builtin.«tuple.__mul__» ⟨[.ref l,.int x u],[]⟩) (fun _ R s=>s.heap.get? l=some { cls:=.type "tuple",dict:=dd,data:=.seq items n,slots:=sl }/\R (.ok (.ret (.ref s.heap.objs.size))) { s with heap:=s.heap.push { cls:=Ul "tuple",data:=Data.seq #[] } }) :=
 .of_wp fun prog w A R s h=>by
  obtain⟨hp,g,d,tk,os⟩:=s; obtain⟨hl,h⟩:=h
  have f1:=Tbu
  wp_walk
  simp only[h1,Xr,if_false]
  wp_walk using Vq hl
  try simp only[h2,h3,Xr,if_false,if_true]
  try (wp_walk using Vq hl)
  exact⟨_,rfl,h⟩
theorem Zpz (l:Vg) (items:Array Vb) (n:Nat) (x:Int) (u:Tok) (h1:(decide (x < -(2 ^ 63))||decide (x ≥ 2 ^ 63))=false) (h2:(items.isEmpty||x==1)=false) (h3:(decide (x<=0)||items.isEmpty)=false) (h4:¬ (items.size*x:Int) > (2 ^ 63 - 1) / 8) (h5:Tbi (items.size*x)=false)
  (hs:(Wdc (fun x1 x2=>x1++x2) #[] (Xk x.toNat items)).size<=sizeLine) :
  Uec (Builtin.«tuple.__mul__» ⟨[.ref l,.int x u],[]⟩) (fun _ R s=>s.heap.get? l=some { cls:=.type "tuple",dict:=dd,data:=.seq items n,slots:=sl }/\R (.ok (.ret (.ref s.heap.objs.size))) { s with heap:=s.heap.push { cls:=Ul "tuple",data:=Data.seq (Wdc (fun x1 x2=>x1++x2) #[] (Xk x.toNat items)) } }) :=
 .of_wp fun prog w A R s h=>by
  obtain⟨hp,g,d,tk,os⟩:=s; obtain⟨hl,h⟩:=h
  have f1:=Tbu
  wp_walk
  simp only[h1,Xr,if_false]
  wp_walk using Vq hl
  simp only[h2,h3,h5,Xr,if_false,if_neg h4]
  wp_walk using Vq hl
  exact⟨_,rfl,h⟩
end
theorem Zhb (its:List Vb) (m:Nat):Wdc (fun x1 x2=>x1++x2) #[] (Xk m its.toArray)=(Xk m its).flatten.toArray:=by
 have:=Zgf its m []
 rw[Wbr] at this
 exact this
section
variable {prog:Vl} {w:Vt} {A:Vu} {E:Vb->Vd->Prop} {s:Vd}
theorem Zup {l:Vg} {its:List Vb} {k:Int} {t:Tok} {Q:Vb->Vd->Prop} (p:Ucw s.heap l its.toArray) (h1 : -(2 ^ 63)<=k) (h2:k<2 ^ 63) (hz:its.length*k.toNat<=sizeLine)
  (qs:(its=[]\/k=1)->Q (.ref l) s) (qn:its≠[]->k≠1->Q (.ref s.heap.objs.size) { s with heap:=s.heap.push { cls:=.type "tuple",data:=.seq (Xk k.toNat its).flatten.toArray } }) :
  Vf (Vj prog w) A (Uaf .Mult (.ref l) (.int k t)) Q E s:=by
 obtain⟨o,e,hc,n,hd⟩:=p
 obtain⟨c,dd,da,sl⟩:=o
 have hc':c=.type "tuple" := hc
 have hd':da=.seq its.toArray n:=hd
 subst hc' hd'
 have b1:(decide (k < -(2 ^ 63))||decide (k ≥ 2 ^ 63))=false:=by simp; omega
 refine Ucg (T := "tuple") (U := "int") (by decide) ⟨_,e,rfl⟩ (fun s'=>Udh s' k t) Zs1 F.fills_int_mul Tbd repT F.slot_int_index.lookup
  (Uas Tbd (Udh s k t) F.entry_int_rmul (Tcs _ _) (rmulT k t l its.toArray n) ⟨e,rfl,⟨_,e,rfl⟩,?_⟩)
 by_cases hs:its=[]\/k=1
 ·exact Uas Tak ⟨_,e,rfl⟩ Tbm (Tbk _ _) (Zpf l its.toArray n k t b1 (by rcases hs with h | h<;>simp[h])) ⟨e,qs hs⟩
 ·have hne:its≠[]:=fun h=>hs (.inl h)
  have hk:k≠1:=fun h=>hs (.inr h)
  have b2:(its.toArray.isEmpty||k==1)=false:=by cases its<;>simp_all
  have new:=qn hne hk
  by_cases h0:k<=0
  ·have z:k.toNat=0:=by omega
   rw[z] at new
   exact Uas Tak ⟨_,e,rfl⟩ Tbm (Tbk _ _) (Znp l its.toArray n k t b1 b2 (by simp[h0])) ⟨e,new⟩
  ·have sz:sizeLine=16777216:=Uk
   have hm:(its.toArray.size:Int)*k<=16777216:=by
    have e1:k=(k.toNat:Int):=by omega
    rw[Xj,e1,<- Int.natCast_mul]
    omega
   have b3:(decide (k<=0)||its.toArray.isEmpty)=false:=by cases its<;>simp_all
   refine Uas Tak ⟨_,e,rfl⟩ Tbm (Tbk _ _) (Zpz l its.toArray n k t b1 b2 b3 (by omega) (by simp only[Tbi,decide_eq_false_iff_not,sz]; omega) ?_) ⟨e,?_⟩
   ·rw[Zhb,Xj,Zj3,Wey]; exact hz
   ·rw[Zhb]; exact new
end
variable {X:Cx}
nonrec def rRepT (K:Xb):R2:=fun x y H Q=>∃ l k xs,x=.ref l/\y=.int k/\SqT K H l xs /\ -(2 ^ 63)<=k/\k<2 ^ 63/\xs.length*k.toNat<=sizeLine/\((xs=[]\/k=1)->Q (.ref l) H) /\
 (xs≠[]->k≠1->∀ p,H p=none->Q (.ref p) (upd H p (.tup (Xk k.toNat xs).flatten)))
theorem Zum:OpR X (Uaf .Mult) (rRepT X.K):=by
 intro pins s σ H x y v u Q I rx ry h
 obtain⟨l,k,xs,rfl,rfl,ha,h1,h2,hz,q1,q2⟩:=h
 cases rx
 obtain⟨t,rfl⟩:=ry
 obtain⟨its,r1,p1,_⟩:=I.tuple ha
 refine Zup p1 h1 h2 (by rw[<- r1.length]; exact hz) (fun z=>⟨.ref l,H,I,rfl,q1 (z.imp r1.nil_iff.mp id)⟩) (fun z zk=>?_)
 refine⟨.ref s.heap.objs.size,_,I.laid (t':=s.toks) (o:=.tup (Xk k.toNat xs).flatten) (fun b ob q=>Xa _ q) (Xf _) ?_,rfl,q2 (fun w=>z (r1.nil_iff.mpr w)) zk _ (I.hok.fresh (Xf _))⟩
 exact⟨by rw[Zj3,Wey]; exact hz,_,r1.rep k.toNat,Zh0.new _ _⟩
section
variable {X:Cx}
nonrec def iiD (C:Int->Int->Prop) [∀ i j,Decidable (C i j)] (g:Int->Int->D):F2:=fun x y H=>match x,y with
 | .int i,.int j=>if C i j then some (g i j,H) else none
 | _,_=>none
theorem Zlb {f:Vb->Vb->Sem Vb} {C:Int->Int->Prop} [∀ i j,Decidable (C i j)] {g:Int->Int->Int} (h:OpR X f (rI C fun i j=>.int (g i j))):OpF X f (iiD C fun i j=>.int (g i j)):=by
 refine OpRi h fun x y H Q zz=>?_
 obtain⟨ι,dx,dy,Hd,d,Hd',hr,r1,r2,e,q⟩:=zz
 cases dx<;>cases dy<;>simp only[iiD] at e<;>try cases e
 rename_i i j
 split at e
 ·rename_i hc
  cases e
  simp at r1 r2
  exact⟨i,j,r1,r2,hc,q _ H ι Le.refl hr (by simp)⟩
 ·cases e
def CT (_ _:Int):Prop:=True
instance:∀ i j,Decidable (CT i j):=fun _ _=>instDecidableTrue
theorem Zv2 {f:Vb->Vb->Sem Vb} {g:Int->Int->V} (h:OpR X f (rI0 g)):OpR X f (rI CT g):=OpRi h fun x y H Q ⟨i,j,e1,e2,_,q⟩=>⟨i,j,e1,e2,q⟩
theorem Zn0 {f:Vb->Vb->Sem Vb} {g:Int->Int->Bool} (h:OpR X f (rI0 fun i j=>.bl (g i j))):OpF X f (iiD CT fun i j=>.bl (g i j)):=by
 refine OpRi h fun x y H Q zz=>?_
 obtain⟨ι,dx,dy,Hd,d,Hd',hr,r1,r2,e,q⟩:=zz
 cases dx<;>cases dy<;>simp only[iiD] at e<;>try cases e
 rename_i i j
 simp at r1 r2
 exact⟨i,j,r1,r2,q _ H ι Le.refl hr (by simp)⟩
instance (i j:Int):Decidable (Zxn i j):=by unfold Zxn; exact inferInstance
instance (i j:Int):Decidable (Zrx i j):=by unfold Zrx; exact inferInstance
instance (i j:Int):Decidable (Zxr i j):=by unfold Zxr; exact inferInstance
def Zyi (_ j:Int):Prop:=0<j
instance (i j:Int):Decidable (Zyi i j):=by unfold Zyi; exact inferInstance
nonrec def Zkl:F2:=iiD CT fun i j=>.int (i - j)
nonrec def Ziw:F2:=iiD Zxn fun i j=>.int (i / j)
nonrec def Zd4:F2:=iiD Zyi fun i j=>.int (i % j)
nonrec def Zvb:F2:=iiD Zxr fun i j=>.int (i ^ j.toNat)
nonrec def ltD:F2:=iiD CT fun i j=>.bl (decide (i<j))
nonrec def gtD:F2:=iiD CT fun i j=>.bl (decide (j<i))
nonrec def geD:F2:=iiD CT fun i j=>.bl (decide (j<=i))
theorem Zdr:OpF X (Uaf .Sub) Zkl:=Zlb (Zv2 Zwt)
theorem Zd5:OpF X (Uaf .FloorDiv) Ziw:=Zlb Ztk
theorem Zco:OpF X (Uaf .Mod) Zd4:=Zlb (C:=Zyi) Zx2
theorem Zj4:OpF X (Uaf .Pow) Zvb:=Zlb Zxz
theorem Zop:OpF X (Uah .Lt) ltD:=Zn0 op_lt
theorem Zfw:OpF X (Uah .Gt) gtD:=Zn0 op_gt
theorem Zxm:OpF X (Uah .GtE) geD:=Zn0 op_ge
nonrec def Zr4:D->HD->Option (D×HD):=fun x H=>match x with
 | .int i=>some (.int (-i),H)
 | _=>none
theorem Zj8:UnF X (unaryOp .USub) Zr4:=by
 rintro pins s σ H x v Q I rx ⟨ι,dx,Hd,d,Hd',hr,r1,e,q⟩
 cases dx<;>simp only[Zr4] at e<;>try cases e
 simp at r1
 exact Zx7 pins s σ H x v Q I rx ⟨_,r1,q _ H ι Le.refl hr (by simp)⟩
theorem Zrr {prog:Vl} {w:Vt} {A:Vu} {E:Vb->Vd->Prop} {s:Vd} {t b:Vg} {ws:List Vb} {Q:Vb->Vd->Prop} (ht:Ucw s.heap t #[]) (hb:Ucw s.heap b ws.toArray)
  (h1:Q (.ref b) s):Vf (Vj prog w) A (Uaf .Add (.ref t) (.ref b)) Q E s:=by
 obtain⟨⟨cls,dd,data,sl⟩,ho,hc,n,hd⟩:=id ht
 obtain⟨⟨cls2,dd2,data2,sl2⟩,ho2,hc2,n2,hd2⟩:=id hb
 simp only at hc hd hc2 hd2
 subst hc hd hc2 hd2
 exact Uea ⟨_,ho,rfl⟩ ⟨_,ho2,rfl⟩ Ucs Udu Tar Tao (Tal _ _)
   (tuple_addW0 t b #[] ws.toArray n n2 dd dd2 sl sl2 (by simp)) ⟨ho,ho2,h1⟩
nonrec def Zb4:F2:=fun x y H=>match x,y with
 | .int i,.int j=>some (.int (i+j),H)
 | .str a,.str b=>if a.length+b.length<=sizeLine then some (.str (a++b),H) else none
 | .tup a,.tup b=>mkT (a++b) H
 | .ref n,.ref m=>match H[n]?,H[m]? with
  | some (.lst a),some (.lst b)=>mkL (a++b) H
  | _,_=>none
 | _,_=>none
theorem Zav:OpF X (Uaf .Add) Zb4:=by
 rintro pins s σ H x y v u Q I rx ry ⟨ι,dx,dy,Hd,d,Hd',hr,r1,r2,e,q⟩
 cases dx<;>cases dy<;>simp only[Zb4] at e<;>try cases e
 ·simp at r1 r2
  exact Zvz pins s σ H x y v u Q I rx ry ⟨_,_,r1,r2,q _ H ι Le.refl hr (by simp)⟩
 ·simp at r1 r2
  split at e
  ·rename_i hl
   cases e
   exact Zma pins s σ H x y v u Q I rx ry ⟨_,_,r1,r2,hl,q _ H ι Le.refl hr (by simp)⟩
  ·cases e
 ·rename_i as bs
  obtain⟨a,vs,rfl,h1,p1⟩:=Zan.mp r1
  obtain⟨b,ws,rfl,h2,p2⟩:=Zan.mp r2
  cases p1 with
  | nil =>
   obtain⟨hl,e⟩:=Zfe e
   simp only[Wbr,Wbh.injEq] at e
   obtain⟨rfl,rfl⟩:=e
   cases rx
   cases ry
   obtain⟨its,q1,t1,_⟩:=I.tuple h1
   obtain⟨its2,q2,t2,_⟩:=I.tuple h2
   cases q1
   exact Zrr t1 t2 ⟨.ref b,H,I,rfl,q _ H ι Le.refl hr r2⟩
  | cons p p' =>
   have P:=Prd.append (.cons p p') p2
   obtain⟨hl,e'⟩:=Zfe e
   cases p2 with
   | nil =>
    simp only[Xn,Wbh.injEq] at e'
    obtain⟨rfl,rfl⟩:=e'
    refine Zoe pins s σ H _ _ v u Q I rx ry ⟨a,b,_,_,rfl,rfl,h1,h2,by simp,?_,fun _=>q _ H ι Le.refl hr r1,fun z=>absurd rfl z⟩
    have:=Prd.len P
    simp only[Xn] at this hl
    simp only[Wbk]
    omega
   | cons p3 p4 =>
    obtain⟨k1,k2⟩:=Zfu hr P e q
    refine Zoe pins s σ H _ _ v u Q I rx ry ⟨a,b,_,_,rfl,rfl,h1,h2,by simp,?_,fun z=>absurd z (by simp),fun _=>k2⟩
    rw[<- Xp]; exact k1
 ·rename_i n m
  obtain⟨a,rfl,ha⟩:=Zao.mp r1
  obtain⟨b,rfl,hb⟩:=Zao.mp r2
  split at e
  ·rename_i as bs e1 e2
   obtain⟨vs,h1,p1⟩:=hr.obj n a _ ha e1
   obtain⟨ws,h2,p2⟩:=hr.obj m b _ hb e2
   obtain⟨k1,k2⟩:=Zgc hr (Prd.append p1 p2) e q
   exact Zxu pins s σ H _ _ v u Q I rx ry ⟨a,b,vs,ws,rfl,rfl,h1,h2,by rw[<- Xp]; exact k1,k2⟩
  ·cases e
nonrec def Zh3:F2:=fun x y H=>match x,y with
 | .int i,.int j=>if Zrx i j then some (.int (i*j),H) else none
 | .ref n,.int k=>match H[n]? with
  | some (.lst a)=>if -(2 ^ 63)<=k/\k<2 ^ 63/\a.length*k.toNat<=sizeLine then mkL (Xk k.toNat a).flatten H else none
  | _=>none
 | .tup a,.int k=>if -(2 ^ 63)<=k/\k<2 ^ 63/\a.length*k.toNat<=sizeLine then mkT (Xk k.toNat a).flatten H else none
 | _,_=>none
theorem Zdz:OpF X (Uaf .Mult) Zh3:=by
 rintro pins s σ H x y v u Q I rx ry ⟨ι,dx,dy,Hd,d,Hd',hr,r1,r2,e,q⟩
 cases dx<;>cases dy<;>simp only[Zh3] at e<;>try cases e
 ·simp at r1 r2
  split at e
  ·rename_i hc
   cases e
   exact Zvm pins s σ H x y v u Q I rx ry ⟨_,_,r1,r2,hc,q _ H ι Le.refl hr (by simp)⟩
  ·cases e
 ·rename_i as k
  obtain⟨a,vs,rfl,h1,p1⟩:=Zan.mp r1
  simp at r2
  split at e
  ·rename_i hc
   have hlen:=Prd.len p1
   obtain⟨k1,k2⟩:=Zfu hr (Prd.rep p1 k.toNat) e q
   refine Zum pins s σ H _ _ v u Q I rx ry ⟨a,k,vs,rfl,r2,h1,hc.1,hc.2.1,by rw[<- hlen]; exact hc.2.2,fun z=>?_,fun _ _=>k2⟩
   obtain⟨_,e'⟩:=Zfe e
   have hf:(Xk k.toNat as).flatten=as:=by
    rcases z with z | z
    ·have:as=[]:=List.eq_nil_of_length_eq_zero (by rw[hlen,z]; rfl)
     subst this
     simp
    ·subst z
     simp
   rw[hf] at e'
   cases e'
   exact q _ H ι Le.refl hr r1
  ·cases e
 ·rename_i n k
  obtain⟨a,rfl,ha⟩:=Zao.mp r1
  simp at r2
  split at e
  ·rename_i as e1
   obtain⟨vs,h1,p1⟩:=hr.obj n a _ ha e1
   split at e
   ·rename_i hc
    obtain⟨k1,k2⟩:=Zgc hr (Prd.rep p1 _) e q
    exact Zvy pins s σ H _ _ v u Q I rx ry ⟨a,k,vs,rfl,r2,h1,hc.1,hc.2.1,by rw[<- Prd.len p1]; exact hc.2.2,k2⟩
   ·cases e
  ·cases e
nonrec def Zkp:D->HD->Option (List D)
 | .tup xs,_=>some xs
 | .fl xs,_=>some xs
 | .ref n,H=>match H[n]? with
  | some (.lst xs)=>some xs
  | _=>none
 | _,_=>none
theorem Zoi {K:Xb} {H:Hp} {ι:List Vg} {Hd:HD} {d:D} {xs:List D} {v:V} (hr:HRep K H ι Hd) (r:Rep K H ι d v) (e:Zkp d Hd=some xs):∃ p vs,v=.ref p/\(SqL K H p vs\/SqT K H p vs)/\Vm (Rep K H ι) xs vs:=by
 cases d with
 | tup ys=>cases e; obtain⟨a,vs,rfl,h,p⟩:=Zan.mp r; exact⟨a,vs,rfl,.inr h,p⟩
 | fl ys=>cases e; obtain⟨a,vs,rfl,h,p⟩:=Zek.mp r; exact⟨a,vs,rfl,.inl h.sq,p⟩
 | ref n =>
  obtain⟨a,rfl,ha⟩:=Zao.mp r
  simp only[Zkp] at e
  split at e
  ·rename_i ys e1
   cases e
   obtain⟨vs,h1,p1⟩:=hr.obj n a _ ha e1
   exact⟨a,vs,rfl,.inl (SqL.of h1),p1⟩
  ·cases e
 | _=>simp[Zkp] at e
theorem Zul {α β:Type} {F:α->β->Prop} {xs:List α} {us:List β} {i:Int} {x:α} (r:Vm F xs us) (h:atI xs i=some x):∃ u,atI us i=some u/\F x u:=by
 unfold atI at h ⊢
 rw[<- Prd.len r]
 obtain⟨j,h1,h2⟩:=Zo h
 obtain⟨u,h3,h4⟩:=Prd.get r h2
 exact⟨u,by rw[h1]; exact h3,h4⟩
nonrec def ixD:F2:=fun x y H=>match y with
 | .int i=>(Zkp x H).bind fun xs=>(atI xs i).map fun d=>(d,H)
 | _=>none
theorem ixf:IxF X ixD:=by
 rintro va sl pins s σ H x y v u Q I rx ry ⟨ι,dx,dy,Hd,d,Hd',hr,r1,r2,e,q⟩ hs
 cases dy<;>simp only[ixD] at e<;>try cases e
 rename_i i
 simp at r2
 obtain⟨xs,e1,e⟩:=Zo e
 obtain⟨d',e2,e⟩:=Zm e
 obtain⟨rfl,rfl⟩:=Wbh.inj e
 obtain⟨p,vs,rfl,h,P⟩:=Zoi hr r1 e1
 obtain⟨z,hz,rz⟩:=Zul P e2
 rcases h with h | h
 ·exact Ztb va sl pins s σ H _ _ v u Q I rx ry ⟨p,vs,i,z,rfl,r2,h,hz,q _ H ι Le.refl hr rz⟩ hs
 ·exact Zw1 va sl pins s σ H _ _ v u Q I rx ry ⟨p,vs,i,z,rfl,r2,h,hz,q _ H ι Le.refl hr rz⟩ hs
nonrec def Zjg (xs:List D) (lo hi:Option Int):List D:=(xs.drop (HT.sIx xs.length 0 lo)).take (HT.sIx xs.length xs.length hi - HT.sIx xs.length 0 lo)
theorem Zhy {K:Xb} {H:Hp} {ι:List Vg} {xs:List D} {vs:List V} (P:Vm (Rep K H ι) xs vs) (lo hi:Option Int):Vm (Rep K H ι) (Zjg xs lo hi) (Zsv vs lo hi):=by
 unfold Zjg Zsv
 rw[<- Prd.len P]
 exact Prd.take _ (Prd.drop _ P)
nonrec abbrev OF:=SD->HD->Option (Option Int×HD)
nonrec def rdO (K:Xb) (f:OF):TO:=fun σ H Q=>∃ ι σd Hd o Hd',SRep K H ι σ σd/\HRep K H ι Hd/\f σd Hd=some (o,Hd')/\∀ H' ι',Le K H ι H' ι'->HRep K H' ι' Hd'->Q o H'
def POf (X:Cx) (e:Option Uac) (f:OF):Prop:=PO X e (rdO X.K f)
nonrec def Zgp:OF:=fun _ H=>some (none,H)
nonrec def Ze6 (f:EF):OF:=fun σ H=>(f σ H).bind fun p=>match p.1 with
 | .int i=>some (some i,p.2)
 | _=>none
theorem Zdh:POf X none Zgp:=by
 rintro pins s σ H Q I ⟨ι,σd,Hd,o,Hd',sr,hr,e,q⟩
 cases e
 exact Zu8 pins s σ H Q I (q H ι Le.refl hr)
theorem Zdi {e:Uac} {f:EF} (h:PEf X e f):POf X (some e) (Ze6 f):=by
 rintro pins s σ H Q I ⟨ι,σd,Hd,o,Hd',sr,hr,e,q⟩
 obtain⟨⟨d,H1⟩,e1,e⟩:=Zo e
 cases d<;>try cases e
 rename_i i
 exact Zuj h pins s σ H Q I ⟨ι,σd,Hd,_,_,sr,hr,e1,fun v H' ι' l h r=>⟨i,by simpa using r,q H' ι' l h⟩⟩
nonrec def slD (x:D) (lo hi:Option Int) (H:HD):Option (D×HD):=match x with
 | .tup xs=>some (.tup (Zjg xs lo hi),H)
 | .fl xs=>some (.ref H.length,H++[.lst (Zjg xs lo hi)])
 | .ref n=>match H[n]? with
  | some (.lst xs)=>some (.ref H.length,H++[.lst (Zjg xs lo hi)])
  | _=>none
 | _=>none
theorem Zds {prog:Vl} {w:Vt} {A:Vu} {E:Vb->Vd->Prop} {s:Vd} {t sl:Vg} {items:Array Vb} {vl vu:Vb} {lo hi:Option Int} {Q:Vb->Vd->Prop} (ht:Ucw s.heap t items) (hs:s.heap.IsSliceOf sl vl vu .none) (pl:Udv vl lo) (pu:Udv vu hi)
  (hw:HT.sIx items.size 0 lo=0/\HT.sIx items.size items.size hi=items.size) (h:Q (.ref t) s):Vf (Vj prog w) A (Udq (.ref t) (.ref sl)) Q E s:=by
 obtain⟨os,hos,hcs,hds⟩:=id hs
 have hTs:s.TypeIs (.ref sl) "slice" := ⟨os,hos,hcs⟩
 obtain⟨ot,hot,hct,nt,hdt⟩:=id ht
 unfold Udq
 try with_reducible refine Vs ?_
 first | refine Va (Vc ?_) | skip
 refine Va (wpAny_sequenceKey ht.typeIs (by decide) ?_)
 refine Va (Vn (name:=Ug "__getitem__") ht.typeIs Ui
  (Vr Ui ht.typeIs entry_tuple_getitem ?_ (args_tuple_getitem _ _)))
 show Vf _ _ (Tah (.ref t) >>= _) _ _ s
 refine Va (tupleItemsOf_ ht ?_)
 refine Va (Ubs hTs ?_)
 rw[if_pos (by decide)]
 refine Va (HT.sliceApplied_gen hs pl pu ?_)
 show Vf _ _ (if (((HT.sIx items.size 0 lo:Nat):Int)==0&&(1:Int)==1&&(HT.sIx items.size items.size hi - HT.sIx items.size 0 lo)==items.size)=true then _ else _) _ _ s
 rw[if_pos (by rw[hw.1,hw.2]; simp)]
 show Vf _ _ (Tbj (Ud t) >>= _) _ _ s
 unfold Tbj
 refine Va (Va (Ubs ht.typeIs (Vc ?_)))
 rw[if_pos (by decide)]
 exact Va (Uaj (Vc ⟨_,rfl,Vc h⟩))
theorem Zlp {xs:List D} {lo hi:Option Int} (h:HT.sIx xs.length 0 lo=0/\HT.sIx xs.length xs.length hi=xs.length):Zjg xs lo hi=xs:=by
 unfold Zjg
 rw[h.1,h.2]; simp
nonrec def rdSl (K:Xb):V->Option Int->Option Int->Hp->VK->Prop:=fun x lo hi H Q=>∃ ι dx Hd d Hd',HRep K H ι Hd/\Rep K H ι dx x/\slD dx lo hi Hd=some (d,Hd')/\QE K H ι d Hd' Q
theorem slf:SlR X (rdSl X.K):=by
 rintro pins s σ H x v vl vu lo hi sl Q I rx hs pl pu ⟨ι,dx,Hd,d,Hd',hr,r,e,q⟩
 have lists:∀ {a:Vg} {xs:List D} {vs:List V},x=.ref a->SqL X.K H a vs->Vm (Rep X.K H ι) xs vs->(D.ref Hd.length,Hd++[DO.lst (Zjg xs lo hi)])=(d,Hd') ->
   ∃ T id,Uby (.type T) "__getitem__" = pure (some (.builtin id))/\s.TypeIs v T/\Vf (Vj X.prog X.w) X.A (Udq v (.ref sl)) (EP X pins σ Q) X.xe s:=fun {a xs vs} ex h P e=>by
  obtain⟨_,_,_,hz⟩:=I.list h
  have hz2:(Zjg xs lo hi).length<=sizeLine:=by
   rw[Prd.len (Zhy P lo hi)]
   exact Xq (Zcu vs lo hi) hz
  obtain⟨k1,k2⟩:=Zgc hr (Zhy P lo hi) (show mkL (Zjg xs lo hi) Hd=some (d,Hd') by unfold mkL; rw[if_pos hz2,e]) q
  exact Zs9 pins s σ H x v vl vu lo hi sl Q I rx hs pl pu ⟨a,vs,ex,h,k2⟩
 cases dx with
 | tup xs =>
  obtain⟨a,vs,rfl,h,P⟩:=Zan.mp r
  simp only[slD,Waa.injEq] at e
  obtain⟨its,rv,ht,hz⟩:=I.tuple h
  have hlen:its.toArray.size=vs.length:=by rw[Xj]; exact rv.length.symm
  by_cases hw:HT.sIx vs.length 0 lo=0/\HT.sIx vs.length vs.length hi=vs.length
  ·cases rx
   refine⟨"tuple",_,Ui.lookup,ht.typeIs,Zds ht hs pl pu (by rw[hlen]; exact hw) ?_⟩
   rw[Zlp (by rw[Prd.len P]; exact hw)] at e
   obtain⟨rfl,rfl⟩:=Wbh.inj e
   exact⟨.ref a,H,I,rfl,q _ H ι Le.refl hr r⟩
  ·have hz2:(Zjg xs lo hi).length<=sizeLine:=by
    rw[Prd.len (Zhy P lo hi)]
    exact Xq (Zcu vs lo hi) hz
   obtain⟨k1,k2⟩:=Zfu hr (Zhy P lo hi) (show mkT (Zjg xs lo hi) Hd=some (d,Hd') by unfold mkT; rw[if_pos hz2,e]) q
   exact Zw9 pins s σ H _ v vl vu lo hi sl Q I rx hs pl pu ⟨a,vs,rfl,h,hw,k2⟩
 | fl xs =>
  obtain⟨a,vs,rfl,h,P⟩:=Zek.mp r
  simp only[slD,Waa.injEq] at e
  exact lists rfl h.sq P e
 | ref n =>
  obtain⟨a,rfl,ha⟩:=Zao.mp r
  simp only[slD] at e
  split at e
  ·rename_i xs e1
   obtain⟨vs,h1,P⟩:=hr.obj n a _ ha e1
   exact lists rfl (SqL.of h1) P (Waa.inj e)
  ·cases e
 | _=>simp[slD] at e
nonrec def eSl (fe:EF) (fl fh:OF):EF:=fun σ H=>(fe σ H).bind fun p=>(fl σ p.2).bind fun l=>(fh σ l.2).bind fun h=>slD p.1 l.1 h.1 h.2
theorem Zcj {e:Uac} {lo hi:Option Uac} {fe:EF} {fl fh:OF} {pos p2:Pos} (he:PEf X e fe) (hl:POf X lo fl) (hu:POf X hi fh):PEf X (.Subscript e (.Slice lo hi none p2) pos) (eSl fe fl fh):=by
 refine PEi (Zqk slf he hl hu) fun σ H Q zz=>?_
 obtain⟨ι,σd,Hd,d,Hd',s,hr,e,q⟩:=zz
 obtain⟨⟨x,H1⟩,e1,e⟩:=Zo e
 obtain⟨⟨y,H2⟩,e2,e⟩:=Zo e
 obtain⟨⟨z,H3⟩,e3,e⟩:=Zo e
 exact⟨ι,σd,Hd,x,H1,s,hr,e1,fun v1 H1' ι1 l1 h1 r1=>⟨ι1,σd,H1,y,H2,s.mono l1,h1,e2,fun H2' ι2 l2 h2=>⟨ι2,σd,H2,z,H3,s.mono (l1.trans l2),h2,e3,fun H3' ι3 l3 h3 =>
  ⟨ι3,x,H3,d,Hd',h3,r1.mono (l2.trans l3),e,fun v H' ι' l h r=>q v H' ι' (((l1.trans l2).trans l3).trans l) h r⟩⟩⟩⟩
nonrec def Ze1:FF:=fun ds H=>match ds with
 | [.str x]=>if x.length<=sizeLine then some (.int x.length,H) else none
 | [d]=>(Zkp d H).map fun xs=>(.int xs.length,H)
 | _=>none
theorem Zji {K:Xb} {H:Hp} {ι:List Vg} {d:D} {vs:List V} (P:Vm (Rep K H ι) [d] vs):∃ v,vs=[v]/\Rep K H ι d v:=by
 cases P with
 | cons r t=>cases t; exact⟨_,rfl,r⟩
theorem Zvf {K:Xb} {H:Hp} {ι:List Vg} {d d':D} {vs:List V} (P:Vm (Rep K H ι) [d,d'] vs):∃ v v',vs=[v,v']/\Rep K H ι d v/\Rep K H ι d' v':=by
 cases P with
 | cons r t=>obtain⟨v,rfl,r'⟩:=Zji t; exact⟨_,_,rfl,r,r'⟩
theorem Zok:Zgn X (.builtin "len") Ze1:=by
 rintro pins s σ H xs us Q I rv ⟨ι,ds,Hd,d,Hd',hr,P,e,q⟩
 unfold Ze1 at e
 split at e
 ·obtain⟨v,rfl,r⟩:=Zji P
  simp at r
  subst r
  split at e
  ·rename_i hl
   cases e
   exact Zi7 pins s σ H _ us Q I rv ⟨_,rfl,hl,q _ H ι Le.refl hr (by simp)⟩
  ·cases e
 ·obtain⟨v,rfl,r⟩:=Zji P
  obtain⟨ys,e1,e⟩:=Zm e
  obtain⟨rfl,rfl⟩:=Wbh.inj e
  obtain⟨p,vs,rfl,h,P2⟩:=Zoi hr r e1
  exact Zig pins s σ H _ us Q I rv ⟨p,vs,rfl,h,q _ H ι Le.refl hr (by simp[Prd.len P2])⟩
 ·cases e
nonrec def Zsj:FF:=fun ds H=>match ds with
 | [.int i]=>some (.int (if i<0 then -i else i),H)
 | _=>none
theorem Zmt:Zgn X (.builtin "abs") Zsj:=by
 rintro pins s σ H xs us Q I rv ⟨ι,ds,Hd,d,Hd',hr,P,e,q⟩
 unfold Zsj at e
 split at e
 ·obtain⟨v,rfl,r⟩:=Zji P
  simp at r
  subst r
  cases e
  exact Zqz pins s σ H _ us Q I rv ⟨_,rfl,q _ H ι Le.refl hr (by simp)⟩
 ·cases e
nonrec def maxD:FF:=fun ds H=>match ds with
 | [.int i,.int j]=>some (.int (if j > i then j else i),H)
 | _=>none
theorem Zo9 (hc:X.calm=true):Zgn X (.builtin "max") maxD:=by
 rintro pins s σ H xs us Q I rv ⟨ι,ds,Hd,d,Hd',hr,P,e,q⟩
 unfold maxD at e
 split at e
 ·obtain⟨v,v',rfl,r,r'⟩:=Zvf P
  simp at r r'
  subst r r'
  cases e
  exact Zne hc pins s σ H _ us Q I rv ⟨_,_,rfl,q _ H ι Le.refl hr (by simp)⟩
 ·cases e
nonrec def Zs3:FF:=fun ds H=>match ds with
 | [.int i]=>some (.int i,H)
 | [.bl b]=>some (.int (if b then 1 else 0),H)
 | _=>none
theorem Zoq:Zgn X (.type "int") Zs3:=by
 rintro pins s σ H xs us Q I rv ⟨ι,ds,Hd,d,Hd',hr,P,e,q⟩
 unfold Zs3 at e
 split at e
 ·obtain⟨v,rfl,r⟩:=Zji P
  simp at r
  subst r
  cases e
  exact Zi4 pins s σ H _ us Q I rv (.inl ⟨_,rfl,q _ H ι Le.refl hr (by simp)⟩)
 ·obtain⟨v,rfl,r⟩:=Zji P
  simp at r
  subst r
  cases e
  exact Zi4 pins s σ H _ us Q I rv (.inr ⟨_,rfl,q _ H ι Le.refl hr (by simp)⟩)
 ·cases e
theorem Zq8 {pins:List (Vg×Obj)} {s:Vd} {σ:L2.St} {H:Hp} {p:Vg} {vs:List V} (I:Inv X pins σ H s) (h:SqL X.K H p vs\/SqT X.K H p vs):vs.length<=sizeLine:=by
 rcases h with h | h
 ·obtain⟨_,_,_,z⟩:=I.list h; exact z
 ·obtain⟨_,_,_,z⟩:=I.tuple h; exact z
nonrec def Zbu:FF:=fun ds H=>match ds with
 | [d]=>(Zkp d H).map fun xs=>(.tup xs,H)
 | _=>none
theorem Zj5:Zgn X (.type "tuple") Zbu:=by
 rintro pins s σ H xs us Q I rv ⟨ι,ds,Hd,d,Hd',hr,P,e,q⟩
 unfold Zbu at e
 split at e
 ·rename_i d0
  obtain⟨v,rfl,r⟩:=Zji P
  obtain⟨ys,e1,e⟩:=Zm e
  obtain⟨p,vs,rfl,h,P2⟩:=Zoi hr r e1
  obtain⟨k1,k2⟩:=Zfu hr P2 (show mkT ys Hd=some (d,Hd') by unfold mkT; rw[if_pos (by rw[Prd.len P2]; exact Zq8 I h),e]) q
  refine Zhu pins s σ H _ us Q I rv ⟨p,vs,rfl,?_⟩
  rcases h with h | h
  ·exact .inl ⟨h,k2⟩
  ·obtain⟨rfl,rfl⟩:=Wbh.inj e
   exact .inr ⟨h,q _ H ι Le.refl hr (Zan.mpr ⟨p,vs,rfl,h,P2⟩)⟩
 ·cases e
nonrec def Zbb (x:D) (ds:List D) (H:HD):Option (D×HD):=match x,ds with
 | .ref n,[d]=>match H[n]? with
  | some (.lst xs)=>if xs.length<sizeLine then some (.non,H.set n (.lst (xs++[d]))) else none
  | _=>none
 | _,_=>none
theorem Zcl:MtF X "list.append" Zbb:=by
 rintro pins s σ H x xs v us Q I rx rv ⟨ι,dx,ds,Hd,d,Hd',hr,r1,P,e,q⟩
 unfold Zbb at e
 split at e
 ·rename_i n d1
  obtain⟨a,rfl,ha⟩:=Zao.mp r1
  obtain⟨z,rfl,rz⟩:=Zji P
  split at e
  ·rename_i ys e1
   split at e
   ·rename_i hl
    cases e
    obtain⟨vs,h1,P1⟩:=hr.obj n a _ ha e1
    refine Zf7 pins s σ H _ _ v us Q I rx rv ⟨a,vs,z,rfl,rfl,h1,by rw[<- Prd.len P1]; exact hl,?_⟩
    have L:Le X.K H ι (upd H a (.lst (vs++[z]))) ι:=Le.upd (War ha) h1 trivial _
    exact q _ _ ι L (hr.upd ha h1 trivial ⟨_,Zas,Prd.append (Prd.mono L P1) (.cons (rz.mono L) .nil)⟩) (by simp)
   ·cases e
  ·cases e
 ·cases e
end
mutual
noncomputable def toP (H:HD):Nat->D->Option Uak
 | _,.non=>some .none
 | _,.bl b=>some (.bool b)
 | _,.int i=>some (.int i)
 | _,.str x=>some (.str x)
 | _,.ty _=>none
 | n,.tup xs=>(Zly H n xs).map .tuple
 | n,.fl xs=>(Zly H n xs).map .list
 | 0,.ref _=>none
 | n+1,.ref k=>match H[k]? with
  | some (.lst xs)=>(Zly H n xs).map .list
  | _=>none
termination_by n d=>(n,sizeOf d)
noncomputable def Zly (H:HD):Nat->List D->Option (List Uak)
 | _,[]=>some []
 | n,d::ds=>(toP H n d).bind fun x=>(Zly H n ds).map fun r=>x::r
termination_by n ds=>(n,sizeOf ds)
end
section
variable {X:Cx} {pins:List (Vg×Obj)} {σ:L2.St} {H:Hp} {s:Vd} {ι:List Vg} {Hd:HD}
theorem Zgu (n:Nat) (h:∀ (d:D) {x:Uak} {v:V} {u:Vb},toP Hd n d=some x->Rep X.K H ι d v->Zbc v u->∃ as,Reads s.heap u x as):∀ (ds:List D) {xs:List Uak} {vs:List V} {us:List Vb},Zly Hd n ds=some xs->Vm (Rep X.K H ι) ds vs->Za9 vs us->∃ as,ReadsAll s.heap us xs as
 | [],xs,vs,us,e,P,q=>by
  rw[Zly] at e; cases e; cases P; cases q; exact⟨_,.nil⟩
 | d::ds,xs,vs,us,e,P,q=>by
  rw[Zly] at e
  obtain⟨x,e1,e⟩:=Zo e
  obtain⟨r,e2,rfl⟩:=Zm e
  cases P with
  | cons p P =>
   cases q with
   | cons q Q =>
    obtain⟨as,ra⟩:=h d e1 p q
    obtain⟨bs,rb⟩:=Zgu n h ds e2 P Q
    exact⟨_,.cons ra rb⟩
theorem Zg1 (I:Inv X pins σ H s) (hr:HRep X.K H ι Hd) (n:Nat) (ih:∀ m,n=m+1->∀ (d:D) {x:Uak} {v:V} {u:Vb},toP Hd m d=some x->Rep X.K H ι d v->Zbc v u->∃ as,Reads s.heap u x as) (d:D):∀ {x:Uak} {v:V} {u:Vb},toP Hd n d=some x->Rep X.K H ι d v->Zbc v u->∃ as,Reads s.heap u x as:=by
 refine D.rec (motive_1:=fun d=>∀ {x:Uak} {v:V} {u:Vb},toP Hd n d=some x->Rep X.K H ι d v->Zbc v u->∃ as,Reads s.heap u x as) (motive_2:=fun ds=>∀ {xs:List Uak} {vs:List V} {us:List Vb},Zly Hd n ds=some xs->Vm (Rep X.K H ι) ds vs->Za9 vs us->∃ as,ReadsAll s.heap us xs as) ?_ ?_ ?_ ?_ ?_ ?_ ?_ ?_ ?_ ?_ d
 ·intro x v u e r q
  rw[toP] at e; cases e; simp at r; subst r; cases q; exact⟨_,.none⟩
 ·intro b x v u e r q
  rw[toP] at e; cases e; simp at r; subst r; cases q; exact⟨_,.bool b⟩
 ·intro i x v u e r q
  rw[toP] at e; cases e; simp at r; subst r; obtain⟨t,rfl⟩:=q; exact⟨_,.int i t⟩
 ·intro z x v u e r q
  rw[toP] at e; cases e; simp at r; subst r; obtain⟨t,rfl⟩:=q; exact⟨_,.str z t⟩
 ·intro _ x v u e r q
  rw[toP] at e; cases e
 ·intro xs hxs x v u e r q
  rw[toP] at e
  obtain⟨ps,e1,rfl⟩:=Zm e
  obtain⟨a,vs,rfl,h,P⟩:=Zan.mp r
  cases q
  obtain⟨its,rv,⟨o,ho,hc,m,hd⟩,hz⟩:=I.tuple h
  obtain⟨as,ra⟩:=hxs e1 P rv
  exact⟨_,.tuple ho hc hd ra⟩
 ·intro xs hxs x v u e r q
  rw[toP] at e
  obtain⟨ps,e1,rfl⟩:=Zm e
  obtain⟨a,vs,rfl,h,P⟩:=Zek.mp r
  cases q
  obtain⟨its,rv,pl,hz⟩:=I.list h.sq
  obtain⟨o,ho,hc,m,hd⟩:=pl.isList
  obtain⟨as,ra⟩:=hxs e1 P rv
  exact⟨_,.list ho hc hd ra⟩
 ·intro k x v u e r q
  cases n with
  | zero=>rw[toP] at e; cases e
  | succ n =>
   rw[toP] at e
   split at e
   ·rename_i xs eo
    obtain⟨ps,e1,rfl⟩:=Zm e
    obtain⟨a,rfl,ha⟩:=Zao.mp r
    cases q
    obtain⟨vs,h1,P⟩:=hr.obj k a _ ha eo
    obtain⟨its,rv,pl,hz⟩:=I.list (SqL.of h1)
    obtain⟨o,ho,hc,m,hd⟩:=pl.isList
    obtain⟨as,ra⟩:=Zgu n (ih n rfl) xs e1 P rv
    exact⟨_,.list ho hc hd ra⟩
   ·cases e
 ·intro xs vs us e P q
  rw[Zly] at e; cases e; cases P; cases q; exact⟨_,.nil⟩
 ·intro d ds hd hds xs vs us e P q
  rw[Zly] at e
  obtain⟨x,e1,e⟩:=Zo e
  obtain⟨r,e2,rfl⟩:=Zm e
  cases P with
  | cons p P =>
   cases q with
   | cons q Q =>
    obtain⟨as,ra⟩:=hd e1 p q
    obtain⟨bs,rb⟩:=hds e2 P Q
    exact⟨_,.cons ra rb⟩
theorem Zbw (I:Inv X pins σ H s) (hr:HRep X.K H ι Hd):∀ (n:Nat) (d:D) {x:Uak} {v:V} {u:Vb},toP Hd n d=some x->Rep X.K H ι d v->Zbc v u->∃ as,Reads s.heap u x as
 | 0=>Zg1 I hr 0 fun m h=>by cases h
 | n+1=>Zg1 I hr (n+1) fun m h=>by cases h; exact Zbw I hr n
nonrec def okP (x:Uak):Bool:=x.canLay0&&decide (x.depth<=30)
nonrec def dat (d:D) (H:HD):Option Uak:=(toP H 30 d).bind fun x=>if okP x=true then some x else none
theorem Zb8 {d:D} {x:Uak} (e:dat d Hd=some x):toP Hd 30 d=some x/\x.canLay0=true/\x.depth<=30:=by
 obtain⟨y,e1,e⟩:=Zo e
 split at e
 ·rename_i h
  cases e
  rw[okP,Wbc,decide_eq_true_eq] at h
  exact⟨e1,h⟩
 ·cases e
nonrec def Zpp:D->D->Option (Str×Str)
 | .str a,.str b=>some (a,b)
 | _,_=>none
theorem Zi1 {x y:D} {a b:Str} (h:Zpp x y=some (a,b)):x=.str a/\y=.str b:=by
 unfold Zpp at h
 split at h
 ·cases h; exact⟨rfl,rfl⟩
 ·cases h
nonrec def eqD:F2:=fun x y H=>match Zpp x y with
 | some (a,b)=>some (.bl (a==b),H)
 | none=>(dat x H).bind fun p=>(dat y H).map fun q=>(.bl (Ub p q),H)
nonrec def neD:F2:=fun x y H=>match Zpp x y with
 | some (a,b)=>some (.bl (a != b),H)
 | none=>(dat x H).bind fun p=>(dat y H).map fun q=>(.bl (!Ub p q),H)
theorem Zda (hu:X.A.units+64<cLine):OpF X (Uah .Eq) eqD:=by
 rintro pins s σ H x y v u Q I rx ry ⟨ι,dx,dy,Hd,d,Hd',hr,r1,r2,e,q⟩
 unfold eqD at e
 split at e
 ·rename_i a b es
  obtain⟨rfl,rfl⟩:=Zi1 es
  obtain⟨rfl,rfl⟩:=Wbh.inj (Waa.inj e)
  simp at r1 r2
  subst r1 r2
  obtain⟨t1,rfl⟩:=rx
  obtain⟨t2,rfl⟩:=ry
  exact PyProof.Rows.eq_str ⟨.bl _,H,I,rfl,q _ H ι Le.refl hr (by simp)⟩
 ·obtain⟨p,e1,e⟩:=Zo e
  obtain⟨p2,e2,e⟩:=Zm e
  obtain⟨rfl,rfl⟩:=Wbh.inj e
  obtain⟨t1,c1,d1⟩:=Zb8 e1
  obtain⟨t2,c2,d2⟩:=Zb8 e2
  obtain⟨as,ra⟩:=Zbw I hr _ _ t1 r1 rx
  obtain⟨bs,rb⟩:=Zbw I hr _ _ t2 r2 ry
  exact SeqAt.compareEq_reads ra rb c1 c2 (by omega) ⟨.bl _,H,I,rfl,q _ H ι Le.refl hr (by simp)⟩
theorem Zo6 (hu:X.A.units+64<cLine):OpF X (Uah .NotEq) neD:=by
 rintro pins s σ H x y v u Q I rx ry ⟨ι,dx,dy,Hd,d,Hd',hr,r1,r2,e,q⟩
 unfold neD at e
 split at e
 ·rename_i a b es
  obtain⟨rfl,rfl⟩:=Zi1 es
  obtain⟨rfl,rfl⟩:=Wbh.inj (Waa.inj e)
  simp at r1 r2
  subst r1 r2
  obtain⟨t1,rfl⟩:=rx
  obtain⟨t2,rfl⟩:=ry
  exact PyProof.Rows.ne_str ⟨.bl _,H,I,rfl,q _ H ι Le.refl hr (by simp)⟩
 ·obtain⟨p,e1,e⟩:=Zo e
  obtain⟨p2,e2,e⟩:=Zm e
  obtain⟨rfl,rfl⟩:=Wbh.inj e
  obtain⟨t1,c1,d1⟩:=Zb8 e1
  obtain⟨t2,c2,d2⟩:=Zb8 e2
  obtain⟨as,ra⟩:=Zbw I hr _ _ t1 r1 rx
  obtain⟨bs,rb⟩:=Zbw I hr _ _ t2 r2 ry
  exact SeqAt.compareNe_reads ra rb c1 c2 (by omega) ⟨.bl _,H,I,rfl,q _ H ι Le.refl hr (by simp)⟩
nonrec def Znl:Uak->Option (List Uak)
 | .list xs=>some xs
 | .tuple xs=>some xs
 | _=>none
nonrec def inD:F2:=fun x y H=>(dat x H).bind fun p=>(dat y H).bind fun q=>(Znl q).map fun xs=>(.bl (xs.any fun z=>Ub z p),H)
theorem Zr7 (hu:X.A.units+64<cLine):OpF X (Uah .In) inD:=by
 rintro pins s σ H x y v u Q I rx ry ⟨ι,dx,dy,Hd,d,Hd',hr,r1,r2,e,q⟩
 obtain⟨p,e1,e⟩:=Zo e
 obtain⟨p2,e2,e⟩:=Zo e
 obtain⟨xs,e3,e⟩:=Zm e
 obtain⟨rfl,rfl⟩:=Wbh.inj e
 obtain⟨t1,c1,d1⟩:=Zb8 e1
 obtain⟨t2,c2,d2⟩:=Zb8 e2
 obtain⟨as,ra⟩:=Zbw I hr _ _ t1 r1 rx
 obtain⟨bs,rb⟩:=Zbw I hr _ _ t2 r2 ry
 have fin:EP X pins σ Q (.bool (xs.any fun z=>Ub z p)) s:=⟨.bl _,H,I,rfl,q _ H ι Le.refl hr (by simp)⟩
 cases p2 with
 | list ys =>
  cases e3
  simp only[Tbl] at c2
  simp only[Tca] at d2
  exact SeqAt.in_list_reads rb ra c2 c1 (by omega) fin
 | tuple ys =>
  cases e3
  simp only[Tbl] at c2
  simp only[Tca] at d2
  exact SeqAt.in_tuple_reads rb ra c2 c1 (by omega) fin
 | _=>simp[Znl] at e3
nonrec def isB (x y:D):Option Bool:=match y,x with
 | .non,.non=>some true
 | .non,_=>some false
 | .bl b,.bl c=>some (c==b)
 | .bl _,_=>some false
 | _,_=>none
nonrec def Zu5:F2:=fun x y H=>(isB x y).map fun b=>(.bl (!b),H)
theorem Zgi {M:Uek} {A:Vu} {E:Vb->Vd->Prop} {s:Vd} {Q:Vb->Vd->Prop} {v:Vb} {b:Bool} (hv:∀ i,v≠.builtin i) (h:Q (.bool (!(v==.bool b))) s):Vf M A (Uah .IsNot v (.bool b)) Q E s:=by
 cases v<;>first | exact Vc h | exact absurd rfl (hv _)
theorem Zui {x:V} {v:Vb} (r:Zbc x v):∀ i,v≠.builtin i:=by
 intro i
 cases x with
 | non=>cases r; intro z; cases z
 | bl _=>cases r; intro z; cases z
 | int _=>obtain⟨t,rfl⟩:=r; intro z; cases z
 | str _=>obtain⟨t,rfl⟩:=r; intro z; cases z
 | byt _=>obtain⟨t,rfl⟩:=r; intro z; cases z
 | flt _=>obtain⟨t,rfl⟩:=r; intro z; cases z
 | ref _=>cases r; intro z; cases z
 | ty _=>cases r; intro z; cases z
theorem Zwu {dx dy:D} {x y:V} {v u:Vb} {b:Bool} (r1:Rep X.K H ι dx x) (r2:Rep X.K H ι dy y) (rx:Zbc x v) (ry:Zbc y u) (e:isB dx dy=some b) :
  (u=.none/\b=(v==.none))\/∃ c,u=.bool c/\b=(v==.bool c):=by
 cases dy with
 | non =>
  simp at r2; subst r2; cases ry
  refine .inl ⟨rfl,?_⟩
  cases dx with
  | non=>simp at r1; subst r1; cases rx; cases e; rfl
  | bl _=>simp at r1; subst r1; cases rx; cases e; rfl
  | int _=>simp at r1; subst r1; obtain⟨t,rfl⟩:=rx; cases e; rfl
  | str _=>simp at r1; subst r1; obtain⟨t,rfl⟩:=rx; cases e; rfl
  | ty _=>rw[Rep] at r1; rcases r1 with ⟨_,rfl⟩ | ⟨_,a,rfl,_⟩<;>(cases rx; cases e; rfl)
  | tup _=>obtain⟨a,_,rfl,_⟩:=Zan.mp r1; cases rx; cases e; rfl
  | fl _=>obtain⟨a,_,rfl,_⟩:=Zek.mp r1; cases rx; cases e; rfl
  | ref _=>obtain⟨a,rfl,_⟩:=Zao.mp r1; cases rx; cases e; rfl
 | bl c =>
  simp at r2; subst r2; cases ry
  refine .inr ⟨c,rfl,?_⟩
  cases dx with
  | non=>simp at r1; subst r1; cases rx; cases e; rfl
  | bl z=>simp at r1; subst r1; cases rx; cases e; cases z<;>cases c<;>rfl
  | int _=>simp at r1; subst r1; obtain⟨t,rfl⟩:=rx; cases e; rfl
  | str _=>simp at r1; subst r1; obtain⟨t,rfl⟩:=rx; cases e; rfl
  | ty _=>rw[Rep] at r1; rcases r1 with ⟨_,rfl⟩ | ⟨_,a,rfl,_⟩<;>(cases rx; cases e; rfl)
  | tup _=>obtain⟨a,_,rfl,_⟩:=Zan.mp r1; cases rx; cases e; rfl
  | fl _=>obtain⟨a,_,rfl,_⟩:=Zek.mp r1; cases rx; cases e; rfl
  | ref _=>obtain⟨a,rfl,_⟩:=Zao.mp r1; cases rx; cases e; rfl
 | _=>simp[isB] at e
theorem Zoo:OpF X (Uah .IsNot) Zu5:=by
 rintro pins s σ H x y v u Q I rx ry ⟨ι,dx,dy,Hd,d,Hd',hr,r1,r2,e,q⟩
 obtain⟨b,e1,e⟩:=Zm e
 obtain⟨rfl,rfl⟩:=Wbh.inj e
 have fin:EP X pins σ Q (.bool (!b)) s:=⟨.bl _,H,I,rfl,q _ H ι Le.refl hr (by simp)⟩
 rcases Zwu r1 r2 rx ry e1 with ⟨rfl,rfl⟩ | ⟨c,rfl,rfl⟩
 ·exact isnot_none_gen fin
 ·exact Zgi (Zui rx) fin
nonrec def tyD:D->HD->Option String
 | .non,_=>some "NoneType"
 | .bl _,_=>some "bool"
 | .int _,_=>some "int"
 | .str _,_=>some "str"
 | .tup _,_=>some "tuple"
 | .fl _,_=>some "list"
 | .ref n,H=>match H[n]? with
  | some (.lst _)=>some "list"
  | _=>none
 | _,_=>none
nonrec def Znr (c:String):Bool:=c == "bool" || c == "int" || c == "str" || c == "tuple" || c == "list"
nonrec def Zml:FF:=fun ds H=>match ds with
 | [x,.ty c]=>if Znr c=true then (tyD x H).map fun t=>(.bl (t==c||(t == "bool" && c == "int")),H) else none
 | _=>none
nonrec def tys:List String:=["NoneType","bool","int","str","tuple","list"]
theorem Zti {d:D} {t:String} (e:tyD d Hd=some t):t∈tys:=by
 cases d with
 | ref n =>
  simp only[tyD] at e
  split at e
  ·cases e; decide
  ·cases e
 | ty n=>simp[tyD] at e
 | _=>simp only[tyD] at e; cases e; decide
theorem Zvt (K:Xb) {t c:String} (ht:t∈tys) (hc:Znr c=true):PySem.W.kitOne K (.type t) (.type c)=some (t==c||(t == "bool" && c == "int")):=by
 have hc':c = "bool" \/ c = "int" \/ c = "str" \/ c = "tuple" \/ c = "list" := by
  simpa [Znr,or_assoc] using hc
 simp only[tys,Xl,Wdr,or_false] at ht
 rcases ht with rfl | rfl | rfl | rfl | rfl | rfl<;>rcases hc' with rfl | rfl | rfl | rfl | rfl<;>first | rfl | (with_unfolding_all rfl) | kernel_rfl
theorem Zot:Zgn X (.builtin "isinstance") Zml:=by
 rintro pins s σ H xs us Q I rv ⟨ι,ds,Hd,d,Hd',hr,P,e,q⟩
 unfold Zml at e
 split at e
 ·rename_i x c
  split at e
  ·rename_i hc
   obtain⟨t,e1,e⟩:=Zm e
   obtain⟨rfl,rfl⟩:=Wbh.inj e
   obtain⟨v,v',rfl,r,r'⟩:=Zvf P
   obtain⟨u,u',rfl,ru,ru'⟩:=Zs6 rv
   have r':=(Zr8 (show Zxp c=true from hc)).mp r'
   subst r'
   cases ru'
   have k:=Zvt X.K (Zti e1) hc
   have fin:∀ tk,EP X pins σ Q (.bool (t==c||(t == "bool" && c == "int"))) { s with toks:=tk }:=fun tk=>⟨.bl _,H,I.tok tk,rfl,q _ H ι Le.refl hr (by simp)⟩
   cases x with
   | non=>simp at r; subst r; cases ru; cases e1; exact Wca PySem.W.kitx_none I.kIn Tce k (fun z=>nomatch z) fin
   | bl y=>simp at r; subst r; cases ru; cases e1; exact Wca PySem.W.kitx_bool I.kIn Tce k (fun z=>nomatch z) fin
   | int y=>simp at r; subst r; obtain⟨t,rfl⟩:=ru; cases e1; exact Wca PySem.W.kitx_int I.kIn Tce k (fun z=>nomatch z) fin
   | str y=>simp at r; subst r; obtain⟨t,rfl⟩:=ru; cases e1; exact Wca PySem.W.kitx_str I.kIn Tce k (fun z=>nomatch z) fin
   | ty _=>simp[tyD] at e1
   | tup ys =>
    obtain⟨a,vs,rfl,h,_⟩:=Zan.mp r
    cases ru; cases e1
    obtain⟨its,_,⟨o,ho,hcl,_⟩,_⟩:=I.tuple h
    exact Wca PySem.W.kitx_tuple I.kIn ⟨o,ho,hcl⟩ k (fun z=>nomatch z) fin
   | fl ys =>
    obtain⟨a,vs,rfl,h,_⟩:=Zek.mp r
    cases ru; cases e1
    obtain⟨its,_,pl,_⟩:=I.list h.sq
    obtain⟨o,ho,hcl,_⟩:=pl.isList
    exact Wca Wfu I.kIn ⟨o,ho,hcl⟩ k (fun z=>nomatch z) fin
   | ref n =>
    obtain⟨a,rfl,ha⟩:=Zao.mp r
    cases ru
    simp only[tyD] at e1
    split at e1
    ·rename_i ys eo
     cases e1
     obtain⟨vs,h1,_⟩:=hr.obj n a _ ha eo
     obtain⟨its,_,pl,_⟩:=I.list (SqL.of h1)
     obtain⟨o,ho,hcl,_⟩:=pl.isList
     exact Wca Wfu I.kIn ⟨o,ho,hcl⟩ k (fun z=>nomatch z) fin
    ·cases e1
  ·cases e
 ·cases e
nonrec def Ztq:D->Bool
 | .tup _=>true
 | _=>false
nonrec def Zd2:List D->Option (List Int)
 | []=>some []
 | .int i::r=>(Zd2 r).map fun s=>i::s
 | _=>none
theorem Zfr {K:Xb}:∀ {xs:List D} {ns:List Int} {vs:List V},Zd2 xs=some ns->Vm (Rep K H ι) xs vs->vs=ns.map V.int
 | [],ns,vs,e,P=>by cases P; cases e; rfl
 | .int i::r,ns,vs,e,P=>by
  simp only[Zd2] at e
  obtain⟨s,e1,rfl⟩:=Zm e
  cases P with
  | cons p P =>
   simp at p
   subst p
   rw[Zfr e1 P]
   rfl
 | .non::_,_,_,e,_=>by simp[Zd2] at e
 | .bl _::_,_,_,e,_=>by simp[Zd2] at e
 | .str _::_,_,_,e,_=>by simp[Zd2] at e
 | .ty _::_,_,_,e,_=>by simp[Zd2] at e
 | .tup _::_,_,_,e,_=>by simp[Zd2] at e
 | .fl _::_,_,_,e,_=>by simp[Zd2] at e
 | .ref _::_,_,_,e,_=>by simp[Zd2] at e
end
section
variable {X:Cx} {tg:Uac}
nonrec def Zgd:D->HD->Option (List D×Zem)
 | .tup xs,_=>some (xs,[])
 | .fl xs,_=>some (xs,[])
 | .ref n,H=>match H[n]? with
  | some (.lst xs)=>some (xs,[(n,.lst xs)])
  | _=>none
 | _,_=>none
def Ze0 (i:Int):Prop := -(2 ^ 62)<=i/\i<2 ^ 62
instance (i:Int):Decidable (Ze0 i):=by unfold Ze0; exact inferInstance
nonrec def Zal (lo:Int) (n:Nat):List D:=(Wdy n).map fun k:Nat=>.int (lo+(k:Int))
theorem Zl8 {lo:Int} {n i:Nat} {d:D} (h:(Zal lo n)[i]? = some d):i<n/\d=.int (lo+i):=by
 unfold Zal at h
 rw[Wah] at h
 obtain⟨k,h1,rfl⟩:=Zm h
 rw[Xc] at h1
 obtain⟨hl,h1⟩:=h1
 simp at h1 hl
 subst h1
 exact⟨hl,rfl⟩
theorem Zip {K:Xb} {H0:Hp} {ι0:List Vg} (lo:Int) (n:Nat):ItRep K (Itr lo n) (Zal lo n) [] H0 ι0:=by
 refine⟨fun i H2 ι2 Hd2 l2 h2 _ hi=>(show i<n by simpa [Zal] using hi),fun i H2 ι2 Hd2 d x H3 l2 h2 _ hd y=>?_,fun i H2 ι2 Hd2 l2 h2 _ hi=>(show n<=i by simpa [Zal] using hi)⟩
 obtain⟨rfl,rfl⟩:=y
 obtain⟨_,rfl⟩:=Zl8 hd
 exact⟨ι2,Le.refl,h2,by simp⟩
nonrec def iR1 (f:AF):ItF:=fun σ H=>(f σ H).bind fun p=>match p.1 with
 | [.int j]=>if Ze0 j then some ((Zal 0 j.toNat,[]),p.2) else none
 | _=>none
nonrec def iR2 (f:AF):ItF:=fun σ H=>(f σ H).bind fun p=>match p.1 with
 | [.int i,.int j]=>if Ze0 i/\Ze0 j then some ((Zal i (j - i).toNat,[]),p.2) else none
 | _=>none
theorem Zlk {a:Uac} {f:AF} {p pos:Pos} (hg:Gl X "range") (hm:X.mg "range" = none) (ha:PAf X [a] f) (hs:Vk [a] X.env=[(false,eval a X.env)]:=by rfl):PIf X tg (.Call (.Name "range" p) [a] [] pos) (iR1 f):=by
 refine PIi (Zo5 hg hm ha hs) fun σ H R zz=>?_
 obtain⟨ι,σd,Hd,xs,own,Hd',s,hr,e,q⟩:=zz
 obtain⟨⟨ds,H1⟩,e1,e⟩:=Zo e
 dsimp only at e
 split at e
 ·rename_i j
  split at e
  ·rename_i hj
   cases e
   refine⟨ι,σd,Hd,_,_,s,hr,e1,fun vs H' ι' l h P=>?_⟩
   obtain⟨v,rfl,r⟩:=Zji P
   simp at r
   subst r
   exact⟨j,rfl,hj.1,hj.2,q _ H' ι' l h (Zip 0 _)⟩
  ·cases e
 ·cases e
theorem Zgv {a b:Uac} {f:AF} {p pos:Pos} (hg:Gl X "range") (hm:X.mg "range" = none) (ha:PAf X [a,b] f) (hs:Vk [a,b] X.env=[(false,eval a X.env),(false,eval b X.env)]:=by rfl) (hs2:Vk [b] X.env=[(false,eval b X.env)]:=by rfl) :
  PIf X tg (.Call (.Name "range" p) [a,b] [] pos) (iR2 f):=by
 refine PIi (Zpk hg hm ha hs hs2) fun σ H R zz=>?_
 obtain⟨ι,σd,Hd,xs,own,Hd',s,hr,e,q⟩:=zz
 obtain⟨⟨ds,H1⟩,e1,e⟩:=Zo e
 dsimp only at e
 split at e
 ·rename_i i j
  split at e
  ·rename_i hj
   cases e
   refine⟨ι,σd,Hd,_,_,s,hr,e1,fun vs H' ι' l h P=>?_⟩
   obtain⟨v,v',rfl,r,r'⟩:=Zvf P
   simp at r r'
   subst r r'
   exact⟨i,j,rfl,⟨hj.1.1,hj.1.2,hj.2.1,hj.2.2⟩,q _ H' ι' l h (Zip _ _)⟩
  ·cases e
 ·cases e
end
open Builtin.SmallTypes (nextOf)
section
variable {prog:Vl} {w:Vt} {A:Vu} {E:Vb->Vd->Prop} {s:Vd}
theorem Zki {j t:Vg} {i:Nat} {its:Array Vb} {x:Vb} {Q:Vb->Vd->Prop} (hj:s.heap.IsTupleIter j t i) (ht:s.heap.IsTuple t its) (hx:its[i]? = some x)
  (hQ:∀ h',h'.IsTupleIter j t (i+1)->Xm j s.heap h'->Q x { s with heap:=h' }):Vf (Vj prog w) A (nextOf (.ref j)) Q E s:=by
 obtain⟨oj,ho,hcj,hdj⟩:=id hj
 obtain⟨ot,hot,_,nt,hdt⟩:=ht
 unfold nextOf
 refine Va (Vn (name:=Ug "__next__") hj.typeIs Uv (Vr Uv hj.typeIs Tbe ?_ (Taz _)))
 show Vf _ _ (Ucn (.ref j) 0 >>= _) _ _ s
 refine Va (Vo ho hdj (x:=.ref t) rfl ?_)
 show Vf _ _ (if (Ud t==Uq)=true then _ else _) _ _ s
 rw[if_neg (show ¬ ((Ud t==Uq)=true) by intro z; cases z)]
 show Vf _ _ (Ucn (.ref j) 1 >>= _) _ _ s
 refine Va (Vo ho hdj (x:=.int i 0) rfl ?_)
 show Vf _ _ (seqItems? (.ref t) >>= _) _ _ s
 refine Va (Vz hot hdt ?_)
 simp only[Waq,hx]
 refine Va (Uch ho hdj (by simp) (Vc ⟨x,rfl,Vc (hQ _ ⟨_,Wez _ ho (Tcb (Tap hdj _)),(Tcv ..).trans hcj,?_⟩ (Xm.update ..))⟩))
 rw[Tap hdj]; simp[Uax]
theorem Zm0 {j t:Vg} {i:Nat} {its:Array Vb} {Q:Vb->Vd->Prop} (hh:A.handled=none) (hj:s.heap.IsTupleIter j t i) (ht:s.heap.IsTuple t its) (hx:its[i]? = none)
  (hE:∀ h' e,Wec j s.heap h'->(∃ o,h'.get? e=some o/\o.cls=.type "StopIteration")->E (.ref e) { s with heap:=h' }):Vf (Vj prog w) A (nextOf (.ref j)) Q E s:=by
 obtain⟨oj,ho,hcj,hdj⟩:=id hj
 obtain⟨ot,hot,_,nt,hdt⟩:=ht
 unfold nextOf
 refine Va (Vn (name:=Ug "__next__") hj.typeIs Uv (Vr Uv hj.typeIs Tbe ?_ (Taz _)))
 show Vf _ _ (Ucn (.ref j) 0 >>= _) _ _ s
 refine Va (Vo ho hdj (x:=.ref t) rfl ?_)
 show Vf _ _ (if (Ud t==Uq)=true then _ else _) _ _ s
 rw[if_neg (show ¬ ((Ud t==Uq)=true) by intro z; cases z)]
 show Vf _ _ (Ucn (.ref j) 1 >>= _) _ _ s
 refine Va (Vo ho hdj (x:=.int i 0) rfl ?_)
 show Vf _ _ (seqItems? (.ref t) >>= _) _ _ s
 refine Va (Vz hot hdt ?_)
 simp only[Waq,hx]
 refine Va (Uaj (Va (Uch ho hdj (by simp) ?_)))
 show Vf _ _ (newExc (.type "StopIteration") [] >>= _) _ _ _
 refine Va ?_
 simp only[newExc,newTuple]
 refine Va (Vx ?_ (by size_fits))
 refine Va (m:=Uci _ _) (Uef (a:=Uq) (by first | rfl | (simp only[Uci]; rfl)) (Vx ?_ (by size_fits)))
 simp only[raiseNew]
 refine Va (wpAny_handled ?_)
 first | rw[show A.in1.handled=none from hh] | rw[hh]
 exact Va (Vc (wpAny_throw (hE _ _ (((Xm.update ..).extBut.push _).push _) ⟨_,Xe _ rfl,rfl⟩)))
theorem Znj {e j t:Vg} {i:Nat} {c:Int} {its:Array Vb} {x old:Vb} {Q:Option Vb->Vd->Prop} (he:Ubc s.heap e j c old) (hj:s.heap.IsTupleIter j t i) (ht:s.heap.IsTuple t its) (hx:its[i]? = some x) (hne:e≠j)
  (hQ:∀ h' tk,Udb h' e j (c+1) x s.heap.objs.size->h'.IsTupleIter j t (i+1)->h'.get? s.heap.objs.size=some { cls:=.type "tuple",data:=.seq #[.int c tk,x] }->h'.objs.size=s.heap.objs.size+1 ->
   (∀ b o,b≠e->b≠j->s.heap.get? b=some o->h'.get? b=some o)->Q (some (.ref s.heap.objs.size)) { s with heap:=h',toks:=s.toks+1 }) :
  Vf (Vj prog w) A (Uar (.ref e)) Q E s:=by
 have hT:s.TypeIs (.ref e) "enumerate" := ⟨_,he,rfl⟩
 unfold Uar
 refine Va (Uag (Vn (name:=Ug "__next__") hT Uj (Vr Uj hT Tae ?_ (Tab _))))
 obtain⟨hp,g,d,tk,os⟩:=s
 show Vf _ _ (Ucn (.ref e) 2 >>= _) _ _ _
 refine Va (Vo he rfl (x:=.ref j) rfl (Va (Zki hj ht hx fun h1 j1 s1=>?_)))
 replace s1:Xm j hp h1:=s1
 have e1:Ubc h1 e j c old:=(s1.2 e hne).trans he
 show Vf _ _ (Ucn (.ref e) 3 >>= _) _ _ ⟨h1,g,d,tk,os⟩
 refine Va (Vo e1 rfl (x:=Uax c) rfl ?_)
 show Vf _ _ (Ucn (.ref e) 4 >>= _) _ _ ⟨h1,g,d,tk,os⟩
 refine Va (Vo e1 rfl (x:=.none) rfl ?_)
 show Vf _ _ (mkInt c >>= _) _ _ ⟨h1,g,d,tk,os⟩
 refine Va (Ueg ?_)
 show Vf _ _ (Udx (.ref e) 3 (Uax (c+1)) >>= _) _ _ ⟨h1,g,d,tk+1,os⟩
 refine Va (Vp e1 (by simp) fun h2 e2 s2=>?_)
 replace s2:Xm e h1 h2:=s2
 replace e2:Ubc h2 e j (c+1) old:=e2
 show Vf _ _ (Udx (.ref e) 4 .none >>= _) _ _ ⟨h2,g,d,tk+1,os⟩
 refine Va (Vp e2 (by simp) fun h3 e3 s3=>?_)
 replace s3:Xm e h2 h3:=s3
 replace e3:Ubc h3 e j (c+1) old:=e3
 show Vf _ _ (newTuple [.int c tk,x] >>= _) _ _ ⟨h3,g,d,tk+1,os⟩
 refine Va (Ubp ?_)
 have e4:Ubc (h3.push { cls:=.type "tuple",data:=.seq #[.int c tk,x] }) e j (c+1) old:=Xa _ e3
 generalize q4:h3.push { cls:=.type "tuple",data:=.seq #[.int c tk,x] }=h4 at e4
 have zz:h3.objs.size=hp.objs.size:=by rw[s3.1,s2.1,s1.1]
 have lt:e<hp.objs.size:=Xd he
 have t4:h4.get? hp.objs.size=some { cls:=.type "tuple",data:=.seq #[.int c tk,x] }:=by rw[<- q4,<- zz]; exact Xe _ rfl
 have z4:h4.objs.size=hp.objs.size+1:=by rw[<- q4,Wak,zz]
 have k4:∀ b o,b≠e->b≠j->hp.get? b=some o->h4.get? b=some o:=fun b o n1 n2 q=>by
  rw[<- q4]; exact Xa _ (s3.extBut b o n1 (s2.extBut b o n1 (s1.extBut b o n2 q)))
 have j4:h4.IsTupleIter j t (i+1):=by
  obtain⟨o,ho,r⟩:=id j1
  exact⟨o,by rw[<- q4]; exact Xa _ (s3.extBut j o (Uf hne) (s2.extBut j o (Uf hne) ho)),r⟩
 show Vf _ _ (Ua (.ref e) >>= _) _ _ ⟨h4,g,d,tk+1,os⟩
 rw[zz]
 clear q4 e3 s3 e2 s2 e1 s1 j1 zz h3 h2 h1
 refine Va ?_
 unfold Ua
 refine Va (Vo e4 rfl (x:=.none) rfl (Vc ?_))
 simp only[if_true]
 refine Va (Uaj (Va (Vo e4 rfl (x:=old) rfl (Va (Vp e4 (by simp) fun h5 e5 s5=>?_)))))
 replace s5:Xm e h4 h5:=s5
 replace e5:Ubc h5 e j (c+1) x:=e5
 show Vf _ _ (Uc (.ref e) (.ref hp.objs.size) >>= _) _ _ ⟨h5,g,d,tk+1,os⟩
 refine Va ?_
 unfold Uc
 refine Va (Vp e5 (by simp) fun h6 e6 s6=>?_)
 replace s6:Xm e h5 h6:=s6
 replace e6:Udb h6 e j (c+1) x hp.objs.size:=e6
 refine Vp e6 (by simp) fun h7 e7 s7=>?_
 replace s7:Xm e h6 h7:=s7
 replace e7:Udb h7 e j (c+1) x hp.objs.size:=e7
 have up:∀ b o,b≠e->h4.get? b=some o->h7.get? b=some o:=fun b o n q=>s7.extBut b o n (s6.extBut b o n (s5.extBut b o n q))
 refine Va (Uco (Vc ⟨_,rfl,Vc (hQ h7 tk e7 ?_ (up _ _ (Wcc lt) t4) (by rw[s7.1,s6.1,s5.1,z4]) fun b o n1 n2 q=>up b o n1 (k4 b o n1 n2 q))⟩))
 obtain⟨o,ho,r⟩:=id j4
 exact⟨o,up j o (Uf hne) ho,r⟩
theorem Zn2 {e j t:Vg} {i:Nat} {c:Int} {its:Array Vb} {old:Vb} {Q:Option Vb->Vd->Prop} (hh:A.handled=none) (he:Ubc s.heap e j c old) (hj:s.heap.IsTupleIter j t i) (ht:s.heap.IsTuple t its) (hx:its[i]? = none)
  (hQ:∀ h',Wec j s.heap h'->Q none { s with heap:=h' }):Vf (Vj prog w) A (Uar (.ref e)) Q E s:=by
 have hT:s.TypeIs (.ref e) "enumerate" := ⟨_,he,rfl⟩
 unfold Uar
 refine Va (Uag (Vn (name:=Ug "__next__") hT Uj (Vr Uj hT Tae ?_ (Tab _))))
 show Vf _ _ (Ucn (.ref e) 2 >>= _) _ _ _
 refine Va (Vo he rfl (x:=.ref j) rfl (Va (Zm0 hh hj ht hx fun h' z he' zz=>?_)))
 obtain⟨o,ho,hc⟩:=zz
 exact Va (Uao (T := "StopIteration") (b:=true) ⟨o,ho,hc⟩ Ubq (Vc (hQ _ he')))
open AutoSeq1 (wpAny_loadPart') in
theorem Zmo (t:Vg) (its:Array Vb) (n:Nat) (dct:Option Vg) (sl:Array (Option Vb)) :
  Uec (Builtin.«enumerate.__new__» ⟨[.type "enumerate",.ref t],[]⟩) (fun _ R s=>s.heap.get? t=some { cls:=.type "tuple",dict:=dct,data:=.seq its n,slots:=sl } /\
   R (.ok (.ret (.ref (s.heap.push { cls:=.type "tuple_iterator",data:=.fields #[.ref t,.int 0 0] }).objs.size)))
    { s with heap:=(s.heap.push { cls:=.type "tuple_iterator",data:=.fields #[.ref t,.int 0 0] }).push { cls:=.type "enumerate",data:=.fields #[.none,.bool false,.ref s.heap.objs.size,Uax 0,.none,.none] } }) :=
 .of_wp fun prog w A R s h=>by
  obtain⟨hp,g,d,tk,os⟩:=s; obtain⟨hl,h⟩:=h
  have hsub:=Udy
  have hL:Heap.IsTuple (Tbs ⟨hp,g,d,tk,os⟩) t its:=⟨_,hl,rfl,n,rfl⟩
  wp_walk using Vq hl
  refine Udc fun st=>Vc ?_
  split
  ·rename_i k _ _ _ _ _
   cases (k==Ul "enumerate")<;>(wp_walk using Vq hl,Uap hL; exact⟨_,rfl,h⟩)
  ·wp_walk using Vq hl,Uap hL
   exact⟨_,rfl,h⟩
theorem Zmf {t:Vg} {its:Array Vb} {Q:Vb->Vd->Prop} (hL:s.heap.IsTuple t its)
  (h:∀ h',Ubc h' (s.heap.objs.size+1) s.heap.objs.size 0 .none->h'.IsTupleIter s.heap.objs.size t 0->h'.objs.size=s.heap.objs.size+2 ->
   (∀ b o,s.heap.get? b=some o->h'.get? b=some o)->Q (.ref (s.heap.objs.size+1)) { s with heap:=h' }) :
  Vf (Vj prog w) A (call (.type "enumerate") [.ref t]) Q E s:=by
 obtain⟨⟨k,dct,dt,sl⟩,hl,hc,n,hd⟩:=hL
 replace hc:k=.type "tuple" := hc
 replace hd:dt=.seq its n:=hd
 subst hc hd
 refine Ueb Taf (by decide) (Tbx _) (Tcc _) (fun obj=>Tch obj _) Tau (Zmo t its n dct sl) ⟨hl,?_⟩
 have hz:(s.heap.push { cls:=.type "tuple_iterator",data:=.fields #[.ref t,.int 0 0] }).objs.size=s.heap.objs.size+1:=Wak ..
 show _/\_
 rw[hz]
 have he:Ubc ((s.heap.push { cls:=.type "tuple_iterator",data:=.fields #[.ref t,.int 0 0] }).push { cls:=.type "enumerate",data:=.fields #[.none,.bool false,.ref s.heap.objs.size,Uax 0,.none,.none] }) (s.heap.objs.size+1) s.heap.objs.size 0 .none:=by
  have q:=Xe (s.heap.push { cls:=.type "tuple_iterator",data:=.fields #[.ref t,.int 0 0] }) (o:={ cls:=.type "enumerate",data:=.fields #[.none,.bool false,.ref s.heap.objs.size,Uax 0,.none,.none] }) rfl
  rw[hz] at q; exact q
 exact⟨⟨_,he,rfl⟩,h _ he ⟨_,Xa _ (Xe _ rfl),rfl,rfl⟩ (by rw[Wak,hz]) fun b o x=>Xa _ (Xa _ x)⟩
end
nonrec def Zve (K:Xb) (c:Int) (a:Vg):It :=
 ⟨fun i H=>∃ xs x,SqT K H a xs/\xs[i]? = some x,fun i H v H'=>∃ p x,H p=none/\v=.ref p/\H'=upd H p (.tup [.int (c+i),x])/\∀ xs,SqT K H a xs->xs[i]? = some x,fun i H=>∃ xs,SqT K H a xs/\xs.length<=i⟩
theorem Zha {P:Vl} {w:Vt} {K:Xb} {es:List Uac} {k:Nat} {pos:Pos} (a e j:Vg) (c:Int) (hne:e≠j):Turn P w K (.Tuple es k pos) (Zve K c a) [e,j] e (fun i h=>∃ old,Ubc h e j (c+i) old/\h.IsTupleIter j a i) where
 mem:=by simp
 obj:=fun i h st b hb=>by
  obtain⟨old,he,o,ho,hc,hd⟩:=st
  rcases Xl.mp hb with rfl | hb
  ·exact⟨_,he,fun v z=>by cases z⟩
  ·have:b=j:=by simpa using hb
   subst this
   exact⟨o,ho,fun v z=>by rw[hd] at z; cases z⟩
 keep:=fun i h h' st kk=>by
  obtain⟨old,he,o,ho,r⟩:=st
  exact⟨old,kk e (by simp) _ he,o,kk j (by simp) o ho,r⟩
 item:=by
  intro X hP hw hK hc i pins s σ H E I hf st hg
  subst hP hw hK
  obtain⟨xs,x,hq,hx⟩:=hg
  obtain⟨old,he,hj⟩:=st
  obtain⟨its,rv,p,hz⟩:=I.tuple hq
  obtain⟨u,hu,ru⟩:=rv.get hx
  have fe:=hf e (by simp)
  have fj:=hf j (by simp)
  refine Znj he hj (show s.heap.IsTuple a its.toArray from p) (x:=u) (by simpa using hu) hne fun h' tk eo j' t' z' kk=>?_
  refine⟨_,rfl,Ucc (s:={ s with heap:=h',toks:=s.toks+1 }) eo fun h2 e2 s2=>?_⟩
  replace s2:Xm e h' h2:=s2
  have le:e<s.heap.objs.size:=Xd he
  have ne2:s.heap.objs.size≠e:=Wcc le
  -- the iterator's two records have turned, the pair is new
  have t2:h2.get? s.heap.objs.size=some { cls:=.type "tuple",data:=.seq #[.int (c+i) tk,u] }:=s2.extBut _ _ ne2 t'
  have hp0:H s.heap.objs.size=none:=I.hok.fresh (Xf _)
  have up:∀ b o,b∉[e,j]->s.heap.get? b=some o->h2.get? b=some o:=fun b o hb q =>
   s2.extBut b o (fun z=>hb (by simp[z])) (kk b o (fun z=>hb (by simp[z])) (fun z=>hb (by simp[z])) q)
  have I2:Inv X pins σ (upd H s.heap.objs.size (.tup [.int (c+i),x])) { s with heap:=h2,toks:=s.toks+1 }:=by
   refine I.step (g':=s.gens) (d':=s.drawn) (t':=s.toks+1) (ch:=[e,j]) (fun b hb=>?_) (fun b o _ _ hb q n=>up b o hb q) (fun b o _ _ hb q n=>⟨o.slots,up b o hb q⟩) (fun b o _ q n=>?_) (fun b o hb q=>⟨o,up b o hb q⟩) (fun b ys q=>?_) (fun b o y q=>?_) (fun b ps q=>⟨#[],?_⟩) (fun m hm=>?_) (fun b o q=>?_) I.bare
   ·have:=hf b hb; exact⟨this.2.2.2.1,this.2.1,this.2.2.2.2.1,this.2.2.2.2.2⟩
   ·rw[Zaf (Xh (Xd q))]; exact n
   ·rw[Zaf (Zae q hp0)]; exact q
   ·rw[Zaf (Zae q hp0)]; exact q
   ·rw[Zaf (Zae q hp0),q]; simp
   ·obtain⟨o,es',ep,ho,r⟩:=hm
    exact⟨o,es',ep,s2.extBut _ o (Uf fe.2.1) (kk _ o (Uf fe.2.1) (Uf fj.2.1) ho),r⟩
   ·by_cases hb:b=s.heap.objs.size
    ·subst hb
     rw[Zas] at q
     cases q
     exact⟨(by show 2<=sizeLine; decide),[.int (c+i) tk,u],.cons ⟨tk,rfl⟩ (.cons ru .nil),_,t2,rfl,⟨_,rfl⟩,rfl⟩
    ·rw[Zaf hb] at q
     refine(I.hok b o q).stay (fun d v hd z=>up d v (fun hm=>?_) z) (fun d z=>by rw[Zaf (Zae z hp0)]; exact z) fun d ys z=>by rw[Zaf (Zae z hp0)]; exact z
     have:H d≠none:=by
      rcases hd with rfl | hd
      ·rw[q]; simp
      ·rw[hd]; simp
     exact this (hf d hm).1
  refine⟨.ref s.heap.objs.size,_,I2,rfl,⟨_,x,hp0,rfl,rfl,fun ys hy=>by rw[I.tuple_inj hy hq]; exact hx⟩,?_,fun b hb=>?_⟩
  ·obtain⟨o,ho,r⟩:=id j'
   have ec:c+((i+1:Nat):Int)=c+(i:Int)+1:=by push_cast; omega
   exact⟨u,by rw[ec]; exact e2,o,s2.extBut j o (Uf hne) ho,r⟩
  ·have hb2:b≠s.heap.objs.size:=by
    rcases Xl.mp hb with rfl | hb
    ·exact Xh le
    ·have:b=j:=by simpa using hb
     subst this
     obtain⟨o,ho,_⟩:=id hj
     exact Xh (Xd ho)
   rw[Zaf hb2]; exact(hf b hb).1
 done:=by
  intro X hP hw hK hc i pins s σ H E I hf st hg
  subst hP hw hK
  obtain⟨xs,hq,hx⟩:=hg
  obtain⟨old,he,hj⟩:=st
  obtain⟨its,rv,p,hz⟩:=I.tuple hq
  obtain⟨f0,f1,f2,f3,f4,f5⟩:=hf j (by simp)
  have hl:=rv.length
  exact Zn2 (I.ok.hd hc) he hj (show s.heap.IsTuple a its.toArray from p) (by simp; omega) fun h' eb=>⟨rfl,I.turned (t':=s.toks) (fun b o hb q=>eb b o hb q) f0 f1 f3 f4 f5⟩
 self:=fun _ _ _ _ _ st h=>by
  obtain⟨old,he,_⟩:=st
  exact Uay he h
section
variable {X:Cx}
nonrec def Zcq (c:Int):List D->List D
 | []=>[]
 | x::r=>.tup [.int c,x]::Zcq (c+1) r
theorem Zcz:∀ (xs:List D) (c:Int),(Zcq c xs).length=xs.length
 | [],_=>rfl
 | x::r,c=>by simp[Zcq,Zcz r]
theorem Zga:∀ {xs:List D} {c:Int} {i:Nat} {d:D},(Zcq c xs)[i]? = some d->∃ x,xs[i]? = some x/\d=.tup [.int (c+i),x]
 | [],c,i,d,h=>by simp[Zcq] at h
 | x::r,c,0,d,h=>by simp[Zcq] at h; exact⟨x,rfl,by rw[<- h]; simp⟩
 | x::r,c,i+1,d,h=>by
  simp only[Zcq,Wcd] at h
  obtain⟨y,h1,h2⟩:=Zga h
  refine⟨y,by simpa using h1,?_⟩
  rw[h2]
  have:c+1+(i:Int)=c+((i+1:Nat):Int):=by push_cast; omega
  rw[this]
theorem Zlf {K:Xb} {H0:Hp} {ι0:List Vg} {a:Vg} {c:Int} {xs:List D} {vs:List V} (hS:SqT K H0 a vs) (P:Vm (Rep K H0 ι0) xs vs)
  (inj:∀ (i:Nat) (H:Hp) (x:V),(∀ ys,SqT K H a ys->ys[i]? = some x)->SqT K H a vs->vs[i]? = some x):ItRep K (Zve K c a) (Zcq c xs) [] H0 ι0:=by
 refine⟨fun i H2 ι2 Hd2 l2 h2 _ hi=>?_,fun i H2 ι2 Hd2 d v H3 l2 h2 _ hd y=>?_,fun i H2 ι2 Hd2 l2 h2 _ hi=>⟨vs,l2.tup a vs hS,by rw[<- Prd.len P,<- Zcz xs c]; exact hi⟩⟩
 ·exact⟨vs,vs[i]'(by rw[<- Prd.len P,<- Zcz xs c]; exact hi),l2.tup a vs hS,by simp⟩
 ·obtain⟨p,x,hp,rfl,rfl,y⟩:=y
  obtain⟨x',hx',rfl⟩:=Zga hd
  obtain⟨u,hu,ru⟩:=Prd.get P hx'
  have:=y vs (l2.tup a vs hS)
  rw[hu] at this
  cases this
  refine⟨ι2,Le.fresh hp _,h2.tup hp _,Zan.mpr ⟨p,_,rfl,SqT.of Zas,.cons (by simp) (.cons ((ru.mono l2).mono (Le.fresh hp _)) .nil)⟩⟩
nonrec def Zqh (f:AF):ItF:=fun σ H=>(f σ H).bind fun p=>match p.1 with
 | [.tup xs]=>some ((Zcq 0 xs,[]),p.2)
 | _=>none
theorem Zqd {es:List Uac} {k:Nat} {tp p pos:Pos} {a:Uac} {f:AF} (hg:Gl X "enumerate") (hm:X.mg "enumerate" = none) (ha:PAf X [a] f) (hs:Vk [a] X.env=[(false,eval a X.env)]:=by rfl):PIf X (.Tuple es k tp) (.Call (.Name "enumerate" p) [a] [] pos) (Zqh f):=by
 rintro pins s σ H R I ⟨ι,σd,Hd,xs,own,Hd',sr,hr,e,q⟩
 obtain⟨⟨ds,H1⟩,e1,e⟩:=Zo e
 dsimp only at e
 split at e
 ·rename_i ys
  cases e
  refine Call_ (Zdk I hg hm Udo (Uh (thn (ha pos pins s σ H (fun vs H'=>∃ a ws,vs=[.ref a]/\SqT X.K H' a ws/\∀ (J:It) (H2:Hp),H2=H'->J=Zve X.K 0 a->R J H2) I ⟨ι,σd,Hd,_,_,sr,hr,e1,fun vs H' ι' l h P=>?_⟩) fun us s1 ⟨vs,H2,I2,r2,q2⟩=>?_) hs rfl))
  ·obtain⟨v,rfl,r⟩:=Zji P
   obtain⟨ad,ws,rfl,hS,P2⟩:=Zan.mp r
   refine⟨ad,ws,rfl,hS,fun J H2 e2 e3=>?_⟩
   subst e2 e3
   exact q _ _ ι' l h (Zlf hS P2 fun i H x y h=>y ws h)
  ·obtain⟨ad,ws,rfl,hS,q2⟩:=q2
   obtain⟨u,rfl,ru⟩:=Zhl r2
   cases ru
   obtain⟨its,rv,p,hz⟩:=I2.tuple hS
   refine Zmf (show s1.heap.IsTuple ad its.toArray from p) fun h' he hj z' kk=>?_
   have I3:Inv X pins σ H2 { s1 with heap:=h' }:=I2.kept (t':=s1.toks) kk
   refine Uay (s:={ s1 with heap:=h' }) he ?_
   have ne:s1.heap.objs.size+1≠s1.heap.objs.size:=Wes _
   refine⟨s1.heap.objs.size+1,[s1.heap.objs.size+1,s1.heap.objs.size],_,Zve X.K 0 ad,H2,rfl,I3,Zha ad _ _ 0 ne,⟨.none,by simpa using he,hj⟩,fun b hb=>?_,q2 _ _ rfl rfl⟩
   have:s1.heap.objs.size<=b:=by
    rcases Xl.mp hb with rfl | hb
    ·exact Wfi _
    ·have:b=s1.heap.objs.size:=by simpa using hb
     rw[this]; exact Xf _
   have fp:=I2.fpOk (b:=b) (H':=H2) this (I2.hok.fresh this)
   exact fp
 ·cases e
end
structure Fn (P:Vl) (w:Vt) (K:Xb) (mg:Str->Option Vb) (base:Uab) (k:Nat) (x:Str) (ps:List Str) (F:FF):Prop where
 ex:∃ f fd,FnOk P w K mg base CX0 k f fd ps (spF K ps.length F)/\Zjz K fd ps []/\Wcv K (.ref f)=true/\mg x=some (.ref f)/\∃ (oc:Vb) (od:Option Vg) (osl:Array (Option Vb)),K.lookup f=some ⟨oc,od,.func fd,osl⟩
theorem Za8 {X:Cx} {k n:Nat} {ps:List Str} {x:Str} {p pos:Pos} {F:FF} {fa:AF} {e:Uac} {es:List Uac} (G:Fn X.prog X.w X.K X.mg X.base k x ps F) (hr:Room k X.A) (hg:Gl X x)
  (ha:PAf X (e::es) fa) (hdb:(x==("__debug__" : Str))=false:=by decide) (he:Vk (e::es) X.env=(false,eval e X.env)::Vk es X.env:=by exact Zbj rfl) (hpl:(Uau pos (Vk es X.env)).any (·.1)=false:=by exact Zb7 rfl) (hn:ps.length=n:=by rfl) :
  PEf X (.Call (.Name x p) (e::es) [] pos) (Zax n F fa):=by
 subst hn
 obtain⟨f,fd,G1,hb,hk,hm,_⟩:=G.ex
 exact Zp7 G1 hr hg hm hk hb ha hdb he hpl
def Tf (K:Xb) (mg:Str->Option Vb) (x:Str) (st:Ubv):Prop:=∃ f fd,Fun K x x st f fd/\mg x=some (.ref f)
theorem us0 {us:List Vb} (h:us.length=0):us=[]:=Wbq.mp h
theorem us1 {us:List Vb} (h:us.length=1):∃ a,us=[a]:=by
 obtain⟨a,r⟩:=Wan h
 obtain⟨t,rfl⟩:=r
 rw[us0 (us:=t) (by simpa using h)]
 exact⟨a,rfl⟩
theorem us2 {us:List Vb} (h:us.length=2):∃ a b,us=[a,b]:=by
 obtain⟨a,t,rfl⟩:=Wan h
 obtain⟨b,rfl⟩:=us1 (us:=t) (by simpa using h)
 exact⟨a,b,rfl⟩
theorem us3 {us:List Vb} (h:us.length=3):∃ a b c,us=[a,b,c]:=by
 obtain⟨a,t,rfl⟩:=Wan h
 obtain⟨b,c,rfl⟩:=us2 (us:=t) (by simpa using h)
 exact⟨a,b,c,rfl⟩
theorem us4 {us:List Vb} (h:us.length=4):∃ a b c d,us=[a,b,c,d]:=by
 obtain⟨a,t,rfl⟩:=Wan h
 obtain⟨b,c,d,rfl⟩:=us3 (us:=t) (by simpa using h)
 exact⟨a,b,c,d,rfl⟩
theorem us5 {us:List Vb} (h:us.length=5):∃ a b c d e,us=[a,b,c,d,e]:=by
 obtain⟨a,t,rfl⟩:=Wan h
 obtain⟨b,c,d,e,rfl⟩:=us4 (us:=t) (by simpa using h)
 exact⟨a,b,c,d,e,rfl⟩
theorem tf_mk {K:Xb} {h:Uab} {mg:Str->Option Vb} {x:Str} {st:Ubv} {f:Vg} {oc:Vb} {od an:Option Vg} {osl:Array (Option Vb)} {kV doc pm cdv ct:Vb} (X:K.In h) (G:h.Ns Vw mg)
  (a:Wdn K Vw x=some (some (.ref f))) (l:K.lookup f=some ⟨oc,od,.func (Wcl x x (Zdp st) (Zcd st) (Zag st) .none kV doc pm an cdv ct),osl⟩)
  (c:Weh K cdv x=true) (k:Wcv K (.ref f)=true):Tf K mg x st:=⟨f,_,Zwg l c k,Wgn X G a⟩
theorem Zcn {P:Vl} {w:Vt} {K:Xb} {mg:Str->Option Vb} {base:Uab} {x:Str} {st:Ubv} {N ps:List Str} {k:Nat} {b:SF} (T:Tf K mg x st) (S:FnScope N ps (Zag st))
  (hbd:∀ (kV doc pm:Vb) (an:Option Vg) (cdv ct:Vb) (us:List Vb),us.length=ps.length->bindArgs (Wcl x x (Zdp st) (Zcd st) (Zag st) .none kV doc pm an cdv ct) ⟨us,[]⟩=pure (ps.zip us))
  (hb:∀ (f:Vg) (cdv:Vb) (A:Vu) (outer:List Env) (s:Vd) (H:Hp) (E:XK),Room k (A.deeper (Udn x (Zag st) s.heap.objs.size f cdv)) ->
   Zqe (Zps CX0 P w K mg base N x (Zag st) f cdv A outer s H E).nox (Zcd st) b):Fn P w K mg base (k+1) x ps (Zce ps.length N.length b):=by
 obtain⟨f,fd,F,hm⟩:=T
 refine⟨f,fd,fn_f F S fun cdv A outer s H E hr=>hb f cdv A outer s H E hr,F.binds hbd,F.kp,hm,?_⟩
 obtain⟨oc,od,kV,doc,pm,an,cdv,ct,osl,rfl,lk,hcd⟩:=F.ex
 exact⟨oc,od,osl,lk⟩
nonrec def blkB (sc scope:Ucf) (N:List Str) (x:Str) (cn:List Str) (ci:List Nat):Bool :=
 (scope.kind==.function)&&scope.names.all (fun y=>y.2 != .cell)&&scope.names.all (fun y=>y.2 != .local||scope.names.lookup y.1==some .local)&&(scope.names.lookup x==some .local) &&
 scope.names.all (fun y=>y.2 != .free||sc.names.lookup y.1==some .cell)&&decide (x::cn).Nodup&&(ci.length==cn.length) &&
 (cn.zip ci).all (fun p=>N[p.2]? == some p.1&&scope.names.lookup p.1==some .free&&sc.names.lookup p.1==some .cell)
theorem Zed {P:Vl} {w:Vt} {K:Xb} {mg:Str->Option Vb} {base:Uab} {N:List Str} {qual:Str} {sc scope:Ucf} {f:Vg} {cdv:Vb} {A:Vu} {outer:List Env} {s:Vd} {H:Hp} {E:XK} {x:Str} {cn:List Str} {ci:List Nat}
  (h:blkB sc scope N x cn ci=true):BlkOk (Zps CX0 P w K mg base N qual sc f cdv A outer s H E).nox scope x cn ci:=by
 unfold blkB at h
 simp only[Wbc,Wdq,Wfa,bne_iff_ne,ne_eq,beq_iff_eq,decide_eq_true_eq] at h
 obtain⟨⟨⟨⟨⟨⟨⟨h1,h2⟩,h3⟩,h4⟩,h5⟩,h6⟩,h7⟩,h8⟩:=h
 refine⟨h1,fun y hy=>h2 y hy,fun y hy hl=>(h3 y hy).resolve_left fun z=>z hl,h4,fun y hy hf=>?_,h6,h7,fun j y hj=>?_⟩
 ·have:=(h5 y hy).resolve_left fun z=>z hf
  obtain⟨c,hc⟩:=Zfd (n:=s.heap.objs.size+1) this
  exact Wbn.mpr ⟨c,hc⟩
 ·have hl:j<ci.length:=by rw[h7]; exact(Xc.mp hj).1
  have hm:(y,ci[j])∈cn.zip ci:=by
   refine Wdo.mpr ⟨j,?_⟩
   rw[Wei]
   exact⟨hj,by simp[hl]⟩
  obtain⟨⟨k1,k2⟩,k3⟩:=h8 _ hm
  exact⟨ci[j],by simp[hl],k1,k2,.inl k3⟩
theorem Zxx:Vv "len" = some (.builtin "len"):=by decide +kernel
theorem Zxv:Vv "abs" = some (.builtin "abs"):=by decide +kernel
theorem Zwa:Vv "max" = some (.builtin "max"):=by decide +kernel
theorem Zid:Vv "sorted" = some (.builtin "sorted"):=by decide +kernel
theorem Zhd:Vv "isinstance" = some (.builtin "isinstance"):=by decide +kernel
theorem Zye:Vv "int" = some (.type "int"):=by decide +kernel
theorem Zkw:Vv "tuple" = some (.type "tuple"):=by decide +kernel
theorem Zjv:Vv "bool" = some (.type "bool"):=by decide +kernel
section
variable {X:Cx} {tg:Uac}
theorem Zut {K:Xb} {H0:Hp} {ι0:List Vg} {a:Vg} {xs:List D} {vs:List V} (hS:SqT K H0 a vs) (P:Vm (Rep K H0 ι0) xs vs):ItRep K (Itt K a) xs [] H0 ι0:=by
 refine⟨fun i H2 ι2 Hd2 l2 h2 _ hi=>?_,fun i H2 ι2 Hd2 d x H3 l2 h2 _ hd y=>?_,fun i H2 ι2 Hd2 l2 h2 _ hi=>⟨vs,l2.tup a vs hS,by rw[<- Prd.len P]; exact hi⟩⟩
 ·exact⟨vs,vs[i]'(by rw[<- Prd.len P]; exact hi),l2.tup a vs hS,by simp⟩
 ·obtain⟨rfl,y⟩:=y
  obtain⟨u,hu,ru⟩:=Prd.get P hd
  have:=y vs (l2.tup a vs hS)
  rw[hu] at this
  cases this
  exact⟨ι2,Le.refl,h2,ru.mono l2⟩
theorem Zxo {K:Xb} {H0:Hp} {ι0:List Vg} {a:Vg} {xs:List D} {vs:List V} (hS:FzL K H0 a vs) (P:Vm (Rep K H0 ι0) xs vs):ItRep K (Itl K a) xs [] H0 ι0:=by
 refine⟨fun i H2 ι2 Hd2 l2 h2 _ hi=>?_,fun i H2 ι2 Hd2 d x H3 l2 h2 _ hd y=>?_,fun i H2 ι2 Hd2 l2 h2 _ hi=>⟨vs,(l2.fz a vs hS).sq,by rw[<- Prd.len P]; exact hi⟩⟩
 ·exact⟨vs,vs[i]'(by rw[<- Prd.len P]; exact hi),(l2.fz a vs hS).sq,by simp⟩
 ·obtain⟨rfl,y⟩:=y
  obtain⟨u,hu,ru⟩:=Prd.get P hd
  have:=y vs (l2.fz a vs hS).sq
  rw[hu] at this
  cases this
  exact⟨ι2,Le.refl,h2,ru.mono l2⟩
theorem Zuz {K:Xb} {H0:Hp} {ι0:List Vg} {a:Vg} {n:Nat} {xs:List D} (ha:ι0[n]? = some a):ItRep K (Itl K a) xs [(n,.lst xs)] H0 ι0:=by
 have now:∀ {H2:Hp} {ι2:List Vg} {Hd2:HD},Le K H0 ι0 H2 ι2->HRep K H2 ι2 Hd2->Zbn [(n,DO.lst xs)] Hd2->∃ ws,H2 a=some (.lst ws)/\Vm (Rep K H2 ι2) xs ws:=fun {H2 ι2 Hd2} l2 h2 ok =>
  h2.obj n a _ (l2.get ha) (ok (n,.lst xs) (by simp))
 refine⟨fun i H2 ι2 Hd2 l2 h2 ok hi=>?_,fun i H2 ι2 Hd2 d x H3 l2 h2 ok hd y=>?_,fun i H2 ι2 Hd2 l2 h2 ok hi=>?_⟩
 ·obtain⟨ws,h3,P3⟩:=now l2 h2 ok
  exact⟨ws,ws[i]'(by rw[<- Prd.len P3]; exact hi),SqL.of h3,by simp⟩
 ·obtain⟨ws,h3,P3⟩:=now l2 h2 ok
  obtain⟨rfl,y⟩:=y
  obtain⟨u,hu,ru⟩:=Prd.get P3 hd
  have:=y ws (SqL.of h3)
  rw[hu] at this
  cases this
  exact⟨ι2,Le.refl,h2,ru⟩
 ·obtain⟨ws,h3,P3⟩:=now l2 h2 ok
  exact⟨ws,SqL.of h3,by rw[<- Prd.len P3]; exact hi⟩
nonrec def iSq (f:EF):ItF:=fun σ H=>(f σ H).bind fun p=>(Zgd p.1 p.2).map fun r=>(r,p.2)
theorem Zcf {l:Uac} {f:EF} (hl:PEf X l f):PIf X tg l (iSq f):=by
 rintro pins s σ H R I ⟨ι,σd,Hd,xs,own,Hd',sr,hr,e,q⟩
 obtain⟨⟨d,H1⟩,e1,e⟩:=Zo e
 obtain⟨⟨ys,ow⟩,e2,e⟩:=Zm e
 obtain⟨e3,rfl⟩:=Wbh.inj e
 obtain⟨rfl,rfl⟩:=Wbh.inj e3
 refine thn (hl pins s σ H (fun v H1=>∃ a,v=.ref a/\(((∃ xs,SqL X.K H1 a xs)/\R (Itl X.K a) H1)\/((∃ xs,SqT X.K H1 a xs)/\R (Itt X.K a) H1))) I ⟨ι,σd,Hd,_,_,sr,hr,e1,fun v H' ι' l h r=>?_⟩) fun v s1 ⟨x,H2,I2,r2,q2⟩=>?_
 ·cases d with
  | tup zs =>
   cases e2
   obtain⟨a,vs,rfl,hS,P⟩:=Zan.mp r
   exact⟨a,rfl,.inr ⟨⟨vs,hS⟩,q _ H' ι' l h (Zut hS P)⟩⟩
  | fl zs =>
   cases e2
   obtain⟨a,vs,rfl,hS,P⟩:=Zek.mp r
   exact⟨a,rfl,.inl ⟨⟨vs,hS.sq⟩,q _ H' ι' l h (Zxo hS P)⟩⟩
  | ref n =>
   simp only[Zgd] at e2
   split at e2
   ·rename_i zs eo
    obtain⟨e5,e6⟩:=Wbh.inj (Waa.inj e2)
    subst e5 e6
    obtain⟨a,rfl,ha⟩:=Zao.mp r
    obtain⟨vs,h1,P⟩:=h.obj n a _ ha eo
    exact⟨a,rfl,.inl ⟨⟨vs,SqL.of h1⟩,q _ H' ι' l h (Zuz ha)⟩⟩
   ·cases e2
  | _=>simp[Zgd] at e2
 ·obtain⟨a,rfl,q2⟩:=q2
  cases r2
  have fp:∀ b∈[s1.heap.objs.size],Zjr X pins H2 b:=fun b hb=>by
   have e:b=s1.heap.objs.size:=by simpa using hb
   subst e
   exact I2.fpOk (Xf _) (I2.hok.fresh (Xf _))
  rcases q2 with ⟨⟨xs,hq⟩,q2⟩ | ⟨⟨xs,hq⟩,q2⟩
  ·obtain⟨its,rv,p,hz⟩:=I2.list hq
   exact Uaz p.isList ⟨s1.heap.objs.size,[s1.heap.objs.size],_,_,H2,rfl,I2.kept (t':=s1.toks) fun b o e=>Xa _ e,Zmr a _,⟨_,Xe _ rfl,rfl,rfl⟩,fp,q2⟩
  ·obtain⟨its,rv,p,hz⟩:=I2.tuple hq
   exact Uap (show s1.heap.IsTuple a its.toArray from p) ⟨s1.heap.objs.size,[s1.heap.objs.size],_,_,H2,rfl,I2.kept (t':=s1.toks) fun b o e=>Xa _ e,Zlr a _,⟨_,Xe _ rfl,rfl,rfl⟩,fp,q2⟩
end
theorem paf_c {X:Cx} {e:Uac} {es:List Uac} {f:EF} {g:AF} (ha:PEf X e f) (hr:PAf X es g) (hs:Zky e=true):PAf X (e::es) (Zab f g):=Zq3 ha hr (Zbj hs)
nonrec def Zvl (F:FF) (K:Xb):Sp:=spF K 1 F
theorem Zm5 {F:FF} (h:∀ ns:List Int,ns.length<=63->∃ Hd',F [.fl (ns.map .int)] []=some (.bl true,Hd')) :
  ∀ (K:Xb) (H:Hp) (a:Vg) (ns:List Int),ns.length<=63->Zxh H->SqL K H a (ns.map V.int)->Zvl F K [.ref a] H (fun v _=>v=.bl true) fun _ _ _=>False:=by
 intro K H a ns hl hO hS
 obtain⟨Hd',e⟩:=h ns hl
 have fz:FzL K H a (ns.map V.int):=by
  rcases hS with (h | h) | h
  ·rcases hO a with z | ⟨o,xs,z⟩
   ·rw[h] at z; cases z
   ·rw[h] at z; cases z
  ·exact .inl h
  ·exact .inr h
 have P:Vm (Rep K H []) (ns.map D.int) (ns.map V.int):=by
  generalize ns=ks
  induction ks with
  | nil=>exact .nil
  | cons k ks ih=>exact .cons (by simp) ih
 refine⟨[],[.fl (ns.map .int)],[],.bl true,Hd',rfl,⟨rfl,Wej,fun n a o h1 h2=>by simp at h1⟩,.cons (Zek.mpr ⟨a,_,rfl,fz,P⟩) .nil,e,fun v H' ι' l h r=>by simpa using r⟩
variable {X:Cx}
variable {X:Cx}
def Gc (K:Xb) (mg:Str->Option Vb) (x:Str) (d:D):Prop:=∃ u v,mg x=some u/\Zbc v u/\∀ H ι,Rep K H ι d v
theorem Zya {x:Str} {d:D} {pos:Pos} (hg:Gl X x) (h:Gc X.K X.mg x d) (hd:(x==("__debug__" : Str))=false:=by decide):PEf X (.Name x pos) (eC d):=by
 obtain⟨u,v,hm,r,rp⟩:=h
 exact Zl0 (Zt9 (v:=v) hg hm r hd) rp
variable {X:Cx}
nonrec def Zij (kvs:List (D×D)) (k:List Int):Option D:=(kvs.find? fun p=>nk p.1==some k).map (·.2)
nonrec def Zr9 (kvs:List (D×D)) (kd:D) (k:List Int) (vd:D):List (D×D) :=
 if (Zij kvs k).isSome then kvs.map (fun p=>if nk p.1=some k then (p.1,vd) else p) else kvs++[(kd,vd)]
section
variable {K:Xb} {H:Hp} {ι:List Vg}
theorem Zs8 {kvs:List (D×D)} {xs:List (List Int×Vg×Vb)} (h:Vm (Zmi K H ι) kvs xs) (k:List Int) :
  (Zij kvs k=none/\atKey xs k=none)\/∃ vd b u v,Zij kvs k=some vd/\atKey xs k=some (b,u)/\Zbc v u/\Rep K H ι vd v:=by
 unfold Zij atKey
 induction h with
 | nil=>exact .inl ⟨rfl,rfl⟩
 | @cons p x ps ys r t ih =>
  obtain⟨r1,r2,v,r3,r4⟩:=r
  by_cases hk:x.1=k
  ·have e1:(nk p.1==some k)=true:=by rw[r1,hk]; simp
   refine .inr ⟨p.2,x.2.1,x.2.2,v,?_,?_,r3,r4⟩
   ·rw[Wbm]; simp only[e1]; rfl
   ·rw[Wbm]; simp only[hk,decide_true]; rfl
  ·have e1:¬ (nk p.1==some k)=true:=by rw[r1]; simpa using hk
   have e1':(nk p.1==some k)=false:=by simpa using e1
   have e2':decide (x.1=k)=false:=decide_eq_false hk
   rw[Wbm,Wbm]
   simp only[e1',e2']
   exact ih
theorem Zqs {kvs:List (D×D)} {xs:List (List Int×Vg×Vb)} {kd vd:D} {k:List Int} {b:Vg} {u:Vb} {v:V} (h:Vm (Zmi K H ι) kvs xs) (h1:nk kd=some k) (h2:Rep K H ι kd (.ref b)) (rv:Zbc v u) (r:Rep K H ι vd v) :
  Vm (Zmi K H ι) (Zr9 kvs kd k vd) (Ubu xs k b u):=by
 have all:∀ {ls:List (D×D)} {ys:List (List Int×Vg×Vb)},Vm (Zmi K H ι) ls ys->Vm (Zmi K H ι) (ls.map (fun p=>if nk p.1=some k then (p.1,vd) else p)) (ys.map (putAt k u)):=by
  intro ls ys q
  induction q with
  | nil=>exact .nil
  | @cons p x ps zs r' t ih =>
   refine .cons ?_ ih
   obtain⟨r1,r2,r3⟩:=r'
   unfold putAt
   by_cases hk:x.1=k
   ·have e:nk p.1=some k:=by rw[r1,hk]
    show Zmi K H ι (if nk p.1=some k then (p.1,vd) else p) (if x.1=k then (x.1,x.2.1,u) else x)
    rw[if_pos hk,if_pos e]
    exact⟨r1,r2,v,rv,r⟩
   ·have e:¬ nk p.1=some k:=by rw[r1]; simpa using hk
    show Zmi K H ι (if nk p.1=some k then (p.1,vd) else p) (if x.1=k then (x.1,x.2.1,u) else x)
    rw[if_neg hk,if_neg e]
    exact⟨r1,r2,r3⟩
 unfold Zr9 Ubu
 rcases Zs8 h k with ⟨e1,e2⟩ | ⟨_,_,_,_,e1,e2,_⟩
 ·rw[e1,e2]
  exact Prd.append h (.cons ⟨h1,h2,v,rv,r⟩ .nil)
 ·rw[e1,e2]
  exact all h
theorem Zrt (kvs:List (D×D)) (kd:D) (k:List Int) (vd:D):(Zr9 kvs kd k vd).length<=kvs.length+1:=by
 unfold Zr9; split<;>simp
end
section
variable {pins:List (Vg×Obj)} {σ:L2.St} {H:Hp} {s:Vd} {ι:List Vg} {Hd:HD}
theorem Zsw {d:D} {v:V} {u:Vb} {k:Int} {K:Xb} (e:Zv4 d=some k) (r:Rep K H ι d v) (q:Zbc v u):Zfa k u=true:=by
 cases d with
 | bl b=>cases e; simp at r; subst r; cases q; simp[Zfa,Zms]
 | int i=>cases e; simp at r; subst r; obtain⟨t,rfl⟩:=q; simp[Zfa,Zms]
 | _=>cases e
theorem Zil {P:Vl} {w:Vt} {K:Xb}:∀ {ds:List D} {vs:List V} {us:List Vb} {ks:List Int},Zjb ds=some ks->Vm (Rep K H ι) ds vs->Za9 vs us->ItemsAre (Zam P w) ks us
 | [],vs,us,ks,e,p,q=>by cases e; cases p; cases q; exact .nil
 | d::ds,vs,us,ks,e,p,q=>by
  cases p with
  | cons p1 p2 =>
   cases q with
   | cons q1 q2 =>
    simp only[Zjb] at e
    obtain⟨k,e1,e⟩:=Zo e
    obtain⟨r,e2,rfl⟩:=Zm e
    exact .cons (Zsw e1 p1 q1) (Zil e2 p2 q2)
theorem Zny (I:Inv X pins σ H s) {d:D} {k:List Int} {b:Vg} (e:nk d=some k) (r:Rep X.K H ι d (.ref b)):(Uaa (Zam X.prog X.w)).is s.heap k b:=by
 cases d<;>simp only[nk] at e<;>try cases e
 rename_i ds
 obtain⟨a,vs,ea,h,P⟩:=Zan.mp r
 cases ea
 obtain⟨its,rv,ht,hz⟩:=I.tuple h
 obtain⟨o,h1,h2,n,h3⟩:=ht
 exact⟨o,its.toArray,n,h1,h2,h3,by simpa using Zil e P rv⟩
theorem Zr0 (I:Inv X pins σ H s) {a:Vg} {kvs:List (D×D)} {fz:Bool} (h:Zl5 X.K H ι a (.dic kvs fz)):(a==Uai)=false/\kvs.length<=sizeLine/\∃ xs,(if fz=true then ∃ o,H a=some (.frz o (.ext (Zb5 a xs))) else H a=some (.ext (Zb5 a xs)))/\Vm (Zmi X.K H ι) kvs xs/\s.heap.DictOfH (Uaa (Zam X.prog X.w)) a xs:=by
 obtain⟨h1,h2,xs,e,p⟩:=h
 have rd:Rd H a (.ext (Zb5 a xs)):=by
  cases fz with
  | true=>rw[if_pos rfl] at e; exact .inr e
  | false=>rw[if_neg (by simp)] at e; exact .inl e
 obtain⟨⟨o,es,ep,g1,g2,g3,g4,g5⟩,_⟩:=(show Zcr X.prog X.w H s.heap a (.ext (Zb5 a xs)) from rd.ok I.hok)
 refine⟨h1,h2,xs,e,p,o,es,ep,g1,g2,g3,g4,?_,g5⟩
 have all:∀ {l:List (D×D)} {m:List (List Int×Vg×Vb)},Vm (Zmi X.K H ι) l m->∀ x∈m,(Uaa (Zam X.prog X.w)).is s.heap x.1 x.2.1:=by
  intro l m q
  induction q with
  | nil=>intro x hx; exact nomatch hx
  | @cons p x ps qs hq t ih =>
   intro y hy
   rcases Xl.mp hy with e | hy
   ·subst e
    exact Zny I hq.1 hq.2.1
   ·exact ih y hy
 exact all p
end
theorem Zss {K:Xb} {H:Hp} {ι:List Vg} {d:D} {k:List Int} {v:V} (e:nk d=some k) (r:Rep K H ι d v):∃ b,v=.ref b:=by
 cases d<;>simp only[nk] at e<;>try cases e
 obtain⟨a,vs,rfl,_⟩:=Zan.mp r
 exact⟨a,rfl⟩
nonrec def eDN:EF:=fun _ H=>some (.ref H.length,H++[.dic [] false])
theorem Zk8 {pos:Pos}:PEf X (.Dict [] [] pos) eDN:=by
 rintro pins s σ H Q I ⟨ι,σd,Hd,d,Hd',sr,hr,e,q⟩
 cases e
 have hb:Uai<s.heap.objs.size:=Wfb (by decide) (show Vw<s.heap.objs.size from(I.mod.glob.keeps I.bk).lt)
 have hp:=I.hok.fresh (Xf s.heap.objs.size)
 have ok:Zcr X.prog X.w (upd H s.heap.objs.size (.ext (Zb5 s.heap.objs.size []))) (s.heap.push { cls:=.type "dict",data:=.dict #[] }) s.heap.objs.size (.ext (Zb5 s.heap.objs.size [])) :=
  ⟨⟨_,#[],0,Xe _ rfl,⟨rfl,rfl,rfl⟩,rfl,rfl,Wej⟩,⟨_,Xe _ rfl⟩,fun h1 h2 d k=>Zb5.keep d k⟩
 refine wpAny_Dict_empty ⟨.ref s.heap.objs.size,_,I.laid (a:=s.heap.objs.size) (o:=.ext (Zb5 s.heap.objs.size [])) (t':=s.toks) (fun _ _ q=>Xa _ q) (Xf _) ok,rfl,?_⟩
 have hl:ι.length=Hd.length:=hr.len
 refine q _ _ (ι++[s.heap.objs.size]) (Le.fresh1 hp _) (hr.new hp ⟨beq_eq_false_iff_ne.mpr (Uf (Xh hb)),Wbx _,[],by rw[if_neg (by simp)]; exact Zas,.nil⟩) (Zao.mpr ⟨_,rfl,by rw[<- hl]; simp⟩)
nonrec def Ziv:Zvk:=fun o i v H=>match o with
 | .ref n=>match H[n]? with
  | some (.dic kvs false)=>(nk i).bind fun k=>if kvs.length<sizeLine then some (H.set n (.dic (Zr9 kvs i k v) false)) else none
  | _=>none
 | _=>none
theorem Zoc {pins:List (Vg×Obj)} {σ:L2.St} {H:Hp} {s:Vd} {a:Vg} {xs xs':List (List Int×Vg×Vb)} {h':Uab} {t':Nat} (I:Inv X pins σ H s) (h3:H a=some (.ext (Zb5 a xs))) (dd:h'.DictOfH (Uaa (Zam X.prog X.w)) a xs') (hs:Xm a s.heap h') :
  Inv X pins σ (upd H a (.ext (Zb5 a xs'))) { s with heap:=h',toks:=t' }:=by
 obtain⟨o,es,ep,g1,g2,g3,g4,_,g5⟩:=dd
 have ok:Zcr X.prog X.w (upd H a (.ext (Zb5 a xs'))) h' a (.ext (Zb5 a xs')):=⟨⟨o,es,ep,g1,g2,g3,g4,g5⟩,⟨o,g1⟩,fun h1 h2 d k=>Zb5.keep d k⟩
 exact I.write (x:=a) (e:=a) (by rw[h3]; exact Tce) (.inl rfl) (fun b q hb z=>(hs.2 b hb).trans z) ⟨o,g1⟩ ok
theorem Zua {H:Hp} {ι:List Vg} {Hd:HD} {n:Nat} {a:Vg} {kvs:List (D×D)} {xs:List (List Int×Vg×Vb)} {kd vd:D} {k:List Int} {b:Vg} {u:Vb} {v:V} (hr:HRep X.K H ι Hd) (ha:ι[n]? = some a) (h1:(a==Uai)=false) (hl:kvs.length<sizeLine) (h3:H a=some (.ext (Zb5 a xs))) (P:Vm (Zmi X.K H ι) kvs xs) (e2:nk kd=some k) (r2:Rep X.K H ι kd (.ref b)) (rv:Zbc v u) (r3:Rep X.K H ι vd v) :
  Le X.K H ι (upd H a (.ext (Zb5 a (Ubu xs k b u)))) ι/\HRep X.K (upd H a (.ext (Zb5 a (Ubu xs k b u)))) ι (Hd.set n (.dic (Zr9 kvs kd k vd) false)):=by
 have L:Le X.K H ι (upd H a (.ext (Zb5 a (Ubu xs k b u)))) ι:=Le.upd (War ha) h3 trivial _
 refine⟨L,hr.upd ha h3 trivial ⟨h1,?_,_,by rw[if_neg (by simp)]; exact Zas,?_⟩⟩
 ·have:=Zrt kvs kd k vd; omega
 ·refine Zqs (Prd.imp P fun p x _ z=>⟨z.1,z.2.1.mono L,let ⟨v,z1,z2⟩:=z.2.2; ⟨v,z1,z2.mono L⟩⟩) e2 (r2.mono L) rv (r3.mono L)
theorem Zyh (hu:X.A.units+64<cLine):Zvw X Ziv:=by
 rintro pins s σ H o i v ov iv u Q I ro ri rv ⟨ι,od,id,vd,Hd,Hd',hr,r1,r2,r3,e,q⟩
 cases od<;>simp only[Ziv] at e<;>try cases e
 rename_i n
 split at e
 ·rename_i kvs hn
  obtain⟨k,e2,e⟩:=Zo e
  split at e
  ·rename_i hl
   cases e
   obtain⟨a,rfl,ha⟩:=Zao.mp r1
   obtain⟨b,rfl⟩:=Zss e2 r2
   cases ro
   cases ri
   obtain⟨h1,h2,xs,h3,P,dd⟩:=Zr0 I (hr.obj n a _ ha hn)
   rw[if_neg (by simp)] at h3
   have hz:xs.length<=sizeLine:=by rw[<- Prd.len P]; exact h2
   refine wpAny_setItem_heap (knd:=Uaa (Zam X.prog X.w)) (hsz:=hz) (tupleKind_room_in1 (by omega)) (Zny I e2 r2) dd fun h' dd' hs=>?_
   obtain⟨L,hr'⟩:=Zua hr ha h1 hl h3 P e2 r2 rv r3
   exact⟨_,Zoc I h3 dd' hs,q _ ι L hr'⟩
  ·cases e
 ·cases e
section
variable {prog:Vl} {w:Vt} {A:Vu} {E:Vb->Vd->Prop} {s:Vd}
theorem Zqp {d:Vg} {ob:Obj} {es:Array Uav} {ep:Nat} {Q:Vb->Vd->Prop} (h0:(d==Uai)=false) (g1:s.heap.get? d=some ob) (g2:ob.ExactDict) (g3:ob.data=.dict es ep)
  (q:Q (.ref s.heap.objs.size) { s with heap:=s.heap.push { cls:=.type "dict_keyiterator",data:=.fields #[.ref d,.int 0 0,.int es.size 0,.int ep 0] } }):Vf (Vj prog w) A (pyIter (.ref d)) Q E s:=by
 have ty:s.TypeIs (.ref d) "dict" := ⟨ob,g1,g2.1⟩
 refine wpAny_pyIter_slot ty F.slot_dict_iter (Vr F.slot_dict_iter ty F.entry_dict_iter ?_ (F.args_dict_iter_1 _))
 unfold Builtin.«dict.__iter__» Builtin.Dict.dictSlotNone
 refine Va (Va (Ubt ty (Vc ?_)))
 show Vf _ _ (Tcd d >>= _) _ _ s
 unfold Tcd
 rw[if_neg (by rw[h0]; decide)]
 refine Va (Vc (Va (Ucj g1 g3 (Va (Udd g1 g3 (Va (Vx (Vc ?_))))))))
 exact⟨_,rfl,"dict_keyiterator",_,⟨_,Xe _ rfl,rfl⟩,Um.lookup,by simpa [Uax] using q⟩
theorem Zuo {d it:Vg} {ob:Obj} {es:Array Uav} {i ep:Nat} {Q:Option Vb->Vd->Prop} (hit:s.heap.IsKeyIter it d i es.size ep) (g1:s.heap.get? d=some ob) (g3:ob.data=.dict es ep) (lt:i<es.size)
  (q:∀ h2,h2.IsKeyIter it d (i+1) es.size ep->Xm it s.heap h2->Q (some es[i].key) { s with heap:=h2 }):Vf (Vj prog w) A (Uar (.ref it)) Q E s:=by
 have ty:=hit.typeIs
 obtain⟨oi,i1,i2,i3⟩:=id hit
 have own:Tba "dict_keyiterator" = false:=by decide
 unfold Uar
 refine Va (Uag (Vn (name:=Ug "__next__") ty Um (Vr Um ty Tax ?_ (Tav _))))
 refine Va (Vc (Va (Va ?_)))
 refine Va (Ual ty (Vc (Va (wpAny_fieldsOf i1 i3 ?_))))
 simp only[own,Xr,if_false]
 show Vf _ _ (if (Ud d==Uq)=true then _ else _) _ _ s
 have nn:¬ ((Ud d==Uq)=true):=Wau
 rw[if_neg nn]
 refine Va (Vc (Va (Ucj g1 g3 ?_)))
 rw[if_neg (by simp)]
 refine Va (Vc (Va (Udd g1 g3 ?_)))
 rw[if_neg (by simp)]
 refine Vc ?_
 have neg:¬ ((i:Int)<0):=by omega
 simp only[neg,if_false,Waq,Xg lt]
 refine Va (Va (Ual ty (Vc (Va (Ude ty ?_)))))
 show Vf _ _ (Udx (.ref it) 1 (Uax ((i:Int)+1)) >>= _) _ _ s
 let h2:=s.heap.update it (Obj.mapFields (·.setIfInBounds 1 (Uax ((i:Int)+1))))
 have it2:h2.IsKeyIter it d (i+1) es.size ep :=
  ⟨_,Wez _ i1 (Tcb (Tap i3 _)),(Tcv ..).trans i2,by rw[Tap i3]; simp[Uax]⟩
 refine Va (Uch i1 i3 (by simp) (Va (Vs (Va (Ude (s:={ s with heap:=h2 }) it2.typeIs ?_)))))
 show Vf _ _ (pure es[i].key) _ _ _
 exact Vc (Vc ⟨_,rfl,Vc (q h2 it2 (Xm.update ..))⟩)
theorem Zri {d it:Vg} {ob:Obj} {es:Array Uav} {i ep:Nat} {Q:Option Vb->Vd->Prop} (hh:A.handled=none) (hit:s.heap.IsKeyIter it d i es.size ep) (g1:s.heap.get? d=some ob) (g3:ob.data=.dict es ep) (ge:es.size<=i)
  (q:∀ h2,Wec it s.heap h2->Q none { s with heap:=h2 }):Vf (Vj prog w) A (Uar (.ref it)) Q E s:=by
 have ty:=hit.typeIs
 obtain⟨oi,i1,i2,i3⟩:=id hit
 have own:Tba "dict_keyiterator" = false:=by decide
 unfold Uar
 refine Va (Uag (Vn (name:=Ug "__next__") ty Um (Vr Um ty Tax ?_ (Tav _))))
 refine Va (Vc (Va (Va ?_)))
 refine Va (Ual ty (Vc (Va (wpAny_fieldsOf i1 i3 ?_))))
 simp only[own,Xr,if_false]
 show Vf _ _ (if (Ud d==Uq)=true then _ else _) _ _ s
 have nn:¬ ((Ud d==Uq)=true):=Wau
 rw[if_neg nn]
 refine Va (Vc (Va (Ucj g1 g3 ?_)))
 rw[if_neg (by simp)]
 refine Va (Vc (Va (Udd g1 g3 ?_)))
 rw[if_neg (by simp)]
 refine Vc ?_
 have neg:¬ ((i:Int)<0):=by omega
 simp only[neg,if_false,Waq,Wdj ge]
 refine Va (Va (Ual ty (Vc ?_)))
 show Vf _ _ (Udx (.ref it) 0 .none >>= _) _ _ s
 refine Va (Uch i1 i3 (by simp) ?_)
 show Vf _ _ (newExc (.type "StopIteration") [] >>= _) _ _ _
 simp only[newExc,newTuple]
 refine Va (Va (Vx (Va (m:=Uci _ _) (Uef (a:=Uq) (by first | rfl | (simp only[Uci]; rfl)) (Vx ?_ (by size_fits)))) (by size_fits)))
 simp only[raiseNew]
 refine Va (wpAny_handled ?_)
 have hh1:A.in1.handled=none:=hh
 rw[hh1]
 refine Va (Vc (wpAny_throw ?_))
 refine Va (Uao (T := "StopIteration") (b:=true) (by exact⟨_,Xe _ rfl,rfl⟩) Ubq ?_)
 exact Vc (q _ (((Xm.update ..).extBut.push _).push _))
end
variable {X:Cx} {tg:Uac}
theorem Zm1 {K:Xb} {H:Hp} {ι:List Vg} {kvs:List (D×D)} {xs:List (List Int×Vg×Vb)} (h:Vm (Zmi K H ι) kvs xs):Vm (Rep K H ι) (kvs.map (·.1)) (xs.map fun x=>V.ref x.2.1):=by
 induction h with
 | nil=>exact .nil
 | cons r t ih=>exact .cons r.2.1 ih
theorem Zob {K:Xb} {h:Uab} {mg:Str->Option Vb} {x:Str} {b1 b2:Bool} {p:Vg} {n:Nat} {osl:Array (Option Vb)} (X:K.In h) (G:h.Ns Vw mg) (a:Wdn K Vw x=some (some (.ref p)))
  (l:K.lookup p=some ⟨.type "tuple",none,.seq #[.bool b1,.bool b2] n,osl⟩):Gc K mg x (.tup [.bl b1,.bl b2]):=by
 refine⟨_,.ref p,Wgn X G a,rfl,fun H ι=>Zan.mpr ⟨p,[.bl b1,.bl b2],rfl,.inr ⟨_,_,_,l,rfl,rfl,?_,?_,rfl⟩,?_⟩⟩
 ·show 2<=sizeLine
  rw[Uk]; omega
 ·exact .cons rfl (.cons rfl .nil)
 ·exact .cons (by simp) (.cons (by simp) .nil)
section
variable {prog:Vl} {w:Vt} {A:Vu} {E:Vb->Vd->Prop} {s:Vd}
theorem Ztd {T newId:String} {self a:Vb} {kw:List (Str×Vb)} (hl:Uby (.type T) "__init__" = pure (some (.builtin "object.__init__")))
  (hm:Bind.madeBy (.type T)=pure (some newId)) (hne:(some newId != some "object.__new__")=true) :
  Uec (Builtin.«object.__init__» ⟨[self,a],kw⟩) (fun _ R s=>s.TypeIs self T/\R (.ok (.ret .none)) s):=by
 refine Meets.of_wp fun prog w A R s zz=>?_
 obtain⟨hT,hq⟩:=zz
 repeat (any_goals (first | assumption | wp_step))
 exact⟨_,rfl,hq⟩
theorem tc_kw (a v:Vb):checkTypeCall "enumerate" ⟨[a],[("start",v)]⟩=pure ():=by kernel_rfl
theorem nc_kw (a v:Vb):checkBuiltinCall "enumerate.__new__" ⟨[.type "enumerate",a],[("start",v)]⟩=pure ():=by kernel_rfl
open AutoSeq1 (wpAny_loadPart') in
theorem Znn (t:Vg) (its:Array Vb) (n:Nat) (dct:Option Vg) (sl:Array (Option Vb)) (tk0:Tok) :
  Uec (Builtin.«enumerate.__new__» ⟨[.type "enumerate",.ref t],[("start",.int 1 tk0)]⟩) (fun _ R s=>s.heap.get? t=some { cls:=.type "tuple",dict:=dct,data:=.seq its n,slots:=sl } /\
   R (.ok (.ret (.ref (s.heap.push { cls:=.type "tuple_iterator",data:=.fields #[.ref t,.int 0 0] }).objs.size)))
    { s with heap:=(s.heap.push { cls:=.type "tuple_iterator",data:=.fields #[.ref t,.int 0 0] }).push { cls:=.type "enumerate",data:=.fields #[.none,.bool false,.ref s.heap.objs.size,Uax 1,.none,.none] } }) :=
 .of_wp fun prog w A R s h=>by
  obtain⟨hp,g,d,tk,os⟩:=s; obtain⟨hl,h⟩:=h
  have hsub:=Udy
  have hL:Heap.IsTuple (Tbs ⟨hp,g,d,tk,os⟩) t its:=⟨_,hl,rfl,n,rfl⟩
  wp_walk using Vq hl
  refine Udc fun st=>Vc ?_
  split
  ·rename_i k _ _ _ _ _
   cases (k==Ul "enumerate")<;>(wp_walk using Vq hl,Uap hL; exact⟨_,rfl,h⟩)
  ·wp_walk using Vq hl,Uap hL
   exact⟨_,rfl,h⟩
end
section
variable {prog:Vl} {w:Vt} {A:Vu} {E:Vb->Vd->Prop} {s:Vd}
theorem Zu1 {args:List Vb} {kw:List (Str×Vb)} {newId:String} {Bn:Builtin} {T:String} {S:Tbc} {Q:Vb->Vd->Prop} (ft:TypeCalled T newId "object.__init__") (hne:(some newId != some "object.__new__")=true)
  (hct:checkTypeCall T ⟨args,kw⟩=pure ()) (hcn:checkBuiltinCall newId ⟨.type T::args,kw⟩=pure ()) (entryN:entryFor table newId=some Bn) (g:Uec (Bn ⟨.type T::args,kw⟩) S)
  (hok:∀ obj,argsOk "object.__init__" ⟨obj::args,kw⟩) (gi:∀ obj,Uec (Builtin.«object.__init__» ⟨obj::args,kw⟩) (fun _ R s=>s.TypeIs obj T/\R (.ok (.ret .none)) s))
  (h:S A.in1 (wants (fun obj s₁=>s₁.TypeIs obj T/\Q obj s₁) E) s):Vf (Vj prog w) A (call (.type T) args kw) Q E s:=by
 obtain⟨c,tl,hmro⟩:=ft.mro
 have hmade:=ft.made
 have hsub:=ft.sub
 have n1:=ft.notType
 have n2:=ft.canCreate
 refine wpAny_call (codeAny_of_tree (show Vf _ _ (callAny (.type T) _) _ _ _ from Vc ⟨Tcm _ (by decide +kernel),Uat F.entry_type_call ?_⟩))
 rw[Around.under_plain (weight_type_call_type T args kw) (units_type_call_type T args kw)]
 repeat (any_goals (first | assumption | wp_step))
 refine Ubr (Udk ft.plain entryN (Uef hcn (g prog w A.in1 _ s h))) fun r s₁ hr=>?_
 cases r with
 | error e=>exact hr
 | ok fl =>
  cases fl with
  | ret obj =>
   obtain⟨hT,hq⟩:s₁.TypeIs obj T/\Q obj s₁:=hr
   have hli:=ft.init.lookup
   have hbi:=ft.init.bind obj
   repeat (any_goals (first | assumption | wp_step))
   refine Ubr (Udk ft.init.plain F.entry_object_init (ft.init.check _ _ _ _ _ _ _ _ hT (hok obj) (gi obj prog w A.in1 (wants (fun r s₂=>r=.none/\Q obj s₂) E) s₁ ⟨hT,rfl,hq⟩))) fun r₂ s₂ hr₂=>?_
   cases r₂ with
   | error e=>exact hr₂
   | ok fl₂ =>
    cases fl₂ with
    | ret r =>
     obtain⟨rfl,hq2⟩:=hr₂
     repeat (any_goals (first | assumption | wp_step))
    | _=>exact hr₂.elim
  | _=>exact hr.elim
theorem Zgr {M:Uek} {pos:Pos} {T:String} {args:List (Bool×Sem Vb)} {kws:List (Option Str×Sem Vb)} {Q:Vb->Vd->Prop} (h1:args.any (·.1)=false) (h2:kws.any (·.1.isNone)=false)
  (h:Vf M A (evalArgs (.type T) true args kws) (fun a s₁=>Vf M A (call (.type T) a.pos a.kw) Q E s₁) E s):Vf M A (callWith pos (.type T) [] args kws) Q E s:=by
 unfold callWith
 refine Va (Vs (thn h fun a s₁ q=>Va (Ubx ?_)))
 simp only[h1,h2,Bool.or_false]
 exact Va (Vc (Va (thn q fun r s₂ q2=>Va (Vs (wpAny_point (Vc q2))))))
theorem Zmw (a b v:Vb):argsOk "object.__init__" ⟨[a,b],[("start",v)]⟩:=by
 unfold argsOk
 first | decide +kernel | kernel_rfl | (intro _; kernel_rfl)
theorem Zlo {t:Vg} {its:Array Vb} {tk:Tok} {Q:Vb->Vd->Prop} (hL:s.heap.IsTuple t its)
  (h:∀ h',Ubc h' (s.heap.objs.size+1) s.heap.objs.size 1 .none->h'.IsTupleIter s.heap.objs.size t 0->h'.objs.size=s.heap.objs.size+2 ->
   (∀ b o,s.heap.get? b=some o->h'.get? b=some o)->Q (.ref (s.heap.objs.size+1)) { s with heap:=h' }) :
  Vf (Vj prog w) A (call (.type "enumerate") [.ref t] [("start",.int 1 tk)]) Q E s:=by
 obtain⟨⟨k,dct,dt,sl⟩,hl,hc,n,hd⟩:=hL
 replace hc:k=.type "tuple" := hc
 replace hd:dt=.seq its n:=hd
 subst hc hd
 refine Zu1 Taf (by decide) (tc_kw _ _) (nc_kw _ _) Tau (Znn t its n dct sl tk) (fun obj=>Zmw _ _ _) (fun obj=>Ztd Taf.init.lookup Taf.made (by decide)) ⟨hl,?_⟩
 have hz:(s.heap.push { cls:=.type "tuple_iterator",data:=.fields #[.ref t,.int 0 0] }).objs.size=s.heap.objs.size+1:=Wak ..
 show _/\_
 rw[hz]
 have he:Ubc ((s.heap.push { cls:=.type "tuple_iterator",data:=.fields #[.ref t,.int 0 0] }).push { cls:=.type "enumerate",data:=.fields #[.none,.bool false,.ref s.heap.objs.size,Uax 1,.none,.none] }) (s.heap.objs.size+1) s.heap.objs.size 1 .none:=by
  have q:=Xe (s.heap.push { cls:=.type "tuple_iterator",data:=.fields #[.ref t,.int 0 0] }) (o:={ cls:=.type "enumerate",data:=.fields #[.none,.bool false,.ref s.heap.objs.size,Uax 1,.none,.none] }) rfl
  rw[hz] at q; exact q
 exact⟨⟨_,he,rfl⟩,h _ he ⟨_,Xa _ (Xe _ rfl),rfl,rfl⟩ (by rw[Wak,hz]) fun b o x=>Xa _ (Xa _ x)⟩
end
variable {X:Cx}
nonrec def Zkk (f:AF):ItF:=fun σ H=>(f σ H).bind fun p=>match p.1 with
 | [.tup xs]=>some ((Zcq 1 xs,[]),p.2)
 | _=>none
theorem Zos {es:List Uac} {k:Nat} {tp p pos kp cp:Pos} {cj:Nat} {a:Uac} {f:AF} (hg:Gl X "enumerate") (hm:X.mg "enumerate" = none) (ha:PAf X [a] f) (hs:Vk [a] X.env=[(false,eval a X.env)]:=by rfl) :
  PIf X (.Tuple es k tp) (.Call (.Name "enumerate" p) [a] [⟨some "start",.Constant (.int 1) cj cp,kp⟩] pos) (Zkk f):=by
 rintro pins s σ H R I ⟨ι,σd,Hd,xs,own,Hd',sr,hr,e,q⟩
 obtain⟨⟨ds,H1⟩,e1,e⟩:=Zo e
 dsimp only at e
 split at e
 ·rename_i ys
  cases e
  show Vf _ _ (do callWith pos (<- eval (.Name "enumerate" p) X.env) [] (Uau pos (Vk [a] X.env)) (Udw pos (Ubz [⟨some "start",.Constant (.int 1) cj cp,kp⟩] X.env))) _ _ _
  let P1:List V->Hp->Prop:=fun vs H'=>∃ ad ws,vs=[.ref ad]/\SqT X.K H' ad ws/\∀ (J:It) (H2:Hp),H2=H'->J=Zve X.K 1 ad->R J H2
  refine Va (Zdk I hg hm Udo (Zgr (by rw[hs]; rfl) rfl ?_))
  have hA:=ha pos pins s σ H P1 I ⟨ι,σd,Hd,_,_,sr,hr,e1,fun vs H' ι' l h P=>by
   obtain⟨v,rfl,r⟩:=Zji P
   obtain⟨ad,ws,rfl,hS,P2⟩:=Zan.mp r
   refine⟨ad,ws,rfl,hS,fun J H2 e2 e3=>?_⟩
   subst e2 e3
   exact q _ _ ι' l h (Zlf hS P2 fun i H x y h=>y ws h)⟩
  rw[hs] at hA ⊢
  refine evalArgs_kwB rfl (thn hA fun us s1 zz=>?_)
  obtain⟨vs,H2,I2,r2,ad,ws,e2,hS,q2⟩:=zz
  subst e2
  obtain⟨u,rfl,ru⟩:=Zhl r2
  cases ru
  refine kws_cons (thn (Zsg pins s1 σ H2 (fun x H'=>x=.int 1/\H'=H2) I2 ⟨rfl,rfl⟩) fun v s2 ⟨x,H3,I3,rx,ex,eH⟩=>kws_nil ?_)
  subst ex eH
  obtain⟨t,rfl⟩:=rx
  obtain⟨its,rv,p,hz⟩:=I3.tuple hS
  show Vf _ _ (call (.type "enumerate") [.ref ad] [("start",.int 1 t)]) _ _ _
  refine Zlo (show s2.heap.IsTuple ad its.toArray from p) fun h' he hj z' kk=>?_
  have I4:Inv X pins σ H3 { s2 with heap:=h' }:=I3.kept (t':=s2.toks) kk
  refine Uay (s:={ s2 with heap:=h' }) he ?_
  have ne:s2.heap.objs.size+1≠s2.heap.objs.size:=Wes _
  refine⟨s2.heap.objs.size+1,[s2.heap.objs.size+1,s2.heap.objs.size],_,Zve X.K 1 ad,H3,rfl,I4,Zha ad _ _ 1 ne,⟨.none,by simpa using he,hj⟩,fun b hb=>?_,q2 _ _ rfl rfl⟩
  have:s2.heap.objs.size<=b:=by
   rcases Xl.mp hb with rfl | hb
   ·exact Wfi _
   ·have:b=s2.heap.objs.size:=by simpa using hb
    rw[this]; exact Xf _
  exact I3.fpOk (b:=b) (H':=H3) this (I3.hok.fresh this)
 ·cases e
variable {X:Cx} {tg:Uac}
nonrec def sWh (t:TF) (b:SF):Nat->SF
 | 0=>fun _ _=>none
 | n+1=>fun σ H=>(t σ H).bind fun p=>if p.1=true then (b σ p.2).bind fun q=>match q.1 with
   | .nx=>sWh t b n q.2.1 q.2.2
   | .ct=>sWh t b n q.2.1 q.2.2
   | .bk=>some (.nx,q.2.1,q.2.2)
   | .rt d=>some (.rt d,q.2.1,q.2.2)
  else some (.nx,σ,p.2)
section
variable {X:Cx} {c:Uac} {pos:Pos}
theorem Zo7 {body:List Ubv} {t:TF} {b:SF} {n:Nat} (hp:Uee (Vj X.prog X.w) X.A X.env X.xe) (hc:PTf X c t) (hb:Zqe X body b):PSf X (.While c body [] pos) (sWh t b n):=by
 refine PSi (Zrb hp hc hb) fun E σ H zz=>?_
 obtain⟨ι,σd,Hd,fl,σf,Hf,s,hr,e,q⟩:=zz
 refine⟨fun m σ' H'=>∃ ι' σd' Hd',Le X.K H ι H' ι'/\SRep X.K H' ι' σ' σd'/\HRep X.K H' ι' Hd'/\sWh t b m σd' Hd'=some (fl,σf,Hf),⟨n,ι,σd,Hd,Le.refl,s,hr,e⟩,?_⟩
 rintro m σ1 H1 ⟨ι1,σd1,Hd1,l1,s1,h1,e1⟩
 cases m with
 | zero=>cases e1
 | succ m =>
  rw[sWh] at e1
  obtain⟨⟨x,H2⟩,e2,e1⟩:=Zo e1
  refine⟨ι1,σd1,Hd1,x,H2,s1,h1,e2,fun H3 ι3 l3 h3=>?_⟩
  cases x with
  | true =>
   rw[if_pos rfl]
   dsimp only at e1
   rw[if_pos rfl] at e1
   obtain⟨⟨f4,σ4,H4⟩,e4,e1⟩:=Zo e1
   refine⟨fun σ' H'=>∃ ι' σd' Hd',Le X.K H ι H' ι'/\SRep X.K H' ι' σ' σd'/\HRep X.K H' ι' Hd'/\sWh t b m σd' Hd'=some (fl,σf,Hf),fun σ' H' p=>⟨m,Wcz m,p⟩,?_⟩
   refine⟨ι3,σd1,H2,f4,σ4,H4,s1.mono l3,h3,e4,fun σ6 H6 ι6 l6 h6 s6=>?_⟩
   have L:Le X.K H ι H6 ι6:=(l1.trans l3).trans l6
   cases f4 with
   | nx=>exact⟨ι6,σ4,H4,L,s6,h6,e1⟩
   | ct=>exact⟨ι6,σ4,H4,L,s6,h6,e1⟩
   | bk=>cases e1; exact q σ6 H6 ι6 L h6 s6
   | rt d=>cases e1; exact q σ6 H6 ι6 L h6 s6
  | false =>
   rw[if_neg (by simp)]
   dsimp only at e1
   rw[if_neg (by simp)] at e1
   cases e1
   exact q σ1 H3 ι3 (l1.trans l3) h3 (s1.mono l3)
end
section
variable {X:Cx} {e:Uac} {es:List Uac} {pos:Pos}
nonrec def eTM (g:D->List D->HD->Option (D×HD)) (fo:EF) (f:AF):EF:=fun σ H=>(fo σ H).bind fun o=>if Ztq o.1=true then (f σ o.2).bind fun p=>g o.1 p.1 p.2 else none
nonrec def tBMT (K:Xb) (r:V->List V->Hp->VK->Prop) (to:TE) (t:TA):TE:=fun σ H Q=>to σ H fun x H1=>(∃ a xs,x=.ref a/\SqT K H1 a xs)/\t σ H1 fun xs H2=>r x xs H2 Q
theorem pe_tm {o:Uac} {name:Str} {apos cpos:Pos} {id:String} {r:V->List V->Hp->VK->Prop} {to:TE} {t:TA} (slot:Slot "tuple" name id) (hty:typeOf (.builtin id)=pure (.type "method_descriptor")) (hm:MtR X id r) (ho:PE X o to) (ha:PA X (e::es) t)
  (hbase:Ucm o name X.env (eval o X.env)=eval o X.env:=by rfl)
  (hfew:((Uau cpos (Vk (e::es) X.env)).all (fun x => !x.1)&&(Udw cpos (Ubz [] X.env)).all (fun x=>x.1.isSome)
   && decide ((e::es).length+([]:List Uca).length+(if ([]:List Uca).isEmpty then 0 else 1)<30))=true:=by rfl)
  (hline:(apos.endLine==cpos.line)=true:=by rfl) (hs:Vk (e::es) X.env=(false,eval e X.env)::Vk es X.env:=by rfl) (hplain:(Uau cpos (Vk es X.env)).any (·.1)=false:=by rfl) :
  PE X (.Call (.Attribute o name apos) (e::es) [] cpos) (tBMT X.K r to t):=by
 intro pins s σ H Q I h
 refine Ucu hbase hfew hline rfl (thn (ho pins s σ H _ I h) fun v s1 zz=>?_)
 obtain⟨x,H1,I1,r1,⟨a,xs,ex,hq⟩,q1⟩:=zz
 subst ex
 have rv:=r1
 cases rv
 have ho1:∃ o1,s1.heap.get? a=some o1/\o1.cls=.type "tuple" /\ o1.dict=none:=by
  rcases hq with hq | ⟨o1,its,n,hk,hc,hs,hz,r,hd⟩
  ·obtain⟨z,its,rr,o1,g1,g2,g3,g4⟩:=hq.ok I1.hok
   exact⟨o1,g1,g2,g4⟩
  ·exact⟨o1,I1.kIn a o1 hk,hc,hd⟩
 obtain⟨o1,g1,g2,g4⟩:=ho1
 refine⟨"tuple",id,PySem.F.plainAttrs_tuple,slot,hty,⟨o1,g1,g2⟩,fun b eb=>?_,?_⟩
 ·cases eb
  exact⟨o1,g1,g4⟩
 ·have hA:=ha cpos pins s1 σ H1 _ I1 q1
  rw[hs] at hA ⊢
  refine Tbw (by show (false||(Uau cpos (Vk es X.env)).any (·.1))=false; rw[hplain]<;>rfl) (Tcg ?_)
  exact thn hA fun us s2 ⟨vs,H2,I2,r2,q2⟩=>hm pins s2 σ H2 _ vs _ us Q I2 r1 r2 q2
theorem Zr6 {o:Uac} {name:Str} {apos cpos:Pos} {id:String} {g:D->List D->HD->Option (D×HD)} {fo:EF} {f:AF} (slot:Slot "tuple" name id) (hty:typeOf (.builtin id)=pure (.type "method_descriptor")) (hm:MtF X id g) (ho:PEf X o fo) (ha:PAf X (e::es) f)
  (hbase:Ucm o name X.env (eval o X.env)=eval o X.env:=by rfl)
  (hfew:((Uau cpos (Vk (e::es) X.env)).all (fun x => !x.1)&&(Udw cpos (Ubz [] X.env)).all (fun x=>x.1.isSome)
   && decide ((e::es).length+([]:List Uca).length+(if ([]:List Uca).isEmpty then 0 else 1)<30))=true:=by exact Zk1 rfl (by decide))
  (hline:(apos.endLine==cpos.line)=true:=by rfl) (hs:Vk (e::es) X.env=(false,eval e X.env)::Vk es X.env:=by exact Zbj rfl) (hplain:(Uau cpos (Vk es X.env)).any (·.1)=false:=by exact Zb7 rfl) :
  PEf X (.Call (.Attribute o name apos) (e::es) [] cpos) (eTM g fo f):=by
 refine PEi (pe_tm slot hty hm ho ha hbase hfew hline hs hplain) fun σ H Q zz=>?_
 obtain⟨ι,σd,Hd,d,Hd',s,hr,e,q⟩:=zz
 obtain⟨⟨x,H1⟩,e1,e⟩:=Zo e
 dsimp only at e
 split at e
 ·rename_i hl
  obtain⟨⟨y,H2⟩,e2,e⟩:=Zo e
  refine⟨ι,σd,Hd,x,H1,s,hr,e1,fun v1 H1' ι1 l1 h1 r1=>⟨?_,ι1,σd,H1,y,H2,s.mono l1,h1,e2,fun vs H2' ι2 l2 h2 r2 =>
   ⟨ι2,x,y,H2,d,Hd',h2,r1.mono l2,r2,e,fun v H' ι' l h r=>q v H' ι' ((l1.trans l2).trans l) h r⟩⟩⟩
  cases x with
  | tup ds =>
   obtain⟨a,vs,rfl,hq,_⟩:=Zan.mp r1
   exact⟨a,vs,rfl,hq⟩
  | _=>simp[Ztq] at hl
 ·cases e
nonrec def Zfk (x:D) (ds:List D) (H:HD):Option (D×HD):=match x,ds with
 | .tup xs,[d]=>(dat (.tup xs) H).bind fun p=>(dat d H).bind fun q=>(Znl p).map fun ps=>(.int (ps.countP fun z=>Ub z q:Nat),H)
 | _,_=>none
theorem Zl4 {h:Uab} {vs:Array Vb} {xs:List Uak} {as:List Vg} {d:Uak} (rs:ReadsAll h vs.toList xs as) (hxs:Tag xs=true) :
  vs.toList.countP (fun y=>Ub (SeqAt.readOf h y) d)=xs.countP fun z=>Ub z d:=by
 have e:=SeqAt.readsAll_map xs _ _ hxs rs
 rw[<- e,List.countP_map]
 rfl
theorem Zio (hu:X.A.units+64<cLine):MtF X "tuple.count" Zfk:=by
 rintro pins s σ H x xs v us Q I rx rv ⟨ι,dx,ds,Hd,d,Hd',hr,r1,P,e,q⟩
 unfold Zfk at e
 split at e
 ·rename_i ys0 d1
  obtain⟨z,rfl,rz⟩:=Zji P
  obtain⟨u,rfl,ru⟩:=rv.one
  obtain⟨p,e1,e⟩:=Zo e
  obtain⟨p2,e2,e⟩:=Zo e
  obtain⟨ys,e3,e⟩:=Zm e
  obtain⟨rfl,rfl⟩:=Wbh.inj e
  obtain⟨t1,c1,k1⟩:=Zb8 e1
  obtain⟨t2,c2,k2⟩:=Zb8 e2
  obtain⟨as,ra⟩:=Zbw I hr _ _ t1 r1 rx
  obtain⟨bs,rb⟩:=Zbw I hr _ _ t2 rz ru
  obtain⟨ws,rfl⟩:∃ ws,p=.tuple ws:=by
   rw[toP] at t1
   obtain⟨ws,_,rfl⟩:=Zm t1
   exact⟨ws,rfl⟩
  cases e3
  simp only[Tbl] at c1
  simp only[Tca] at k1
  cases ra with
  | tuple h1 h2 h3 h4 =>
   rename_i a o its n
   obtain⟨cl,dd,dt,sl⟩:=o
   cases h2
   cases h3
   refine Uas Tam ⟨_,h1,rfl⟩ PySem.F.entry_tuple_count (PySem.F.args_tuple_count_2 _ _) (SeqAt.tuple_countAt _ _ _ dd sl u _) ⟨h1,SeqAt.items_eqAt h4 rb c1 c2 (by omega),?_⟩
   exact⟨.int _,H,I.tok _,⟨_,by rw[Zl4 h4 c1]⟩,q _ H ι Le.refl hr (by simp)⟩
 ·cases e
end
nonrec def Zwl (scope:Ucf) (x:Str):Bool :=
 (scope.kind==.function)&&scope.names.all (fun y=>y.2 != .cell&&y.2 != .free)&&scope.names.all (fun y=>y.2 != .local||scope.names.lookup y.1==some .local)&&(scope.names.lookup x==some .local)
theorem Zws {X:Cx} {scope:Ucf} {x:Str} (h:Zwl scope x=true):BlkOk X scope x [] []:=by
 unfold Zwl at h
 simp only[Wbc,Wdq,Wfa,bne_iff_ne,ne_eq,beq_iff_eq] at h
 obtain⟨⟨⟨a,b⟩,c⟩,d⟩:=h
 exact⟨a,fun y hy=>(b y hy).1,fun y hy hl=>(c y hy).resolve_left fun z=>z hl,d,fun y hy hf=>absurd hf (b y hy).2,by simp,rfl,fun j y hj=>by simp at hj⟩
theorem Znw {X:Cx} {pins:List (Vg×Obj)} {σ:L2.St} {H:Hp} {s:Vd} {h':Uab} {a:Vg} {o:HO} {t':Nat} (I:Inv X pins σ H s) (k:∀ b u,b≠X.env.locals->s.heap.get? b=some u->h'.get? b=some u)
  (ns:∀ m,s.heap.Ns X.env.locals m->h'.Ns X.env.locals m) (hp:s.heap.objs.size<=a) (new:Zcr X.prog X.w (upd H a o) h' a o):Inv X pins σ (upd H a o) { s with heap:=h',toks:=t' }:=by
 have hn:=I.hok.fresh hp
 have there:∀ b u,s.heap.get? b=some u->∃ o',h'.get? b=some o':=fun b u e=>by
  by_cases hb:b=X.env.locals
  ·subst hb
   obtain⟨m,hm,_⟩:=I.loc
   obtain⟨o,_,_,ho,_⟩:=ns m hm
   exact⟨o,ho⟩
  ·exact⟨u,k b u hb e⟩
 refine I.step (g':=s.gens) (d':=s.drawn) (ch:=[]) (fun _ z=>nomatch z) (fun b u hb _ _ e _=>k b u hb e) (fun b u hb _ _ e _=>⟨u.slots,k b u hb e⟩) (fun b u _ e n=>?_) (fun b u _ e=>there b u e) (fun b xs q=>?_) (fun b u xs q=>?_) (fun b ps q=>⟨#[],?_⟩) ns (fun b u e=>?_) I.bare
 ·rw[Zaf (Xh (Xi (Xd e) hp))]; exact n
 ·rw[Zaf (Zae q hn)]; exact q
 ·rw[Zaf (Zae q hn)]; exact q
 ·rw[Zaf (Zae q hn),q]; simp
 ·by_cases hb:b=a
  ·subst hb; rw[Zas] at e; cases e; exact new
  ·rw[Zaf hb] at e
   have nL:∀ c,(c=b\/H c=some (.own b))->c≠X.env.locals:=fun c hc z=>by
    subst z
    have:=I.free
    rcases hc with rfl | hc
    ·rw[this] at e; cases e
    ·rw[this] at hc; cases hc
   exact(I.hok b u e).stay (fun c v hc q=>k c v (nL c hc) q) (fun c q=>by rw[Zaf (Zae q hn)]; exact q) fun c xs q=>by rw[Zaf (Zae q hn)]; exact q
open Builtin.SmallTypes (nextOf)
def SqI (b:Bool) (h:Uab) (i l:Vg) (n:Nat):Prop:=∃ o,h.get? i=some o/\o.cls=.type (if b then "list_iterator" else "tuple_iterator")/\o.data=.fields #[.ref l,.int n 0]
def SqX (b:Bool) (h:Uab) (l:Vg) (xs:Array Vb):Prop:=∃ o,h.get? l=some o/\o.cls=.type (if b then "list" else "tuple")/\∃ n,o.data=.seq xs n
theorem SqI.mv {b:Bool} {h h':Uab} {i l:Vg} {n:Nat} (x:SqI b h i l n) (k:∀ o,h.get? i=some o->h'.get? i=some o):SqI b h' i l n:=let ⟨o,e,r⟩:=x; ⟨o,k o e,r⟩
theorem SqX.mv {b:Bool} {h h':Uab} {l:Vg} {xs:Array Vb} (x:SqX b h l xs) (k:∀ o,h.get? l=some o->h'.get? l=some o):SqX b h' l xs:=let ⟨o,e,r⟩:=x; ⟨o,k o e,r⟩
theorem SqI.lt {b:Bool} {h:Uab} {i l:Vg} {n:Nat} (x:SqI b h i l n):i<h.objs.size:=let ⟨_,e,_⟩:=x; Xd e
section
variable {prog:Vl} {w:Vt} {A:Vu} {E:Vb->Vd->Prop} {s:Vd}
theorem Zdq {b:Bool} {i l:Vg} {n:Nat} {xs:Array Vb} {x:Vb} {Q:Vb->Vd->Prop} (hi:SqI b s.heap i l n) (hl:SqX b s.heap l xs) (hx:xs[n]? = some x)
  (hQ:∀ h',SqI b h' i l (n+1)->Xm i s.heap h'->Q x { s with heap:=h' }):Vf (Vj prog w) A (nextOf (.ref i)) Q E s:=by
 cases b
 ·exact Zki hi hl hx hQ
 ·exact wpAny_nextOf_list_item hi hl hx hQ
theorem Zir {b:Bool} {i l:Vg} {n:Nat} {xs:Array Vb} {Q:Vb->Vd->Prop} (hh:A.handled=none) (hi:SqI b s.heap i l n) (hl:SqX b s.heap l xs) (hx:xs[n]? = none)
  (hE:∀ h' e,Wec i s.heap h'->(∃ o,h'.get? e=some o/\o.cls=.type "StopIteration")->E (.ref e) { s with heap:=h' }):Vf (Vj prog w) A (nextOf (.ref i)) Q E s:=by
 cases b
 ·exact Zm0 hh hi hl hx hE
 ·exact wpAny_nextOf_list_end hh hi hl hx hE
variable {z TI TO i1 i2 l1 l2:Vg} {k1 k2:Nat} {xs ys:Array Vb} {b1 b2:Bool}
theorem Zwi {x y a b:Vb} {Q:Vb->Vd->Prop} (D:Ubd z TI TO i1 i2 l1 l2) (hz:Udl s.heap z TI TO .none) (hTI:Uan s.heap TI (.ref i1) (.ref i2)) (hTO:Uan s.heap TO a b)
  (h1:SqI b1 s.heap i1 l1 k1) (h2:SqI b2 s.heap i2 l2 k2) (hl1:SqX b1 s.heap l1 xs) (hl2:SqX b2 s.heap l2 ys) (hx:xs[k1]? = some x) (hy:ys[k2]? = some y)
  (hQ:∀ h',Udl h' z TI TO (Uax s.heap.objs.size)->Uan h' TO x y->SqI b1 h' i1 l1 (k1+1)->SqI b2 h' i2 l2 (k2+1)->Uan h' s.heap.objs.size x y->h'.objs.size=s.heap.objs.size+1 ->
   (∀ c o,c≠z->c≠TO->c≠i1->c≠i2->s.heap.get? c=some o->h'.get? c=some o)->Q (.ref s.heap.objs.size) { s with heap:=h' }) :
  Vf (Vj prog w) A (Builtin.«zip.__next__» ⟨[.ref z],[]⟩) (fun fin s'=>∃ v,fin=.done (.ret v)/\Q v s') E s:=by
 show Vf _ _ (Ucn (.ref z) 2 >>= _) _ _ s
 refine Va (Vo hz rfl (x:=.bool false) rfl (show Vf _ _ (Ucn (.ref z) 3 >>= _) _ _ _ from Va (Vo hz rfl (x:=.ref TI) rfl (Va (Vz hTI rfl ?_)))))
 show Vf _ _ (Ua (.ref z) >>= _) _ E s
 unfold Ua
 refine Va (Va (Vo hz rfl (x:=.none) rfl (Vc ?_)))
 simp only[if_true]
 refine Va (Uaj (Va (Vo hz rfl (x:=.ref TO) rfl (Va (Vp hz (by simp) fun g1 (e1:Udl g1 z TI TO .ellipsis) t1=>Va ?_)))))
 simp only[Wet,Wgj,Wbs,Wcw]
 refine Va (Va (Ucp (show Vf _ _ (nextOf (.ref i1) >>= _) _ _ _ from Va (Zdq (h1.mv fun o e=>t1.extBut _ _ D.i1z e) (hl1.mv fun o e=>t1.extBut _ _ D.l1z e) hx fun g2 n2 t2=>Vc ?_))))
 have p2:Uan g2 TO a b:=t2.extBut _ _ D.TOi1 (t1.extBut _ _ D.TOz hTO)
 refine Va (Vz p2 rfl (Va (Ubw p2 fun g3 (p3:Uan g3 TO x b) t3=>Va (Uco (Vc ?_)))))
 refine Va (Va (Ucp (show Vf _ _ (nextOf (.ref i2) >>= _) _ _ _ from Va (Zdq (h2.mv fun o e=>t3.extBut _ _ D.TOi2.symm (t2.extBut _ _ D.i12.symm (t1.extBut _ _ D.i2z e))) (hl2.mv fun o e=>t3.extBut _ _ D.l2TO (t2.extBut _ _ D.l2i1 (t1.extBut _ _ D.l2z e))) hy fun g4 n4 t4=>Vc ?_))))
 have p4:Uan g4 TO x b:=t4.extBut _ _ D.TOi2 p3
 refine Va (Vz p4 rfl (Va (Ubw p4 fun g5 (p5:Uan g5 TO x y) t5=>Va (Uco (Vc (Vc ?_))))))
 have sz:g5.objs.size=s.heap.objs.size:=by rw[t5.1,t4.1,t3.1,t2.1,t1.1]
 have e5:Udl g5 z TI TO .ellipsis:=t5.extBut _ _ D.TOz.symm (t4.extBut _ _ D.i2z.symm (t3.extBut _ _ D.TOz.symm (t2.extBut _ _ D.i1z.symm e1)))
 have kp5:∀ c o,c≠z->c≠TO->c≠i1->c≠i2->s.heap.get? c=some o->g5.get? c=some o:=fun c o c1 c2 c3 c4 e=>t5.extBut _ _ c2 (t4.extBut _ _ c4 (t3.extBut _ _ c2 (t2.extBut _ _ c3 (t1.extBut _ _ c1 e))))
 have n15:SqI b1 g5 i1 l1 (k1+1):=n2.mv fun o e=>t5.extBut _ _ D.TOi1.symm (t4.extBut _ _ D.i12 (t3.extBut _ _ D.TOi1.symm e))
 have n25:SqI b2 g5 i2 l2 (k2+1):=n4.mv fun o e=>t5.extBut _ _ D.TOi2.symm e
 have zl:z<g5.objs.size:=Xd e5
 refine Va (Vz p5 rfl (Va (Ubp ?_)))
 show Vf _ _ (Uc (.ref z) (.ref g5.objs.size) >>= _) _ _ { s with heap:=_ }
 have e6:Udl (g5.push { cls:=.type "tuple",data:=.seq #[x,y] }) z TI TO .ellipsis:=Xa _ e5
 unfold Uc
 refine Va (Va (Vp e6 (by simp) fun g7 (e7:Udl g7 z TI TO (Uax g5.objs.size)) t7=>Vp e7 (by simp) fun g8 (e8:Udl g8 z TI TO (Uax g5.objs.size)) t8=>?_))
 have up:∀ c o,c≠z->g5.get? c=some o->g8.get? c=some o:=fun c o c1 e=>t8.extBut _ _ c1 (t7.extBut _ _ c1 (Xa _ e))
 have p8:Uan g8 g5.objs.size x y:=t8.extBut _ _ (Wcc zl) (t7.extBut _ _ (Wcc zl) (Xe _ rfl))
 have s8:g8.objs.size=g5.objs.size+1:=by rw[t8.1,t7.1,Wak]
 rw[sz] at e8 p8 s8
 refine Vc ⟨.ref g5.objs.size,rfl,?_⟩
 rw[sz]
 exact hQ g8 e8 (up _ _ D.TOz p5) (n15.mv fun o e=>up _ o D.i1z e) (n25.mv fun o e=>up _ o D.i2z e) p8 s8 fun c o c1 c2 c3 c4 e=>up c o c1 (kp5 c o c1 c2 c3 c4 e)
theorem Zv5 {a b:Vb} {Q:Tdi->Vd->Prop} (hh:A.handled=none) (D:Ubd z TI TO i1 i2 l1 l2) (hz:Udl s.heap z TI TO .none) (hTI:Uan s.heap TI (.ref i1) (.ref i2)) (hTO:Uan s.heap TO a b)
  (h1:SqI b1 s.heap i1 l1 k1) (h2:SqI b2 s.heap i2 l2 k2) (hl1:SqX b1 s.heap l1 xs) (hl2:SqX b2 s.heap l2 ys) (hend:xs[k1]? = none\/ys[k2]? = none)
  (hE:∀ h' e,(∀ c o,c≠z->c≠TO->c≠i1->c≠i2->s.heap.get? c=some o->h'.get? c=some o)->(∃ o,h'.get? e=some o/\o.cls=.type "StopIteration")->E (.ref e) { s with heap:=h' }) :
  Vf (Vj prog w) A (Builtin.«zip.__next__» ⟨[.ref z],[]⟩) Q E s:=by
 show Vf _ _ (Ucn (.ref z) 2 >>= _) _ _ s
 refine Va (Vo hz rfl (x:=.bool false) rfl (show Vf _ _ (Ucn (.ref z) 3 >>= _) _ _ _ from Va (Vo hz rfl (x:=.ref TI) rfl (Va (Vz hTI rfl ?_)))))
 show Vf _ _ (Ua (.ref z) >>= _) _ E s
 unfold Ua
 refine Va (Va (Vo hz rfl (x:=.none) rfl (Vc ?_)))
 simp only[if_true]
 refine Va (Uaj (Va (Vo hz rfl (x:=.ref TO) rfl (Va (Vp hz (by simp) fun g1 (e1:Udl g1 z TI TO .ellipsis) t1=>Va ?_)))))
 simp only[Wet,Wgj,Wbs,Wcw]
 refine Va (Va (Ucp (show Vf _ _ (nextOf (.ref i1) >>= _) _ _ _ from ?_)))
 have hi1:=h1.mv (h':=g1) fun o e=>t1.extBut _ _ D.i1z e
 have hq1:=hl1.mv (h':=g1) fun o e=>t1.extBut _ _ D.l1z e
 cases hx:xs[k1]? with
 | none =>
  refine Va (Zir hh hi1 hq1 hx fun g2 e t2 zz=>?_)
  obtain⟨oe,ho,hc⟩:=zz
  have e2:Udl g2 z TI TO .ellipsis:=t2 _ _ D.i1z.symm e1
  have ne:e≠z:=fun q=>by subst q; rw[e2] at ho; cases ho; simp at hc
  exact Vp e2 (by simp) fun g3 _ t3=>hE g3 e (fun c o c1 _ c3 _ q=>t3.extBut _ _ c1 (t2 _ _ c3 (t1.extBut _ _ c1 q))) ⟨oe,t3.extBut _ _ ne ho,hc⟩
 | some x =>
  have hy:ys[k2]? = none:=hend.resolve_left fun q=>by rw[hx] at q; cases q
  refine Va (Zdq hi1 hq1 hx fun g2 n2 t2=>Vc ?_)
  have p2:Uan g2 TO a b:=t2.extBut _ _ D.TOi1 (t1.extBut _ _ D.TOz hTO)
  refine Va (Vz p2 rfl (Va (Ubw p2 fun g3 _ t3=>Va (Uco (Vc ?_)))))
  refine Va (Va (Ucp (show Vf _ _ (nextOf (.ref i2) >>= _) _ _ _ from Va (Zir hh (h2.mv fun o e=>t3.extBut _ _ D.TOi2.symm (t2.extBut _ _ D.i12.symm (t1.extBut _ _ D.i2z e))) (hl2.mv fun o e=>t3.extBut _ _ D.l2TO (t2.extBut _ _ D.l2i1 (t1.extBut _ _ D.l2z e))) hy fun g4 e t4 zz=>?_))))
  obtain⟨oe,ho,hc⟩:=zz
  have e4:Udl g4 z TI TO .ellipsis:=t4 _ _ D.i2z.symm (t3.extBut _ _ D.TOz.symm (t2.extBut _ _ D.i1z.symm e1))
  have ne:e≠z:=fun q=>by subst q; rw[e4] at ho; cases ho; simp at hc
  exact Vp e4 (by simp) fun g5 _ t5=>hE g5 e (fun c o c1 c2 c3 c4 q=>t5.extBut _ _ c1 (t4 _ _ c4 (t3.extBut _ _ c2 (t2.extBut _ _ c3 (t1.extBut _ _ c1 q))))) ⟨oe,t5.extBut _ _ ne ho,hc⟩
theorem Zxc {x y a b:Vb} {Q:Option Vb->Vd->Prop} (D:Ubd z TI TO i1 i2 l1 l2) (hz:Udl s.heap z TI TO .none) (hTI:Uan s.heap TI (.ref i1) (.ref i2)) (hTO:Uan s.heap TO a b)
  (h1:SqI b1 s.heap i1 l1 k1) (h2:SqI b2 s.heap i2 l2 k2) (hl1:SqX b1 s.heap l1 xs) (hl2:SqX b2 s.heap l2 ys) (hx:xs[k1]? = some x) (hy:ys[k2]? = some y)
  (hQ:∀ h',Udl h' z TI TO (Uax s.heap.objs.size)->Uan h' TO x y->SqI b1 h' i1 l1 (k1+1)->SqI b2 h' i2 l2 (k2+1)->Uan h' s.heap.objs.size x y->h'.objs.size=s.heap.objs.size+1 ->
   (∀ c o,c≠z->c≠TO->c≠i1->c≠i2->s.heap.get? c=some o->h'.get? c=some o)->Q (some (.ref s.heap.objs.size)) { s with heap:=h' }):Vf (Vj prog w) A (Uar (.ref z)) Q E s:=by
 have ty:s.TypeIs (.ref z) "zip" := ⟨_,hz,rfl⟩
 unfold Uar
 exact Va (Uag (Vn (name:=Ug "__next__") ty Uu (Vr Uu ty Tay (Zwi D hz hTI hTO h1 h2 hl1 hl2 hx hy fun h' a1 a2 a3 a4 a5 a6 a7=>Vc (hQ h' a1 a2 a3 a4 a5 a6 a7)) (Tas _))))
theorem Zxi {a b:Vb} {Q:Option Vb->Vd->Prop} (hh:A.handled=none) (D:Ubd z TI TO i1 i2 l1 l2) (hz:Udl s.heap z TI TO .none) (hTI:Uan s.heap TI (.ref i1) (.ref i2)) (hTO:Uan s.heap TO a b)
  (h1:SqI b1 s.heap i1 l1 k1) (h2:SqI b2 s.heap i2 l2 k2) (hl1:SqX b1 s.heap l1 xs) (hl2:SqX b2 s.heap l2 ys) (hend:xs[k1]? = none\/ys[k2]? = none)
  (hQ:∀ h',(∀ c o,c≠z->c≠TO->c≠i1->c≠i2->s.heap.get? c=some o->h'.get? c=some o)->Q none { s with heap:=h' }):Vf (Vj prog w) A (Uar (.ref z)) Q E s:=by
 have ty:s.TypeIs (.ref z) "zip" := ⟨_,hz,rfl⟩
 unfold Uar
 refine Va (Uag (Vn (name:=Ug "__next__") ty Uu (Vr Uu ty Tay (Zv5 hh D hz hTI hTO h1 h2 hl1 hl2 hend fun h' e hk ⟨o,ho,hc⟩=>?_) (Tas _))))
 exact Va (Uao (T := "StopIteration") (b:=true) ⟨o,ho,hc⟩ Ubq (Vc (hQ _ hk)))
nonrec def itO (b:Bool) (l:Vg):Obj:={ cls:=.type (if b then "list_iterator" else "tuple_iterator"),data:=.fields #[.ref l,.int 0 0] }
theorem Zo1 {b:Bool} {l:Vg} {xs:Array Vb} {Q:Vb->Vd->Prop} (hl:SqX b s.heap l xs) (h:Q (.ref s.heap.objs.size) { s with heap:=s.heap.push (itO b l) }):Vf (Vj prog w) A (pyIter (.ref l)) Q E s:=by
 cases b
 ·exact Uap hl h
 ·exact Uaz hl h
nonrec def zh2 (h:Uab) (b1 b2:Bool) (l1 l2:Vg):Uab:=(h.push (itO b1 l1)).push (itO b2 l2)
nonrec def zh4 (h:Uab) (b1 b2:Bool) (l1 l2:Vg):Uab:=((zh2 h b1 b2 l1 l2).push { cls:=.type "tuple",data:=.seq #[.ref h.objs.size,.ref (h.push (itO b1 l1)).objs.size] }).push { cls:=.type "tuple",data:=.seq #[.none,.none] }
nonrec def zh5 (h:Uab) (b1 b2:Bool) (l1 l2:Vg):Uab:=(zh4 h b1 b2 l1 l2).push { cls:=.type "zip",data:=.fields #[.none,.bool false,.bool false,.ref (zh2 h b1 b2 l1 l2).objs.size,.ref ((zh2 h b1 b2 l1 l2).push { cls:=.type "tuple",data:=.seq #[.ref h.objs.size,.ref (h.push (itO b1 l1)).objs.size] }).objs.size] }
theorem Zqg (b1 b2:Bool) (l1 l2:Vg) (xs ys:Array Vb):Uec (Builtin.«zip.__new__» ⟨[.type "zip",.ref l1,.ref l2],[]⟩) (fun _ R s=>SqX b1 s.heap l1 xs/\SqX b2 s.heap l2 ys/\R (.ok (.ret (.ref (zh4 s.heap b1 b2 l1 l2).objs.size))) { s with heap:=zh5 s.heap b1 b2 l1 l2 }) :=
 .of_wp fun prog w A R s h=>by
  obtain⟨hp,g,d,tk,os⟩:=s; obtain⟨m1,m2,h⟩:=h
  have sb:=sub_zip
  have M1:SqX b1 (Tbs ⟨hp,g,d,tk,os⟩) l1 xs:=m1
  have M2:SqX b2 (Tbs ⟨hp.push (itO b1 l1),g,d,tk,os⟩) l2 ys:=m2.mv fun o e=>Xa _ e
  wp_walk using Zo1 M1,Zo1 M2
  exact⟨_,rfl,h⟩
theorem Znb {b1 b2:Bool} {l1 l2:Vg} {xs ys:Array Vb} {Q:Vb->Vd->Prop} (m1:SqX b1 s.heap l1 xs) (m2:SqX b2 s.heap l2 ys)
  (h:∀ h',Udl h' (s.heap.objs.size+4) (s.heap.objs.size+2) (s.heap.objs.size+3) .none->Uan h' (s.heap.objs.size+2) (.ref s.heap.objs.size) (.ref (s.heap.objs.size+1))->Uan h' (s.heap.objs.size+3) .none .none ->
   SqI b1 h' s.heap.objs.size l1 0->SqI b2 h' (s.heap.objs.size+1) l2 0->(∀ c o,s.heap.get? c=some o->h'.get? c=some o)->Q (.ref (s.heap.objs.size+4)) { s with heap:=h' }) :
  Vf (Vj prog w) A (call (.type "zip") [.ref l1,.ref l2]) Q E s:=by
 refine Ueb F.called_zip (by decide) (F.typeCall_zip_2 _ _) (F.newCall_zip_2 _ _) (fun obj=>F.args_object_init_3 obj _ _) F.entry_zip_new (Zqg b1 b2 l1 l2 xs ys) ⟨m1,m2,?_⟩
 let n:=s.heap.objs.size
 have s1:(s.heap.push (itO b1 l1)).objs.size=n+1:=Wak ..
 have s2:(zh2 s.heap b1 b2 l1 l2).objs.size=n+2:=(Wak ..).trans (by rw[s1])
 have s3:((zh2 s.heap b1 b2 l1 l2).push { cls:=.type "tuple",data:=.seq #[.ref s.heap.objs.size,.ref (s.heap.push (itO b1 l1)).objs.size] }).objs.size=n+3:=(Wak ..).trans (by rw[s2])
 have s4:(zh4 s.heap b1 b2 l1 l2).objs.size=n+4:=(Wak ..).trans (by rw[s3])
 have g5:(zh5 s.heap b1 b2 l1 l2).get? (zh4 s.heap b1 b2 l1 l2).objs.size=some _:=Xe _ rfl
 have g4:(zh5 s.heap b1 b2 l1 l2).get? ((zh2 s.heap b1 b2 l1 l2).push { cls:=.type "tuple",data:=.seq #[.ref s.heap.objs.size,.ref (s.heap.push (itO b1 l1)).objs.size] }).objs.size=some _:=Xa _ (Xe _ rfl)
 have g3:(zh5 s.heap b1 b2 l1 l2).get? (zh2 s.heap b1 b2 l1 l2).objs.size=some _:=Xa _ (Xa _ (Xe _ rfl))
 have g2:(zh5 s.heap b1 b2 l1 l2).get? (s.heap.push (itO b1 l1)).objs.size=some (itO b2 l2):=Xa _ (Xa _ (Xa _ (Xe _ rfl)))
 have g1:(zh5 s.heap b1 b2 l1 l2).get? s.heap.objs.size=some (itO b1 l1):=Xa _ (Xa _ (Xa _ (Xa _ (Xe _ rfl))))
 show _/\_
 rw[s2,s3,s4] at g5
 rw[s1,s2] at g3
 rw[s3] at g4
 rw[s1] at g2
 rw[s4]
 exact⟨⟨_,g5,rfl⟩,h _ g5 g3 g4 ⟨_,g1,rfl,rfl⟩ ⟨_,g2,rfl,rfl⟩ fun c o e=>Xa _ (Xa _ (Xa _ (Xa _ (Xa _ e))))⟩
end
def SqB (K:Xb) (b:Bool) (H:Hp) (l:Vg) (xs:List V):Prop:=if b=true then H l=some (.lst xs) else SqT K H l xs
nonrec def Zq6 (d:D) (H:HD):Option (List D×Zem):=match d with
 | .tup xs=>some (xs,[])
 | .ref n=>match H[n]? with
  | some (.lst xs)=>some (xs,[(n,.lst xs)])
  | _=>none
 | _=>none
theorem Zkz {d:D} {H:HD} {xs:List D} {own:Zem} (e:Zq6 d H=some (xs,own)):Zbn own H:=by
 unfold Zq6 at e
 split at e
 ·cases e; intro p hp; cases hp
 ·split at e
  ·rename_i eo
   cases e
   intro p hp
   simp at hp; subst hp; exact eo
  ·cases e
 ·cases e
theorem Zsp {K:Xb} {H:Hp} {ι:List Vg} {Hd:HD} {d:D} {v:V} {xs:List D} {own:Zem} (r:Rep K H ι d v) (e:Zq6 d Hd=some (xs,own)) :
  ∃ b l,v=.ref l/\∀ H2 ι2 Hd2,Le K H ι H2 ι2->HRep K H2 ι2 Hd2->Zbn own Hd2->∃ ws,SqB K b H2 l ws/\Vm (Rep K H2 ι2) xs ws:=by
 unfold Zq6 at e
 split at e
 ·cases e
  obtain⟨a,vs,rfl,h,p⟩:=Zan.mp r
  refine⟨false,a,rfl,fun H2 ι2 Hd2 l2 h2 _=>?_⟩
  obtain⟨a',ws,ea,h',p'⟩:=Zan.mp (r.mono l2)
  cases ea
  exact⟨ws,h',p'⟩
 ·rename_i n
  split at e
  ·rename_i ys eo
   cases e
   obtain⟨a,rfl,ha⟩:=Zao.mp r
   refine⟨true,a,rfl,fun H2 ι2 Hd2 l2 h2 ok=>?_⟩
   obtain⟨ws,g,p⟩:=h2.obj n a _ (l2.get ha) (ok (n,.lst xs) (by simp))
   exact⟨ws,g,p⟩
  ·cases e
 ·cases e
section
variable {X:Cx} {pins:List (Vg×Obj)} {σ:L2.St} {H:Hp} {s:Vd} {b:Bool} {l:Vg} {xs ys:List V}
theorem Zpj (I:Inv X pins σ H s) (h:SqB X.K b H l xs):∃ its:List Vb,Za9 xs its/\SqX b s.heap l its.toArray:=by
 cases b with
 | true =>
  obtain⟨its,r,p,_⟩:=I.list (SqL.of (K:=X.K) (show H l=some (.lst xs) from h))
  exact⟨its,r,p.isList⟩
 | false =>
  obtain⟨its,r,p,_⟩:=I.tuple (show SqT X.K H l xs from h)
  exact⟨its,r,p⟩
end
theorem Zpc:Uby (.type "list") "keys" = pure none:=Udf (by kernel_rfl)
theorem Ztp {prog:Vl} {w:Vt} {A:Vu} {E:Vb->Vd->Prop} {s:Vd} {l:Vg} {ob:Obj} {xs:Array Vb} {k:Nat} {Q:Option Vb->Vd->Prop} (g1:s.heap.get? l=some ob) (g2:ob.cls=.type "list") (g3:ob.data=.seq xs k) (g4:ob.dict=none) (hh:A.handled=none)
  (q:∀ h' tk,(∀ b o,s.heap.get? b=some o->h'.get? b=some o)->Q none { s with heap:=h',toks:=tk }):Vf (Vj prog w) A (getAttr? (.ref l) "keys") Q E s:=by
 obtain⟨c,dd,dt,sl⟩:=ob
 simp only at g2 g3 g4
 subst g2 g3 g4
 obtain⟨hp,g,d,tk,os⟩:=s
 have ty:∀ t,(⟨hp,g,d,t,os⟩:Vd).TypeIs (.ref l) "list" := fun _=>⟨_,g1,rfl⟩
 have f1:=sub_AttributeError
 have f2:=Tan.lookup
 have f3:=Tan.bind (.ref l)
 have f4:=am_list_getattr_none
 unfold getAttr? getAttrBy? getAttrBy
 repeat (any_goals (first | assumption | exact ty _ | ((with_reducible show Vf _ _ (call (Tcl "list.__getattribute__") _ _) _ _ _); refine Uas Tan (ty _) am_entry_list_getattribute (F.args_list_getattribute_2 _ _) (meets_getattribute_miss_list l xs k sl "keys" _ Zpc (by decide) (by decide)) ⟨g1,hh,fun h1 t1 e x1=>?_⟩) | wp_step))
 obtain⟨t2,u2,e2⟩:=x1.there
 show Vf _ _ (Ubk _ _ _ _ none false false) _ _ _
 unfold Ubk
 repeat (any_goals (first | assumption | wp_step))
 exact q _ _ x1.keeps
theorem Zbr:plainId "dict.update.loop" = true:=by decide +kernel
theorem Zef:entryFor table "dict.update.loop" = some Builtin.«dict.update.loop»:=entryFor_of_tree (by kernel_rfl)
theorem Zgz {prog:Vl} {w:Vt} {A:Vu} {E:Vb->Vd->Prop} {s:Vd} {t:Vg} {xs:Array Vb} {Q:List Vb->Vd->Prop} (h:Ucw s.heap t xs) (q:Q xs.toList s):Vf (Vj prog w) A (Tby (.ref t)) Q E s:=by
 obtain⟨o,g1,g2,n,g3⟩:=id h
 unfold Tby
 refine Va (Ubs h.typeIs ?_)
 rw[if_pos (by decide)]
 refine Va (Vz g1 g3 (Vc ?_))
 exact q
section
variable {prog:Vl} {w:Vt} {A:Vu} {R:Result->Vd->Prop} {J d:Vg} {fp wr:List Vg} {n:Nat} {P:Nat->Vb->Prop} {St:Nat->Uab->Prop} {Gd:Nat->Uab->Prop}
theorem Zk3 (W:Walks prog w A.in1 J fp wr n P St) (hg:∀ i h h',Gd i h->(∀ b o,b∉wr->h.get? b=some o->h'.get? b=some o)->Gd i h')
  (st:∀ i v (s:Vd),i<n->P i v->Gd i s.heap->∃ t k u,v=.ref t/\Ucw s.heap t #[k,u]/\∀ (Q:Unit->Vd->Prop) (E:Vb->Vd->Prop),(∀ h' tk,Gd (i+1) h'->(∀ b∈fp,∀ o,s.heap.get? b=some o->h'.get? b=some o)->Q () { s with heap:=h',toks:=tk })->Vf (Vj prog w) A.in1 (dictSet d k u) Q E s) :
  ∀ (m i:Nat) (s:Vd) (z:Int) (tz:Tok),i+m=n->St i s.heap->Gd i s.heap->(∀ h' tk,Gd n h'->R (.ok (.ret .none)) { s with heap:=h',toks:=tk }) ->
  Ucl (Vj prog w) A (.builtin "dict.update.loop" ⟨[.ref d,.ref J,.int z tz,.none],[]⟩) R s
 | 0,i,s,z,tz,hm,hs,gd,q=>by
  refine Uat Zef ?_; rw[Ux Zbr _]
  have hi:i=n:=by omega
  subst hi
  show Vf _ A.in1 (Uar (Ud J) >>= _) _ _ s
  refine Va (W.done s _ _ hs fun h1 t1 k1=>?_)
  refine Va (Vc ?_)
  exact Vc (q h1 t1 (hg _ _ _ gd k1))
 | m+1,i,s,z,tz,hm,hs,gd,q=>by
  refine Uat Zef ?_; rw[Ux Zbr _]
  show Vf _ A.in1 (Uar (Ud J) >>= _) _ _ s
  refine Va (W.item i s _ _ (by omega) hs fun v h1 t1 hv hs1 k1=>?_)
  have g1:=hg _ _ _ gd k1
  obtain⟨t,k,u,rfl,ht,go⟩:=st i v { s with heap:=h1,toks:=t1 } (by omega) hv g1
  refine Va (Vs ?_)
  refine Va (wpAny_tryCatch (Zgz ht ?_))
  refine Vs (go _ _ fun h2 t2 g2 k2=>?_)
  exact Vc ⟨Ucq Zbr _,Zk3 W hg st m (i+1) _ _ _ (by omega) (W.frame _ _ _ hs1 k2) g2 fun h3 t3 g3=>q h3 t3 g3⟩
end
theorem Zlz {prog:Vl} {w:Vt} {A:Vu} {E:Vb->Vd->Prop} {s:Vd} {l:Vg} {ob:Obj} {xs:Array Vb} {kk:Nat} {Q:Vb->Vd->Prop} (g1:s.heap.get? l=some ob) (g2:ob.cls=.type "list") (g3:ob.data=.seq xs kk) (g4:ob.dict=none) (hh:A.handled=none) {Gd:Nat->Uab->Prop}
  (g0:∀ h',(∀ b o,(s.heap.push { cls:=.type "dict",data:=.dict #[] }).get? b=some o->h'.get? b=some o)->Gd 0 h')
  (hg:∀ i h h',Gd i h->(∀ b o,b<s.heap.objs.size+1->h.get? b=some o->h'.get? b=some o)->Gd i h')
  (st:∀ i v (z:Vd),xs[i]? = some v->Gd i z.heap->∃ t k u,v=.ref t/\Ucw z.heap t #[k,u]/\∀ (Q:Unit->Vd->Prop) (E:Vb->Vd->Prop),(∀ h' tk,Gd (i+1) h'->(∀ b o,b≠s.heap.objs.size->z.heap.get? b=some o->h'.get? b=some o)->Q () { z with heap:=h',toks:=tk })->Vf (Vj prog w) A.in1.in1 (dictSet s.heap.objs.size k u) Q E z)
  (q:∀ h' tk,Gd xs.size h'->Q (.ref s.heap.objs.size) { s with heap:=h',toks:=tk }):Vf (Vj prog w) A (call (.type "dict") [.ref l]) Q E s:=by
 refine callType_codes (Q₁:=fun a z=>a=.ref s.heap.objs.size/\z={ s with heap:=s.heap.push { cls:=.type "dict",data:=.dict #[] } }) F.kt_called_dict (Tci _) Tcw (kt_code_dict_new _ ⟨rfl,rfl⟩) ?_
 rintro a z ⟨rfl,rfl⟩
 have hlt:l<s.heap.objs.size:=Xd g1
 have ty:({ s with heap:=s.heap.push { cls:=.type "dict",data:=.dict #[] } }:Vd).TypeIs (.ref s.heap.objs.size) "dict" := ⟨_,Xe _ rfl,rfl⟩
 have ty2:({ s with heap:=s.heap.push { cls:=.type "dict",data:=.dict #[] } }:Vd).TypeIs (.ref l) "list" := ⟨_,Xa _ g1,g2⟩
 refine⟨ty,Tcn _ _,?_⟩
 unfold Builtin.«dict.__init__» Tbn; refine Va (Va (Ubt ty ?_))
 show Vf _ _ (pure (s.heap.objs.size,[Ud l])) _ _ { s with heap:=s.heap.push { cls:=.type "dict",data:=.dict #[] } }
 refine Vc ?_; show Vf _ _ (Tac "dict.__init__" s.heap.objs.size (Ud l) [] .none) _ _ _
 unfold Tac
 refine Va (Ubs ty2 ?_)
 rw[if_pos (by decide)]
 refine Va (Ztp (A:=A.in1.in1) (Xa _ g1) g2 g3 g4 (show A.in1.in1.handled=none from hh) fun h1 t1 k1=>?_)
 have l1:h1.IsList l xs:=⟨ob,k1 _ _ (Xa _ g1),g2,kk,g3⟩
 have sz:s.heap.objs.size+1<=h1.objs.size:=by
  have e0:(s.heap.push { cls:=.type "dict",data:=.dict #[] }).get? s.heap.objs.size=some { cls:=.type "dict",data:=.dict #[] }:=Xe _ rfl
  exact Xd (k1 _ _ e0)
 simp only[Wfm,if_true]
 refine Va (Uaj ?_)
 refine Va (Uaz (s:={ s with heap:=h1,toks:=t1 }) l1 ?_)
 refine Vc ⟨Ucq Zbr _,Zk3 (A:=A.in1) (Gd:=Gd) (Walks.list (A:=A.in1.in1) (show A.in1.in1.handled=none from hh) h1.objs.size l (Xh (Xi hlt (Xq (Wfi _) sz))) xs) ?_ ?_ xs.size 0 _ _ _ (by omega) ⟨⟨_,Xe _ rfl,rfl,rfl⟩,l1.at fun o z=>Xa _ z⟩ (hg _ _ _ (g0 h1 k1) fun b o _ e=>Xa _ e) fun h3 t3 g3=>⟨rfl,q h3 t3 g3⟩⟩
 ·intro i h h' gd k
  refine hg i h h' gd fun b o hb e=>k b o ?_ e
  intro hm
  have:b=h1.objs.size:=by simpa using hm
  subst this
  exact absurd (Xi hb sz) (Wat _)
 ·intro i v z hi hv gd
  obtain⟨t,k,u,e,ht,go⟩:=st i v z hv gd
  refine⟨t,k,u,e,ht,fun Q E qq=>go Q E fun h2 t2 g2 k2=>qq h2 t2 g2 fun b hb o e=>k2 b o ?_ e⟩
  intro e1
  subst e1
  simp only[Xl,Wdr,or_false] at hb
  rcases hb with hb | hb
  ·exact absurd (Xi (Wcz _) sz) (by rw[<- hb]; exact Wat _)
  ·exact absurd hlt (by rw[<- hb]; exact Wat _)
structure BlkOk2 (X:Cx) (scope:Ucf) (x y:Str) (cn:List Str) (ci:List Nat):Prop where
 kind:scope.kind=.function
 nocell:∀ y∈scope.names,y.2≠.cell
 names:∀ y∈scope.names,y.2=.local->scope.names.lookup y.1=some .local
 tgt:scope.names.lookup x=some .local
 tgt2:scope.names.lookup y=some .local
 free:∀ y∈scope.names,y.2=.free->(X.env.cells.lookup y.1).isSome=true
 nd:(x::y::cn).Nodup
 len:ci.length=cn.length
 cap:∀ (j:Nat) (y:Str),cn[j]? = some y->∃ i,ci[j]? = some i/\X.N[i]? = some y/\scope.names.lookup y=some .free/\(X.env.kindOf y=some .cell\/X.env.kindOf y=some .free)
section
variable {X:Cx} {pins:List (Vg×Obj)} {σ:L2.St} {H:Hp} {s:Vd} {scope:Ucf} {x y0:Str} {cn:List Str} {ci:List Nat} {fp:List Vg}
theorem Zq1 {h₁:Uab} {tk:Nat} {o₁:Obj} (I:Inv X pins σ H s) (B:BlkOk2 X scope x y0 cn ci) (hf:∀ b∈fp,Zjr X pins H b) (hlt:∀ b∈fp,b<s.heap.objs.size)
  (hns:h₁.Ns s.heap.objs.size (fun _=>none)) (hsb:Xm s.heap.objs.size (s.heap.push o₁) h₁) :
  Inv (blk X scope (x::y0::cn) (Ze5 X.env scope.names []) s.heap.objs.size s H fp (X.pn++pins)) [] (none::none::Zgh ci σ) H { s with heap:=h₁,toks:=tk }:=by
 have old:∀ b o,s.heap.get? b=some o->h₁.get? b=some o:=fun b o e=>hsb.extBut b o (Xh (Xd e)) (Xa _ e)
 have sub:=Zea X.env scope.names [] (by intro x c h; simp at h)
 have has:∀ y,(y,Ue)∈scope.names->∃ c,(Ze5 X.env scope.names []).lookup y=some c:=fun y hy =>
  Wbn.mp (Zhe X.env scope.names [] y (.inr ⟨hy,B.free _ hy rfl⟩))
 refine⟨⟨I.ok.mod,B.kind,I.ok.glob,I.ok.blt,Xf _,fun y z c h1 h2=>I.ok.inj y z c (sub y c h1) (sub z c h2),fun y hy=>has y (Zc7 B.nocell hy),fun y c hy=>absurd hy (by show ¬ (false=true); simp),I.ok.hd,I.ok.frames,.inl rfl,
   fun b hb=>⟨Xh (hlt b hb),fun y c e=>(hf b hb).2.2.2.2.1 y c (sub y c e)⟩,I.bs,Xq I.ok.bsz I.sz,fun b o e hb=>?_,fun b hb z=>?_,I.stack,I.stkFree⟩,
  rfl,I.bare,Un.kept old,⟨_,hns,fun i y v h1 h2 h3=>?_⟩,fun y c e=>?_,I.hok.fresh (Xf _),fun y c e=>(I.freeC y c (sub y c e)).imp id fun z=>⟨rfl,z.2⟩,fun p hp=>?_,I.hok.kept old,?_⟩
 ·rcases(hf b hb).2.2.2.1 with z | z
  ·exact I.ok.noex b o e z
  ·exact absurd (Xi (Xd e) (Xq I.ok.bsz z)) (Wat _)
 ·exact(Xl.mp (I.stkSub b z)).elim (hf b hb).2.1 (hf b hb).2.2.1
 ·match i,h1,h2 with
  | 0,h1,h2=>simp at h2
  | 1,h1,h2=>simp at h2
  | j+2,h1,h2 =>
   have h1':cn[j]? = some y:=by simpa [blk] using h1
   have h2':(Zgh ci σ)[j]? = some (some v):=by simpa using h2
   obtain⟨i,e1,e2,e3,e4⟩:=B.cap j y h1'
   have e5:σ[i]? = some (some v):=by
    unfold Zgh at h2'
    rw[Wah,e1] at h2'
    simp at h2'
    cases e:σ[i]? with
    | none=>rw[e] at h2'; cases h2'
    | some o=>rw[e] at h2'; simp at h2'; rw[h2']
   obtain⟨m,hn,hl⟩:=I.loc
   have hv:Vis X.env.scope y:=by
    rcases e4 with e4 | e4
    ·exact .inr (.inl e4)
    ·exact .inr (.inr e4)
   obtain⟨u,r,l⟩:=hl i y v e2 e5 hv
   refine⟨u,r,.inr ⟨Zd0 e3,?_⟩⟩
   obtain⟨c,ec⟩:=has y (Uo e3)
   refine⟨c,ec,?_⟩
   rcases l with ⟨l,_⟩ | ⟨_,c',ec',hc⟩
   ·rcases e4 with e4 | e4<;>rw[e4] at l<;>cases l
   ·rw[sub y c ec] at ec'
    cases ec'
    obtain⟨ob,q1,q2⟩:=hc
    exact⟨ob,old _ _ q1,q2⟩
 ·obtain⟨v,ob,q1,q2⟩:=I.cell y c (sub y c e)
  exact⟨v,ob,old _ _ q1,q2⟩
 ·have hp':p∈X.pn++pins:=by simpa [blk] using hp
  obtain⟨q1,q2,q3,q4,q5⟩:=I.pin p hp'
  refine⟨old _ _ q1,q2,Xh (Xd q1),fun z=>?_,q5⟩
  exact(Xl.mp (I.stkSub p.1 z)).elim q3 q4
 ·simp[blk,Zgh,B.len]
def LcW2 (K:Xb) (J:It) (ci:List Nat) (tt:TT) (te:TE) (σ:L2.St) (Q:VK) (H1:Hp):Prop:=∀ p,H1 p=none->∃ W:Nat->Nat->List V->Hp->Prop,(∃ m,W 0 m [] (upd H1 p (.lst [])))/\∀ i m ys H,W i m ys H ->
 H p=some (.lst ys)/\((J.stop i H/\Q (.ref p) H)\/(J.go i H/\∀ v H',J.yld i H v H'->∃ a v1 v2,v=.ref a/\SqT K H' a [v1,v2]/\tt (some v1::some v2::Zgh ci σ) H' fun b H2 =>
  if b=true then te (some v1::some v2::Zgh ci σ) H2 fun y H3=>H3 p=some (.lst ys)/\ys.length<sizeLine/\∃ m',m'<m/\W (i+1) m' (ys++[y]) (upd H3 p (.lst (ys++[y])))
  else ∃ m',m'<m/\W (i+1) m' ys H2))
theorem Zmm {elt iter:Uac} {px py pt pos:Pos} {kt:Nat} {ifs:List Uac} {tt:TT} {te:TE} {Q:VK} {E:Vb->Vd->Prop} {RR:Vb->Vg->Result->Vd->Prop} {it:Vg} {tn:Nat->Uab->Prop} {J:It}
  (I:Inv X pins σ H s) (hc:X.calm=true) (B:BlkOk2 X scope x y0 cn ci) (T:Turn X.prog X.w X.K (.Tuple [.Name x px,.Name y0 py] kt pt) J fp it tn) (st:tn 0 s.heap) (hf:∀ b∈fp,Zjr X pins H b)
  (ht:∀ cl C s H fp pn,PTs (blk X scope (x::y0::cn) cl C s H fp pn) ifs tt) (he:∀ cl C s H fp pn,PE (blk X scope (x::y0::cn) cl C s H fp pn) elt te)
  (hw:LcW2 X.K J ci tt te σ Q H) (hRR:∀ p C H' s',Inv X pins σ H' s'->Gone X pins H' s' C->Q (.ref p) H'->RR (.ref p) C (.ok .next) s') :
  Vf (Vj X.prog X.w) X.A (newList []) (fun acc s₃=>Vf (Vj X.prog X.w) X.A (newFunctionEnv scope X.env.globals (Ze5 X.env scope.names []) [] X.env.qual none .none (some X.env)) (fun cenv s₄ =>
   Ucl (Vj X.prog X.w) X.A (.compStart (.ListComp elt [⟨.Tuple [.Name x px,.Name y0 py] kt pt,iter,ifs,0⟩] scope pos) 0 (.ref it) acc { cenv with scope:=relabel scope X.env }) (RR acc cenv.locals) s₄) E s₃) E s:=by
 have hp0:H s.heap.objs.size=none:=I.hok.fresh (Xf _)
 obtain⟨W,⟨m0,w0⟩,turn⟩:=hw _ hp0
 refine Vx (Udj B.nocell (by intro y hy; simp at hy) (fun h₁ hns₁ hsb₁=>?_) B.kind)
 dsimp only at hns₁ hsb₁ ⊢
 have I3:Inv X pins σ (upd H s.heap.objs.size (.lst [])) { s with heap:=s.heap.push { cls:=.type "list",dict:=none,data:=.seq ([]:List Vb).toArray } } :=
  I.laid (t':=s.toks) (fun b u e=>Xa _ e) (Xf _) ⟨Wbx _,[],0,.nil,Xe _ rfl⟩
 generalize hH3:s.heap.push { cls:=.type "list",dict:=none,data:=.seq ([]:List Vb).toArray }=hp3 at hns₁ hsb₁ I3 ⊢
 have flt:∀ b∈fp,b<s.heap.objs.size:=fun b hb=>by
  obtain⟨o,e,_⟩:=T.obj 0 _ st b hb
  exact Xd e
 have sz3:hp3.objs.size=s.heap.objs.size+1:=by rw[<- hH3,Wak]
 have f3:∀ b∈fp,Zjr X pins (upd H s.heap.objs.size (.lst [])) b:=fun b hb=>⟨by rw[Zaf (Xh (flt b hb))]; exact(hf b hb).1,(hf b hb).2⟩
 have old3:∀ b o,s.heap.get? b=some o->hp3.get? b=some o:=fun b o e=>by rw[<- hH3]; exact Xa _ e
 have I4:=Zq1 (s:={ s with heap:=hp3 }) (tk:=s.toks+([]:List (Str×Vb)).length) I3 B f3 (fun b hb=>by show b<hp3.objs.size; rw[sz3]; exact Way (flt b hb)) (by simpa using hns₁) hsb₁
 have old4:∀ b o,hp3.get? b=some o->h₁.get? b=some o:=fun b o e=>hsb₁.extBut b o (Xh (Xd e)) (Xa _ e)
 generalize hX':blk X scope (x::y0::cn) (Ze5 X.env scope.names []) hp3.objs.size { s with heap:=hp3 } (upd H s.heap.objs.size (.lst [])) fp (X.pn++pins)=X' at I4
 have ePr:X'.prog=X.prog:=by rw[<- hX']; rfl
 have eW:X'.w=X.w:=by rw[<- hX']; rfl
 have eK:X'.K=X.K:=by rw[<- hX']; rfl
 have eA:X'.A=X.A:=by rw[<- hX']; rfl
 have eEnv:X'.env=Ucd scope (Ze5 X.env scope.names []) hp3.objs.size X.env:=by rw[<- hX']; rfl
 have eEx:X'.ex=fp:=by rw[<- hX']; rfl
 have ht':PTs X' ifs tt:=by rw[<- hX']; exact ht _ _ _ _ _ _
 have he':PE X' elt te:=by rw[<- hX']; exact he _ _ _ _ _ _
 have eXe:X'.xe=fun _ _=>False:=by rw[<- hX']; rfl
 have hg':PG X' (.Tuple [.Name x px,.Name y0 py] kt pt) (gTup X.K 2 (Zor (Zhp 0) (Zor (Zhp 1) gNil))):=by
  rw[<- hX']
  exact Zsb (X:=blk X scope (x::y0::cn) _ _ _ _ _ _) hc (Zh1 (Zh2 (X:=blk X scope (x::y0::cn) _ _ _ _ _ _) B.nd rfl (.inl (Uam B.tgt)) (.inr (Uam B.tgt))) (Zh1 (Zh2 (X:=blk X scope (x::y0::cn) _ _ _ _ _ _) B.nd rfl (.inl (Uam B.tgt2)) (.inr (Uam B.tgt2))) Znu))
 -- the iterator's objects, seen from the block
 have stat:∀ {H':Hp},(∀ b∈fp,H' b=none)->∀ b∈fp,Zjr X' [] H' b:=fun {H'} hn b hb=>by
  rw[<- hX']
  refine⟨hn b hb,(by show b≠hp3.objs.size; rw[sz3]; exact Xh (Way (flt b hb))),fun z=>(Xl.mp (I3.stkSub b z)).elim (hf b hb).2.1 (hf b hb).2.2.1,.inl hb,fun y c e=>?_,fun p hp=>?_⟩
  ·exact(hf b hb).2.2.2.2.1 y c (Zea X.env scope.names [] (by intro x c h; simp at h) y c e)
  ·exact(hf b hb).2.2.2.2.2 p (by simpa [blk] using hp)
 have back:∀ {σ':L2.St} {H':Hp} {s':Vd},Inv X' [] σ' H' s'->Inv X pins σ H' s'/\Gone X pins H' s' hp3.objs.size:=fun {σ' H' s'} I5=>by
  have u:Un (frs X.stack) fp (upd H s.heap.objs.size (.lst [])) H' hp3 s'.heap:=by
   have:=I5.base
   rw[<- hX'] at this
   exact this
  have hok:HOk X.prog X.w H' s'.heap:=by have:=I5.hok; rw[ePr,eW] at this; exact this
  have ho:s'.os=s.os:=by have:=I5.os; rw[<- hX'] at this; exact this
  refine⟨I3.call' ho u hok I5.bare fun b hb=>⟨(hf b hb).2.2.2.1,(hf b hb).2.1,(hf b hb).2.2.2.2.1,(hf b hb).2.2.2.2.2⟩,?_,?_,?_,?_,fun y c e z=>?_,fun p hp z=>?_⟩
  ·obtain⟨m,hn,_⟩:=I5.loc
   rw[eEnv] at hn
   exact⟨m,hn⟩
  ·have:=I5.free
   rw[eEnv] at this
   exact this
  ·exact Wcc (I3.lt)
  ·exact I3.sz
  ·obtain⟨v,q⟩:=I3.cell y c e
   exact absurd (Xi q.lt (by rw[z]; exact Xf _)) (Wat _)
  ·have:=Xd (I3.pin p hp).1
   rw[z] at this
   exact Wat _ this
 have loop:Ucl (Vj X.prog X.w) X.A (.compLoop (.ListComp elt [⟨.Tuple [.Name x px,.Name y0 py] kt pt,iter,ifs,0⟩] scope pos) 0 (.ref it) (.ref s.heap.objs.size) (Ucd scope (Ze5 X.env scope.names []) hp3.objs.size X.env))
   (RR (.ref s.heap.objs.size) hp3.objs.size) { s with heap:=h₁,toks:=s.toks+([]:List (Str×Vb)).length }:=by
  refine codeAny_loop rfl (fun n s'=>∃ i o o2 ys H',Inv X' [] (o::o2::Zgh ci σ) H' s'/\tn i s'.heap/\(∀ b∈fp,H' b=none)/\W i n ys H') (fun n s' hI=>?_) m0
   ⟨0,none,none,[],_,I4,T.keep _ _ _ st (fun b hb o e=>old4 b o (old3 b o e)),fun b hb=>(f3 b hb).1,w0⟩
  obtain⟨i,o,o2,ys,H',I5,st5,fr5,w5⟩:=hI
  show Vf _ X.A ((compTurn (.ListComp elt [⟨.Tuple [.Name x px,.Name y0 py] kt pt,iter,ifs,0⟩] scope pos) 0 (.ref it) (.ref s.heap.objs.size) (Ucd scope (Ze5 X.env scope.names []) hp3.objs.size X.env)).onRaise (fun x=>do noteFrame x (Ucd scope (Ze5 X.env scope.names []) hp3.objs.size X.env); theTreesLotGoes x)) _ _ s'
  refine wpAny_noted ?_
  rw[compTurn_list,<- eEnv,<- ePr,<- eW,<- eA]
  refine Ube (E:=fun _ _=>False) ?_ (fun _ _ q=>q) (fun _ _ z=>z.elim)
  obtain⟨hpl,wt⟩:=turn i n ys H' w5
  refine Va (Ubx (Va ?_))
  rcases wt with ⟨stop,q⟩ | ⟨go,step⟩
  ·have z:=T.done X' ePr eW eK (by rw[<- hX']; exact hc) i [] s' _ H' (fun _ _=>False) I5 (stat fr5) st5 stop
   rw[<- ePr,<- eW] at z
   refine thn z fun r s6 zz=>?_
   obtain⟨hr,I6⟩:=zz
   subst hr
   obtain⟨J1,g1⟩:=back I6
   exact Vc (hRR _ _ H' s6 J1 g1 q)
  ·have z:=T.item X' ePr eW eK (by rw[<- hX']; exact hc) i [] s' _ H' (fun _ _=>False) I5 (stat fr5) st5 go
   rw[<- ePr,<- eW] at z
   refine thn z fun r s6 zz=>?_
   obtain⟨u,hr,h6⟩:=zz
   subst hr
   refine Va (thn h6 fun _ s7 zz=>?_)
   obtain⟨v,H7,I7,r7,y7,st7,fr7⟩:=zz
   have I7':=I7.pinned (stat fr7) (T.obj _ _ st7)
   rw[<- eXe]
   obtain⟨a7,v1,v2,ev,sq,step7⟩:=step v _ y7
   refine Va (thn (hg' _ s7 _ H7 v u _ I7' r7 (show gTup X.K 2 (Zor (Zhp 0) (Zor (Zhp 1) gNil)) v (o::o2::Zgh ci σ) H7 (fun σ8 H8=>σ8=some v1::some v2::Zgh ci σ/\H8=H7) from⟨a7,[v1,v2],ev,sq,rfl,⟨v1,[v2],rfl,v2,[],rfl,rfl,rfl,rfl⟩⟩)) fun _ s8 zz=>?_)
   obtain⟨σ8,H8,I8,e8,e8'⟩:=zz
   subst e8 e8'
   refine Va (thn (ht' _ s8 _ _ _ I8 step7) fun b s9 zz=>?_)
   obtain⟨H9,I9,q9⟩:=zz
   have tnK:∀ {σ':L2.St} {H':Hp} {s':Vd},Inv X' (([]:List (Vg×Obj))++Zhc fp s7.heap) σ' H' s'->tn (i+1) s'.heap/\∀ b∈fp,H' b=none:=fun {σ' H' s'} I' =>
    ⟨T.keep _ _ _ st7 fun b hb o e=>(I'.pin (b,o) (Xu _ (Xu _ (Zbx hb e)))).1,fun b hb=>by
     obtain⟨ob,e,d⟩:=T.obj _ _ st7 b hb
     exact(I'.pin (b,ob) (Xu _ (Xu _ (Zbx hb e)))).2.1⟩
   cases b with
   | false =>
    obtain⟨m',hm,w9⟩:=q9
    obtain⟨t9,f9⟩:=tnK I9
    exact Vc ⟨rfl,m',hm,i+1,_,_,ys,H9,I9.unpinned,t9,f9,w9⟩
   | true =>
    refine Va (Va (thn (he' _ s9 _ _ _ I9 q9) fun yv s10 zz=>?_))
    obtain⟨y,H10,I10,r10,hp10,hz10,m',hm,w10⟩:=zz
    refine Va (thn (Zf7 (X:=X') _ s10 _ H10 (.ref s.heap.objs.size) [y] (.ref s.heap.objs.size) [yv] (fun _ H11=>H11=upd H10 s.heap.objs.size (.lst (ys++[y]))) I10 rfl (.cons r10 .nil) ⟨_,ys,y,rfl,rfl,hp10,hz10,rfl⟩) fun _ s11 zz=>?_)
    obtain⟨_,H11,I11,_,e11⟩:=zz
    subst e11
    obtain⟨t11,f11⟩:=tnK I11
    exact Vc (Vc ⟨rfl,m',hm,i+1,_,_,ys++[y],_,I11.unpinned,t11,f11,w10⟩)
 exact Ucv loop (T.self _ 0 _ _ _ (T.keep _ _ _ st (fun b hb o e=>old4 b o (old3 b o e))) loop)
nonrec def tLC2 (K:Xb) (wi:TI) (ci:List Nat) (tt:TT) (te:TE):TE:=fun σ H Q=>wi σ H fun J H1=>LcW2 K J ci tt te σ Q H1
theorem Zyc {elt iter:Uac} {px py pt pos:Pos} {kt:Nat} {ifs:List Uac} {wi:TI} {tt:TT} {te:TE} (hc:X.calm=true) (B:BlkOk2 X scope x y0 cn ci) (hi:PI X (.Tuple [.Name x px,.Name y0 py] kt pt) iter wi)
  (ht:∀ cl C s H fp pn,PTs (blk X scope (x::y0::cn) cl C s H fp pn) ifs tt) (he:∀ cl C s H fp pn,PE (blk X scope (x::y0::cn) cl C s H fp pn) elt te)
  (hs:∀ x,Uae iter X.env x=pure x:=by rintro _; rfl):PE X (.ListComp elt [⟨.Tuple [.Name x px,.Name y0 py] kt pt,iter,ifs,0⟩] scope pos) (tLC2 X.K wi ci tt te):=by
 intro pins s σ H Q I h
 rw[eval_ListComp]
 refine Ubf (use:=none) rfl hs (Zew X.env scope B.free) B.kind B.names ?_
 refine thn (hi pins s σ H _ I h) fun v s1 h1=>thn h1 fun itv s2 h2=>?_
 obtain⟨it,fp,tn,J,H2,e,I2,T,st2,f2,w2⟩:=h2
 subst e
 refine Zmm (RR:=fun acc C=>compPost (Vj X.prog X.w) X.A X.xe none (EP X pins σ Q) acc C) I2 hc B T st2 f2 ht he w2 fun p C H' s' I' g q=>?_
 obtain⟨m,hn⟩:=g.ns
 exact⟨m,hn,fun h' hs'=>⟨.ref p,H',g.go I' hs',rfl,q⟩⟩
end
nonrec def Zx8 (sc scope:Ucf) (N:List Str) (x y:Str) (cn:List Str) (ci:List Nat):Bool :=
 (scope.kind==.function)&&scope.names.all (fun y=>y.2 != .cell)&&scope.names.all (fun y=>y.2 != .local||scope.names.lookup y.1==some .local)&&(scope.names.lookup x==some .local)&&(scope.names.lookup y==some .local) &&
 scope.names.all (fun y=>y.2 != .free||sc.names.lookup y.1==some .cell)&&decide (x::y::cn).Nodup&&(ci.length==cn.length) &&
 (cn.zip ci).all (fun p=>N[p.2]? == some p.1&&scope.names.lookup p.1==some .free&&sc.names.lookup p.1==some .cell)
theorem Znc {P:Vl} {w:Vt} {K:Xb} {mg:Str->Option Vb} {base:Uab} {N:List Str} {qual:Str} {sc scope:Ucf} {f:Vg} {cdv:Vb} {A:Vu} {outer:List Env} {s:Vd} {H:Hp} {E:XK} {x y0:Str} {cn:List Str} {ci:List Nat}
  (h:Zx8 sc scope N x y0 cn ci=true):BlkOk2 (Zps CX0 P w K mg base N qual sc f cdv A outer s H E).nox scope x y0 cn ci:=by
 unfold Zx8 at h
 simp only[Wbc,Wdq,Wfa,bne_iff_ne,ne_eq,beq_iff_eq,decide_eq_true_eq] at h
 obtain⟨⟨⟨⟨⟨⟨⟨⟨h1,h2⟩,h3⟩,h4⟩,h4b⟩,h5⟩,h6⟩,h7⟩,h8⟩:=h
 refine⟨h1,fun y hy=>h2 y hy,fun y hy hl=>(h3 y hy).resolve_left fun z=>z hl,h4,h4b,fun y hy hf=>?_,h6,h7,fun j y hj=>?_⟩
 ·have:=(h5 y hy).resolve_left fun z=>z hf
  obtain⟨c,hc⟩:=Zfd (n:=s.heap.objs.size+1) this
  exact Wbn.mpr ⟨c,hc⟩
 ·have hl:j<ci.length:=by rw[h7]; exact(Xc.mp hj).1
  have hm:(y,ci[j])∈cn.zip ci:=by
   refine Wdo.mpr ⟨j,?_⟩
   rw[Wei]
   exact⟨hj,by simp[hl]⟩
  obtain⟨⟨k1,k2⟩,k3⟩:=h8 _ hm
  exact⟨ci[j],by simp[hl],k1,k2,.inl k3⟩
open Builtin.SmallTypes (nextOf)
section
variable {prog:Vl} {w:Vt} {A:Vu} {E:Vb->Vd->Prop} {s:Vd}
theorem Znv {j t:Vg} {i:Nat} {its:Array Vb} {x:Vb} {Q:Vb->Vd->Prop} (hj:s.heap.IsListIter j t i) (ht:s.heap.IsList t its) (hx:its[i]? = some x)
  (hQ:∀ h',h'.IsListIter j t (i+1)->Xm j s.heap h'->Q x { s with heap:=h' }):Vf (Vj prog w) A (nextOf (.ref j)) Q E s :=
 Zdq (b:=true) hj ht hx hQ
theorem Zqt {j t:Vg} {i:Nat} {its:Array Vb} {Q:Vb->Vd->Prop} (hh:A.handled=none) (hj:s.heap.IsListIter j t i) (ht:s.heap.IsList t its) (hx:its[i]? = none)
  (hE:∀ h' e,Wec j s.heap h'->(∃ o,h'.get? e=some o/\o.cls=.type "StopIteration")->E (.ref e) { s with heap:=h' }):Vf (Vj prog w) A (nextOf (.ref j)) Q E s :=
 Zir (b:=true) hh hj ht hx hE
theorem Zmd {e j t:Vg} {i:Nat} {c:Int} {its:Array Vb} {x old:Vb} {Q:Option Vb->Vd->Prop} (he:Ubc s.heap e j c old) (hj:s.heap.IsListIter j t i) (ht:s.heap.IsList t its) (hx:its[i]? = some x) (hne:e≠j)
  (hQ:∀ h' tk,Udb h' e j (c+1) x s.heap.objs.size->h'.IsListIter j t (i+1)->h'.get? s.heap.objs.size=some { cls:=.type "tuple",data:=.seq #[.int c tk,x] }->h'.objs.size=s.heap.objs.size+1 ->
   (∀ b o,b≠e->b≠j->s.heap.get? b=some o->h'.get? b=some o)->Q (some (.ref s.heap.objs.size)) { s with heap:=h',toks:=s.toks+1 }) :
  Vf (Vj prog w) A (Uar (.ref e)) Q E s:=by
 have hT:s.TypeIs (.ref e) "enumerate" := ⟨_,he,rfl⟩
 unfold Uar
 refine Va (Uag (Vn (name:=Ug "__next__") hT Uj (Vr Uj hT Tae ?_ (Tab _))))
 obtain⟨hp,g,d,tk,os⟩:=s
 show Vf _ _ (Ucn (.ref e) 2 >>= _) _ _ _
 refine Va (Vo he rfl (x:=.ref j) rfl (Va (Znv hj ht hx fun h1 j1 s1=>?_)))
 replace s1:Xm j hp h1:=s1
 have e1:Ubc h1 e j c old:=(s1.2 e hne).trans he
 show Vf _ _ (Ucn (.ref e) 3 >>= _) _ _ ⟨h1,g,d,tk,os⟩
 refine Va (Vo e1 rfl (x:=Uax c) rfl ?_)
 show Vf _ _ (Ucn (.ref e) 4 >>= _) _ _ ⟨h1,g,d,tk,os⟩
 refine Va (Vo e1 rfl (x:=.none) rfl ?_)
 show Vf _ _ (mkInt c >>= _) _ _ ⟨h1,g,d,tk,os⟩
 refine Va (Ueg ?_)
 show Vf _ _ (Udx (.ref e) 3 (Uax (c+1)) >>= _) _ _ ⟨h1,g,d,tk+1,os⟩
 refine Va (Vp e1 (by simp) fun h2 e2 s2=>?_)
 replace s2:Xm e h1 h2:=s2
 replace e2:Ubc h2 e j (c+1) old:=e2
 show Vf _ _ (Udx (.ref e) 4 .none >>= _) _ _ ⟨h2,g,d,tk+1,os⟩
 refine Va (Vp e2 (by simp) fun h3 e3 s3=>?_)
 replace s3:Xm e h2 h3:=s3
 replace e3:Ubc h3 e j (c+1) old:=e3
 show Vf _ _ (newTuple [.int c tk,x] >>= _) _ _ ⟨h3,g,d,tk+1,os⟩
 refine Va (Ubp ?_)
 have e4:Ubc (h3.push { cls:=.type "tuple",data:=.seq #[.int c tk,x] }) e j (c+1) old:=Xa _ e3
 generalize q4:h3.push { cls:=.type "tuple",data:=.seq #[.int c tk,x] }=h4 at e4
 have zz:h3.objs.size=hp.objs.size:=by rw[s3.1,s2.1,s1.1]
 have lt:e<hp.objs.size:=Xd he
 have t4:h4.get? hp.objs.size=some { cls:=.type "tuple",data:=.seq #[.int c tk,x] }:=by rw[<- q4,<- zz]; exact Xe _ rfl
 have z4:h4.objs.size=hp.objs.size+1:=by rw[<- q4,Wak,zz]
 have k4:∀ b o,b≠e->b≠j->hp.get? b=some o->h4.get? b=some o:=fun b o n1 n2 q=>by
  rw[<- q4]; exact Xa _ (s3.extBut b o n1 (s2.extBut b o n1 (s1.extBut b o n2 q)))
 have j4:h4.IsListIter j t (i+1):=by
  obtain⟨o,ho,r⟩:=id j1
  exact⟨o,by rw[<- q4]; exact Xa _ (s3.extBut j o (Uf hne) (s2.extBut j o (Uf hne) ho)),r⟩
 show Vf _ _ (Ua (.ref e) >>= _) _ _ ⟨h4,g,d,tk+1,os⟩
 rw[zz]
 clear q4 e3 s3 e2 s2 e1 s1 j1 zz h3 h2 h1
 refine Va ?_
 unfold Ua
 refine Va (Vo e4 rfl (x:=.none) rfl (Vc ?_))
 simp only[if_true]
 refine Va (Uaj (Va (Vo e4 rfl (x:=old) rfl (Va (Vp e4 (by simp) fun h5 e5 s5=>?_)))))
 replace s5:Xm e h4 h5:=s5
 replace e5:Ubc h5 e j (c+1) x:=e5
 show Vf _ _ (Uc (.ref e) (.ref hp.objs.size) >>= _) _ _ ⟨h5,g,d,tk+1,os⟩
 refine Va ?_
 unfold Uc
 refine Va (Vp e5 (by simp) fun h6 e6 s6=>?_)
 replace s6:Xm e h5 h6:=s6
 replace e6:Udb h6 e j (c+1) x hp.objs.size:=e6
 refine Vp e6 (by simp) fun h7 e7 s7=>?_
 replace s7:Xm e h6 h7:=s7
 replace e7:Udb h7 e j (c+1) x hp.objs.size:=e7
 have up:∀ b o,b≠e->h4.get? b=some o->h7.get? b=some o:=fun b o n q=>s7.extBut b o n (s6.extBut b o n (s5.extBut b o n q))
 refine Va (Uco (Vc ⟨_,rfl,Vc (hQ h7 tk e7 ?_ (up _ _ (Wcc lt) t4) (by rw[s7.1,s6.1,s5.1,z4]) fun b o n1 n2 q=>up b o n1 (k4 b o n1 n2 q))⟩))
 obtain⟨o,ho,r⟩:=id j4
 exact⟨o,up j o (Uf hne) ho,r⟩
theorem Zlt {e j t:Vg} {i:Nat} {c:Int} {its:Array Vb} {old:Vb} {Q:Option Vb->Vd->Prop} (hh:A.handled=none) (he:Ubc s.heap e j c old) (hj:s.heap.IsListIter j t i) (ht:s.heap.IsList t its) (hx:its[i]? = none)
  (hQ:∀ h',Wec j s.heap h'->Q none { s with heap:=h' }):Vf (Vj prog w) A (Uar (.ref e)) Q E s:=by
 have hT:s.TypeIs (.ref e) "enumerate" := ⟨_,he,rfl⟩
 unfold Uar
 refine Va (Uag (Vn (name:=Ug "__next__") hT Uj (Vr Uj hT Tae ?_ (Tab _))))
 show Vf _ _ (Ucn (.ref e) 2 >>= _) _ _ _
 refine Va (Vo he rfl (x:=.ref j) rfl (Va (Zqt hh hj ht hx fun h' z he' zz=>?_)))
 obtain⟨o,ho,hc⟩:=zz
 exact Va (Uao (T := "StopIteration") (b:=true) ⟨o,ho,hc⟩ Ubq (Vc (hQ _ he')))
open AutoSeq1 (wpAny_loadPart') in
theorem Zm7 (t:Vg) (its:Array Vb) (n:Nat) (dct:Option Vg) (sl:Array (Option Vb)) :
  Uec (Builtin.«enumerate.__new__» ⟨[.type "enumerate",.ref t],[]⟩) (fun _ R s=>s.heap.get? t=some { cls:=.type "list",dict:=dct,data:=.seq its n,slots:=sl } /\
   R (.ok (.ret (.ref (s.heap.push { cls:=.type "list_iterator",data:=.fields #[.ref t,.int 0 0] }).objs.size)))
    { s with heap:=(s.heap.push { cls:=.type "list_iterator",data:=.fields #[.ref t,.int 0 0] }).push { cls:=.type "enumerate",data:=.fields #[.none,.bool false,.ref s.heap.objs.size,Uax 0,.none,.none] } }) :=
 .of_wp fun prog w A R s h=>by
  obtain⟨hp,g,d,tk,os⟩:=s; obtain⟨hl,h⟩:=h
  have hsub:=Udy
  have hL:Heap.IsList (Tbs ⟨hp,g,d,tk,os⟩) t its:=⟨_,hl,rfl,n,rfl⟩
  wp_walk using Vq hl
  refine Udc fun st=>Vc ?_
  split
  ·rename_i k _ _ _ _ _
   cases (k==Ul "enumerate")<;>(wp_walk using Vq hl,Uaz hL; exact⟨_,rfl,h⟩)
  ·wp_walk using Vq hl,Uaz hL
   exact⟨_,rfl,h⟩
theorem Zme {t:Vg} {its:Array Vb} {Q:Vb->Vd->Prop} (hL:s.heap.IsList t its)
  (h:∀ h',Ubc h' (s.heap.objs.size+1) s.heap.objs.size 0 .none->h'.IsListIter s.heap.objs.size t 0->h'.objs.size=s.heap.objs.size+2 ->
   (∀ b o,s.heap.get? b=some o->h'.get? b=some o)->Q (.ref (s.heap.objs.size+1)) { s with heap:=h' }) :
  Vf (Vj prog w) A (call (.type "enumerate") [.ref t]) Q E s:=by
 obtain⟨⟨k,dct,dt,sl⟩,hl,hc,n,hd⟩:=hL
 replace hc:k=.type "list" := hc
 replace hd:dt=.seq its n:=hd
 subst hc hd
 refine Ueb Taf (by decide) (Tbx _) (Tcc _) (fun obj=>Tch obj _) Tau (Zm7 t its n dct sl) ⟨hl,?_⟩
 have hz:(s.heap.push { cls:=.type "list_iterator",data:=.fields #[.ref t,.int 0 0] }).objs.size=s.heap.objs.size+1:=Wak ..
 show _/\_
 rw[hz]
 have he:Ubc ((s.heap.push { cls:=.type "list_iterator",data:=.fields #[.ref t,.int 0 0] }).push { cls:=.type "enumerate",data:=.fields #[.none,.bool false,.ref s.heap.objs.size,Uax 0,.none,.none] }) (s.heap.objs.size+1) s.heap.objs.size 0 .none:=by
  have q:=Xe (s.heap.push { cls:=.type "list_iterator",data:=.fields #[.ref t,.int 0 0] }) (o:={ cls:=.type "enumerate",data:=.fields #[.none,.bool false,.ref s.heap.objs.size,Uax 0,.none,.none] }) rfl
  rw[hz] at q; exact q
 exact⟨⟨_,he,rfl⟩,h _ he ⟨_,Xa _ (Xe _ rfl),rfl,rfl⟩ (by rw[Wak,hz]) fun b o x=>Xa _ (Xa _ x)⟩
end
nonrec def IteL (c:Int) (a:Vg):It :=
 ⟨fun i H=>∃ xs x,H a=some (.lst xs)/\xs[i]? = some x,fun i H v H'=>∃ p x,H p=none/\v=.ref p/\H'=upd H p (.tup [.int (c+i),x])/\∀ xs,H a=some (.lst xs)->xs[i]? = some x,fun i H=>∃ xs,H a=some (.lst xs)/\xs.length<=i⟩
theorem Zlw {P:Vl} {w:Vt} {K:Xb} {es:List Uac} {k:Nat} {pos:Pos} (a e j:Vg) (c:Int) (hne:e≠j):Turn P w K (.Tuple es k pos) (IteL c a) [e,j] e (fun i h=>∃ old,Ubc h e j (c+i) old/\h.IsListIter j a i) where
 mem:=by simp
 obj:=fun i h st b hb=>by
  obtain⟨old,he,o,ho,hc,hd⟩:=st
  rcases Xl.mp hb with rfl | hb
  ·exact⟨_,he,fun v z=>by cases z⟩
  ·have:b=j:=by simpa using hb
   subst this
   exact⟨o,ho,fun v z=>by rw[hd] at z; cases z⟩
 keep:=fun i h h' st kk=>by
  obtain⟨old,he,o,ho,r⟩:=st
  exact⟨old,kk e (by simp) _ he,o,kk j (by simp) o ho,r⟩
 item:=by
  intro X hP hw hK hc i pins s σ H E I hf st hg
  subst hP hw hK
  obtain⟨xs,x,hq,hx⟩:=hg
  obtain⟨old,he,hj⟩:=st
  obtain⟨its,rv,p,hz⟩:=I.list (SqL.of hq)
  obtain⟨u,hu,ru⟩:=rv.get hx
  have fe:=hf e (by simp)
  have fj:=hf j (by simp)
  refine Zmd he hj p.isList (x:=u) (by simpa using hu) hne fun h' tk eo j' t' z' kk=>?_
  refine⟨_,rfl,Ucc (s:={ s with heap:=h',toks:=s.toks+1 }) eo fun h2 e2 s2=>?_⟩
  replace s2:Xm e h' h2:=s2
  have le:e<s.heap.objs.size:=Xd he
  have ne2:s.heap.objs.size≠e:=Wcc le
  -- the iterator's two records have turned, the pair is new
  have t2:h2.get? s.heap.objs.size=some { cls:=.type "tuple",data:=.seq #[.int (c+i) tk,u] }:=s2.extBut _ _ ne2 t'
  have hp0:H s.heap.objs.size=none:=I.hok.fresh (Xf _)
  have up:∀ b o,b∉[e,j]->s.heap.get? b=some o->h2.get? b=some o:=fun b o hb q =>
   s2.extBut b o (fun z=>hb (by simp[z])) (kk b o (fun z=>hb (by simp[z])) (fun z=>hb (by simp[z])) q)
  have I2:Inv X pins σ (upd H s.heap.objs.size (.tup [.int (c+i),x])) { s with heap:=h2,toks:=s.toks+1 }:=by
   refine I.step (g':=s.gens) (d':=s.drawn) (t':=s.toks+1) (ch:=[e,j]) (fun b hb=>?_) (fun b o _ _ hb q n=>up b o hb q) (fun b o _ _ hb q n=>⟨o.slots,up b o hb q⟩) (fun b o _ q n=>?_) (fun b o hb q=>⟨o,up b o hb q⟩) (fun b ys q=>?_) (fun b o y q=>?_) (fun b ps q=>⟨#[],?_⟩) (fun m hm=>?_) (fun b o q=>?_) I.bare
   ·have:=hf b hb; exact⟨this.2.2.2.1,this.2.1,this.2.2.2.2.1,this.2.2.2.2.2⟩
   ·rw[Zaf (Xh (Xd q))]; exact n
   ·rw[Zaf (Zae q hp0)]; exact q
   ·rw[Zaf (Zae q hp0)]; exact q
   ·rw[Zaf (Zae q hp0),q]; simp
   ·obtain⟨o,es',ep,ho,r⟩:=hm
    exact⟨o,es',ep,s2.extBut _ o (Uf fe.2.1) (kk _ o (Uf fe.2.1) (Uf fj.2.1) ho),r⟩
   ·by_cases hb:b=s.heap.objs.size
    ·subst hb
     rw[Zas] at q
     cases q
     exact⟨(by show 2<=sizeLine; decide),[.int (c+i) tk,u],.cons ⟨tk,rfl⟩ (.cons ru .nil),_,t2,rfl,⟨_,rfl⟩,rfl⟩
    ·rw[Zaf hb] at q
     refine(I.hok b o q).stay (fun d v hd z=>up d v (fun hm=>?_) z) (fun d z=>by rw[Zaf (Zae z hp0)]; exact z) fun d ys z=>by rw[Zaf (Zae z hp0)]; exact z
     have:H d≠none:=by
      rcases hd with rfl | hd
      ·rw[q]; simp
      ·rw[hd]; simp
     exact this (hf d hm).1
  refine⟨.ref s.heap.objs.size,_,I2,rfl,⟨_,x,hp0,rfl,rfl,fun ys hy=>by rw[hq] at hy; cases hy; exact hx⟩,?_,fun b hb=>?_⟩
  ·obtain⟨o,ho,r⟩:=id j'
   have ec:c+((i+1:Nat):Int)=c+(i:Int)+1:=by push_cast; omega
   exact⟨u,by rw[ec]; exact e2,o,s2.extBut j o (Uf hne) ho,r⟩
  ·have hb2:b≠s.heap.objs.size:=by
    rcases Xl.mp hb with rfl | hb
    ·exact Xh le
    ·have:b=j:=by simpa using hb
     subst this
     obtain⟨o,ho,_⟩:=id hj
     exact Xh (Xd ho)
   rw[Zaf hb2]; exact(hf b hb).1
 done:=by
  intro X hP hw hK hc i pins s σ H E I hf st hg
  subst hP hw hK
  obtain⟨xs,hq,hx⟩:=hg
  obtain⟨old,he,hj⟩:=st
  obtain⟨its,rv,p,hz⟩:=I.list (SqL.of hq)
  obtain⟨f0,f1,f2,f3,f4,f5⟩:=hf j (by simp)
  have hl:=rv.length
  exact Zlt (I.ok.hd hc) he hj p.isList (by simp; omega) fun h' eb=>⟨rfl,I.turned (t':=s.toks) (fun b o hb q=>eb b o hb q) f0 f1 f3 f4 f5⟩
 self:=fun _ _ _ _ _ st h=>by
  obtain⟨old,he,_⟩:=st
  exact Uay he h
nonrec def two2:D->Option (D×D)
 | .tup [a,b]=>some (a,b)
 | _=>none
theorem Zmx {x a b:D} (h:two2 x=some (a,b)):x=.tup [a,b]:=by
 unfold two2 at h
 split at h
 ·cases h; rfl
 ·cases h
open Classical in
nonrec def Zci (own:Zem) (c0:SD) (tt:TF) (te:EF):List D->HD->Option (List D×HD)
 | [],H=>if Zbn own H then some ([],H) else none
 | x::r,H=>(two2 x).bind fun ab=>if Zbn own H then (tt (some ab.1::some ab.2::c0) H).bind fun t=>if t.1=true then (te (some ab.1::some ab.2::c0) t.2).bind fun e=>(Zci own c0 tt te r e.2).map fun q=>(e.1::q.1,q.2) else Zci own c0 tt te r t.2 else none
nonrec def Zvc (it:ItF) (ci:List Nat) (tt:TF) (te:EF):EF:=fun σ H=>(it σ H).bind fun p=>(Zci p.1.2 (Zpu ci σ) tt te p.1.1 p.2).bind fun q=>mkL q.1 q.2
theorem Zlq {own:Zem} {c0:SD} {tt:TF} {te:EF} {x:D} {r:List D} {H:HD} {z:List D×HD} (h:Zci own c0 tt te (x::r) H=some z):∃ a b,x=.tup [a,b]/\Zbn own H/\((tt (some a::some b::c0) H).bind fun t=>if t.1=true then (te (some a::some b::c0) t.2).bind fun e=>(Zci own c0 tt te r e.2).map fun q=>(e.1::q.1,q.2) else Zci own c0 tt te r t.2)=some z:=by
 rw[Zci] at h
 obtain⟨⟨a,b⟩,e,h⟩:=Zo h
 split at h
 ·rename_i ok
  exact⟨a,b,Zmx e,ok,h⟩
 ·cases h
section
variable {X:Cx} {scope:Ucf} {x y0:Str} {cn:List Str} {ci:List Nat}
theorem Zxa {α β:Type} {F:α->β->Prop} {a b:α} {us:List β} (h:Vm F [a,b] us):∃ u v,us=[u,v]/\F a u/\F b v:=by
 cases h with
 | cons p P=>cases P with
  | cons q P=>cases P; exact⟨_,_,rfl,p,q⟩
theorem SRep.cap2 {K:Xb} {H:Hp} {ι:List Vg} {σ:L2.St} {σd:SD} {d e:D} {v u:V} (s:SRep K H ι σ σd) (r:Rep K H ι d v) (r2:Rep K H ι e u):SRep K H ι (some v::some u::Zgh ci σ) (some d::some e::Zpu ci σd):=by
 have c:=SRep.cap (ci:=ci) s r2
 refine⟨by simpa using c.len,fun i z h=>?_⟩
 cases i with
 | zero=>simp at h; subst h; exact⟨v,rfl,r⟩
 | succ j =>
  rw[Wcd] at h ⊢
  exact c.var j z h
theorem Zxe {K:Xb} {it:ItF} {tt:TF} {te:EF} {σ:L2.St} {H:Hp} {Q:VK} (h:rdE K (Zvc it ci tt te) σ H Q):tLC2 K (rdI K it) ci (rdT K tt) (rdE K te) σ H Q:=by
 obtain⟨ι,σd,Hd,d,Hd',s,hr,e,q⟩:=h
 obtain⟨⟨⟨xs,own⟩,H1⟩,e1,e⟩:=Zo e
 obtain⟨⟨ds,H2⟩,e2,e⟩:=Zo e
 obtain⟨hz,e⟩:=Zht e
 cases e
 dsimp only at e2 hz
 refine⟨ι,σd,Hd,xs,own,H1,s,hr,e1,fun J H0 ι0 l0 h0 itr p hp=>?_⟩
 have s0:=s.mono l0
 refine⟨LcI K H0 ι0 p (Zci own (Zpu ci σd) tt te) xs ds H2,
  ⟨xs.length,by simp,Wbx _,Zas,ι0,H1,[],ds,Le.fresh hp _,h0.fresh hp,h0.tup hp _,.nil,by simpa using e2,by simp⟩,?_⟩
 rintro i m ys H5 ⟨rfl,hi,hpl,ι5,Hd5,done,rest,l5,np5,h5,pd5,e5,eds⟩
 refine⟨hpl,?_⟩
 by_cases hlt:i<xs.length
 ·have ed:xs.drop i=xs[i]::xs.drop (i+1):=Waj hlt
  rw[ed] at e5
  obtain⟨a1,a2,ex,ok,e5⟩:=Zlq e5
  obtain⟨⟨b6,H6⟩,e6,e5⟩:=Zo e5
  refine .inr ⟨itr.go i H5 ι5 Hd5 l5 h5 ok hlt,fun v H' y=>?_⟩
  obtain⟨ι6,l6,h6,r6⟩:=itr.yld i H5 ι5 Hd5 xs[i] v H' l5 h5 ok (by simp[hlt]) y
  obtain⟨hp6,np6⟩:=l6.frame p _ hpl np5
  rw[ex] at r6
  obtain⟨a6,ws6,ev6,sq6,P6⟩:=Zan.mp r6
  obtain⟨u1,u2,rfl,p1,p2⟩:=Zxa P6
  have s6:=SRep.cap2 (ci:=ci) (s0.mono (l5.trans l6)) p1 p2
  refine⟨a6,u1,u2,ev6,sq6,ι6,_,Hd5,b6,H6,s6,h6,e6,fun H7 ι7 l7 h7=>?_⟩
  obtain⟨hp7,np7⟩:=l7.frame p _ hp6 np6
  have L7:=(l5.trans l6).trans l7
  cases b6 with
  | true =>
   rw[if_pos rfl]
   dsimp only at e5
   rw[if_pos rfl] at e5
   obtain⟨⟨d8,H8⟩,e8,e5⟩:=Zo e5
   obtain⟨⟨r9,H9⟩,e9,e5⟩:=Zm e5
   cases e5
   refine⟨ι7,_,H6,d8,H8,s6.mono l7,h7,e8,fun v8 H8' ι8 l8 h8 rr8=>?_⟩
   obtain⟨hp8,np8⟩:=l8.frame p _ hp7 np7
   have ly:ys.length<sizeLine:=by
    rw[<- Prd.len pd5]
    rw[eds] at hz
    simp at hz
    omega
   have w8:Lw K H8' ι8 (upd H8' p (.lst (ys++[v8]))) ι8:=Lw.side hp8 _
   refine⟨hp8,ly,xs.length - (i+1),by omega,rfl,hlt,Zas,ι8,H8,done++[d8],r9,(L7.trans l8).side hp hp8 _,np8,h8.keep w8 (fun a ha=>Zaf fun z=>by subst z; exact np8 ha),?_,e9,by rw[eds]; simp⟩
   exact Prd.append (Prd.monoW w8 (Prd.mono ((l6.trans l7).trans l8) pd5)) (.cons (Rep.monoW w8 rr8) .nil)
  | false =>
   rw[if_neg (by simp)]
   dsimp only at e5
   rw[if_neg (by simp)] at e5
   exact⟨xs.length - (i+1),by omega,rfl,hlt,hp7,ι7,H6,done,rest,L7,np7,h7,Prd.mono (l6.trans l7) pd5,e5,eds⟩
 ·rw[Wcf (by omega),Zci] at e5
  split at e5
  ·rename_i ok
   have e6:(([]:List D),Hd5)=(rest,H2):=Waa.inj e5
   obtain⟨rfl,rfl⟩:=Wbh.inj e6
   refine .inl ⟨itr.stop i H5 ι5 _ l5 h5 ok (by omega),?_⟩
   have w5:Lw K H5 ι5 H5 (ι5++[p]):=⟨fun _ _ z=>z,fun _ _ z=>z,⟨[p],rfl⟩,fun _ _ _ z=>z⟩
   have L:=l0.trans l5
   simp at eds
   subst eds
   refine q _ H5 (ι5++[p]) ⟨L.toLw.trans w5,fun a o ha na=>?_⟩ (h5.add np5 ⟨ys,hpl,Prd.monoW w5 pd5⟩) (Zao.mpr ⟨p,rfl,by rw[<- h5.len]; simp⟩)
   obtain⟨q1,q2⟩:=L.frame a o ha na
   refine⟨q1,?_⟩
   have:a≠p:=fun z=>by
    subst z
    have:=(l0.frame a o ha na).1
    rw[hp] at this; cases this
   simp[q2,this]
  ·cases e5
theorem Zo0 {elt iter:Uac} {px py pt pos:Pos} {kt:Nat} {ifs:List Uac} {it:ItF} {tt:TF} {te:EF} (hc:X.calm=true) (B:BlkOk2 X scope x y0 cn ci) (hi:PIf X (.Tuple [.Name x px,.Name y0 py] kt pt) iter it)
  (ht:∀ cl C s H fp pn,Zwn (blk X scope (x::y0::cn) cl C s H fp pn) ifs tt) (he:∀ cl C s H fp pn,PEf (blk X scope (x::y0::cn) cl C s H fp pn) elt te)
  (hs:∀ x,Uae iter X.env x=pure x:=by rintro _; rfl):PEf X (.ListComp elt [⟨.Tuple [.Name x px,.Name y0 py] kt pt,iter,ifs,0⟩] scope pos) (Zvc it ci tt te) :=
 PEi (Zyc (tt:=rdT X.K tt) (te:=rdE X.K te) hc B hi ht he hs) fun _ _ _ h=>Zxe h
nonrec def Zkg (f:AF):ItF:=fun σ H=>(f σ H).bind fun p=>match p.1 with
 | [.ref n]=>match p.2[n]? with
  | some (.lst xs)=>some ((Zcq 0 xs,[(n,.lst xs)]),p.2)
  | _=>none
 | _=>none
theorem Znf {K:Xb} {H0:Hp} {ι0:List Vg} {a:Vg} {n:Nat} {c:Int} {xs:List D} (ha:ι0[n]? = some a):ItRep K (IteL c a) (Zcq c xs) [(n,.lst xs)] H0 ι0:=by
 have now:∀ {H2:Hp} {ι2:List Vg} {Hd2:HD},Le K H0 ι0 H2 ι2->HRep K H2 ι2 Hd2->Zbn [(n,DO.lst xs)] Hd2->∃ ws,H2 a=some (.lst ws)/\Vm (Rep K H2 ι2) xs ws:=fun {H2 ι2 Hd2} l2 h2 ok =>
  h2.obj n a _ (l2.get ha) (ok (n,.lst xs) (by simp))
 refine⟨fun i H2 ι2 Hd2 l2 h2 ok hi=>?_,fun i H2 ι2 Hd2 d v H3 l2 h2 ok hd y=>?_,fun i H2 ι2 Hd2 l2 h2 ok hi=>?_⟩
 ·obtain⟨ws,h3,P3⟩:=now l2 h2 ok
  exact⟨ws,ws[i]'(by rw[<- Prd.len P3,<- Zcz xs c]; exact hi),h3,by simp⟩
 ·obtain⟨ws,h3,P3⟩:=now l2 h2 ok
  obtain⟨p,x,hp,rfl,rfl,y⟩:=y
  obtain⟨x',hx',rfl⟩:=Zga hd
  obtain⟨u,hu,ru⟩:=Prd.get P3 hx'
  have:=y ws h3
  rw[hu] at this
  cases this
  exact⟨ι2,Le.fresh hp _,h2.tup hp _,Zan.mpr ⟨p,_,rfl,SqT.of Zas,.cons (by simp) (.cons (ru.mono (Le.fresh hp _)) .nil)⟩⟩
 ·obtain⟨ws,h3,P3⟩:=now l2 h2 ok
  exact⟨ws,h3,by rw[<- Prd.len P3,<- Zcz xs c]; exact hi⟩
theorem Zpb {es:List Uac} {k:Nat} {tp p pos:Pos} {a:Uac} {f:AF} (hg:Gl X "enumerate") (hm:X.mg "enumerate" = none) (ha:PAf X [a] f) (hs:Vk [a] X.env=[(false,eval a X.env)]:=by rfl):PIf X (.Tuple es k tp) (.Call (.Name "enumerate" p) [a] [] pos) (Zkg f):=by
 rintro pins s σ H R I ⟨ι,σd,Hd,xs,own,Hd',sr,hr,e,q⟩
 obtain⟨⟨ds,H1⟩,e1,e⟩:=Zo e
 dsimp only at e
 split at e
 ·rename_i n
  split at e
  ·rename_i ys eo
   cases e
   refine Call_ (Zdk I hg hm Udo (Uh (thn (ha pos pins s σ H (fun vs H'=>∃ a ws,vs=[.ref a]/\H' a=some (.lst ws)/\∀ (J:It) (H2:Hp),H2=H'->J=IteL 0 a->R J H2) I ⟨ι,σd,Hd,_,_,sr,hr,e1,fun vs H' ι' l h P=>?_⟩) fun us s1 ⟨vs,H2,I2,r2,q2⟩=>?_) hs rfl))
   ·obtain⟨v,rfl,r⟩:=Zji P
    obtain⟨ad,rfl,had⟩:=Zao.mp r
    obtain⟨ws,hS,P2⟩:=h.obj n ad _ had eo
    refine⟨ad,ws,rfl,hS,fun J H2 e2 e3=>?_⟩
    subst e2 e3
    exact q _ _ ι' l h (Znf had)
   ·obtain⟨ad,ws,rfl,hS,q2⟩:=q2
    obtain⟨u,rfl,ru⟩:=Zhl r2
    cases ru
    obtain⟨its,rv,p,hz⟩:=I2.list (SqL.of hS)
    refine Zme p.isList fun h' he hj z' kk=>?_
    have I3:Inv X pins σ H2 { s1 with heap:=h' }:=I2.kept (t':=s1.toks) kk
    refine Uay (s:={ s1 with heap:=h' }) he ?_
    have ne:s1.heap.objs.size+1≠s1.heap.objs.size:=Wes _
    refine⟨s1.heap.objs.size+1,[s1.heap.objs.size+1,s1.heap.objs.size],_,IteL 0 ad,H2,rfl,I3,Zlw ad _ _ 0 ne,⟨.none,by simpa using he,hj⟩,fun b hb=>?_,q2 _ _ rfl rfl⟩
    have:s1.heap.objs.size<=b:=by
     rcases Xl.mp hb with rfl | hb
     ·exact Wfi _
     ·have:b=s1.heap.objs.size:=by simpa using hb
      rw[this]; exact Xf _
    exact I2.fpOk (b:=b) (H':=H2) this (I2.hok.fresh this)
  ·cases e
 ·cases e
end
nonrec def Zvj (kvs:List (Int×D)) (k:Int) (v:D):List (Int×D):=if kvs.any (fun p=>p.1=k)=true then kvs.map (fun p=>if p.1=k then (p.1,v) else p) else kvs++[(k,v)]
nonrec def Zl7 (kvs:List (Int×D)):List (Int×D):=kvs.foldl (fun acc p=>Zvj acc p.1 p.2) []
nonrec def Zf4 (kvs:List (Int×D)) (k:Int):Option D:=(kvs.find? fun p=>p.1=k).map (·.2)
nonrec def Zvd (x:D) (H:HD):Option (List (Int×D)):=match x with
 | .ref n=>match H[n]? with
  | some (.dci kvs)=>some kvs
  | _=>none
 | _=>none
nonrec def Zox:F2:=fun x y H=>(Zvd x H).bind fun kvs=>match y with
 | .int k=>(Zf4 kvs k).map fun v=>(v,H)
 | _=>none
nonrec def Zwh:F2:=fun x y H=>(Zvd y H).bind fun kvs=>match x with
 | .int k=>some (.bl (Zf4 kvs k).isSome,H)
 | _=>none
theorem Zh8 {x:D} {Hd:HD} {kvs:List (Int×D)} (e:Zvd x Hd=some kvs):∃ n,x=.ref n/\Hd[n]? = some (.dci kvs):=by
 cases x<;>simp only[Zvd] at e<;>try cases e
 rename_i n
 split at e
 ·rename_i h; cases e; exact⟨n,rfl,h⟩
 ·cases e
section
variable {K:Xb} {H:Hp} {ι:List Vg}
theorem Zp9 {kvs:List (Int×D)} {xs:List (Int×Vb)} (h:Vm (Zlv K H ι) kvs xs) (k:Int):kvs.any (fun p=>p.1=k)=xs.any (fun p=>p.1=k):=by
 induction h with
 | nil=>rfl
 | cons a b ih=>rw[Wdw,Wdw,ih,a.1]
theorem Zqw {kvs:List (Int×D)} {xs:List (Int×Vb)} {k:Int} {d:D} {v:V} {u:Vb} (h:Vm (Zlv K H ι) kvs xs) (r:Zbc v u) (q:Rep K H ι d v):Vm (Zlv K H ι) (kvs.map (fun p=>if p.1=k then (p.1,d) else p)) (xs.map (fun p=>if p.1=k then (p.1,u) else p)):=by
 induction h with
 | nil=>exact .nil
 | cons a b ih =>
  refine .cons ?_ ih
  dsimp only
  rw[a.1]
  split
  ·exact⟨rfl,v,r,q⟩
  ·exact a
theorem Zq4 {kvs:List (Int×D)} {xs:List (Int×Vb)} {k:Int} {d:D} {v:V} {u:Vb} (h:Vm (Zlv K H ι) kvs xs) (r:Zbc v u) (q:Rep K H ι d v):Vm (Zlv K H ι) (Zvj kvs k d) (Uei xs k u):=by
 unfold Zvj Uei
 rw[Zp9 h k]
 split
 ·exact Zqw h r q
 ·exact Prd.append h (.cons ⟨rfl,v,r,q⟩ .nil)
theorem Zi8 {kvs:List (Int×D)} {xs:List (Int×Vb)} (h:Vm (Zlv K H ι) kvs xs) (k:Int):(Zf4 kvs k=none/\valueAt xs k=none)\/∃ d v u,Zf4 kvs k=some d/\valueAt xs k=some u/\Zbc v u/\Rep K H ι d v:=by
 unfold Zf4 valueAt
 induction h with
 | nil=>exact .inl ⟨rfl,rfl⟩
 | cons a b ih =>
  rename_i p x ps xs'
  by_cases e:p.1=k
  ·have e2:x.1=k:=by rw[<- a.1]; exact e
   obtain⟨_,v,r,q⟩:=a
   exact .inr ⟨p.2,v,x.2,by rw[Wev (by simpa using e)]; rfl,by rw[Wev (by simpa using e2)]; rfl,r,q⟩
  ·have e2:¬ x.1=k:=by rw[<- a.1]; exact e
   rw[Wew (by simpa using e),Wew (by simpa using e2)]
   exact ih
theorem Zmg (xs:List (Int×Vb)) (k:Int) (u:Vb):(Uei xs k u).length<=xs.length+1:=by unfold Uei; split<;>simp
end
theorem Zqr {p p2:Vl} {w w2:Vt} {es:List Uav} {xs:List (Int×Vb)} (e:Pairs (Zpq p w) es xs):Pairs (Zpq p2 w2) es xs:=by
 induction e with
 | nil=>exact .nil
 | cons a b c ih=>exact .cons a b ih
theorem Zmc {h:Uab} {a:Vg} {xs:List (Int×Vb)} {p:Vl} {w:Vt} (d:h.DictOf (Zpq p w) a xs):Zgq a xs h:=fun p2 w2=>by
 obtain⟨o,es,ep,e1,e2,e3,e4,e5,e6⟩:=d
 refine⟨o,es,ep,e1,e2,e3,e4,?_,e6⟩
 exact Zqr e5
nonrec def Zdy (ps:List (Int×Vb)) (i:Nat):List (Int×Vb):=(ps.take i).foldl (fun acc p=>Uei acc p.1 p.2) []
theorem Zg6 {ps:List (Int×Vb)} {i:Nat} {p:Int×Vb} (h:ps[i]? = some p):Zdy ps (i+1)=Uei (Zdy ps i) p.1 p.2:=by
 unfold Zdy
 rw[Wcb,h]
 simp
theorem Zeb (ps:List (Int×Vb)):∀ i,(Zdy ps i).length<=i
 | 0=>by simp[Zdy]
 | i+1=>by
  cases h:ps[i]? with
  | none =>
   have e:Zdy ps (i+1)=Zdy ps i:=by unfold Zdy; rw[Wcb,h]; simp
   rw[e]; exact Nat.le_succ_of_le (Zeb ps i)
  | some p=>rw[Zg6 h]; exact Xq (Zmg _ _ _) (Wds (Zeb ps i))
theorem Zph {K:Xb} {H:Hp} {ι:List Vg} {kvs:List (Int×D)} {ps:List (Int×Vb)} (h:Vm (Zlv K H ι) kvs ps):Vm (Zlv K H ι) (Zl7 kvs) (Zdy ps ps.length):=by
 unfold Zl7 Zdy
 rw[Wdt]
 have gen:∀ (a:List (Int×D)) (b:List (Int×Vb)),Vm (Zlv K H ι) a b->Vm (Zlv K H ι) (kvs.foldl (fun acc p=>Zvj acc p.1 p.2) a) (ps.foldl (fun acc p=>Uei acc p.1 p.2) b):=by
  induction h with
  | nil=>intro a b h; exact h
  | cons p q ih =>
   intro a b h
   rw[Wbl,Wbl]
   obtain⟨e,v,r,z⟩:=p
   refine ih _ _ ?_
   rw[e]
   exact Zq4 h r z
 exact gen [] [] .nil
section
variable {X:Cx}
theorem Zr2 {pins:List (Vg×Obj)} {σ:L2.St} {H:Hp} {s:Vd} {ι:List Vg} (I:Inv X pins σ H s) {a:Vg} {kvs:List (Int×D)} (h:Zl5 X.K H ι a (.dci kvs)):(a==Uai)=false/\∃ xs,Vm (Zlv X.K H ι) kvs xs/\s.heap.DictOf (Zpq X.prog X.w) a xs:=by
 obtain⟨h1,h2,xs,h3,P⟩:=h
 exact⟨h1,xs,P,(I.hok a _ h3).1 X.prog X.w⟩
theorem igetf:IxF X Zox:=by
 rintro va sl pins s σ H x y v u Q I rx ry ⟨ι,dx,dy,Hd,d,Hd',hr,r1,r2,e,q⟩ hs
 obtain⟨kvs,e1,e⟩:=Zo e
 split at e
 ·rename_i k _
  obtain⟨vd,e3,e⟩:=Zm e
  obtain⟨rfl,rfl⟩:=Wbh.inj e
  obtain⟨n,rfl,hn⟩:=Zh8 e1
  obtain⟨a,rfl,ha⟩:=Zao.mp r1
  simp at r2
  subst r2
  obtain⟨tok,rfl⟩:=ry
  cases rx
  obtain⟨h1,xs,P,dd⟩:=Zr2 I (hr.obj n a _ ha hn)
  rcases Zi8 P _ with ⟨z,_⟩ | ⟨d',v',u',z1,z2,z3,z4⟩
  ·rw[z] at e3; cases e3
  ·rw[z1] at e3; cases e3
   refine tail_any (ops:=[.ref a,.int k tok]) dd.typeIs PySem.F.slot_dict_getitem.lookup (wpAny_getItem_of (knd:=Zpq X.prog X.w) (k:=k) (Zf6 (k:=k) (t:=tok)) dd.mapOf z2 ?_) hs
   exact⟨v',H,I.tok _,z3,q _ H ι Le.refl hr z4⟩
 ·cases e
theorem Zjo:Vv "dict" = some (.type "dict"):=by decide +kernel
end
section
variable {X:Cx}
theorem iinf:OpF X (Uah .In) Zwh:=by
 rintro pins s σ H x y v u Q I rx ry ⟨ι,dx,dy,Hd,d,Hd',hr,r1,r2,e,q⟩
 obtain⟨kvs,e1,e⟩:=Zo e
 split at e
 ·rename_i k _
  obtain⟨rfl,rfl⟩:=Wbh.inj (Waa.inj e)
  obtain⟨n,rfl,hn⟩:=Zh8 e1
  obtain⟨a,rfl,ha⟩:=Zao.mp r2
  simp at r1
  subst r1
  obtain⟨tok,rfl⟩:=rx
  cases ry
  obtain⟨h1,xs,P,dd⟩:=Zr2 I (hr.obj n a _ ha hn)
  refine wpAny_in_of (knd:=Zpq X.prog X.w) (k:=k) (Zf6 (k:=k) (t:=tok)) h1 dd.mapOf ?_
  have e3:(valueAt xs k).isSome=(Zf4 kvs k).isSome:=by
   rcases Zi8 P k with ⟨z1,z2⟩ | ⟨_,_,_,z1,z2,_⟩<;>rw[z1,z2]<;>rfl
  rw[e3]
  exact⟨.bl _,H,I.tok _,rfl,q _ H ι Le.refl hr (by simp)⟩
 ·cases e
end
section
variable {X:Cx}
theorem Zl2 {P:Vl} {w:Vt} {h h':Uab} {k:List Int} {b:Vg} (x:(Uaa (Zam P w)).is h k b) (kp:∀ o,h.get? b=some o->h'.get? b=some o):(Uaa (Zam P w)).is h' k b:=by
 obtain⟨o,its,n,h1,r⟩:=x
 exact⟨o,its,n,kp o h1,r⟩
theorem Zp0 {P:Vl} {w:Vt} {h:Uab} {k:List Int} {b:Vg} (x:(Uaa (Zam P w)).is h k b):b<h.objs.size:=by
 obtain⟨o,its,n,h1,r⟩:=x
 exact Xd h1
end
nonrec def Zdo (x:D) (ds:List D) (H:HD):Option (D×HD):=match x,ds with
 | .ref n,[.ref m]=>match H[n]?,H[m]? with
  | some (.lst xs),some (.lst ys)=>if xs.length+ys.length<=sizeLine then some (.non,H.set n (.lst (xs++ys))) else none
  | _,_=>none
 | _,_=>none
section
variable {X:Cx}
theorem Zg8:MtF X "list.extend" Zdo:=by
 rintro pins s σ H x xs v us Q I rx rv ⟨ι,dx,ds,Hd,d,Hd',hr,r1,P,e,q⟩
 unfold Zdo at e
 split at e
 ·rename_i n m
  obtain⟨a,rfl,ha⟩:=Zao.mp r1
  obtain⟨z,rfl,rz⟩:=Zji P
  obtain⟨b,rfl,hb⟩:=Zao.mp rz
  split at e
  ·rename_i ys zs e1 e2
   split at e
   ·rename_i hl
    cases e
    obtain⟨vs,h1,P1⟩:=hr.obj n a _ ha e1
    obtain⟨ws,h2,P2⟩:=hr.obj m b _ hb e2
    refine Zpd pins s σ H _ _ v us Q I rx rv ⟨a,b,vs,ws,rfl,rfl,h1,h2,by rw[<- Prd.len P1,<- Prd.len P2]; exact hl,?_⟩
    have L:Le X.K H ι (upd H a (.lst (vs++ws))) ι:=Le.upd (War ha) h1 trivial _
    exact q _ _ ι L (hr.upd ha h1 trivial ⟨_,Zas,Prd.append (Prd.mono L P1) (Prd.mono L P2)⟩) (by simp)
   ·cases e
  ·cases e
 ·cases e
end
section
variable {P P2:Vl} {w w2:Vt}
theorem Zom {ks:List Int} {vs:List Vb} (h:ItemsAre (Zam P w) ks vs):ItemsAre (Zam P2 w2) ks vs:=by
 induction h with
 | nil=>exact .nil
 | cons a b ih=>exact .cons a ih
theorem Zk6 {h:Uab} {ks:List Int} {a:Vg} (x:(Uaa (Zam P w)).is h ks a):(Uaa (Zam P2 w2)).is h ks a:=by
 obtain⟨o,its,n,e1,e2,e3,e4⟩:=x
 exact⟨o,its,n,e1,e2,e3,Zom e4⟩
def Zli (P:Vl) (w:Vt) (h:Uab) (k:Int×List Int) (a:Vg):Prop:=∃ o v b n,h.get? a=some o/\o.cls=.type "tuple" /\ o.data=.seq #[v,.ref b] n/\Zfa k.1 v=true/\(Uaa (Zam P w)).is h k.2 b
theorem Zli.typeIs {s:Vd} {k:Int×List Int} {a:Vg} (x:Zli P w s.heap k a):s.TypeIs (.ref a) "tuple" := by
 obtain⟨o,v,b,n,e1,e2,_⟩:=x
 exact⟨o,e1,e2⟩
theorem Zli.inj {h:Uab} {a:Vg} {x y:Int×List Int} (hx:Zli P w h x a) (hy:Zli P w h y a):x=y:=by
 obtain⟨o,v,b,n,e1,_,e3,e4,e5⟩:=hx
 obtain⟨o',v',b',n',f1,_,f3,f4,f5⟩:=hy
 rw[e1] at f1
 cases f1
 rw[e3] at f3
 injection f3 with g1 _
 have g2:=congrArg Wfy g1
 simp at g2
 obtain⟨rfl,rfl⟩:=g2
 exact Prod.ext ((Zam P w).inj _ _ _ e4 f4) ((Uaa (Zam P w)).inj e5 f5)
theorem Zli.keeps {h h':Uab} {k:Int×List Int} {a d:Vg} {o:Obj} {es ep} (x:Zli P w h k a) (ho:h.get? d=some o) (hd:o.data=.dict es ep) (hs:Xm d h h'):Zli P w h' k a:=by
 obtain⟨o',v,b,n,e1,e2,e3,e4,e5⟩:=x
 have hne:a≠d:=fun z=>by
  subst z
  rw[e1] at ho
  cases ho
  rw[hd] at e3
  cases e3
 exact⟨o',v,b,n,(hs.2 a hne).trans e1,e2,e3,e4,(Uaa (Zam P w)).keeps e5 ho hd hs⟩
variable {A:Vu} {E:Vb->Vd->Prop} {s:Vd}
theorem Zud {k:Int×List Int} {a:Vg} {Q:Int->Vd->Prop} (hu:A.units+1<cLine) (x:Zli P w s.heap k a) (q:Q (Zrp k) { s with toks:=s.toks+(k.2.length+3) }):Vf (Vj P w) A (pyHash (.ref a)) Q E s:=by
 have hT:=x.typeIs
 obtain⟨o,v,b,n,e1,e2,e3,e4,e5⟩:=x
 refine PySem.W.pyHash_slot hT F.slot_tuple_hash F.entry_tuple_hash (F.args_tuple_hash_1 _) (beq_builtin_none _) (.inr (Wdk hu)) ?_
 show Vf _ _ (Tah (.ref a) >>= _) _ _ s
 refine Va (wpAny_tupleItemsOf e1 e3 (Va ?_))
 rw[<- Wch]
 simp only[Wbs,Wcw]
 refine Va (Va ((Zam P w).pyHash e4 (Va (Vc (Vc ?_)))))
 refine Va (Va ((Uaa (Zam P w)).pyHash (show A.in1.units<cLine by simpa using hu) e5 (Vc ?_)))
 refine Vc ?_
 show Vf _ _ (retInt (Taj _)) _ _ _
 refine Va (Ueg (Vc ⟨_,_,rfl,?_⟩))
 have:s.toks+1+(k.2.length+1)+1=s.toks+(k.2.length+3):=by omega
 have q2:Q (Zrp k) { s with toks:=s.toks+1+(k.2.length+1)+1 }:=by rw[this]; exact q
 exact q2
theorem Zqi {A:Vu} {s:Vd} {i j:Int} {u v:Vb} (hu:Zfa i u=true) (hv:Zfa j v=true):Tdf A s u v (decide (i=j)):=fun P w E Q h=>(Zam P w).eqBool (a:=i) (b:=j) hu hv h
theorem Zru {A:Vu} {s:Vd} {i j:List Int} {u v:Vg} (hr:A.units<cLine) (hu:(Uaa (Zam P w)).is s.heap i u) (hv:(Uaa (Zam P w)).is s.heap j v):Tdf A s (.ref u) (.ref v) (decide (i=j)):=fun P2 w2 E Q h=>(Uaa (Zam P2 w2)).eqBool hr (Zk6 hu) (Zk6 hv) h
theorem pk_eq {x y:Int×List Int} {a b:Vg} {Q:Bool->Vd->Prop} (hu:A.units+1<cLine) (hx:Zli P w s.heap x a) (hy:Zli P w s.heap y b) (q:Q (decide (x=y)) s):Vf (Vj P w) A (eqBool (.ref a) (.ref b)) Q E s:=by
 by_cases hab:a=b
 ·subst hab
  obtain rfl:=hx.inj hy
  exact SeqAt.EqAt.same (A:=A) (s:=s) (.ref a) P w E Q (by simpa using q)
 ·obtain⟨o,v,c,n,e1,e2,e3,e4,e5⟩:=hx
  obtain⟨o',v',c',n',f1,f2,f3,f4,f5⟩:=hy
  have R:=SeqAt.RcAt.tuples (A:=A) (s:=s) (l:=a) (b:=b) (items := #[v,.ref c]) (items2 := #[v',.ref c']) (e:=fun j=>if j=0 then decide (x.1=y.1) else decide (x.2=y.2)) ⟨o,e1,e2,n,e3⟩ ⟨o',f1,f2,n',f3⟩ (Wdk hu) fun j h1 h2=>by
   match j,h1 with
   | 0,_=>exact Zqi e4 f4
   | 1,_=>exact Zru (show A.in1.units<cLine by simpa using hu) e5 f5
  refine SeqAt.EqAt.of_refs hab R P w E Q ?_
  have:((Wdy (min (#[v,Ud c]).size (#[v',Ud c']).size)).all (fun j=>if j=0 then decide (x.1=y.1) else decide (x.2=y.2))&&(#[v,Ud c]).size==(#[v',Ud c']).size)=decide (x=y):=by
   obtain⟨x1,x2⟩:=x
   obtain⟨y1,y2⟩:=y
   simp[Wdy,Wdy.loop]
  rw[this]
  exact q
theorem Zpe (m:Nat) {ks:List Int} {a:Vg} {Q:Bool->Vd->Prop} (x:(Uaa (Zam P w)).is s.heap ks a) (q:Q true s):Vf (Vj P w) A (Ueh (m+1) (.ref a)) Q E s:=by
 have hT:s.TypeIs (.ref a) "tuple" := IsTupleKey.typeIs (knd:=Zam P w) x
 obtain⟨o,its,n,e1,e2,e3,e4⟩:=x
 unfold Ueh
 refine Va (Ucb hT F.slot_tuple_eq.lookup ?_)
 refine Va (Uao hT Udg ?_)
 simp only[Wdx,Xr,if_false]
 refine Va (Vz e1 e3 (Va ?_))
 show Vf _ _ (forIn its _ _) _ _ s
 rw[<- Wch]
 have all:=e4.byValue
 clear e3 e4
 generalize its.toList=l at all
 induction l with
 | nil=>exact Vc (Vc q)
 | cons v r ih =>
  rw[Wbs,eqIsQuiet_byValue _ (all v Wcg)]
  refine Va (Va (Vc ?_))
  simp only[Wdx,Xr,if_false]
  exact Vc (ih fun z hz=>all z (Wam _ hz))
theorem Zq7 {k:Int×List Int} {a:Vg} {Q:Bool->Vd->Prop} (x:Zli P w s.heap k a) (q:Q true s):Vf (Vj P w) A (Ueh 8 (.ref a)) Q E s:=by
 have hT:=x.typeIs
 obtain⟨o,v,b,n,e1,e2,e3,e4,e5⟩:=x
 unfold Ueh
 refine Va (Ucb hT F.slot_tuple_eq.lookup ?_)
 refine Va (Uao hT Udg ?_)
 simp only[Wdx,Xr,if_false]
 refine Va (Vz e1 e3 (Va ?_))
 show Vf _ _ (forIn (#[v,Ud b]) _ _) _ _ s
 rw[<- Wch]
 simp only[Wbs,Wcw]
 rw[eqIsQuiet_byValue _ ((Zam P w).byValue _ _ e4)]
 refine Va (Va (Vc ?_))
 simp only[Wdx,Xr,if_false]
 refine Vc ?_
 refine Va (Va (Zpe 6 e5 ?_))
 simp only[Wdx,Xr,if_false]
 exact Vc (Vc (Vc q))
end
nonrec def Zbh (P:Vl) (w:Vt):HeapKind P w (Int×List Int) where
 is:=Zli P w
 hash:=Zrp
 draws:=fun k=>k.2.length+3
 room:=fun A=>A.units+1<cLine
 inj:=fun hx hy=>hx.inj hy
 keeps:=fun x ho hd hs=>x.keeps ho hd hs
 pyHash:=fun hu hk h=>Zud hu hk h
 eqBool:=fun hu hx hy h=>pk_eq hu hx hy h
 quiet:=fun hk h=>Zq7 hk h
nonrec abbrev PK:=Int×List Int
nonrec def Zd3 (kvs:List (D×D)) (k:PK):Option D:=(kvs.find? fun p=>nk2 p.1==some k).map (·.2)
nonrec def Zsr (kvs:List (D×D)) (kd:D) (k:PK) (vd:D):List (D×D) :=
 if (Zd3 kvs k).isSome then kvs.map (fun p=>if nk2 p.1=some k then (p.1,vd) else p) else kvs++[(kd,vd)]
nonrec def Zvh:List D->Option (List (D×PK×D))
 | []=>some []
 | .tup [k,v]::r=>(nk2 k).bind fun q=>(Zvh r).map fun t=>(k,q,v)::t
 | _::_=>none
nonrec def Zhh (ps:List (D×PK×D)):List (D×D):=ps.foldl (fun acc p=>Zsr acc p.1 p.2.1 p.2.2) []
nonrec def Ze4:FF:=fun ds H=>match ds with
 | [.ref n]=>match H[n]? with
  | some (.lst xs)=>(Zvh xs).bind fun ps=>if ps.length<sizeLine then some (.ref H.length,H++[.dcn (Zhh ps)]) else none
  | _=>none
 | _=>none
nonrec def dcnD (x:D) (H:HD):Option (List (D×D)):=match x with
 | .ref n=>match H[n]? with
  | some (.dcn kvs)=>some kvs
  | _=>none
 | _=>none
nonrec def Zjs:F2:=fun x y H=>(dcnD x H).bind fun kvs=>(nk2 y).bind fun k=>(Zd3 kvs k).map fun v=>(v,H)
theorem Zn3 {x:D} {Hd:HD} {kvs:List (D×D)} (e:dcnD x Hd=some kvs):∃ n,x=.ref n/\Hd[n]? = some (.dcn kvs):=by
 cases x<;>simp only[dcnD] at e<;>try cases e
 rename_i n
 split at e
 ·rename_i h; cases e; exact⟨n,rfl,h⟩
 ·cases e
section
variable {K:Xb} {H:Hp} {ι:List Vg}
theorem Zng {kvs:List (D×D)} {xs:List (PK×Vg×Vb)} (h:Vm (Zpt K H ι) kvs xs) (k:PK) :
  (Zd3 kvs k=none/\atKey xs k=none)\/∃ vd b u v,Zd3 kvs k=some vd/\atKey xs k=some (b,u)/\Zbc v u/\Rep K H ι vd v:=by
 unfold Zd3 atKey
 induction h with
 | nil=>exact .inl ⟨rfl,rfl⟩
 | @cons p x ps ys r t ih =>
  obtain⟨r1,r2,v,r3,r4⟩:=r
  rw[Wbm,Wbm]
  by_cases hk:x.1=k
  ·have e1:(nk2 p.1==some k)=true:=by rw[r1,hk]; simp
   simp only[e1,hk,decide_true]
   exact .inr ⟨p.2,x.2.1,x.2.2,v,rfl,rfl,r3,r4⟩
  ·have e1:(nk2 p.1==some k)=false:=by rw[r1]; simpa using hk
   simp only[e1,decide_eq_false hk]
   exact ih
theorem Zp3 {kvs:List (D×D)} {xs:List (PK×Vg×Vb)} {kd vd:D} {k:PK} {b:Vg} {u:Vb} {v:V} (h:Vm (Zpt K H ι) kvs xs) (h1:nk2 kd=some k) (h2:Rep K H ι kd (.ref b)) (rv:Zbc v u) (r:Rep K H ι vd v) :
  Vm (Zpt K H ι) (Zsr kvs kd k vd) (Ubu xs k b u):=by
 have all:∀ {ls:List (D×D)} {ys:List (PK×Vg×Vb)},Vm (Zpt K H ι) ls ys->Vm (Zpt K H ι) (ls.map (fun p=>if nk2 p.1=some k then (p.1,vd) else p)) (ys.map (putAt k u)):=by
  intro ls ys q
  induction q with
  | nil=>exact .nil
  | @cons p x ps zs r' t ih =>
   obtain⟨r1,r2,r3⟩:=r'
   refine .cons ?_ ih
   unfold putAt
   dsimp only
   by_cases hk:x.1=k
   ·rw[if_pos hk,if_pos (show nk2 p.1=some k by rw[r1,hk])]
    exact⟨r1,r2,v,rv,r⟩
   ·rw[if_neg hk,if_neg (show ¬ nk2 p.1=some k by rw[r1]; simpa using hk)]
    exact⟨r1,r2,r3⟩
 unfold Zsr Ubu
 rcases Zng h k with ⟨e1,e2⟩ | ⟨_,_,_,_,e1,e2,_⟩<;>rw[e1,e2]
 ·exact Prd.append h (.cons ⟨h1,h2,v,rv,r⟩ .nil)
 ·exact all h
theorem Zmy {d:D} {k:PK} {v:V} (e:nk2 d=some k) (r:Rep K H ι d v):∃ b,v=.ref b:=by
 unfold nk2 at e
 split at e
 ·obtain⟨a,vs,rfl,_⟩:=Zan.mp r
  exact⟨a,rfl⟩
 ·cases e
end
section
variable {X:Cx} {pins:List (Vg×Obj)} {σ:L2.St} {H:Hp} {s:Vd} {ι:List Vg}
theorem Zjl (I:Inv X pins σ H s) {d:D} {k:PK} {b:Vg} (e:nk2 d=some k) (r:Rep X.K H ι d (.ref b)):(Zbh X.prog X.w).is s.heap k b:=by
 unfold nk2 at e
 split at e
 ·rename_i x y
  obtain⟨i,e1,e⟩:=Zo e
  obtain⟨ks,e2,rfl⟩:=Zm e
  obtain⟨a,vs,ea,h,P⟩:=Zan.mp r
  cases ea
  obtain⟨v1,v2,rfl,p1,p2⟩:=Zvf P
  obtain⟨c,rfl⟩:=Zss e2 p2
  obtain⟨its,rv,ht,hz⟩:=I.tuple h
  obtain⟨o,h1,h2,n,h3⟩:=ht
  cases rv with
  | cons q1 rv =>
   cases rv with
   | cons q2 rv =>
    cases rv
    cases q2
    exact⟨o,_,c,n,h1,h2,h3,Zsw e1 p1 q1,Zny I e2 p2⟩
 ·cases e
theorem Zwy (I:Inv X pins σ H s) {a:Vg} {kvs:List (D×D)} (h:Zl5 X.K H ι a (.dcn kvs)):(a==Uai)=false/\∃ xs,Vm (Zpt X.K H ι) kvs xs/\s.heap.DictOfH (Zbh X.prog X.w) a xs:=by
 obtain⟨h1,h2,xs,e,p⟩:=h
 obtain⟨o,es,ep,g1,g2,g3,g4,g5⟩:=(I.hok a _ e).1
 refine⟨h1,xs,p,o,es,ep,g1,g2,g3,g4,?_,g5⟩
 clear g4 g5 e
 induction p with
 | nil=>intro x hx; exact nomatch hx
 | @cons p x ps qs hq t ih =>
  intro y hy
  rcases Xl.mp hy with e | hy
  ·subst e
   exact Zjl I hq.1 hq.2.1
  ·exact ih (by simp at h2; omega) y hy
end
section
variable {X:Cx}
theorem Zx4 (hu:X.A.units+64<cLine):IxF X Zjs:=by
 rintro va sl pins s σ H x y v u Q I rx ry ⟨ι,dx,dy,Hd,d,Hd',hr,r1,r2,e,q⟩ hs
 obtain⟨kvs,e1,e⟩:=Zo e
 obtain⟨k,e2,e⟩:=Zo e
 obtain⟨vd,e3,e⟩:=Zm e
 cases e
 obtain⟨n,rfl,hn⟩:=Zn3 e1
 obtain⟨a,rfl,ha⟩:=Zao.mp r1
 obtain⟨b,rfl⟩:=Zmy e2 r2
 cases rx
 cases ry
 obtain⟨h1,xs,P,dd⟩:=Zwy I (hr.obj n a _ ha hn)
 have key:=Zjl I e2 r2
 rcases Zng P k with ⟨z,_⟩ | ⟨vd',b',u',v',z1,z2,z3,z4⟩
 ·rw[z] at e3; cases e3
 ·rw[z1] at e3; cases e3
  refine tail_any (ops:=[.ref a,.ref b]) dd.typeIs PySem.F.slot_dict_getitem.lookup (wpAny_getItem_heap (knd:=Zbh X.prog X.w) (show X.A.in1.units+1<cLine by simp; omega) key dd z2 ?_) hs
  exact⟨v',H,I.tok _,z3,q _ H ι Le.refl hr z4⟩
def Zvn (K:Xb) (H:Hp) (ι:List Vg) (p:D×PK×D) (x:PK×Vg×Vb):Prop:=p.2.1=x.1/\nk2 p.1=some x.1/\Rep K H ι p.1 (.ref x.2.1)/\∃ v,Zbc v x.2.2/\Rep K H ι p.2.2 v
nonrec def Zbe (ps:List (PK×Vg×Vb)) (i:Nat):List (PK×Vg×Vb):=(ps.take i).foldl (fun acc p=>Ubu acc p.1 p.2.1 p.2.2) []
theorem Zdx {ps:List (PK×Vg×Vb)} {i:Nat} {p:PK×Vg×Vb} (h:ps[i]? = some p):Zbe ps (i+1)=Ubu (Zbe ps i) p.1 p.2.1 p.2.2:=by
 unfold Zbe
 rw[Wcb,h]
 simp
theorem Zeq (ps:List (PK×Vg×Vb)):∀ i,(Zbe ps i).length<=i
 | 0=>by simp[Zbe]
 | i+1=>by
  have l:=Zeq ps i
  cases h:ps[i]? with
  | none =>
   have e:Zbe ps (i+1)=Zbe ps i:=by unfold Zbe; rw[Wcb,h]; simp
   rw[e]; omega
  | some p =>
   rw[Zdx h]
   unfold Ubu
   split<;>simp<;>omega
theorem Zj6 {xs:List (PK×Vg×Vb)} {k:PK} {b:Vg} {u:Vb} {x:PK×Vg×Vb} (h:x∈Ubu xs k b u):x.2.1=b\/∃ y∈xs,x.2.1=y.2.1:=by
 unfold Ubu at h
 split at h
 ·obtain⟨y,hy,rfl⟩:=Xw.mp h
  exact .inr ⟨y,hy,by unfold putAt; split<;>rfl⟩
 ·rcases Xs.mp h with h | h
  ·exact .inr ⟨x,h,rfl⟩
  ·simp at h; subst h; exact .inl rfl
theorem Zls {K:Xb} {H:Hp} {ι:List Vg} {kvs:List (D×PK×D)} {ps:List (PK×Vg×Vb)} (h:Vm (Zvn K H ι) kvs ps):Vm (Zpt K H ι) (Zhh kvs) (Zbe ps ps.length):=by
 unfold Zhh Zbe
 rw[Wdt]
 have gen:∀ (a:List (D×D)) (b:List (PK×Vg×Vb)),Vm (Zpt K H ι) a b->Vm (Zpt K H ι) (kvs.foldl (fun acc p=>Zsr acc p.1 p.2.1 p.2.2) a) (ps.foldl (fun acc p=>Ubu acc p.1 p.2.1 p.2.2) b):=by
  induction h with
  | nil=>intro a b h; exact h
  | cons p q ih =>
   intro a b h
   obtain⟨e,e1,r,v,rv,z⟩:=p
   rw[Wbl,Wbl,e]
   exact ih _ _ (Zp3 h e1 r rv z)
 exact gen [] [] .nil
theorem Ziq {pins:List (Vg×Obj)} {σ:L2.St} {H:Hp} {s:Vd} {ι:List Vg} (I:Inv X pins σ H s):∀ {xs:List D} {kvs:List (D×PK×D)} {vs:List V} {us:List Vb},Zvh xs=some kvs->Vm (Rep X.K H ι) xs vs->Za9 vs us->∃ ps:List (PK×Vg×Vb),ps.length=us.length/\Vm (Zvn X.K H ι) kvs ps/\∀ (i:Nat) (v:Vb),us[i]? = some v->∃ t k b u,v=.ref t/\Ucw s.heap t #[.ref b,u]/\ps[i]? = some (k,b,u)/\(Zbh X.prog X.w).is s.heap k b
 | [],kvs,_,_,e,.nil,.nil=>by
  cases e
  exact⟨[],rfl,.nil,fun i v h=>by simp at h⟩
 | d::r,kvs,_,_,e,.cons p P,.cons q W=>by
  unfold Zvh at e
  split at e
  ·rename_i h; cases h
  ·rename_i kd vd r' he
   obtain⟨rfl,rfl⟩:=Wbf.inj he
   obtain⟨k,ek,e⟩:=Zo e
   obtain⟨ks,e1,rfl⟩:=Zm e
   obtain⟨ps,l,P2,hx⟩:=Ziq I e1 P W
   obtain⟨t,ws,rfl,sq,P3⟩:=Zan.mp p
   obtain⟨v1,v2,rfl,p1,p2⟩:=Zvf P3
   obtain⟨b,rfl⟩:=Zmy ek p1
   cases q
   obtain⟨its,rv,ht,hz⟩:=I.tuple sq
   cases rv with
   | cons q1 rv =>
    cases rv with
    | cons q2 rv =>
     cases rv
     cases q1
     rename_i u
     refine⟨(k,b,u)::ps,by simp[l],.cons ⟨rfl,ek,p1,v2,q2,p2⟩ P2,fun i v h=>?_⟩
     cases i with
     | zero=>simp at h; subst h; exact⟨t,k,b,u,rfl,ht,rfl,Zjl I ek p1⟩
     | succ i=>simp at h; obtain⟨a1,a2,a3,a4,h1,h2,h3,h4⟩:=hx i v h; exact⟨a1,a2,a3,a4,h1,h2,by simpa using h3,h4⟩
  ·cases e
def Zoj (P:Vl) (w:Vt) (h:Uab) (n:Nat) (k:PK) (b:Vg):Prop:=b<n/\∃ o v c m,h.get? b=some o/\o.cls=.type "tuple" /\ o.data=.seq #[v,.ref c] m/\Zfa k.1 v=true/\(Uaa (Zam P w)).is h k.2 c/\c<n
theorem Zoj.is {P:Vl} {w:Vt} {h:Uab} {n:Nat} {k:PK} {b:Vg} (x:Zoj P w h n k b):(Zbh P w).is h k b:=by
 obtain⟨_,o,v,c,m,e1,e2,e3,e4,e5,_⟩:=x
 exact⟨o,v,c,m,e1,e2,e3,e4,e5⟩
theorem Zoj.mv {P:Vl} {w:Vt} {h h':Uab} {n:Nat} {k:PK} {b:Vg} (x:Zoj P w h n k b) (ex:∀ b o,b<n->h.get? b=some o->h'.get? b=some o):Zoj P w h' n k b:=by
 obtain⟨l,o,v,c,m,e1,e2,e3,e4,e5,l2⟩:=x
 exact⟨l,o,v,c,m,ex _ _ l e1,e2,e3,e4,Zl2 e5 fun o2 z=>ex _ _ l2 z,l2⟩
theorem Zoj.of {P:Vl} {w:Vt} {h:Uab} {k:PK} {b:Vg} (x:(Zbh P w).is h k b):Zoj P w h h.objs.size k b:=by
 obtain⟨o,v,c,m,e1,e2,e3,e4,e5⟩:=x
 exact⟨Xd e1,o,v,c,m,e1,e2,e3,e4,e5,Zp0 e5⟩
theorem Zge (hc:X.calm=true) (hu:X.A.units+64<cLine):Zgn X (.type "dict") Ze4:=by
 rintro pins s σ H xs us Q I rv ⟨ι,ds,Hd,d,Hd',hr,P,e,q⟩
 unfold Ze4 at e
 split at e
 ·rename_i n
  split at e
  ·rename_i ys eo
   obtain⟨kvs,e1,e⟩:=Zo e
   split at e
   ·rename_i hlen
    obtain⟨rfl,rfl⟩:=Wbh.inj (Waa.inj e)
    obtain⟨v,rfl,r⟩:=Zji P
    obtain⟨a,rfl,ha⟩:=Zao.mp r
    obtain⟨vs,h1,P2⟩:=hr.obj n a _ ha eo
    obtain⟨u,rfl,ru⟩:=rv.one
    cases ru
    obtain⟨z,its,m,rl,hl,eo2⟩:=I.lstM h1
    obtain⟨ps,lp,PP,hps⟩:=Ziq I e1 P2 rl
    have lk:ps.length=kvs.length:=(Prd.len PP).symm
    have hb:Uai<s.heap.objs.size:=Wfb (by decide) (show Vw<s.heap.objs.size from(I.mod.glob.keeps I.bk).lt)
    have hp:=I.hok.fresh (Xf s.heap.objs.size)
    refine Zlz (Gd:=fun i h=>(∀ b o,s.heap.get? b=some o->h.get? b=some o)/\h.DictOfH (Zbh X.prog X.w) s.heap.objs.size (Zbe ps i)/\∀ x∈Zbe ps i,Zoj X.prog X.w h s.heap.objs.size x.1 x.2.1) eo2 rfl rfl rfl (I.ok.hd hc) ?_ ?_ ?_ ?_
    ·intro h' k
     refine⟨fun b o e=>k b o (Xa _ e),?_,fun x hx=>by simp[Zbe] at hx⟩
     obtain⟨o,es,ep,e2,f1,f2,f3,f4,f5⟩:=Heap.DictOfH.new (knd:=Zbh X.prog X.w) s.heap
     exact⟨o,es,ep,k _ _ e2,f1,f2,f3,fun x hx=>by simp[Zbe] at hx,f5⟩
    ·rintro i h h' ⟨g1,g2,g3⟩ k
     have g3':∀ x∈Zbe ps i,Zoj X.prog X.w h' s.heap.objs.size x.1 x.2.1:=fun x hx=>(g3 x hx).mv fun b o l e=>k b o (Way l) e
     refine⟨fun b o e=>k b o (Way (Xd e)) (g1 b o e),?_,g3'⟩
     obtain⟨o,es,ep,e2,f1,f2,f3,f4,f5⟩:=g2
     exact⟨o,es,ep,k _ _ (Wcz _) e2,f1,f2,f3,fun x hx=>(g3' x hx).is,f5⟩
    ·rintro i v zz hv ⟨g1,g2,g3⟩
     obtain⟨t,k,b,u,rfl,ht,hp2,hk⟩:=hps i v (by simpa using hv)
     have hi:i<ps.length:=(Xc.mp hp2).1
     have hk2:Zoj X.prog X.w zz.heap s.heap.objs.size k b:=(Zoj.of hk).mv fun b o _ e=>g1 b o e
     refine⟨t,.ref b,u,rfl,?_,fun Q E qq=>?_⟩
     ·obtain⟨o,e2,r2⟩:=ht
      exact⟨o,g1 _ _ e2,r2⟩
     ·refine wpAny_dictSet_heap (knd:=Zbh X.prog X.w) (k:=k) (show X.A.units+2+1<cLine by omega) hk2.is g2 (fun h' d' sb=>?_) (by have:=Zeq ps i; omega)
      have up:∀ b o,b<s.heap.objs.size->zz.heap.get? b=some o->h'.get? b=some o:=fun b o l e=>sb.extBut b o (Xh l) e
      refine qq h' _ ⟨fun b o e=>sb.extBut b o (Xh (Xd e)) (g1 b o e),?_,?_⟩ fun b o hb e=>sb.extBut b o hb e
      ·rw[Zdx hp2]; exact d'
      ·rw[Zdx hp2]
       intro x hx
       obtain⟨o2,es2,ep2,_,_,_,_,f4,_⟩:=d'
       have fx:=f4 x hx
       rcases Zj6 hx with e | ⟨y,hy,e⟩
       ·rw[e] at fx ⊢
        have h2:=hk2.mv up
        rw[(Zbh X.prog X.w).inj fx h2.is]
        exact h2
       ·rw[e] at fx ⊢
        have h2:=(g3 y hy).mv up
        rw[(Zbh X.prog X.w).inj fx h2.is]
        exact h2
    ·rintro h' tk ⟨g1,g2,g3⟩
     have ez:its.toArray.size=ps.length:=by simp[lp]
     rw[ez] at g2
     obtain⟨o,es,ep,e2,f1,f2,f3,f4,f5⟩:=g2
     have d3:Zgo s.heap.objs.size (Zbe ps ps.length) h':=⟨o,es,ep,e2,f1,f2,f3,f5⟩
     have ok:Zcr X.prog X.w (upd H s.heap.objs.size (.ext (Zgo s.heap.objs.size (Zbe ps ps.length)))) h' s.heap.objs.size (.ext (Zgo s.heap.objs.size (Zbe ps ps.length))):=⟨d3,⟨o,e2⟩,fun h1 h2 d k=>Zgo.keep d k⟩
     refine⟨.ref s.heap.objs.size,_,I.laid (a:=s.heap.objs.size) (o:=.ext (Zgo s.heap.objs.size (Zbe ps ps.length))) (t':=tk) g1 (Xf _) ok,rfl,?_⟩
     have hl2:ι.length=Hd.length:=hr.len
     have L:=Le.fresh1 (K:=X.K) (ι:=ι) hp (.ext (Zgo s.heap.objs.size (Zbe ps ps.length)))
     have PA:=Zls PP
     refine q _ _ (ι++[s.heap.objs.size]) L (hr.new hp ⟨beq_eq_false_iff_ne.mpr (Uf (Xh hb)),?_,_,Zas,Prd.imp PA fun p x _ z=>⟨z.1,z.2.1.mono L,let ⟨v,z1,z2⟩:=z.2.2; ⟨v,z1,z2.mono L⟩⟩⟩) (Zao.mpr ⟨_,rfl,by rw[<- hl2]; simp⟩)
     have:=Zeq ps ps.length
     rw[Prd.len PA]; omega
   ·cases e
  ·cases e
 ·cases e
end
open Builtin.SmallTypes (nextOf)
def Zmk (h:Uab) (z TI TO a:Vg) (f:Bool):Prop:=h.get? z=some { cls:=.type "zip",dict:=none,data:=.fields #[Uax a,.bool f,.bool false,.ref TI,.ref TO],slots := #[] }
section
variable {prog:Vl} {w:Vt} {A:Vu} {E:Vb->Vd->Prop} {s:Vd}
variable {z TI TO i1 i2 l1 l2:Vg} {k1 k2:Nat} {xs ys:Array Vb} {b1 b2:Bool}
theorem Zkh {a:Vg} {f:Bool} {oa:Obj} {Q:Bool->Vd->Prop} (hz:Zmk s.heap z TI TO a f) (ha:s.heap.get? a=some oa) (q:∀ h',Zmk h' z TI TO a true->Xm z s.heap h'->Q false { s with heap:=h' }) :
  Vf (Vj prog w) A (Ua (.ref z)) Q E s:=by
 unfold Zmk at hz
 unfold Ua
 refine Va (Vo hz rfl (x:=Uax a) rfl ?_)
 refine Va (PySem.W.kdx_alive (a:=(a:Int).toNat) (by simpa using ha) ?_)
 simp only[Option.isNone_some,Xr,if_false]
 refine Va (Vo hz rfl (x:=.bool f) rfl ?_)
 cases f with
 | true =>
  rw[if_neg (by decide)]
  exact Vc (q s.heap hz ⟨rfl,fun _ _=>rfl⟩)
 | false =>
  rw[if_pos (by decide)]
  exact Va (Vp hz (by simp) fun g (e:Zmk g z TI TO a true) t=>Vc (q g e t))
theorem Ztz {a:Vg} {f:Bool} {oa:Obj} {x y:Vb} {Q:Vb->Vd->Prop} (D:Ubd z TI TO i1 i2 l1 l2) (hz:Zmk s.heap z TI TO a f) (ha:s.heap.get? a=some oa) (hTI:Uan s.heap TI (.ref i1) (.ref i2))
  (h1:SqI b1 s.heap i1 l1 k1) (h2:SqI b2 s.heap i2 l2 k2) (hl1:SqX b1 s.heap l1 xs) (hl2:SqX b2 s.heap l2 ys) (hx:xs[k1]? = some x) (hy:ys[k2]? = some y)
  (hQ:∀ h',Zmk h' z TI TO a true->SqI b1 h' i1 l1 (k1+1)->SqI b2 h' i2 l2 (k2+1)->Uan h' s.heap.objs.size x y->h'.objs.size=s.heap.objs.size+1 ->
   (∀ c o,c≠z->c≠i1->c≠i2->s.heap.get? c=some o->h'.get? c=some o)->Q (.ref s.heap.objs.size) { s with heap:=h' }) :
  Vf (Vj prog w) A (Builtin.«zip.__next__» ⟨[.ref z],[]⟩) (fun fin s'=>∃ v,fin=.done (.ret v)/\Q v s') E s:=by
 have hz':s.heap.get? z=some _:=hz
 show Vf _ _ (Ucn (.ref z) 2 >>= _) _ _ s
 refine Va (Vo hz' rfl (x:=.bool false) rfl (show Vf _ _ (Ucn (.ref z) 3 >>= _) _ _ _ from Va (Vo hz' rfl (x:=.ref TI) rfl (Va (Vz hTI rfl ?_)))))
 show Vf _ _ (Ua (.ref z) >>= _) _ E s
 refine Va (Zkh hz ha fun g1 e1 t1=>?_)
 simp only[Xr,if_false]
 rw[<- Wch]
 simp only[Wbs,Wcw]
 refine Va (Va (Va (Vs (show Vf _ _ (nextOf (.ref i1) >>= _) _ _ _ from Va (Zdq (h1.mv fun o e=>t1.extBut _ _ D.i1z e) (hl1.mv fun o e=>t1.extBut _ _ D.l1z e) hx fun g2 n2 t2=>Vc ?_)))))
 refine Vc ?_
 refine Va (Va (Vs (show Vf _ _ (nextOf (.ref i2) >>= _) _ _ _ from Va (Zdq (h2.mv fun o e=>t2.extBut _ _ D.i12.symm (t1.extBut _ _ D.i2z e)) (hl2.mv fun o e=>t2.extBut _ _ D.l2i1 (t1.extBut _ _ D.l2z e)) hy fun g3 n3 t3=>Vc ?_))))
 refine Vc (Vc ?_)
 refine Va (Ubp (hsz:=by show 2<=sizeLine; decide) (Vc ⟨_,rfl,?_⟩))
 have sz:g3.objs.size=s.heap.objs.size:=by rw[t3.1,t2.1,t1.1]
 have zl:z<g3.objs.size:=by rw[sz]; exact Xd hz'
 have e3:Zmk g3 z TI TO a true:=t3.extBut _ _ D.i2z.symm (t2.extBut _ _ D.i1z.symm e1)
 have up:∀ c o,g3.get? c=some o->(g3.push { cls:=.type "tuple",data:=.seq #[x,y] }).get? c=some o:=fun c o e=>Xa _ e
 show Q (.ref g3.objs.size) { s with heap:=g3.push { cls:=.type "tuple",data:=.seq #[x,y] } }
 have p8:Uan (g3.push { cls:=.type "tuple",data:=.seq #[x,y] }) g3.objs.size x y:=Xe _ rfl
 have s8:(g3.push { cls:=.type "tuple",data:=.seq #[x,y] }).objs.size=g3.objs.size+1:=Wak ..
 rw[sz] at p8 s8
 rw[sz]
 exact hQ _ (up _ _ e3) ((n2.mv fun o e=>t3.extBut _ _ D.i12 e).mv fun o e=>up _ o e) (n3.mv fun o e=>up _ o e) p8 s8 fun c o c1 c3 c4 e=>up _ _ (t3.extBut _ _ c4 (t2.extBut _ _ c3 (t1.extBut _ _ c1 e)))
theorem Zt3 {a:Vg} {f:Bool} {oa:Obj} {Q:Tdi->Vd->Prop} (hh:A.handled=none) (D:Ubd z TI TO i1 i2 l1 l2) (hz:Zmk s.heap z TI TO a f) (ha:s.heap.get? a=some oa) (hTI:Uan s.heap TI (.ref i1) (.ref i2))
  (h1:SqI b1 s.heap i1 l1 k1) (h2:SqI b2 s.heap i2 l2 k2) (hl1:SqX b1 s.heap l1 xs) (hl2:SqX b2 s.heap l2 ys) (hend:xs[k1]? = none\/ys[k2]? = none)
  (hE:∀ h' e,(∀ c o,c≠z->c≠i1->c≠i2->s.heap.get? c=some o->h'.get? c=some o)->(∃ o,h'.get? e=some o/\o.cls=.type "StopIteration")->E (.ref e) { s with heap:=h' }) :
  Vf (Vj prog w) A (Builtin.«zip.__next__» ⟨[.ref z],[]⟩) Q E s:=by
 have hz':s.heap.get? z=some _:=hz
 show Vf _ _ (Ucn (.ref z) 2 >>= _) _ _ s
 refine Va (Vo hz' rfl (x:=.bool false) rfl (show Vf _ _ (Ucn (.ref z) 3 >>= _) _ _ _ from Va (Vo hz' rfl (x:=.ref TI) rfl (Va (Vz hTI rfl ?_)))))
 show Vf _ _ (Ua (.ref z) >>= _) _ E s
 refine Va (Zkh hz ha fun g1 e1 t1=>?_)
 simp only[Xr,if_false]
 rw[<- Wch]
 simp only[Wbs,Wcw]
 have hi1:=h1.mv (h':=g1) fun o e=>t1.extBut _ _ D.i1z e
 have hq1:=hl1.mv (h':=g1) fun o e=>t1.extBut _ _ D.l1z e
 cases hx:xs[k1]? with
 | none=>exact Va (Va (Va (Vs (show Vf _ _ (nextOf (.ref i1) >>= _) _ _ _ from Va (Zir hh hi1 hq1 hx fun g2 e t2 ho=>hE g2 e (fun c o c1 c3 _ q=>t2 _ _ c3 (t1.extBut _ _ c1 q)) ho)))))
 | some x =>
  have hy:ys[k2]? = none:=hend.resolve_left fun q=>by rw[hx] at q; cases q
  refine Va (Va (Va (Vs (show Vf _ _ (nextOf (.ref i1) >>= _) _ _ _ from Va (Zdq hi1 hq1 hx fun g2 n2 t2=>Vc ?_)))))
  refine Vc ?_
  exact Va (Va (Vs (show Vf _ _ (nextOf (.ref i2) >>= _) _ _ _ from Va (Zir hh (h2.mv fun o e=>t2.extBut _ _ D.i12.symm (t1.extBut _ _ D.i2z e)) (hl2.mv fun o e=>t2.extBut _ _ D.l2i1 (t1.extBut _ _ D.l2z e)) hy fun g4 e t4 ho=>hE g4 e (fun c o c1 c3 c4 q=>t4 _ _ c4 (t2.extBut _ _ c3 (t1.extBut _ _ c1 q))) ho))))
theorem Zuh {a:Vg} {f:Bool} {oa:Obj} {x y:Vb} {Q:Option Vb->Vd->Prop} (D:Ubd z TI TO i1 i2 l1 l2) (hz:Zmk s.heap z TI TO a f) (ha:s.heap.get? a=some oa) (hTI:Uan s.heap TI (.ref i1) (.ref i2))
  (h1:SqI b1 s.heap i1 l1 k1) (h2:SqI b2 s.heap i2 l2 k2) (hl1:SqX b1 s.heap l1 xs) (hl2:SqX b2 s.heap l2 ys) (hx:xs[k1]? = some x) (hy:ys[k2]? = some y)
  (hQ:∀ h',Zmk h' z TI TO a true->SqI b1 h' i1 l1 (k1+1)->SqI b2 h' i2 l2 (k2+1)->Uan h' s.heap.objs.size x y->h'.objs.size=s.heap.objs.size+1 ->
   (∀ c o,c≠z->c≠i1->c≠i2->s.heap.get? c=some o->h'.get? c=some o)->Q (some (.ref s.heap.objs.size)) { s with heap:=h' }):Vf (Vj prog w) A (Uar (.ref z)) Q E s:=by
 have ty:s.TypeIs (.ref z) "zip" := ⟨_,hz,rfl⟩
 unfold Uar
 exact Va (Uag (Vn (name:=Ug "__next__") ty Uu (Vr Uu ty Tay (Ztz D hz ha hTI h1 h2 hl1 hl2 hx hy fun h' a1 a3 a4 a5 a6 a7=>Vc (hQ h' a1 a3 a4 a5 a6 a7)) (Tas _))))
theorem Zt4 {a:Vg} {f:Bool} {oa:Obj} {Q:Option Vb->Vd->Prop} (hh:A.handled=none) (D:Ubd z TI TO i1 i2 l1 l2) (hz:Zmk s.heap z TI TO a f) (ha:s.heap.get? a=some oa) (hTI:Uan s.heap TI (.ref i1) (.ref i2))
  (h1:SqI b1 s.heap i1 l1 k1) (h2:SqI b2 s.heap i2 l2 k2) (hl1:SqX b1 s.heap l1 xs) (hl2:SqX b2 s.heap l2 ys) (hend:xs[k1]? = none\/ys[k2]? = none)
  (hQ:∀ h',(∀ c o,c≠z->c≠i1->c≠i2->s.heap.get? c=some o->h'.get? c=some o)->Q none { s with heap:=h' }):Vf (Vj prog w) A (Uar (.ref z)) Q E s:=by
 have ty:s.TypeIs (.ref z) "zip" := ⟨_,hz,rfl⟩
 unfold Uar
 refine Va (Uag (Vn (name:=Ug "__next__") ty Uu (Vr Uu ty Tay (Zt3 hh D hz ha hTI h1 h2 hl1 hl2 hend fun h' e hk ⟨o,ho,hc⟩=>?_) (Tas _))))
 exact Va (Uao (T := "StopIteration") (b:=true) ⟨o,ho,hc⟩ Ubq (Vc (hQ _ hk)))
structure ZS (n:Nat) (z TI TO i1 i2 l1 l2:Vg) (b1 b2:Bool) (xs ys:Array Vb) (i:Nat) (h:Uab):Prop where
 ti:Uan h TI (.ref i1) (.ref i2)
 s1:SqI b1 h i1 l1 i
 s2:SqI b2 h i2 l2 i
 q1:SqX b1 h l1 xs
 q2:SqX b2 h l2 ys
 zz:(Udl h z TI TO .none/\∃ u v,Uan h TO u v)\/∃ a f oa,Zmk h z TI TO a f/\h.get? a=some oa/\n<=a
theorem ZS.mv {n:Nat} {i:Nat} {h h':Uab} (x:ZS n z TI TO i1 i2 l1 l2 b1 b2 xs ys i h) (k:∀ c o,(c=z\/c=TI\/c=TO\/c=i1\/c=i2\/c=l1\/c=l2\/n<=c)->h.get? c=some o->h'.get? c=some o):ZS n z TI TO i1 i2 l1 l2 b1 b2 xs ys i h':=by
 obtain⟨c1,c2,c3,c4,c5,c6⟩:=x
 refine⟨k _ _ (by simp) c1,c2.mv fun o e=>k _ _ (by simp) e,c3.mv fun o e=>k _ _ (by simp) e,c4.mv fun o e=>k _ _ (by simp) e,c5.mv fun o e=>k _ _ (by simp) e,?_⟩
 rcases c6 with ⟨e,u,v,e2⟩ | ⟨a,f,oa,e,e2,l⟩
 ·exact .inl ⟨k _ _ (by simp) e,u,v,k _ _ (by simp) e2⟩
 ·exact .inr ⟨a,f,oa,k _ _ (by simp) e,k _ _ (by simp[l]) e2,l⟩
theorem Ztc {n i:Nat} {x y:Vb} {Q:Option Vb->Vd->Prop} (D:Ubd z TI TO i1 i2 l1 l2) (lt:z<n/\TO<n/\i1<n/\i2<n) (hn:n<=s.heap.objs.size) (S:ZS n z TI TO i1 i2 l1 l2 b1 b2 xs ys i s.heap) (hx:xs[i]? = some x) (hy:ys[i]? = some y)
  (q:∀ h',ZS n z TI TO i1 i2 l1 l2 b1 b2 xs ys (i+1) h'->Uan h' s.heap.objs.size x y->h'.objs.size=s.heap.objs.size+1->(∀ c o,c≠z->c≠TO->c≠i1->c≠i2->s.heap.get? c=some o->h'.get? c=some o)->Q (some (.ref s.heap.objs.size)) { s with heap:=h' }):Vf (Vj prog w) A (Uar (.ref z)) Q E s:=by
 obtain⟨c1,c2,c3,c4,c5,c6⟩:=S
 rcases c6 with ⟨e,u,v,e2⟩ | ⟨a,f,oa,e,e2,l⟩
 ·refine Zxc D e c1 e2 c2 c3 c4 c5 hx hy fun h' g1 g2 g3 g4 g5 g6 kk=>q h' ⟨?_,g3,g4,c4.mv fun o e=>kk _ _ D.l1z D.l1TO D.l1i1 D.l1i2 e,c5.mv fun o e=>kk _ _ D.l2z D.l2TO D.l2i1 D.l2i2 e,.inr ⟨_,_,_,g1,g5,hn⟩⟩ g5 g6 kk
  exact kk _ _ D.TIz D.TITO D.TIi1 D.TIi2 c1
 ·refine Zuh D e e2 c1 c2 c3 c4 c5 hx hy fun h' g1 g3 g4 g5 g6 kk=>q h' ⟨?_,g3,g4,c4.mv fun o e=>kk _ _ D.l1z D.l1i1 D.l1i2 e,c5.mv fun o e=>kk _ _ D.l2z D.l2i1 D.l2i2 e,.inr ⟨a,_,oa,g1,?_,l⟩⟩ g5 g6 fun c o c1 c2 c3 c4 e=>kk c o c1 c3 c4 e
  ·exact kk _ _ D.TIz D.TIi1 D.TIi2 c1
  ·exact kk _ _ (Uf (Xh (Xi lt.1 l))) (Uf (Xh (Xi lt.2.2.1 l))) (Uf (Xh (Xi lt.2.2.2 l))) e2
theorem Zta {n i:Nat} {Q:Option Vb->Vd->Prop} (hh:A.handled=none) (D:Ubd z TI TO i1 i2 l1 l2) (S:ZS n z TI TO i1 i2 l1 l2 b1 b2 xs ys i s.heap) (hend:xs[i]? = none\/ys[i]? = none)
  (q:∀ h',(∀ c o,c≠z->c≠TO->c≠i1->c≠i2->s.heap.get? c=some o->h'.get? c=some o)->Q none { s with heap:=h' }):Vf (Vj prog w) A (Uar (.ref z)) Q E s:=by
 obtain⟨c1,c2,c3,c4,c5,c6⟩:=S
 rcases c6 with ⟨e,u,v,e2⟩ | ⟨a,f,oa,e,e2,l⟩
 ·exact Zxi hh D e c1 e2 c2 c3 c4 c5 hend q
 ·exact Zt4 hh D e e2 c1 c2 c3 c4 c5 hend fun h' kk=>q h' fun c o c1 _ c3 c4 e=>kk c o c1 c3 c4 e
end
theorem Zll:Uby (.type "zip") "keys" = pure none:=Udf (by kernel_rfl)
theorem Zln:Uby (.type "zip") "__getattr__" = pure none:=Udf (by kernel_rfl)
theorem Zoz:entryFor table "zip.__getattribute__" = some Builtin.«object.__getattribute__»:=entryFor_alias (id' := "object.__getattribute__") (by kernel_rfl) (by decide +kernel) (by decide +kernel) (by kernel_rfl)
theorem Zrq (a:Vg) (xs:Array Vb) (name:Str) (u:Tok) (hm:Uby (.type "zip") name=pure none) (hn:(["__module__","__name__","__qualname__","__doc__","__annotations__"]:List Str).contains name=false) (hz:name.length+100<=sizeLine) :
  Uec (Builtin.«object.__getattribute__» ⟨[.ref a,.str name u],[]⟩) (fun A R s=>s.heap.get? a=some { cls:=.type "zip",dict:=none,data:=.fields xs,slots := #[] }/\raisesAttr (.ref a) name A R s) :=
 .of_wp fun P w A R s x=>by
  obtain⟨hp,g,d,tk,os⟩:=s
  obtain⟨x1,x2,x3⟩:=x
  have ty:(⟨hp,g,d,tk,os⟩:Vd).TypeIs (.ref a) "zip" := ⟨_,x1,rfl⟩
  unfold Builtin.«object.__getattribute__»
  repeat (any_goals (first | assumption | wp_step))
  simp only[hn,Xr,if_false]
  repeat (any_goals (first | assumption | wp_step))
  exact wpAny_raiseAttrError x2 x3 (attrMsg_fits (by decide +kernel) hz)
theorem Zpy {prog:Vl} {w:Vt} {A:Vu} {E:Vb->Vd->Prop} {s:Vd} {l:Vg} {xs:Array Vb} {Q:Option Vb->Vd->Prop} (g1:s.heap.get? l=some { cls:=.type "zip",dict:=none,data:=.fields xs,slots := #[] }) (hh:A.handled=none)
  (q:∀ h' tk,(∀ b o,s.heap.get? b=some o->h'.get? b=some o)->Q none { s with heap:=h',toks:=tk }):Vf (Vj prog w) A (getAttr? (.ref l) "keys") Q E s:=by
 obtain⟨hp,g,d,tk,os⟩:=s
 have ty:∀ t,(⟨hp,g,d,t,os⟩:Vd).TypeIs (.ref l) "zip" := fun _=>⟨_,g1,rfl⟩
 have f1:=sub_AttributeError
 have f2:=Taq.lookup
 have f3:=Taq.bind (.ref l)
 have f4:=Zln
 unfold getAttr? getAttrBy? getAttrBy
 repeat (any_goals (first | assumption | exact ty _ | ((with_reducible show Vf _ _ (call (Tcl "zip.__getattribute__") _ _) _ _ _); refine Uas Taq (ty _) Zoz (F.args_zip_getattribute_2 _ _) (Zrq l xs "keys" _ Zll (by decide) (by decide)) ⟨g1,hh,fun h1 t1 e x1=>?_⟩) | wp_step))
 obtain⟨t2,u2,e2⟩:=x1.there
 show Vf _ _ (Ubk _ _ _ _ none false false) _ _ _
 unfold Ubk
 repeat (any_goals (first | assumption | wp_step))
 exact q _ _ x1.keeps
section
variable {prog:Vl} {w:Vt} {A:Vu} {R:Result->Vd->Prop} {d z TI TO i1 i2 l1 l2:Vg} {n m:Nat} {xs ys:Array Vb} {b1 b2:Bool} {Gd:Nat->Uab->Prop}
theorem Ziu (hh:A.in1.handled=none) (D:Ubd z TI TO i1 i2 l1 l2) (lt:z<n/\TO<n/\i1<n/\i2<n) (hd:d<n) (nd:d≠z/\d≠TI/\d≠TO/\d≠i1/\d≠i2/\d≠l1/\d≠l2) (hm:m=min xs.size ys.size)
  (hg:∀ i h h',Gd i h->(∀ b o,b≠z->b≠TO->b≠i1->b≠i2->h.get? b=some o->h'.get? b=some o)->Gd i h')
  (st:∀ i x y (s:Vd),xs[i]? = some x->ys[i]? = some y->Gd i s.heap->∀ (Q:Unit->Vd->Prop) (E:Vb->Vd->Prop),(∀ h' tk,Gd (i+1) h'->Xm d s.heap h'->Q () { s with heap:=h',toks:=tk })->Vf (Vj prog w) A.in1 (dictSet d x y) Q E s) :
  ∀ (j i:Nat) (s:Vd) (zi:Int) (tz:Tok),i+j=m->n<=s.heap.objs.size->ZS n z TI TO i1 i2 l1 l2 b1 b2 xs ys i s.heap->Gd i s.heap->(∀ h' tk,Gd m h'->R (.ok (.ret .none)) { s with heap:=h',toks:=tk }) ->
  Ucl (Vj prog w) A (.builtin "dict.update.loop" ⟨[.ref d,.ref z,.int zi tz,.none],[]⟩) R s
 | 0,i,s,zi,tz,e,hn,S,gd,q=>by
  refine Uat Zef ?_; rw[Ux Zbr _]
  have hi:i=m:=by omega
  subst hi
  show Vf _ A.in1 (Uar (Ud z) >>= _) _ _ s
  refine Va (Zta hh D S (by simp only[Array.getElem?_eq_none_iff]; omega) fun h1 k1=>?_)
  refine Va (Vc ?_)
  exact Vc (q h1 s.toks (hg _ _ _ gd k1))
 | j+1,i,s,zi,tz,e,hn,S,gd,q=>by
  refine Uat Zef ?_; rw[Ux Zbr _]
  show Vf _ A.in1 (Uar (Ud z) >>= _) _ _ s
  have ix:i<xs.size:=by omega
  have iy:i<ys.size:=by omega
  refine Va (Ztc D lt hn S (x:=xs[i]) (y:=ys[i]) (by simp[ix]) (by simp[iy]) fun h1 S1 p1 z1 k1=>?_)
  have g1:=hg _ _ _ gd k1
  refine Va (Vs ?_)
  refine Va (wpAny_tryCatch (Zgz (s:={ s with heap:=h1 }) (xs := #[xs[i],ys[i]]) ⟨_,p1,rfl,0,rfl⟩ ?_))
  refine Vs (st i xs[i] ys[i] { s with heap:=h1 } (by simp[ix]) (by simp[iy]) g1 _ _ fun h2 t2 g2 k2=>?_)
  replace k2:Xm d h1 h2:=k2
  refine Vc ⟨Ucq Zbr _,Ziu hh D lt hd nd hm hg st j (i+1) _ _ _ (by omega) ?_ (S1.mv fun c o hc e=>k2.extBut c o ?_ e) g2 fun h3 t3 g3=>q h3 t3 g3⟩
  ·show n<=h2.objs.size
   rw[k2.1,z1]; omega
  ·rintro rfl
   rcases hc with h | h | h | h | h | h | h | h
   ·exact nd.1 h
   ·exact nd.2.1 h
   ·exact nd.2.2.1 h
   ·exact nd.2.2.2.1 h
   ·exact nd.2.2.2.2.1 h
   ·exact nd.2.2.2.2.2.1 h
   ·exact nd.2.2.2.2.2.2 h
   ·exact absurd (Xi hd h) (Wat _)
end
theorem Zmb {prog:Vl} {w:Vt} {A:Vu} {E:Vb->Vd->Prop} {s:Vd} {z TI TO i1 i2 l1 l2:Vg} {xs ys:Array Vb} {b1 b2:Bool} {Q:Vb->Vd->Prop} (hh:A.handled=none) (D:Ubd z TI TO i1 i2 l1 l2) (hz:Udl s.heap z TI TO .none) (hTI:Uan s.heap TI (.ref i1) (.ref i2)) (hTO:∃ u v,Uan s.heap TO u v)
  (h1:SqI b1 s.heap i1 l1 0) (h2:SqI b2 s.heap i2 l2 0) (q1:SqX b1 s.heap l1 xs) (q2:SqX b2 s.heap l2 ys) {Gd:Nat->Uab->Prop}
  (g0:∀ h',(∀ b o,(s.heap.push { cls:=.type "dict",data:=.dict #[] }).get? b=some o->h'.get? b=some o)->Gd 0 h')
  (hg:∀ i h h',Gd i h->(∀ b o,b≠z->b≠TO->b≠i1->b≠i2->h.get? b=some o->h'.get? b=some o)->Gd i h')
  (st:∀ i x y (s':Vd),xs[i]? = some x->ys[i]? = some y->Gd i s'.heap->∀ (Q:Unit->Vd->Prop) (E:Vb->Vd->Prop),(∀ h' tk,Gd (i+1) h'->Xm s.heap.objs.size s'.heap h'->Q () { s' with heap:=h',toks:=tk })->Vf (Vj prog w) A.in1.in1 (dictSet s.heap.objs.size x y) Q E s')
  (q:∀ h' tk,Gd (min xs.size ys.size) h'->Q (.ref s.heap.objs.size) { s with heap:=h',toks:=tk }):Vf (Vj prog w) A (call (.type "dict") [.ref z]) Q E s:=by
 refine callType_codes (Q₁:=fun a z=>a=.ref s.heap.objs.size/\z={ s with heap:=s.heap.push { cls:=.type "dict",data:=.dict #[] } }) F.kt_called_dict (Tci _) Tcw (kt_code_dict_new _ ⟨rfl,rfl⟩) ?_
 rintro a s' ⟨rfl,rfl⟩
 have ty:({ s with heap:=s.heap.push { cls:=.type "dict",data:=.dict #[] } }:Vd).TypeIs (.ref s.heap.objs.size) "dict" := ⟨_,Xe _ rfl,rfl⟩
 have ty2:({ s with heap:=s.heap.push { cls:=.type "dict",data:=.dict #[] } }:Vd).TypeIs (.ref z) "zip" := ⟨_,Xa _ hz,rfl⟩
 refine⟨ty,Tcn _ _,?_⟩
 unfold Builtin.«dict.__init__» Tbn; refine Va (Va (Ubt ty ?_))
 show Vf _ _ (pure (s.heap.objs.size,[Ud z])) _ _ { s with heap:=s.heap.push { cls:=.type "dict",data:=.dict #[] } }
 refine Vc ?_; show Vf _ _ (Tac "dict.__init__" s.heap.objs.size (Ud z) [] .none) _ _ _
 unfold Tac
 refine Va (Ubs ty2 ?_)
 rw[if_pos (by decide)]
 refine Va (Zpy (A:=A.in1.in1) (Xa _ hz) (show A.in1.in1.handled=none from hh) fun hq t1 k1=>?_)
 have up:∀ b o,s.heap.get? b=some o->hq.get? b=some o:=fun b o e=>k1 _ _ (Xa _ e)
 have sz:s.heap.objs.size+1<=hq.objs.size:=by
  have e0:(s.heap.push { cls:=.type "dict",data:=.dict #[] }).get? s.heap.objs.size=some { cls:=.type "dict",data:=.dict #[] }:=Xe _ rfl
  exact Xd (k1 _ _ e0)
 simp only[Wfm,if_true]
 refine Va (Uaj ?_)
 refine Va (wpAny_pyIter_zip (s:={ s with heap:=hq,toks:=t1 }) (up _ _ hz) ?_)
 have lz:=Xd hz
 have lTI:=Xd hTI
 have lTO:TO<s.heap.objs.size:=let ⟨_,_,e⟩:=hTO; Xd e
 have li1:=h1.lt
 have li2:=h2.lt
 have ll1:l1<s.heap.objs.size:=let ⟨_,e,_⟩:=q1; Xd e
 have ll2:l2<s.heap.objs.size:=let ⟨_,e,_⟩:=q2; Xd e
 have S0:ZS (s.heap.objs.size+1) z TI TO i1 i2 l1 l2 b1 b2 xs ys 0 hq:=⟨up _ _ hTI,h1.mv fun o e=>up _ _ e,h2.mv fun o e=>up _ _ e,q1.mv fun o e=>up _ _ e,q2.mv fun o e=>up _ _ e,.inl ⟨up _ _ hz,let ⟨u,v,e⟩:=hTO; ⟨u,v,up _ _ e⟩⟩⟩
 exact Vc ⟨Ucq Zbr _,Ziu (A:=A.in1) (Gd:=Gd) (show A.in1.in1.handled=none from hh) D ⟨Way lz,Way lTO,Way li1,Way li2⟩ (Wcz _) ⟨Uf (Xh lz),Uf (Xh lTI),Uf (Xh lTO),Uf (Xh li1),Uf (Xh li2),Uf (Xh ll1),Uf (Xh ll2)⟩ rfl hg st _ 0 _ _ _ (Wfc _) sz S0 (g0 hq k1) fun h3 t3 g3=>⟨rfl,q h3 t3 g3⟩⟩
open PySem.W (KasT kas_rev kas_asc kas_desc kas_tail3 kas_descPart kas_count kas_place kas_bin kas_sort)
section
variable {n:Nat}
variable (h0:0<n)
include h0
end
open PySem.W (KatLex KatGo)
section
variable {prog:Vl} {w:Vt} {A:Vu} {E:Vb->Vd->Prop} {s:Vd}
def Ze9 (h:Uab) (v:Vb) (ns:List Int):Prop:=∃ a items,v=.ref a/\Ucw h a items/\Ubb items.toList ns
def Zsz (κ:Ubl):Prop:=κ=tuples' true\/κ=general'\/κ=oneType'
theorem Znm {ns ms:List Int} (h:ns=[]\/ms=[]):HT.lexLt ns ms=decide (ns.length<ms.length):=by
 rcases h with rfl | rfl
 ·cases ms<;>simp[HT.lexLt]
 ·cases ns<;>simp[HT.lexLt]
theorem Zsh {fin:Bool} {Q:Bool->Vd->Prop}:∀ {vs ws:List Vb} {ns ms:List Int} (i:Nat),Ubb vs ns->Ubb ws ms->fin=decide (ns.length<ms.length)->Q (HT.lexLt ns ms) s->KatLex prog w A true fin Q (vs.zip ws) i s
 | _,_,_,_,i,.nil,hw,hf,q=>by
  rw[Znm (.inl rfl),<- hf] at q
  rw[Wfs]
  exact Wgk q
 | _,_,_,_,i,.cons a t hv,.nil,hf,q=>by
  rw[Znm (.inr rfl),<- hf] at q
  rw[Wfk]
  exact Wgk q
 | _,_,_,_,i,.cons a t hv,.cons c u hw,hf,q=>by
  rw[Wee]
  refine PySem.W.kat_cons ?_
  rw[HT.lexLt_cons] at q
  obtain⟨e,he,hiff⟩:=HT.eqAt_int A s a t c u
  refine he prog w _ _ ?_
  cases e with
  | true =>
   rw[if_pos (hiff.mp rfl)] at q
   exact PySem.W.kat_yes (Zsh (i+1) hv hw (by rw[hf]; simp) q)
  | false =>
   rw[if_neg (fun z=>absurd (hiff.mpr z) Wau)] at q
   refine PySem.W.kat_no ?_
   cases i with
   | zero=>exact oneLt_int q
   | succ i=>exact Wgl _ _ (lt_int q)
theorem Zvo {κ:Ubl} {x y:Vb} {ns ms:List Int} {Q:Bool->Vd->Prop} (hu:A.units+1<cLine) (hk:Zsz κ) (hx:Ze9 s.heap x ns) (hy:Ze9 s.heap y ms) (q:Q (HT.lexLt ns ms) s):Vf (Vj prog w) A (keyLt' κ x y) Q E s:=by
 obtain⟨a,its,rfl,ha,ia⟩:=hx
 obtain⟨b,jts,rfl,hb,ib⟩:=hy
 rcases hk with rfl | rfl | rfl
 ·obtain⟨o,e1,_,n,e2⟩:=id ha
  obtain⟨o',f1,_,n',f2⟩:=id hb
  refine PySem.W.kat_lt e1 e2 f1 f2 (Zsh 0 ia ib ?_ q)
  rw[<- ia.length,<- ib.length]
  simp
 ·exact Wgl (.ref a) (.ref b) (HT.lt_tupInts ha hb ia ib (Wdk hu) q)
 ·rw[keyLt'_oneType,oneLt'_eq]
  simp only[if_true]
  obtain⟨⟨cls,dd,data,sl⟩,e1,ec,n,e2⟩:=id ha
  obtain⟨⟨cls',dd',data',sl'⟩,f1,fc,n',f2⟩:=id hb
  simp only at ec e2 fc f2
  subst ec e2 fc f2
  refine Va (wpAny_cRoomFor_or (.inr (Wdk hu)) ?_)
  refine Va (wpAny_callSpecialIfBound?_slot (name:=Ug "__lt__") ha.typeIs Tat (Uas Tat ha.typeIs Tbv (Tbr _ _) (HT.tuple_lt_ints a b its jts n n' dd dd' sl sl' ns ms ia ib) ⟨e1,f1,?_⟩))
  exact Ubm q
theorem Zgs {M:Uek}:∀ {vs:List Vb} {nss:List (List Int)},Vm (Ze9 s.heap) vs nss->∃ os:List (Option Vb),os.length=vs.length/\(∀ o∈os,o=none\/∃ n t,o=some (.int n t))/\∀ (Q:List (Option Vb)->Vd->Prop),Q os s->Vf M A (vs.mapM firstOfTuple') Q E s
 | _,_,.nil=>⟨[],rfl,(fun _ h=>by cases h),fun Q q=>by rw[List.mapM_nil]; exact Vc q⟩
 | _,_,.cons h t=>by
  obtain⟨os,l,ho,go⟩:=Zgs (M:=M) t
  obtain⟨a,its,rfl,⟨ob,e1,e2,n,e3⟩,hi⟩:=h
  have first:its[0]? = none\/∃ n t,its[0]? = some (.int n t):=by
   rw[<- Waw]
   generalize its.toList=l at hi
   cases hi with
   | nil=>exact .inl rfl
   | cons n t _=>exact .inr ⟨n,t,rfl⟩
  refine⟨its[0]? :: os,by simp[l],fun o hm=>?_,fun Q q=>?_⟩
  ·rcases Xl.mp hm with z | z
   ·rw[z]; exact first
   ·exact ho o z
  ·rw[List.mapM_cons,PySem.W.kas_first_eq]
   refine Va (Va (Wdf.here (show Wdf M s.heap (typeOf (.ref a)) ob.cls from(Wdf.ld e1).andThen .now) ?_))
   rw[e2,if_neg (by first | decide | simp)]
   refine Va (listItems_at e1 e3 (Vc ?_))
   exact Va (go _ (Vc q))
theorem Zq9 {M:Uek} {vs:List Vb} {nss:List (List Int)} {Q:Ubl->Vd->Prop} (hv:Vm (Ze9 s.heap) vs nss) (hne:0<vs.length) (q:∀ κ,Zsz κ->Q κ s):Vf M A (keyKind' vs.toArray) Q E s:=by
 obtain⟨os,l,ho,go⟩:=Zgs (A:=A) (E:=E) (M:=M) hv
 rw[keyKind'_eq,Wem,map_eq_pure_bind]
 refine Va (Va (go _ (Vc ?_)))
 by_cases ha:(os.toArray.all fun x=>x.isSome)=true
 ·rw[if_pos ha]
  refine Va (Uaj ?_)
  obtain⟨f,fs,ef⟩:∃ f fs,os.toArray.filterMap id=(f::fs).toArray:=by
   cases os with
   | nil=>simp at l; omega
   | cons o r =>
    cases o with
    | none=>simp at ha
    | some f=>exact⟨f,r.filterMap id,by simp⟩
  have fi:∀ v∈f::fs,∃ n t,v=.int n t:=fun v hm=>by
   have:v∈(os.toArray.filterMap id).toList:=by rw[ef]; exact hm
   simp only[Array.toList_filterMap,Wed,id_eq] at this
   obtain⟨o,h1,h2⟩:=this
   subst h2
   rcases ho _ h1 with z | ⟨n,t,z⟩
   ·cases z
   ·cases z; exact⟨n,t,rfl⟩
  rw[ef,oneTypeOnly'_eq,Wem,map_eq_pure_bind]
  refine Va (Va (Va (Wgd (r:=Ul "int") _ (fun v hm Q' hq=>?_) (Vc ?_))))
  ·obtain⟨n,t,rfl⟩:=fi v hm
   exact Vc hq
  ·have h1:((Wgo (fun _=>Ul "int") (f::fs)).toArray.all fun x=>x==Ul "int")=true:=by
    simp
   have h0:(Wgo (fun _=>Ul "int") (f::fs)).toArray[0]? = some (Ul "int"):=by simp
   rw[h0]
   simp only[h1,if_true]
   exact Vc (Vc (q _ (.inl (by first | rfl | decide))))
 ·rw[if_neg ha]
  by_cases hb:(os.toArray[0]?.bind id).isSome=true
  ·rw[if_pos hb]
   exact Vc (q _ (.inr (.inl rfl)))
  ·rw[if_neg hb]
   have ty:∀ {vs:List Vb} {nss:List (List Int)},Vm (Ze9 s.heap) vs nss->∀ v∈vs,∃ a ob,v=.ref a/\s.heap.get? a=some ob/\ob.cls=.type "tuple" := by
    intro vs nss h
    induction h with
    | nil=>intro v hv; cases hv
    | cons h t ih =>
     intro v hv
     rcases Xl.mp hv with z | z
     ·subst z
      obtain⟨a,its,rfl,⟨ob,e1,e2,n,e3⟩,hi⟩:=h
      exact⟨a,ob,rfl,e1,e2⟩
     ·exact ih v z
   have tv:=ty hv
   obtain⟨v,r,rfl⟩:∃ v r,vs=v::r:=by
    cases vs with
    | nil=>simp at hne
    | cons v r=>exact⟨v,r,rfl⟩
   rw[oneTypeOnly'_eq,Wem,map_eq_pure_bind]
   refine Va (Va (Va (Wgd (r:=Ul "tuple") _ (fun v hm Q' hq=>?_) (Vc ?_))))
   ·obtain⟨a,ob,rfl,e1,e2⟩:=tv v hm
    refine Wdf.here (show Wdf M s.heap (typeOf (.ref a)) ob.cls from(Wdf.ld e1).andThen .now) ?_
    rw[e2]
    exact hq
   ·have h1:((Wgo (fun _=>Ul "tuple") (v::r)).toArray.all fun x=>x==Ul "tuple")=true:=by simp
    have h0:(Wgo (fun _=>Ul "tuple") (v::r)).toArray[0]? = some (Ul "tuple"):=by simp
    rw[h0]
    simp only[h1,if_true]
    exact Vc (Vc (q _ (.inr (.inr rfl))))
end
open PySem.W (KdlSrc)
def Zux (d:Vg) (es:Array Uav) (ep:Nat) (h:Uab):Prop:=(d==Uai)=false/\∃ o,h.get? d=some o/\o.ExactDict/\o.data=.dict es ep
theorem Zux.mv {d:Vg} {es:Array Uav} {ep:Nat} {h h':Uab} (x:Zux d es ep h) (k:∀ o,h.get? d=some o->h'.get? d=some o):Zux d es ep h':=let ⟨a,o,e,r⟩:=x; ⟨a,o,k o e,r⟩
section
variable {prog:Vl} {w:Vt} {A:Vu} {E:Vb->Vd->Prop} {s:Vd}
theorem Zq2 (hh:A.handled=none) (I d:Vg) (ne:d≠I) (es:Array Uav) (ep:Nat) :
  Walks prog w A I [I,d] [I] es.size (fun i v=>∃ e,es[i]? = some e/\v=e.key) (fun i h=>h.IsKeyIter I d i es.size ep/\Zux d es ep h) where
 sub:=fun b hb=>by simp at hb; simp[hb]
 frame:=fun _ _ _ st hk=>⟨st.1.at fun o e=>hk I (by simp) o e,st.2.mv fun o e=>hk d (by simp) o e⟩
 item:=fun i s _ _ hi st hQ=>by
  obtain⟨_,ob,g1,g2,g3⟩:=st.2
  refine Zuo st.1 g1 g3 hi fun h' hit' hs'=>?_
  exact hQ _ h' s.toks ⟨es[i],by simp[hi],rfl⟩ ⟨hit',st.2.mv fun o e=>hs'.extBut d o ne e⟩ fun b o hb e=>hs'.extBut b o (fun h=>hb (by simp[h])) e
 done:=fun s Q E st hQ=>by
  obtain⟨_,ob,g1,g2,g3⟩:=st.2
  exact Zri hh st.1 g1 g3 (Xf _) fun h' he'=>hQ h' s.toks fun b o hb e=>he' b o (fun h=>hb (by simp[h])) e
 self:=fun _ _ _ _ st r=>wpAny_pyIter_keyiter st.1 r
theorem Zyf {d:Vg} {es:Array Uav} {ep:Nat}:KdlSrc prog w "dict" d d es.size (fun i v=>∃ e,es[i]? = some e/\v=e.key) (Zux d es ep) where
 type:=fun _ ⟨_,o,e,x,_⟩=>⟨o,e,x.1⟩
 there:=fun _ ⟨_,o,e,_⟩=>⟨Xd e,Xd e⟩
 keep:=fun _ _ x k=>x.mv fun o e=>k d (.inl rfl) o e
 notList:=by decide
 notTuple:=by decide
 hint:=fun _ _ _ _ ⟨_,o,e,x,_⟩ r=>PySem.W.kdl_hint_dict ⟨o,e,x.1⟩ r
 iter:=fun _ s hh x=>by
  obtain⟨h0,ob,g1,g2,g3⟩:=id x
  exact⟨_,_,(fun _ _ hq=>Zqp h0 g1 g2 g3 hq),Zq2 hh _ d (Xh (Xd g1)) es ep,⟨⟨_,Xe _ rfl,rfl,rfl⟩,x.mv fun o e=>Xa _ e⟩⟩
theorem Zj9 {d:Vg} {es:Array Uav} {ep:Nat} {R:List Vb->Vd->Prop} (hh:A.handled=none) (x:Zux d es ep s.heap) (hz:es.size<=sizeLine)
  (h:∀ h' tk,(∀ b o,s.heap.get? b=some o->h'.get? b=some o)->s.heap.objs.size<=h'.objs.size->R (es.toList.map (·.key)) { s with heap:=h',toks:=tk }):Vf (Vj prog w) A (collect (.ref d)) R E s:=by
 have hN:(s.heap.push (Uce "list" #[] 0)).get? s.heap.objs.size=some (Uce "list" #[] 0):=Xe _ rfl
 have dl:d<s.heap.objs.size:=let ⟨_,_,e,_⟩:=x; Xd e
 unfold collect
 refine Va (wpAny_runValue (Uat entry_proto_collect' (show Vf _ _ (do again (.builtin "list.__iadd__" ⟨[<- newList [],.ref d],[]⟩)) _ _ s from Va (Udz (Vc ⟨Tcm _ (by decide +kernel),Uat entry_list_iadd' ?_⟩)))))
 show Vf _ _ (Tbf (.ref s.heap.objs.size) (.ref d) (.ref s.heap.objs.size)) _ _ { s with heap:=s.heap.push (Uce "list" #[] 0) }
 rw[Ux (show plainId "list.__iadd__" = true by decide +kernel)]
 have E1:Vf (Vj prog w) A.in1 (Tbf (.ref s.heap.objs.size) (.ref d) (.ref s.heap.objs.size)) _ _ { s with heap:=s.heap.push (Uce "list" #[] 0) }:=PySem.W.kdl_extend (s:={ s with heap:=s.heap.push (Uce "list" #[] 0) }) (R:=fun r s'=>r=.ok (.ret (.ref s.heap.objs.size))/\Vf (Vj prog w) A (load s.heap.objs.size) (fun o s2=>∃ xs ep,o.data=.seq xs ep/\R xs.toList s2) E s') (Zyf (ep:=ep)) hh (x.mv fun o e=>Xa _ e) s.heap.objs.size (Uf (Xh dl)) (Uf (Xh dl)) (.ref s.heap.objs.size) 0 hN (fun h' tk acc c k1 k2 hi=>by
  have ea:acc.toList=es.toList.map (·.key):=by
   apply Wfv
   intro i
   rw[Wah,Waw,Waw]
   by_cases hl:i<es.size
   ·have la:i<acc.size:=by rw[hi.1]; exact hl
    obtain⟨e,e1,e2⟩:=hi.2 i acc[i] (Xg la)
    rw[Xg la,e1,e2]
    rfl
   ·rw[Wdj (by rw[hi.1]; omega),Wdj (by omega)]
    rfl
  refine⟨rfl,wpAny_load k2 ⟨acc,c,rfl,?_⟩⟩
  rw[ea]
  exact h h' tk (fun b o e=>k1 b o (Xh (Xd e)) (Xa _ e)) (Wcj (Xd k2))) hz
 have fin:∀ s',Vf (Vj prog w) A (load s.heap.objs.size) (fun o s2=>∃ xs ep,o.data=.seq xs ep/\R xs.toList s2) E s'->Vf (Vj prog w) A (do match (<- load s.heap.objs.size).data with | .seq xs _=>pure xs.toList | _=>unsupported "internal:collect") R E s':=fun s' z=>by
  refine Va (Ube z (fun o s2 ⟨xs,ep,e1,e2⟩=>?_) fun _ _ x=>x)
  rw[e1]
  exact Vc e2
 refine Ube E1 (fun f s' z=>?_) (fun e s' z=>?_)
 ·cases f with
  | done f =>
   obtain⟨z1,z2⟩:=z
   cases z1
   exact fin s' z2
  | again c =>
   refine⟨z.1,Ubr z.2 fun r s2 z=>?_⟩
   obtain⟨rfl,z2⟩:=z
   exact fin s2 z2
 ·cases z.1
end
open PySem.W (UpdF KasFin kas_sort)
section
variable {prog:Vl} {w:Vt} {A:Vu} {E:Vb->Vd->Prop} {s:Vd}
theorem Ze9.mv {h h':Uab} {v:Vb} {ns:List Int} (x:Ze9 h v ns) (k:∀ a its,v=.ref a->Ucw h a its->∀ o,h.get? a=some o->h'.get? a=some o):Ze9 h' v ns:=by
 obtain⟨a,its,rfl,ht,hi⟩:=x
 obtain⟨o,e,r⟩:=id ht
 exact⟨a,its,rfl,⟨o,k a its rfl ht o e,r⟩,hi⟩
end
nonrec def rowI:D->Option (List Int)
 | .tup ds=>Zd2 ds
 | _=>none
nonrec def Zlm:List D->Option (List (List Int))
 | []=>some []
 | d::r=>(rowI d).bind fun a=>(Zlm r).map fun t=>a::t
section
variable {X:Cx} {pins:List (Vg×Obj)} {σ:L2.St} {H:Hp} {s:Vd} {ι:List Vg}
theorem Zi5 (I:Inv X pins σ H s):∀ {ds:List D} {as:List Vg} {nss:List (List Int)},Zlm ds=some nss->Vm (Rep X.K H ι) ds (as.map V.ref)->Vm (Ze9 s.heap) (as.map Ud) nss
 | [],as,nss,e,p=>by
  cases e
  cases as with
  | nil=>exact .nil
  | cons a r=>cases p
 | d::ds,as,nss,e,p=>by
  obtain⟨ns,e1,e⟩:=Zo e
  obtain⟨t,e2,rfl⟩:=Zm e
  cases as with
  | nil=>cases p
  | cons a r =>
   rw[Wab] at p ⊢
   cases p with
   | cons p1 p2 =>
    refine .cons ?_ (Zi5 I e2 p2)
    unfold rowI at e1
    split at e1
    ·obtain⟨b,vs,eb,sq,P⟩:=Zan.mp p1
     cases eb
     have ev:=Zfr e1 P
     subst ev
     obtain⟨its,ri,ht,_⟩:=I.tuple sq
     exact⟨a,_,rfl,ht,by simpa using Zg4 ri⟩
    ·cases e1
end
theorem Zuc {α β γ:Type} {F:β->γ->Prop} {f:α->β} {g:α->γ} {xs:List α} (h:∀ x∈xs,F (f x) (g x)):Vm F (xs.map f) (xs.map g):=by
 induction xs with
 | nil=>exact .nil
 | cons x r ih=>exact .cons (h x (by simp)) (ih fun y hy=>h y (by simp[hy]))
end DL
namespace DL
open PySem PyProof.Rows
nonrec def gal':Bool->Vi->Array Vi->Nat->Nat->Nat->StateT Uad Sem (Option Nat):=sortPriv% PySem.Builtin.gallop
nonrec def mlo':Array Vi->Array Vi->StateT Uad Sem (Array Vi):=sortPriv% PySem.Builtin.mergeLo
nonrec def mhi':Array Vi->Array Vi->StateT Uad Sem (Array Vi):=sortPriv% PySem.Builtin.mergeHi
structure CmpK (M:Uek) (A:Vu) (s:Vd) (κ:Ubl) (S:Vi->Prop) (c:Vi->Vi->Bool):Prop where
 lt:∀ x y (Q:Bool->Vd->Prop) (E:Vb->Vd->Prop),S x->S y->Q (c x y) s->Vf M A (keyLt' κ x.1 y.1) Q E s
 tr:∀ x y z,c y x=false->c z y=false->c z x=false
 as:∀ x y,c x y=true->c y x=false
section
variable {prog:Vl} {w:Vt} {A:Vu} {E:Vb->Vd->Prop} {s:Vd} {κ:Ubl} {S:Vi->Prop} {c:Vi->Vi->Bool} (C:CmpK (Vj prog w) A s κ S c)
nonrec abbrev sTK (κ:Ubl) (a:Array Vi) (p:Array (Nat×Nat×Nat)) (g:Nat):Uad:=Tdg κ a p g none
include C
theorem Zn5 {a:Array Vi} {p:Array (Nat×Nat×Nat)} {g:Nat} {x y:Vi} {Q:Option Bool->Uad->Prop} (hx:S x) (hy:S y) (q:Q (some (c x y)) (sTK κ a p g)):wpS (Vj prog w) A E s (lt' x y) Q (sTK κ a p g):=by
 rw[lt'_eq]
 refine Ve (Ucr ?_)
 refine Ve (Udi (Uag (C.lt x y _ _ hx hy ⟨rfl,?_⟩)))
 exact Vh q
omit C in
theorem Zat {arr:Array Vi} {i:Nat} {x:Vi} {st:Uad} {Q:Vi->Uad->Prop} (h:arr[i]? = some x) (q:Q x st):wpS (Vj prog w) A E s (elem' arr i) Q st:=by
 rw[elem'_eq,h]
 exact Vh q
theorem Zw2 {left:Bool} {key x:Vi} {arr:Array Vi} {i:Nat} {a:Array Vi} {p:Array (Nat×Nat×Nat)} {g:Nat} {Q:Option Bool->Uad->Prop} (h:arr[i]? = some x) (hx:S x) (hk:S key) (q:Q (some (if left then c x key else !(c key x))) (sTK κ a p g)):wpS (Vj prog w) A E s (do
  let x<-elem' arr i
  if left=true then lt' x key else do
   let r<-lt' key x
   pure (Wgm (fun x => !x) r)) Q (sTK κ a p g):=by
 refine Ve (Zat h ?_)
 cases left with
 | true=>exact Zn5 C hx hk q
 | false =>
  simp only[Xr,if_false] at q ⊢
  exact Ve (Zn5 C hk hx (Vh q))
theorem Zrz {left:Bool} {key:Vi} {arr:Array Vi} {base n hint:Nat} {bd:Nat->Bool} {a:Array Vi} {p:Array (Nat×Nat×Nat)} {g:Nat} {Q:Option Nat->Uad->Prop}
  (hb:∀ i,i<n->∃ x,arr[base+i]? = some x/\S x/\bd i=(if left then c x key else !(c key x))) (hk:S key) (mono:∀ i j,i<=j->j<n->bd j=true->bd i=true) (hh:hint<n)
  (q:∀ k,k<=n->(∀ i,i<k->bd i=true)->(∀ i,k<=i->i<n->bd i=false)->Q (some k) (sTK κ a p g)):wpS (Vj prog w) A E s (gal' left key arr base n hint) Q (sTK κ a p g):=by
 have up:∀ i j,i<=j->j<n->bd i=false->bd j=false:=fun i j hi hj e=>by
  cases h:bd j with
  | false=>rfl
  | true=>rw[mono i j hi hj h] at e; exact e
 have go:∀ {i:Nat} {Q:Option Bool->Uad->Prop},i<n->Q (some (bd i)) (sTK κ a p g)->wpS (Vj prog w) A E s (do
   let x<-elem' arr (base+i)
   if left=true then lt' x key else do
    let r<-lt' key x
    pure (Wgm (fun x => !x) r)) Q (sTK κ a p g):=fun hi q=>by
  obtain⟨x,e,hx,eb⟩:=hb _ hi
  rw[eb] at q
  exact Zw2 C e hx hk q
 have bs:∀ {lo hi:Nat} {F:Option (Option Nat)×Nat×Nat->StateT Uad Sem (Option Nat)} {B:Nat->Option (Option Nat)×Nat×Nat->StateT Uad Sem (ForInStep (Option (Option Nat)×Nat×Nat))},
   (∀ x lo hi Q,wpS (Vj prog w) A E s (if lo ≥ hi then pure (Tde (none,lo,hi)) else do
    let r<-(do
     let x<-elem' arr (base+(lo+(hi - lo) / 2))
     if left=true then lt' x key else do
      let r<-lt' key x
      pure (Wgm (fun x => !x) r))
    match r with
    | some more=>if more=true then pure (Ut (none,lo+(hi - lo) / 2+1,hi)) else pure (Ut (none,lo,lo+(hi - lo) / 2))
    | _=>pure (Tde (some none,lo,hi))) Q (sTK κ a p g)->wpS (Vj prog w) A E s (B x (none,lo,hi)) Q (sTK κ a p g)) ->
   lo<=hi->hi<=n->(∀ i,i<lo->bd i=true)->(∀ i,hi<=i->i<n->bd i=false) ->
   (∀ k,k<=n->(∀ i,i<k->bd i=true)->(∀ i,k<=i->i<n->bd i=false)->wpS (Vj prog w) A E s (F (none,k,k)) Q (sTK κ a p g)) ->
   wpS (Vj prog w) A E s (do let r<-forIn [:n] (none,lo,hi) B; F r) Q (sTK κ a p g):=by
  intro lo hi F B hB l1 l2 b1 b2 hF
  refine Ve (Vy (I:=fun x r st=>st=sTK κ a p g/\∃ lo hi,r=(none,lo,hi)/\lo<=hi/\hi<=n/\hi - lo+x<=n/\(∀ i,i<lo->bd i=true)/\(∀ i,hi<=i->i<n->bd i=false)) ?_ ?_ ⟨rfl,lo,hi,rfl,l1,l2,by omega,b1,b2⟩)
  ·rintro x _ _ hx1 hx2 ⟨rfl,lo,hi,rfl,l1,l2,l3,b1,b2⟩
   refine hB x lo hi _ ?_
   by_cases h:lo ≥ hi
   ·rw[if_pos h]
    have:lo=hi:=by omega
    subst this
    exact Vh (hF lo l2 b1 b2)
   ·rw[if_neg h]
    refine Ve (go (by omega) ?_)
    dsimp only
    cases hm:bd (lo+(hi - lo) / 2) with
    | true =>
     rw[if_pos rfl]
     exact Vh ⟨rfl,_,_,rfl,by omega,l2,by omega,fun i hi=>mono i _ (by omega) (by omega) hm,b2⟩
    | false =>
     rw[if_neg (by simp)]
     exact Vh ⟨rfl,_,_,rfl,by omega,by omega,by omega,b1,fun i h1 h2=>up _ i h1 h2 hm⟩
  ·rintro _ _ ⟨rfl,lo,hi,rfl,l1,l2,l3,b1,b2⟩
   have:lo=hi:=by omega
   subst this
   exact hF lo l2 b1 b2
 refine Ve (go hh ?_)
 dsimp only
 cases h0:bd hint with
 | true =>
  rw[if_pos rfl]
  refine Ve (Uba (Vy (I:=fun x r st=>st=sTK κ a p g/\∃ l o,r=(none,l,o)/\l<o/\hint+l<n/\bd (hint+l)=true/\x+1<=o) (Q:=fun r st=>st=sTK κ a p g/\∃ l o,r=(none,l,o)/\l<o/\hint+l<n/\bd (hint+l)=true/\(o ≥ n - hint\/bd (hint+o)=false)) ?_ ?_ ⟨rfl,0,1,rfl,by omega,by omega,h0,by omega⟩) ?_)
  ·rintro x _ _ hx1 hx2 ⟨rfl,l,o,rfl,l1,l2,b1,l3⟩
   dsimp only
   by_cases h:o ≥ n - hint
   ·rw[if_pos h]
    exact Vh ⟨rfl,l,o,rfl,l1,l2,b1,.inl h⟩
   ·rw[if_neg h]
    refine Ve (go (by omega) ?_)
    dsimp only
    cases hm:bd (hint+o) with
    | true=>exact Vh ⟨rfl,o,2*o+1,rfl,by omega,by omega,hm,by omega⟩
    | false=>exact Vh ⟨rfl,l,o,rfl,l1,l2,b1,.inr hm⟩
  ·rintro _ _ ⟨rfl,l,o,rfl,l1,l2,b1,l3⟩
   exact⟨rfl,l,o,rfl,l1,l2,b1,.inl (by omega)⟩
  ·rintro _ _ ⟨rfl,l,o,rfl,l1,l2,b1,b2⟩
   dsimp only
   refine bs (fun x lo hi Q h=>h) (by omega) (by omega) (fun i hi=>mono i _ (by omega) l2 b1) (fun i h1 h2=>?_) fun k k1 k2 k3=>Vh (q k k1 k2 k3)
   rcases b2 with z | z
   ·omega
   ·exact up _ i (by omega) h2 z
 | false =>
  rw[if_neg (by simp)]
  refine Ve (Uba (Vy (I:=fun x r st=>st=sTK κ a p g/\∃ l o,r=(none,l,o)/\l<o/\l<=hint/\bd (hint - l)=false/\x+1<=o) (Q:=fun r st=>st=sTK κ a p g/\∃ l o,r=(none,l,o)/\l<o/\l<=hint/\bd (hint - l)=false/\(o ≥ hint+1\/bd (hint - o)=true)) ?_ ?_ ⟨rfl,0,1,rfl,by omega,by omega,h0,by omega⟩) ?_)
  ·rintro x _ _ hx1 hx2 ⟨rfl,l,o,rfl,l1,l2,b1,l3⟩
   dsimp only
   by_cases h:o ≥ hint+1
   ·rw[if_pos h]
    exact Vh ⟨rfl,l,o,rfl,l1,l2,b1,.inl h⟩
   ·rw[if_neg h]
    refine Ve (go (by omega) ?_)
    dsimp only
    cases hm:bd (hint - o) with
    | true=>exact Vh ⟨rfl,l,o,rfl,l1,l2,b1,.inr hm⟩
    | false=>exact Vh ⟨rfl,o,2*o+1,rfl,by omega,by omega,hm,by omega⟩
  ·rintro _ _ ⟨rfl,l,o,rfl,l1,l2,b1,l3⟩
   exact⟨rfl,l,o,rfl,l1,l2,b1,.inl (by omega)⟩
  ·rintro _ _ ⟨rfl,l,o,rfl,l1,l2,b1,b2⟩
   dsimp only
   refine bs (fun x lo hi Q h=>h) (by omega) (by omega) (fun i hi=>?_) (fun i h1 h2=>up _ i h1 h2 b1) fun k k1 k2 k3=>Vh (q k k1 k2 k3)
   rcases b2 with z | z
   ·omega
   ·exact mono i _ (by omega) (by omega) z
end
nonrec abbrev LeK (c:Vi->Vi->Bool) (x y:Vi):Prop:=c y x=false
structure MgK (c:Vi->Vi->Bool) (L out la lb:List Vi):Prop where
 a:(out++la).Pairwise (LeK c)
 b:(out++lb).Pairwise (LeK c)
 p:(out++la++lb).Perm L
def GdK (c:Vi->Vi->Bool) (L:List Vi) (r:Array Vi):Prop:=r.toList.Pairwise (LeK c)/\r.toList.Perm L
section
variable {c:Vi->Vi->Bool} {L out la lb xs:List Vi} {x:Vi}
theorem MgK.ta (m:MgK c L out (xs++la) lb) (h:∀ x∈xs,∀ y∈lb,LeK c x y):MgK c L (out++xs) la lb:=by
 have ma:=m.a
 have mb:=m.b
 refine⟨by rw[Xv]; exact ma,?_,?_⟩
 ·rw[Xv,Waz] at *
  refine⟨mb.1,?_,fun u hu v hv=>?_⟩
  ·rw[Waz]
   rw[Waz] at ma
   exact⟨ma.2.1.1,mb.2.1,h⟩
  ·rcases Xs.mp hv with z | z
   ·exact ma.2.2 u hu v (Wdv _ z)
   ·exact mb.2.2 u hu v z
 ·have:=m.p
  simpa [Xv] using this
theorem MgK.sw (m:MgK c L out la lb):MgK c L out lb la:=⟨m.b,m.a,by
 refine Wdg.trans ?_ m.p
 rw[Xv,Xv]
 exact Wdg.append_left _ List.perm_append_comm⟩
theorem MgK.tb (m:MgK c L out la (xs++lb)) (h:∀ x∈xs,∀ y∈la,LeK c x y):MgK c L (out++xs) la lb:=(m.sw.ta h).sw
theorem MgK.last (m:MgK c L out [x] lb) (h:∀ y∈lb,LeK c y x):(out++lb++[x]).Pairwise (LeK c)/\(out++lb++[x]).Perm L:=by
 have k:=MgK.tb (xs:=lb) (lb:=[]) (by rw[Xn]; exact m) (fun u hu v hv=>by rw[Xz.mp hv]; exact h u hu)
 exact⟨k.a,by have:=k.p; simpa using this⟩
theorem MgK.enda (m:MgK c L out la []):(out++la++[]).Pairwise (LeK c)/\(out++la++[]).Perm L:=⟨by rw[Xn]; exact m.a,m.p⟩
theorem MgK.endb (m:MgK c L out [] lb):(out++[]++lb).Pairwise (LeK c)/\(out++[]++lb).Perm L:=⟨by rw[Xn]; exact m.b,m.p⟩
theorem Zfc (a:Array Vi) (i:Nat):(a.extract i a.size).toList=a.toList.drop i:=by
 rw[Wbp]
 simp only[Wbj]
 exact Wbt (by simp)
theorem Zia (a:Array Vi) (i k:Nat):(a.extract i (i+k)).toList=(a.toList.drop i).take k:=by
 rw[Wbp]
 simp[List.extract]
theorem Zet {a:Array Vi} {i:Nat} (h:i<a.size):a.toList.drop i=a[i]::a.toList.drop (i+1):=by
 rw[Waj (by simpa using h)]
 rfl
end
section
variable {prog:Vl} {w:Vt} {A:Vu} {E:Vb->Vd->Prop} {s:Vd} {κ:Ubl} {S:Vi->Prop} {c:Vi->Vi->Bool} (C:CmpK (Vj prog w) A s κ S c)
include C
theorem CmpK.re (x:Vi):LeK c x x:=by
 cases h:c x x with
 | false=>exact h
 | true=>have:=C.as x x h; rw[h] at this; cases this
theorem CmpK.le {x y z:Vi} (h:LeK c x y) (k:LeK c y z):LeK c x z:=C.tr x y z h k
theorem Zql {a:Array Vi} (h:a.toList.Pairwise (LeK c)) {i j:Nat} (hi:i<=j) (hj:j<a.size):LeK c a[i] a[j]:=by
 rcases Weg hi with l | rfl
 ·have:=Wby.mp h i j (by simpa using (Wfb l hj)) (by simpa using hj) l
  simpa using this
 ·exact C.re _
theorem Zj1 {key:Vi} {a:Array Vi} {i n hint:Nat} {arr:Array Vi} {p:Array (Nat×Nat×Nat)} {g:Nat} {Q:Option Nat->Uad->Prop} (sa:∀ u v,i<=u->(h1:u<=v)->(h:v<i+n)->(h2:i+n<=a.size)->LeK c a[u] a[v]) (hn:i+n<=a.size) (hS:∀ x∈a.toList,S x) (hk:S key) (hh:hint<n)
  (q:∀ k,k<=n->(∀ j,j<k->(h:i+j<a.size)->LeK c a[i+j] key)->(∀ j,k<=j->j<n->(h:i+j<a.size)->LeK c key a[i+j])->Q (some k) (sTK κ arr p g)):wpS (Vj prog w) A E s (gal' false key a i n hint) Q (sTK κ arr p g):=by
 refine Zrz C (bd:=fun j => !(c key (a.getD (i+j) key))) (fun j hj=>⟨a[i+j],Xg (by omega),hS _ (by simp),by simp[Wdd,show i+j<a.size by omega]⟩) hk (fun u v h1 h2 e=>?_) hh fun k h1 h2 h3=>q k h1 (fun j hj h=>?_) (fun j hj1 hj2 h=>?_)
 ·simp only[Wdd,show i+u<a.size by omega,show i+v<a.size by omega,dif_pos,Bool.not_eq_true'] at e ⊢
  exact C.le (sa (i+u) (i+v) (by omega) (by omega) (by omega) hn) e
 ·have:=h2 j hj
  simpa [Wdd,h] using this
 ·have:=h3 j hj1 hj2
  simp only[Wdd,h,dif_pos,Bool.not_eq_false'] at this
  exact C.as _ _ this
theorem Zj2 {key:Vi} {a:Array Vi} {i n hint:Nat} {arr:Array Vi} {p:Array (Nat×Nat×Nat)} {g:Nat} {Q:Option Nat->Uad->Prop} (sa:∀ u v,i<=u->(h1:u<=v)->(h:v<i+n)->(h2:i+n<=a.size)->LeK c a[u] a[v]) (hn:i+n<=a.size) (hS:∀ x∈a.toList,S x) (hk:S key) (hh:hint<n)
  (q:∀ k,k<=n->(∀ j,j<k->(h:i+j<a.size)->LeK c a[i+j] key)->(∀ j,k<=j->j<n->(h:i+j<a.size)->LeK c key a[i+j])->Q (some k) (sTK κ arr p g)):wpS (Vj prog w) A E s (gal' true key a i n hint) Q (sTK κ arr p g):=by
 refine Zrz C (bd:=fun j=>c (a.getD (i+j) key) key) (fun j hj=>⟨a[i+j],Xg (by omega),hS _ (by simp),by simp[Wdd,show i+j<a.size by omega]⟩) hk (fun u v h1 h2 e=>?_) hh fun k h1 h2 h3=>q k h1 (fun j hj h=>?_) (fun j hj1 hj2 h=>?_)
 ·simp only[Wdd,show i+u<a.size by omega,show i+v<a.size by omega,dif_pos] at e ⊢
  cases z:c a[i+u] key with
  | true=>rfl
  | false=>exact absurd (e.symm.trans (C.le (x:=key) z (sa (i+u) (i+v) (by omega) (by omega) (by omega) hn))) (by simp)
 ·have:=h2 j hj
  simp only[Wdd,h,dif_pos] at this
  exact C.as _ _ this
 ·have:=h3 j hj1 hj2
  simpa [Wdd,h] using this
end
section
variable {prog:Vl} {w:Vt} {A:Vu} {E:Vb->Vd->Prop} {s:Vd} {κ:Ubl} {S:Vi->Prop} {c:Vi->Vi->Bool} (C:CmpK (Vj prog w) A s κ S c)
theorem Zf1 {a b out:Array Vi} {L:List Vi} {i j:Nat} (m:MgK c L out.toList (a.toList.drop i) (b.toList.drop j)) (h:a.size<=i\/b.size<=j):GdK c L (out++a.extract i a.size++b.extract j b.size):=by
 unfold GdK
 rw[Wae,Wae,Zfc,Zfc]
 rcases h with h | h
 ·rw[Wbu (by simpa using h)] at m ⊢
  exact m.endb
 ·have e:b.toList.drop j=[]:=Wbu (by simpa using h)
  rw[e] at m ⊢
  exact m.enda
theorem Ztv {a b out:Array Vi} {L:List Vi} {i j:Nat} (m:MgK c L out.toList (a.toList.drop i) (b.toList.drop j)) (h:i+1=a.size) (l:∀ y∈b.toList,LeK c y a[i]):GdK c L (out++b.extract j b.size++a.extract i a.size):=by
 unfold GdK
 rw[Wae,Wae,Zfc,Zfc]
 have e:a.toList.drop i=[a[i]]:=by
  rw[Zet (by omega),Wbu (by simp; omega)]
 rw[e] at m ⊢
 exact m.last fun y hy=>l y (Wbz hy)
theorem Zee {a:Array Vi} {P:Vi->Prop} (h:∀ x∈a.toList,P x) {i:Nat} (hi:i<a.size):P a[i]:=h _ (by simp)
theorem Zev {a:Array Vi} {i:Nat} {x:Vi} (h:x∈a.toList.drop i):∃ j,i<=j/\∃ h:j<a.size,a[j]=x:=by
 obtain⟨k,hk,e⟩:=Waf.mp h
 rw[Wbv,Wad] at hk
 exact⟨i+k,by omega,by omega,by rw[<- e]; simp⟩
theorem Zmv {a:Array Vi} {i k:Nat} {x:Vi} (h:x∈(a.toList.drop i).take k):∃ j,j<k/\∃ h:i+j<a.size,a[i+j]=x:=by
 obtain⟨u,hu,e⟩:=Waf.mp h
 rw[Wao,Wbv,Wad] at hu
 exact⟨u,by omega,by omega,by rw[<- e]; simp⟩
theorem Zle {a:Array Vi} {i k:Nat}:a.toList.drop i=(a.toList.drop i).take k++a.toList.drop (i+k):=by
 rw[<- List.drop_drop,Wac]
omit C in
theorem Zar {P:Prop} [Decidable P] {β:Type} {X Y:StateT Uad Sem β} {Q:β->Uad->Prop} {st:Uad} (h:P) (q:wpS (Vj prog w) A E s X Q st):wpS (Vj prog w) A E s (if P then X else Y) Q st:=by rw[if_pos h]; exact q
omit C in
theorem Zap {P:Prop} [Decidable P] {β:Type} {X Y:StateT Uad Sem β} {Q:β->Uad->Prop} {st:Uad} (h:¬ P) (q:wpS (Vj prog w) A E s Y Q st):wpS (Vj prog w) A E s (if P then X else Y) Q st:=by rw[if_neg h]; exact q
omit C in
theorem sw_R {β:Type} {m:StateT Uad Sem β} {Q:β->Uad->Prop} {st:Uad} (P:(β->Uad->Prop)->Prop) (h:P Q) (k:∀ R,P R->wpS (Vj prog w) A E s m R st):wpS (Vj prog w) A E s m Q st:=k Q h
include C
theorem Zv7 {a b arr:Array Vi} {p:Array (Nat×Nat×Nat)} {g:Nat} {Q:Array Vi->Uad->Prop} (ha:0<a.size) (hb:0<b.size) (sa:a.toList.Pairwise (LeK c)) (sb:b.toList.Pairwise (LeK c)) (hSa:∀ x∈a.toList,S x) (hSb:∀ x∈b.toList,S x)
  (fst:∀ x∈a.toList,LeK c b[0] x) (lst:∀ y∈b.toList,LeK c y a[a.size - 1]) (q:∀ r g',GdK c (a.toList++b.toList) r->Q r (sTK κ arr p g')):wpS (Vj prog w) A E s (mlo' a b) Q (sTK κ arr p g):=by
 have m0:MgK c (a.toList++b.toList) (#[b[0]]:Array Vi).toList (a.toList.drop 0) (b.toList.drop 1):=by
  have e:b.toList=[b[0]]++b.toList.drop 1:=by
   have:=Zet (a:=b) (i:=0) hb
   simpa using this
  refine MgK.tb (out:=[]) (xs:=[b[0]]) ⟨by simpa using sa,?_,?_⟩ fun x hx y hy=>?_
  ·rw[<- e]; exact sb
  ·rw[<- e]; simp
  ·rw[Xz.mp hx]
   exact fst y (by simpa using hy)
 have al:∀ {i j:Nat} (hi:i<=j) (h:j<a.size),LeK c (a[i]'(by omega)) a[j]:=fun hi hj=>Zql C sa hi hj
 have bl:∀ {i j:Nat} (hi:i<=j) (h:j<b.size),LeK c (b[i]'(by omega)) b[j]:=fun hi hj=>Zql C sb hi hj
 generalize hL:a.toList++b.toList=L at m0 q
 have fin:∀ {out:Array Vi} {ia ib:Nat},MgK c L out.toList (a.toList.drop ia) (b.toList.drop ib)->ia+1=a.size->GdK c L (out++b.extract ib b.size++a.extract ia a.size):=fun {out ia ib} m h=>Ztv m h fun y hy=>by
  have:=lst y hy
  simpa [<- h] using this
 refine Ve (Udi (Uaj ⟨rfl,?_⟩))
 refine Ve (Zat (x:=b[0]) (Xg hb) ?_)
 by_cases h1:1=b.size
 ·exact Zar (by simpa using h1) (Vh (q _ _ (Zf1 m0 (.inr (by omega)))))
 refine Zap (by simpa using h1) ?_
 by_cases h2:0+1=a.size
 ·exact Zar (by simpa using h2) (Vh (q _ _ (fin m0 h2)))
 refine Zap (by simpa using h2) ?_
 refine Ve (Ucr ?_)
 refine Ve (Uba (Vy (I:=fun x r st=>∃ g',st=sTK κ arr p g'/\∃ out ia ib mg,r=(none,out,ia,ib,mg)/\ia+1<a.size/\ib<b.size/\x+1<=ia+ib/\MgK c L out.toList (a.toList.drop ia) (b.toList.drop ib))
  (Q:=fun r st=>∃ g',st=sTK κ arr p g'/\∃ res t,r=(some res,t)/\GdK c L res) ?_ ?_ ⟨g,rfl,_,_,_,_,rfl,by omega,by omega,by omega,m0⟩) ?_)
 rotate_left
 ·rintro _ _ ⟨g',rfl,out,ia,ib,mg,rfl,l1,l2,l3,m⟩
  omega
 ·rintro _ _ ⟨g',rfl,res,t,rfl,k⟩
  exact Vh (q _ _ k)
 rintro x _ _ hx1 hx2 ⟨g',rfl,out,ia,ib,mg,rfl,l1,l2,l3,m⟩
 refine Ve (Uba (Vy (I:=fun x' r st=>st=sTK κ arr p g'/\∃ out ia ib ac bc,r=(none,out,ia,ib,ac,bc)/\ia+1<a.size/\ib<b.size/\x+1+x'<=ia+ib/\MgK c L out.toList (a.toList.drop ia) (b.toList.drop ib))
  (Q:=fun r st=>st=sTK κ arr p g'/\((∃ res t,r=(some res,t)/\GdK c L res)\/∃ out ia ib ac bc,r=(none,out,ia,ib,ac,bc)/\ia+1<a.size/\ib<b.size/\x+2<=ia+ib/\MgK c L out.toList (a.toList.drop ia) (b.toList.drop ib))) ?_ ?_ ⟨rfl,_,_,_,_,_,rfl,l1,l2,by omega,m⟩) ?_)
 ·rintro x' _ _ hx1' hx2' ⟨rfl,out,ia,ib,ac,bc,rfl,l1,l2,l3,m⟩
  dsimp only
  have eb:=Zet l2
  have ea:=Zet (a:=a) (i:=ia) (by omega)
  refine Ve (Zat (x:=b[ib]) (Xg l2) (Ve (Zat (x:=a[ia]) (Xg (by omega)) (Ve (Zn5 C (Zee hSb l2) (Zee hSa (by omega)) ?_)))))
  dsimp only
  cases hc:c b[ib] a[ia] with
  | true =>
   rw[if_pos rfl]
   refine Ve (Zat (x:=b[ib]) (Xg l2) ?_)
   have m':MgK c L (out.push b[ib]).toList (a.toList.drop ia) (b.toList.drop (ib+1)):=by
    rw[Wbi]
    refine MgK.tb (by rw[Wai,<- eb]; exact m) fun x hx y hy=>?_
    obtain⟨j,h1,h2,rfl⟩:=Zev hy
    rw[Xz.mp hx]
    exact C.le (C.as _ _ hc) (al h1 h2)
   by_cases h:ib+1=b.size
   ·rw[if_pos (by simpa using h)]
    exact Vh ⟨rfl,.inl ⟨_,_,rfl,Zf1 m' (.inr (by omega))⟩⟩
   ·rw[if_neg (by simpa using h)]
    by_cases h':bc+1 ≥ mg
    ·rw[if_pos h']
     exact Vh ⟨rfl,.inr ⟨_,_,_,_,_,rfl,l1,by omega,by omega,m'⟩⟩
    ·rw[if_neg h']
     exact Vh ⟨rfl,_,_,_,_,_,rfl,l1,by omega,by omega,m'⟩
  | false =>
   rw[if_neg (by simp)]
   refine Ve (Zat (x:=a[ia]) (Xg (by omega)) ?_)
   have m':MgK c L (out.push a[ia]).toList (a.toList.drop (ia+1)) (b.toList.drop ib):=by
    rw[Wbi]
    refine MgK.ta (by rw[Wai,<- ea]; exact m) fun x hx y hy=>?_
    obtain⟨j,h1,h2,rfl⟩:=Zev hy
    rw[Xz.mp hx]
    exact C.le hc (bl h1 h2)
   by_cases h:ia+1+1=a.size
   ·rw[if_pos (by simpa using h)]
    exact Vh ⟨rfl,.inl ⟨_,_,rfl,fin m' h⟩⟩
   ·rw[if_neg (by simpa using h)]
    by_cases h':ac+1 ≥ mg
    ·rw[if_pos h']
     exact Vh ⟨rfl,.inr ⟨_,_,_,_,_,rfl,by omega,by omega,by omega,m'⟩⟩
    ·rw[if_neg h']
     exact Vh ⟨rfl,_,_,_,_,_,rfl,by omega,by omega,by omega,m'⟩
 ·rintro _ _ ⟨rfl,out,ia,ib,ac,bc,rfl,l1,l2,l3,m⟩
  omega
 rintro _ _ ⟨rfl,⟨res,t,rfl,k⟩ | ⟨out,ia,ib,ac,bc,rfl,l1,l2,l3,m⟩⟩
 ·exact Vh ⟨g',rfl,_,_,rfl,k⟩
 refine Ve (Udi (Uaj ⟨rfl,?_⟩))
 refine Ve (Uba (Vy (I:=fun x' r st=>∃ g',st=sTK κ arr p g'/\∃ out ia ib mg ac bc,r=(none,out,ia,ib,mg,ac,bc)/\ia+1<a.size/\ib<b.size/\x+2<=ia+ib/\MgK c L out.toList (a.toList.drop ia) (b.toList.drop ib))
  (Q:=fun r st=>∃ g',st=sTK κ arr p g'/\((∃ res t,r=(some res,t)/\GdK c L res)\/∃ out ia ib mg ac bc,r=(none,out,ia,ib,mg,ac,bc)/\ia+1<a.size/\ib<b.size/\x+2<=ia+ib/\MgK c L out.toList (a.toList.drop ia) (b.toList.drop ib))) ?_ ?_ ⟨_,rfl,_,_,_,_,_,_,rfl,l1,l2,by omega,m⟩) ?_)
 rotate_left
 ·rintro _ _ ⟨g',rfl,out,ia,ib,mg,ac,bc,rfl,l1,l2,l3,m⟩
  exact⟨g',rfl,.inr ⟨_,_,_,_,_,_,rfl,l1,l2,l3,m⟩⟩
 ·rintro _ _ ⟨g',rfl,⟨res,t,rfl,k⟩ | ⟨out,ia,ib,mg,ac,bc,rfl,l1,l2,l3,m⟩⟩
  ·exact Vh ⟨g',rfl,_,_,rfl,k⟩
  ·exact Ve (Ubo (Vh ⟨_,rfl,_,_,_,_,rfl,l1,l2,by omega,m⟩))
 rintro x' _ _ hx1' hx2' ⟨g',rfl,out,ia,ib,mg,ac,bc,rfl,l1,l2,l3,m⟩
 refine sw_R (fun R=>(∀ g' res t,GdK c L res->R (.done (some res,t)) (sTK κ arr p g'))/\∀ g' out ia ib mg ac bc,ia+1<a.size->ib<b.size->x+2<=ia+ib->MgK c L out.toList (a.toList.drop ia) (b.toList.drop ib)->R (.done (none,out,ia,ib,mg,ac,bc)) (sTK κ arr p g')/\R (.yield (none,out,ia,ib,mg,ac,bc)) (sTK κ arr p g')) ⟨fun g' res t k=>⟨g',rfl,.inl ⟨_,_,rfl,k⟩⟩,fun g' out ia ib mg ac bc l1 l2 l3 m=>⟨⟨g',rfl,.inr ⟨_,_,_,_,_,_,rfl,l1,l2,l3,m⟩⟩,g',rfl,_,_,_,_,_,_,rfl,l1,l2,l3,m⟩⟩ ?_
 rintro R ⟨hd,hn⟩
 extract_lets _ _ _ _ _ _ _ _ _ _ _ _ jp
 suffices hj:∀ mg,wpS (Vj prog w) A E s (jp () mg) R (sTK κ arr p g') by
  split
  ·exact hj _
  ·exact hj _
 intro mg
 refine Ve (Ubo (Ve (Zat (x:=b[ib]) (Xg l2) (Ve (Zj1 C (key:=b[ib]) (a:=a) (i:=ia) (n:=a.size - ia) (hint:=0) (fun u v h1 h2 h3 h4=>al h2 (by omega)) (by omega) hSa (Zee hSb l2) (by omega) fun k k1 k2 k3=>?_)))))
 dsimp -zeta only
 extract_lets _ jp1
 have m1:MgK c L (out++a.extract ia (ia+k)).toList (a.toList.drop (ia+k)) (b.toList.drop ib):=by
  rw[Wae,Zia]
  refine MgK.ta (by rw[<- Zle]; exact m) fun x hx y hy=>?_
  obtain⟨j,h1,h2,rfl⟩:=Zmv hx
  obtain⟨i,h3,h4,rfl⟩:=Zev hy
  exact C.le (k2 j h1 h2) (bl h3 h4)
 suffices hj1:∀ out:Array Vi,ia+k+1<a.size->MgK c L out.toList (a.toList.drop (ia+k)) (b.toList.drop ib)->wpS (Vj prog w) A E s (jp1 () out (ia+k)) R (sTK κ arr p _) by
  by_cases hk:k > 0
  ·refine Zar hk ?_
   by_cases h:ia+k+1=a.size
   ·exact Zar (by simpa using h) (Vh (hd _ _ _ (fin m1 h)))
   refine Zap (by simpa using h) ?_
   by_cases h':ia+k=a.size
   ·exact Zar (by simpa using h') (Vh (hd _ _ _ (Zf1 (i:=ia+k) (j:=ib) m1 (.inl (by omega)))))
   exact Zap (by simpa using h') (hj1 _ (by omega) m1)
  ·have:k=0:=by omega
   subst this
   exact Zap hk (hj1 _ l1 m)
 intro out lk m2
 refine Ve (Zat (x:=b[ib]) (Xg l2) ?_)
 have m3:MgK c L (out.push b[ib]).toList (a.toList.drop (ia+k)) (b.toList.drop (ib+1)):=by
  rw[Wbi]
  refine MgK.tb (by rw[Wai,<- Zet l2]; exact m2) fun x hx y hy=>?_
  obtain⟨j,h1,h2,rfl⟩:=Zev hy
  rw[Xz.mp hx]
  have:=k3 (j - ia) (by omega) (by omega) (by omega)
  simpa [show ia+(j - ia)=j by omega] using this
 by_cases h:ib+1=b.size
 ·exact Zar (by simpa using h) (Vh (hd _ _ _ (Zf1 (i:=ia+k) (j:=ib+1) m3 (.inr (by omega)))))
 refine Zap (by simpa using h) ?_
 refine Ve (Zat (x:=a[ia+k]) (Xg (by omega)) (Ve (Zj2 C (key:=a[ia+k]) (a:=b) (i:=ib+1) (n:=b.size - (ib+1)) (hint:=0) (fun u v h1 h2 h3 h4=>bl h2 (by omega)) (by omega) hSb (Zee hSa (by omega)) (by omega) fun k' k1' k2' k3'=>?_)))
 generalize out.push b[ib]=out at *
 dsimp -zeta only
 extract_lets _ _ jp2
 have m4:MgK c L (out++b.extract (ib+1) (ib+1+k')).toList (a.toList.drop (ia+k)) (b.toList.drop (ib+1+k')):=by
  rw[Wae,Zia]
  refine MgK.tb (by rw[<- Zle]; exact m3) fun x hx y hy=>?_
  obtain⟨j,h1,h2,rfl⟩:=Zmv hx
  obtain⟨i,h3,h4,rfl⟩:=Zev hy
  exact C.le (k2' j h1 h2) (al h3 h4)
 suffices hj2:∀ out:Array Vi,ib+1+k'<b.size->MgK c L out.toList (a.toList.drop (ia+k)) (b.toList.drop (ib+1+k'))->wpS (Vj prog w) A E s (jp2 () out (ib+1+k')) R (sTK κ arr p _) by
  by_cases hk:k' > 0
  ·refine Zar hk ?_
   by_cases h':ib+1+k'=b.size
   ·exact Zar (by simpa using h') (Vh (hd _ _ _ (Zf1 (i:=ia+k) (j:=ib+1+k') m4 (.inr (by omega)))))
   exact Zap (by simpa using h') (hj2 _ (by omega) m4)
  ·have:k'=0:=by omega
   subst this
   exact Zap hk (hj2 _ (by omega) m3)
 intro out lk' m5
 refine Ve (Zat (x:=a[ia+k]) (Xg (by omega)) ?_)
 have m6:MgK c L (out.push a[ia+k]).toList (a.toList.drop (ia+k+1)) (b.toList.drop (ib+1+k')):=by
  rw[Wbi]
  refine MgK.ta (by rw[Wai,<- Zet (by omega)]; exact m5) fun x hx y hy=>?_
  obtain⟨j,h1,h2,rfl⟩:=Zev hy
  rw[Xz.mp hx]
  have:=k3' (j - (ib+1)) (by omega) (by omega) (by omega)
  simpa [show ib+1+(j - (ib+1))=j by omega] using this
 by_cases h':ia+k+1+1=a.size
 ·exact Zar (by simpa using h') (Vh (hd _ _ _ (fin m6 h')))
 refine Zap (by simpa using h') ?_
 have hn':=fun g' mg ac bc=>hn g' _ _ _ mg ac bc (by omega) lk' (by omega) m6
 split
 ·exact Vh (hn' _ _ _ _).1
 ·exact Vh (hn' _ _ _ _).2
end
nonrec def flK (c:Vi->Vi->Bool) (x y:Vi):Bool:=c y x
section
variable {prog:Vl} {w:Vt} {A:Vu} {E:Vb->Vd->Prop} {s:Vd} {κ:Ubl} {S:Vi->Prop} {c:Vi->Vi->Bool} (C:CmpK (Vj prog w) A s κ S c)
nonrec def rvK (a:Array Vi) (i:Nat):List Vi:=(a.toList.take i).reverse
theorem Zkb {a:Array Vi} {i:Nat} (h:i<a.size):rvK a (i+1)=a[i]::rvK a i:=by
 unfold rvK
 rw[List.take_succ_eq_append_getElem (by simpa using h),Wfj]
 rfl
theorem rv_0 (a:Array Vi):rvK a 0=[]:=rfl
theorem Zkc {a:Array Vi} {i:Nat} {x:Vi} (hi:i<=a.size) (h:x∈rvK a i):∃ j,∃ h:j<a.size,j<i/\a[j]=x:=by
 unfold rvK at h
 obtain⟨k,hk,e⟩:=Waf.mp (Wge.mp h)
 rw[Wao,Wad] at hk
 exact⟨k,by omega,by omega,by rw[<- e]; simp⟩
theorem Zsa {a:Array Vi} {i j:Nat} (h:i<=j):rvK a j=(a.extract i j).reverse.toList++rvK a i:=by
 unfold rvK
 rw[Wct,Wbp,<- Wfj]
 congr 1
 simp only[Wbj]
 have e:j=i+(j - i):=by omega
 conv=>lhs; rw[e,List.take_add]
theorem Zp8 (a:Array Vi) (i:Nat):(a.extract 0 i).toList=(rvK a i).reverse:=by
 unfold rvK
 rw[Wbp,List.reverse_reverse]
 simp[Wbj]
theorem Zsq {a:Array Vi} {i j:Nat} {x:Vi} (hj:j<=a.size) (h:x∈(a.extract i j).reverse.toList):∃ k,i<=k/\∃ h:k<a.size,k<j/\a[k]=x:=by
 rw[Wct,Wbp,Wbj] at h
 obtain⟨k,hk,e⟩:=Waf.mp (Wge.mp h)
 rw[Wao,Wbv,Wad] at hk
 exact⟨i+k,by omega,by omega,by omega,by rw[<- e]; simp⟩
theorem Zkr {l:List Vi}:l.reverse.Pairwise (LeK c) ↔ l.Pairwise (LeK (flK c)):=by
 rw[List.pairwise_reverse]
 rfl
theorem Zfj {a b out:Array Vi} {L:List Vi} {i j:Nat} (m:MgK (flK c) L out.toList (rvK a i) (rvK b j)) (h:i=0\/j=0):GdK c L (a.extract 0 i++b.extract 0 j++out.reverse):=by
 unfold GdK
 rw[Wae,Wae,Zp8,Zp8,Wct]
 have k:(out.toList++rvK a i++rvK b j).Pairwise (LeK (flK c))/\(out.toList++rvK b j++rvK a i).Pairwise (LeK (flK c)):=by
  rcases h with rfl | rfl
  ·have e:=rv_0 a
   rw[e] at m ⊢
   exact⟨m.endb.1,by have:=m.b; simpa using this⟩
  ·have e:=rv_0 b
   rw[e] at m ⊢
   exact⟨m.enda.1,by have:=m.a; simpa using this⟩
 have e:(rvK a i).reverse++(rvK b j).reverse++out.toList.reverse=(out.toList++rvK b j++rvK a i).reverse:=by simp
 rw[e]
 exact⟨Zkr.mpr k.2,(Wdl _).trans m.sw.p⟩
theorem Zfb {a b out:Array Vi} {L:List Vi} {i j:Nat} (hb:0<b.size) (hi:i<=a.size) (m:MgK (flK c) L out.toList (rvK a i) (rvK b j)) (hj:j=1) (l:∀ y∈a.toList,LeK c b[0] y):GdK c L (b.extract 0 j++a.extract 0 i++out.reverse):=by
 subst hj
 unfold GdK
 rw[Wae,Wae,Zp8,Zp8,Wct]
 have e1:rvK b 1=[b[0]]:=by rw[Zkb hb,rv_0]
 rw[e1] at m ⊢
 obtain⟨k1,k2⟩:=m.sw.last fun y hy=>by
  obtain⟨j,h1,h2,rfl⟩:=Zkc hi hy
  exact Zee l h1
 have e:[b[0]].reverse++(rvK a i).reverse++out.toList.reverse=(out.toList++rvK a i++[b[0]]).reverse:=by simp
 rw[e]
 exact⟨Zkr.mpr k1,(Wdl _).trans k2⟩
include C
theorem Zwz {a b arr:Array Vi} {p:Array (Nat×Nat×Nat)} {g:Nat} {Q:Array Vi->Uad->Prop} (ha:0<a.size) (hb:0<b.size) (sa:a.toList.Pairwise (LeK c)) (sb:b.toList.Pairwise (LeK c)) (hSa:∀ x∈a.toList,S x) (hSb:∀ x∈b.toList,S x)
  (fst:∀ x∈a.toList,LeK c b[0] x) (lst:∀ y∈b.toList,LeK c y a[a.size - 1]) (q:∀ r g',GdK c (a.toList++b.toList) r->Q r (sTK κ arr p g')):wpS (Vj prog w) A E s (mhi' a b) Q (sTK κ arr p g):=by
 obtain⟨z,hz⟩:∃ z,a.size=z+1:=⟨a.size - 1,by omega⟩
 have lst:∀ y∈b.toList,LeK c y a[z]:=fun y hy=>by have:=lst y hy; simpa [hz] using this
 have fulla:rvK a (z+1)=a.toList.reverse:=by unfold rvK; rw[Wbt (by simp; omega)]
 have fullb:rvK b b.size=b.toList.reverse:=by unfold rvK; rw[Wbt (by simp)]
 have m0:MgK (flK c) (a.toList++b.toList) (#[a[z]]:Array Vi).toList (rvK a z) (rvK b b.size):=by
  refine MgK.ta (out:=[]) (xs:=[a[z]]) ⟨?_,?_,?_⟩ fun x hx y hy=>?_
  ·rw[Wai,<- Zkb (by omega),fulla]
   exact Zkr.mp (by simpa using sa)
  ·rw[fullb]
   exact Zkr.mp (by simpa using sb)
  ·rw[Wai,<- Zkb (by omega),fulla,fullb]
   exact Wdg.append (Wdl _) (Wdl _)
  ·rw[Xz.mp hx]
   exact lst y (by rw[fullb] at hy; simpa using hy)
 have al:∀ {i j:Nat} (hi:i<=j) (h:j<a.size),LeK c (a[i]'(by omega)) a[j]:=fun hi hj=>Zql C sa hi hj
 have bl:∀ {i j:Nat} (hi:i<=j) (h:j<b.size),LeK c (b[i]'(by omega)) b[j]:=fun hi hj=>Zql C sb hi hj
 generalize hL:a.toList++b.toList=L at m0 q
 refine Ve (Udi (Uaj ⟨rfl,?_⟩))
 refine Ve (Zat (x:=a[z]) (by rw[show a.size - 1=z by omega]; exact Xg (by omega)) ?_)
 have ez:a.size - 1=z:=by omega
 rw[ez]
 by_cases h1:z=0
 ·exact Zar (by simpa using h1) (Vh (q _ _ (Zfj m0 (.inl h1))))
 refine Zap (by simpa using h1) ?_
 by_cases h2:b.size=1
 ·exact Zar (by simpa using h2) (Vh (q _ _ (Zfb hb (by omega) m0 h2 fst)))
 refine Zap (by simpa using h2) ?_
 refine Ve (Ucr ?_)
 refine Ve (Uba (Vy (I:=fun x r st=>∃ g',st=sTK κ arr p g'/\∃ na nb out mg,r=(none,na,nb,out,mg)/\1<=na/\na<a.size/\2<=nb/\nb<=b.size/\na+nb+x+1<=a.size+b.size/\MgK (flK c) L out.toList (rvK a na) (rvK b nb))
  (Q:=fun r st=>∃ g',st=sTK κ arr p g'/\∃ res t,r=(some res,t)/\GdK c L res) ?_ ?_ ⟨g,rfl,_,_,_,_,rfl,by omega,by omega,by omega,by omega,by omega,m0⟩) ?_)
 rotate_left
 ·rintro _ _ ⟨g',rfl,na,nb,out,mg,rfl,l1,l2,l3,l4,l5,m⟩
  omega
 ·rintro _ _ ⟨g',rfl,res,t,rfl,k⟩
  exact Vh (q _ _ k)
 rintro x _ _ hx1 hx2 ⟨g',rfl,na,nb,out,mg,rfl,l1,l2,l3,l4,l5,m⟩
 refine Ve (Uba (Vy (I:=fun x' r st=>st=sTK κ arr p g'/\∃ na nb out ac bc,r=(none,na,nb,out,ac,bc)/\1<=na/\na<a.size/\2<=nb/\nb<=b.size/\na+nb+x+1+x'<=a.size+b.size/\MgK (flK c) L out.toList (rvK a na) (rvK b nb))
  (Q:=fun r st=>st=sTK κ arr p g'/\((∃ res t,r=(some res,t)/\GdK c L res)\/∃ na nb out ac bc,r=(none,na,nb,out,ac,bc)/\1<=na/\na<a.size/\2<=nb/\nb<=b.size/\na+nb+x+2<=a.size+b.size/\MgK (flK c) L out.toList (rvK a na) (rvK b nb))) ?_ ?_ ⟨rfl,_,_,_,_,_,rfl,l1,l2,l3,l4,by omega,m⟩) ?_)
 ·rintro x' _ _ hx1' hx2' ⟨rfl,na,nb,out,ac,bc,rfl,l1,l2,l3,l4,l5,m⟩
  obtain⟨na,rfl⟩:∃ k,na=k+1:=⟨na - 1,by omega⟩
  obtain⟨nb,rfl⟩:∃ k,nb=k+1:=⟨nb - 1,by omega⟩
  have ea:=Zkb (a:=a) (i:=na) (by omega)
  have eb:=Zkb (a:=b) (i:=nb) (by omega)
  dsimp only
  simp only[Nat.add_sub_cancel]
  refine Ve (Zat (x:=b[nb]) (Xg (by omega)) (Ve (Zat (x:=a[na]) (Xg (by omega)) (Ve (Zn5 C (Zee hSb (by omega)) (Zee hSa (by omega)) ?_)))))
  dsimp only
  cases hc:c b[nb] a[na] with
  | true =>
   rw[if_pos rfl]
   refine Ve (Zat (x:=a[na]) (Xg (by omega)) ?_)
   have m':MgK (flK c) L (out.push a[na]).toList (rvK a na) (rvK b (nb+1)):=by
    rw[Wbi]
    refine MgK.ta (by rw[Wai,<- ea]; exact m) fun x hx y hy=>?_
    obtain⟨j,h1,h2,rfl⟩:=Zkc l4 hy
    rw[Xz.mp hx]
    exact C.le (bl (by omega) (by omega)) (C.as _ _ hc)
   by_cases h:na=0
   ·rw[if_pos (by simpa using h)]
    exact Vh ⟨rfl,.inl ⟨_,_,rfl,Zfj m' (.inl h)⟩⟩
   ·rw[if_neg (by simpa using h)]
    by_cases h':ac+1 ≥ mg
    ·rw[if_pos h']
     exact Vh ⟨rfl,.inr ⟨_,_,_,_,_,rfl,by omega,by omega,by omega,l4,by omega,m'⟩⟩
    ·rw[if_neg h']
     exact Vh ⟨rfl,_,_,_,_,_,rfl,by omega,by omega,by omega,l4,by omega,m'⟩
  | false =>
   rw[if_neg (by simp)]
   refine Ve (Zat (x:=b[nb]) (Xg (by omega)) ?_)
   have m':MgK (flK c) L (out.push b[nb]).toList (rvK a (na+1)) (rvK b nb):=by
    rw[Wbi]
    refine MgK.tb (by rw[Wai,<- eb]; exact m) fun x hx y hy=>?_
    obtain⟨j,h1,h2,rfl⟩:=Zkc (by omega) hy
    rw[Xz.mp hx]
    exact C.le (al (by omega) (by omega)) hc
   by_cases h:nb=1
   ·rw[if_pos (by simpa using h)]
    exact Vh ⟨rfl,.inl ⟨_,_,rfl,Zfb hb (by omega) m' h fst⟩⟩
   ·rw[if_neg (by simpa using h)]
    by_cases h':bc+1 ≥ mg
    ·rw[if_pos h']
     exact Vh ⟨rfl,.inr ⟨_,_,_,_,_,rfl,by omega,by omega,by omega,by omega,by omega,m'⟩⟩
    ·rw[if_neg h']
     exact Vh ⟨rfl,_,_,_,_,_,rfl,by omega,by omega,by omega,by omega,by omega,m'⟩
 ·rintro _ _ ⟨rfl,na,nb,out,ac,bc,rfl,l1,l2,l3,l4,l5,m⟩
  omega
 rintro _ _ ⟨rfl,⟨res,t,rfl,k⟩ | ⟨na,nb,out,ac,bc,rfl,l1,l2,l3,l4,l5,m⟩⟩
 ·exact Vh ⟨g',rfl,_,_,rfl,k⟩
 refine Ve (Udi (Uaj ⟨rfl,?_⟩))
 refine Ve (Uba (Vy (I:=fun x' r st=>∃ g',st=sTK κ arr p g'/\∃ na nb out mg ac bc,r=(none,na,nb,out,mg,ac,bc)/\1<=na/\na<a.size/\2<=nb/\nb<=b.size/\na+nb+x+2<=a.size+b.size/\MgK (flK c) L out.toList (rvK a na) (rvK b nb))
  (Q:=fun r st=>∃ g',st=sTK κ arr p g'/\((∃ res t,r=(some res,t)/\GdK c L res)\/∃ na nb out mg ac bc,r=(none,na,nb,out,mg,ac,bc)/\1<=na/\na<a.size/\2<=nb/\nb<=b.size/\na+nb+x+2<=a.size+b.size/\MgK (flK c) L out.toList (rvK a na) (rvK b nb))) ?_ ?_ ⟨_,rfl,_,_,_,_,_,_,rfl,l1,l2,l3,l4,by omega,m⟩) ?_)
 rotate_left
 ·rintro _ _ ⟨g',rfl,na,nb,out,mg,ac,bc,rfl,l1,l2,l3,l4,l5,m⟩
  exact⟨g',rfl,.inr ⟨_,_,_,_,_,_,rfl,l1,l2,l3,l4,l5,m⟩⟩
 ·rintro _ _ ⟨g',rfl,⟨res,t,rfl,k⟩ | ⟨na,nb,out,mg,ac,bc,rfl,l1,l2,l3,l4,l5,m⟩⟩
  ·exact Vh ⟨g',rfl,_,_,rfl,k⟩
  ·exact Ve (Ubo (Vh ⟨_,rfl,_,_,_,_,rfl,l1,l2,l3,l4,by omega,m⟩))
 rintro x' _ _ hx1' hx2' ⟨g',rfl,na,nb,out,mg,ac,bc,rfl,l1,l2,l3,l4,l5,m⟩
 refine sw_R (fun R=>(∀ g' res t,GdK c L res->R (.done (some res,t)) (sTK κ arr p g'))/\∀ g' na nb out mg ac bc,1<=na->na<a.size->2<=nb->nb<=b.size->na+nb+x+2<=a.size+b.size->MgK (flK c) L out.toList (rvK a na) (rvK b nb)->R (.done (none,na,nb,out,mg,ac,bc)) (sTK κ arr p g')/\R (.yield (none,na,nb,out,mg,ac,bc)) (sTK κ arr p g')) ⟨fun g' res t k=>⟨g',rfl,.inl ⟨_,_,rfl,k⟩⟩,fun g' na nb out mg ac bc l1 l2 l3 l4 l5 m=>⟨⟨g',rfl,.inr ⟨_,_,_,_,_,_,rfl,l1,l2,l3,l4,l5,m⟩⟩,g',rfl,_,_,_,_,_,_,rfl,l1,l2,l3,l4,l5,m⟩⟩ ?_
 rintro R ⟨hd,hn⟩
 extract_lets _ _ _ _ _ _ _ _ _ _ _ _ jp
 have eb1:b[nb - 1]? = some b[nb - 1]:=Xg (by omega)
 suffices hj:∀ mg,wpS (Vj prog w) A E s (jp () mg) R (sTK κ arr p g') by
  split
  ·exact hj _
  ·exact hj _
 intro mg
 refine Ve (Ubo (Ve (Zat (x:=b[nb - 1]) eb1 (Ve (Zj1 C (key:=b[nb - 1]) (a:=a) (i:=0) (n:=na) (hint:=na - 1) (fun u v h1 h2 h3 h4=>al h2 (by omega)) (by omega) hSa (Zee hSb (by omega)) (by omega) fun t k1 k2 k3=>?_)))))
 simp only[Wfc] at k2 k3
 dsimp -zeta only
 extract_lets _ _ jp1
 have m1:MgK (flK c) L (out++(a.extract t na).reverse).toList (rvK a t) (rvK b nb):=by
  rw[Wae]
  refine MgK.ta (by rw[<- Zsa k1]; exact m) fun x hx y hy=>?_
  obtain⟨j,h1,h2,h3,rfl⟩:=Zsq (by omega) hx
  obtain⟨i,h4,h5,rfl⟩:=Zkc l4 hy
  exact C.le (bl (by omega) (by omega)) (k3 j h1 h3 h2)
 suffices hj1:∀ out:Array Vi,1<=t->MgK (flK c) L out.toList (rvK a t) (rvK b nb)->wpS (Vj prog w) A E s (jp1 () t out) R (sTK κ arr p _) by
  by_cases hk:na - t > 0
  ·refine Zar hk ?_
   by_cases h:t=0
   ·exact Zar (beq_iff_eq.mpr h) (Vh (hd _ _ _ (Zfj (i:=t) (j:=nb) m1 (.inl h))))
   exact Zap (fun z=>h (beq_iff_eq.mp z)) (hj1 _ (by omega) m1)
  ·have:t=na:=by omega
   subst this
   exact Zap hk (hj1 _ l1 m)
 intro out lk m2
 refine Ve (Zat (x:=b[nb - 1]) eb1 ?_)
 have m3:MgK (flK c) L (out.push b[nb - 1]).toList (rvK a t) (rvK b (nb - 1)):=by
  rw[Wbi]
  refine MgK.tb (by rw[Wai,<- Zkb (by omega),show nb - 1+1=nb by omega]; exact m2) fun x hx y hy=>?_
  obtain⟨j,h1,h2,rfl⟩:=Zkc (by omega) hy
  rw[Xz.mp hx]
  exact k2 j h2 h1
 by_cases h:nb - 1=1
 ·exact Zar (beq_iff_eq.mpr h) (Vh (hd _ _ _ (Zfb hb (by omega) m3 h fst)))
 refine Zap (fun z=>h (beq_iff_eq.mp z)) ?_
 have ea1:a[t - 1]? = some a[t - 1]:=Xg (by omega)
 refine Ve (Zat (x:=a[t - 1]) ea1 (Ve (Zj2 C (key:=a[t - 1]) (a:=b) (i:=0) (n:=nb - 1) (hint:=nb - 1 - 1) (fun u v h1 h2 h3 h4=>bl h2 (by omega)) (by omega) hSb (Zee hSa (by omega)) (by omega) fun t' k1' k2' k3'=>?_)))
 simp only[Wfc] at k2' k3'
 generalize out.push b[nb - 1]=out at *
 dsimp -zeta only
 extract_lets _ _ _ jp2
 have m4:MgK (flK c) L (out++(b.extract t' (nb - 1)).reverse).toList (rvK a t) (rvK b t'):=by
  rw[Wae]
  refine MgK.tb (by rw[<- Zsa k1']; exact m3) fun x hx y hy=>?_
  obtain⟨j,h1,h2,h3,rfl⟩:=Zsq (by omega) hx
  obtain⟨i,h4,h5,rfl⟩:=Zkc (by omega) hy
  exact C.le (al (by omega) (by omega)) (k3' j h1 h3 h2)
 suffices hj2:∀ out:Array Vi,2<=t'->MgK (flK c) L out.toList (rvK a t) (rvK b t')->wpS (Vj prog w) A E s (jp2 () t' out) R (sTK κ arr p _) by
  by_cases hk:nb - 1 - t' > 0
  ·refine Zar hk ?_
   by_cases h':t'=1
   ·exact Zar (beq_iff_eq.mpr h') (Vh (hd _ _ _ (Zfb hb (by omega) m4 h' fst)))
   refine Zap (fun z=>h' (beq_iff_eq.mp z)) ?_
   by_cases h2:t'=0
   ·exact Zar (beq_iff_eq.mpr h2) (Vh (hd _ _ _ (Zfj (i:=t) (j:=t') m4 (.inr h2))))
   exact Zap (fun z=>h2 (beq_iff_eq.mp z)) (hj2 _ (by omega) m4)
  ·have:t'=nb - 1:=by omega
   subst this
   exact Zap hk (hj2 _ (by omega) m3)
 intro out lk' m5
 refine Ve (Zat (x:=a[t - 1]) ea1 ?_)
 have m6:MgK (flK c) L (out.push a[t - 1]).toList (rvK a (t - 1)) (rvK b t'):=by
  rw[Wbi]
  refine MgK.ta (by rw[Wai,<- Zkb (by omega),show t - 1+1=t by omega]; exact m5) fun x hx y hy=>?_
  obtain⟨j,h1,h2,rfl⟩:=Zkc (by omega) hy
  rw[Xz.mp hx]
  exact k2' j h2 h1
 by_cases h':t - 1=0
 ·exact Zar (beq_iff_eq.mpr h') (Vh (hd _ _ _ (Zfj (i:=t - 1) (j:=t') m6 (.inl h'))))
 refine Zap (fun z=>h' (beq_iff_eq.mp z)) ?_
 have hn':=fun g' mg ac bc=>hn g' _ _ _ mg ac bc (by omega) (by omega) lk' (by omega) (by omega) m6
 split
 ·exact Vh (hn' _ _ _ _).1
 ·exact Vh (hn' _ _ _ _).2
end
theorem Zsf {arr:Array Vi} {pre r post:List Vi} (h:arr.toList=pre++r++post) {j:Nat} (hj:j<r.length):∃ h':pre.length+j<arr.size,arr[pre.length+j]=r[j]:=by
 have l:arr.size=(pre++r++post).length:=by rw[<- h]; simp
 have l':pre.length+j<arr.size:=by rw[l]; simp; omega
 refine⟨l',?_⟩
 have e:arr[pre.length+j]? = some r[j]:=by
  rw[<- Waw,h,Xv,Wag (by omega),Xo (by omega)]
  simp[hj]
 rw[Xg l'] at e
 exact Waa.inj e
theorem Zpa {arr:Array Vi} {pre r post:List Vi} (h:arr.toList=pre++r++post) {u v:Nat} (hu:u=pre.length) (hv:v=pre.length+r.length):(arr.extract u v).toList=r:=by
 subst hu hv
 rw[Wbp,Wbj,h,Xv,List.drop_left,Nat.add_sub_cancel_left,List.take_left]
theorem cut4 (pre r1 r2 post:List Vi) (k t:Nat):pre++r1++r2++post=(pre++r1.take k)++(r1.drop k++r2.take t)++(r2.drop t++post):=by
 have e1:=Wac k r1
 have e2:=Wac t r2
 generalize r1.take k=a at *
 generalize r1.drop k=b at *
 generalize r2.take t=d at *
 generalize r2.drop t=e at *
 subst e1 e2
 simp
theorem over (b:Nat):∀ (m:List Vi) (n:Nat) (arr:Array Vi) (pre old post:List Vi),arr.toList=pre++old++post->pre.length=b+n->old.length=m.length->((m.zipIdx n).foldl (fun a x=>a.setIfInBounds (b+x.2) x.1) arr).toList=pre++m++post
 | [],n,arr,pre,old,post,h,_,l=>by
  have:old=[]:=Wbq.mp l
  subst this
  exact h
 | x::m,n,arr,pre,[],post,h,_,l=>by cases l
 | x::m,n,arr,pre,o::old,post,h,hb,l=>by
  have:=over b m (n+1) (arr.setIfInBounds (b+n) x) (pre++[x]) old post (by rw[Array.toList_setIfInBounds,h,<- hb]; simp) (by simp; omega) (by simpa using l)
  rw[Wet,Wbl,this]
  simp
section
variable {prog:Vl} {w:Vt} {A:Vu} {E:Vb->Vd->Prop} {s:Vd} {κ:Ubl} {S:Vi->Prop} {c:Vi->Vi->Bool} (C:CmpK (Vj prog w) A s κ S c)
theorem Zxy {st st':Uad} {Q:PUnit->Uad->Prop} (h:Q ⟨⟩ st'):wpS (Vj prog w) A E s (set st':StateT Uad Sem PUnit) Q st:=by
 unfold wpS; rw[StateT.run_set]; exact Vc ⟨rfl,h⟩
include C
theorem CmpK.app {l m:List Vi} {k:Vi} (hl:l.Pairwise (LeK c)) (hm:m.Pairwise (LeK c)) (h1:∀ x∈l,LeK c x k) (h2:∀ y∈m,LeK c k y):(l++m).Pairwise (LeK c):=Waz.mpr ⟨hl,hm,fun x hx y hy=>C.le (h1 x hx) (h2 y hy)⟩
theorem Zw0 {arr:Array Vi} {p:Array (Nat×Nat×Nat)} {g i pw pw':Nat} {pre r1 r2 post:List Vi} {Q:Bool->Uad->Prop} (ha:arr.toList=pre++r1++r2++post) (hi:p[i]? = some (pre.length,r1.length,pw)) (hi1:p[i+1]? = some (pre.length+r1.length,r2.length,pw')) (s1:r1.Pairwise (LeK c)) (s2:r2.Pairwise (LeK c)) (n1:0<r1.length) (n2:0<r2.length) (hS:∀ x∈arr.toList,S x)
  (q:∀ r arr' g',r.Pairwise (LeK c)->r.Perm (r1++r2)->arr'.toList=pre++r++post->Q true (sTK κ arr' ((p.setIfInBounds i (pre.length,r1.length+r2.length,pw)).eraseIdxIfInBounds (i+1)) g')):wpS (Vj prog w) A E s (mergeAt' i) Q (sTK κ arr p g):=by
 have ha2:arr.toList=(pre++r1)++r2++post:=ha
 have ha1:arr.toList=pre++r1++(r2++post):=by rw[ha]; simp
 have sz:arr.size=pre.length+r1.length+r2.length+post.length:=by rw[<- Wad,ha]; simp; omega
 have at1:∀ j (h:j<r1.length),arr[pre.length+j]=r1[j]:=fun j h=>(Zsf ha1 h).2
 have at2:∀ j (h:j<r2.length),arr[pre.length+r1.length+j]=r2[j]:=fun j h=>by
  obtain⟨_,e⟩:=Zsf ha2 h
  simpa using e
 have le1:∀ u v (h1:u<=v) (h:v<r1.length),LeK c r1[u] r1[v]:=fun u v h1 h=>by
  rcases Weg h1 with z | rfl
  ·exact Wby.mp s1 u v _ h z
  ·exact C.re _
 have le2:∀ u v (h1:u<=v) (h:v<r2.length),LeK c r2[u] r2[v]:=fun u v h1 h=>by
  rcases Weg h1 with z | rfl
  ·exact Wby.mp s2 u v _ h z
  ·exact C.re _
 have seg1:∀ u v,pre.length<=u->(h1:u<=v)->(h:v<pre.length+r1.length)->(h2:pre.length+r1.length<=arr.size)->LeK c arr[u] arr[v]:=fun u v h0 h1 h h2=>by
  have e1:=at1 (u - pre.length) (by omega)
  have e2:=at1 (v - pre.length) (by omega)
  simp only[show pre.length+(u - pre.length)=u by omega,show pre.length+(v - pre.length)=v by omega] at e1 e2
  rw[e1,e2]
  exact le1 _ _ (by omega) (by omega)
 have seg2:∀ u v,pre.length+r1.length<=u->(h1:u<=v)->(h:v<pre.length+r1.length+r2.length)->(h2:pre.length+r1.length+r2.length<=arr.size)->LeK c arr[u] arr[v]:=fun u v h0 h1 h h2=>by
  have e1:=at2 (u - (pre.length+r1.length)) (by omega)
  have e2:=at2 (v - (pre.length+r1.length)) (by omega)
  simp only[show pre.length+r1.length+(u - (pre.length+r1.length))=u by omega,show pre.length+r1.length+(v - (pre.length+r1.length))=v by omega] at e1 e2
  rw[e1,e2]
  exact le2 _ _ (by omega) (by omega)
 refine Ve (Ucr ?_)
 show wpS (Vj prog w) A E s (match (p[i]?,p[i+1]?) with | (some (sa,na,power),some (sb,nb,_))=>_ | _=>_) Q _
 rw[hi,hi1]
 have e20:arr[pre.length+r1.length]? = some r2[0]:=by
  rw[Xg (by omega)]
  exact congrArg some (at2 0 n2)
 have S1:∀ x∈r1,S x:=fun x hx=>hS x (by rw[ha]; simp[hx])
 have S2:∀ x∈r2,S x:=fun x hx=>hS x (by rw[ha]; simp[hx])
 refine Ve (Zxy (Ve (Zat (x:=r2[0]) e20 (Ve (Zj1 C (key:=r2[0]) (a:=arr) (i:=pre.length) (n:=r1.length) (hint:=0) seg1 (by omega) hS (S2 _ (by simp)) n1 fun k k1 k2 k3=>?_)))))
 have k2':∀ j,j<k->(h:j<r1.length)->LeK c r1[j] r2[0]:=fun j h1 h=>by rw[<- at1 j h]; exact k2 j h1 (by omega)
 have k3':∀ j,k<=j->(h:j<r1.length)->LeK c r2[0] r1[j]:=fun j h1 h=>by rw[<- at1 j h]; exact k3 j h1 h (by omega)
 have hd2:∀ y∈r2,LeK c r2[0] y:=fun y hy=>by
  obtain⟨j,hj,rfl⟩:=Waf.mp hy
  exact le2 0 j (by omega) hj
 have tk1:∀ x∈r1.take k,LeK c x r2[0]:=fun x hx=>by
  obtain⟨j,hj,rfl⟩:=Waf.mp hx
  rw[Wao] at hj
  rw[Wcq]
  exact k2' j (by omega) (by omega)
 by_cases h:r1.length - k=0
 ·refine Zar (beq_iff_eq.mpr h) (Vh (q (r1++r2) arr _ (C.app s1 s2 (fun x hx=>tk1 x ?_) hd2) (Wdg.refl _) (by rw[ha]; simp)))
  rw[Wbt (by omega)]
  exact hx
 refine Zap (fun z=>h (beq_iff_eq.mp z)) ?_
 have e1l:arr[pre.length+k+(r1.length - k) - 1]? = some r1[r1.length - 1]:=by
  rw[show pre.length+k+(r1.length - k) - 1=pre.length+(r1.length - 1) by omega,Xg (by omega)]
  exact congrArg some (at1 _ (by omega))
 refine Ve (Zat (x:=r1[r1.length - 1]) e1l (Ve (Zj2 C (key:=r1[r1.length - 1]) (a:=arr) (i:=pre.length+r1.length) (n:=r2.length) (hint:=r2.length - 1) (fun u v h0 h1 h h2=>seg2 u v h0 h1 h h2) (by omega) hS (S1 _ (by simp)) (by omega) fun t t1 t2 t3=>?_)))
 have t2':∀ j,j<t->(h:j<r2.length)->LeK c r2[j] r1[r1.length - 1]:=fun j h1 h=>by rw[<- at2 j h]; exact t2 j h1 (by omega)
 have t3':∀ j,t<=j->(h:j<r2.length)->LeK c r1[r1.length - 1] r2[j]:=fun j h1 h=>by rw[<- at2 j h]; exact t3 j h1 h (by omega)
 have hl1:∀ x∈r1,LeK c x r1[r1.length - 1]:=fun x hx=>by
  obtain⟨j,hj,rfl⟩:=Waf.mp hx
  exact le1 j _ (by omega) (by omega)
 have dr2:∀ y∈r2.drop t,LeK c r1[r1.length - 1] y:=fun y hy=>by
  obtain⟨j,hj,rfl⟩:=Waf.mp hy
  rw[Wbv] at hj
  rw[Wen]
  exact t3' _ (by omega) (by omega)
 by_cases h':t=0
 ·subst h'
  exact Zar rfl (Vh (q (r1++r2) arr _ (C.app s1 s2 hl1 dr2) (Wdg.refl _) (by rw[ha]; simp)))
 refine Zap (fun z=>h' (beq_iff_eq.mp z)) ?_
 have ex:(arr.extract (pre.length+k) (pre.length+r1.length)).toList=r1.drop k:=Zpa (pre:=pre++r1.take k) (post:=r2++post) (by
  rw[ha,cut4 pre r1 r2 post k 0]
  simp) (by simp; omega) (by simp; omega)
 have ey:(arr.extract (pre.length+r1.length) (pre.length+r1.length+t)).toList=r2.take t:=Zpa (pre:=pre++r1) (post:=r2.drop t++post) (by
  rw[ha2,Xv (pre++r1) (r2.take t),<- Xv (r2.take t),Wac,Xv]) (by simp) (by simp; omega)
 extract_lets x y jp
 change x.toList=_ at ex
 change y.toList=_ at ey
 have xs:x.size=r1.length - k:=by rw[<- Wad,ex]; simp
 have ys:y.size=t:=by rw[<- Wad,ey]; simp; omega
 have fin:∀ m g',GdK c (x.toList++y.toList) m->wpS (Vj prog w) A E s (jp m) Q (sTK κ arr ((p.setIfInBounds i (pre.length,r1.length+r2.length,pw)).eraseIdxIfInBounds (i+1)) g'):=fun m g' gd=>by
  rw[ex,ey] at gd
  have im:∀ z∈m.toList,z∈r1.drop k\/z∈r2.take t:=fun z hz=>Xs.mp (gd.2.mem_iff.mp hz)
  have p1:(r1.take k++(m.toList++r2.drop t)).Perm (r1++r2):=by
   refine((gd.2.append_right (r2.drop t)).append_left (r1.take k)).trans ?_
   have e:r1.take k++(r1.drop k++r2.take t++r2.drop t)=r1++r2:=by
    rw[Xv,Wac,<- Xv,Wac]
   rw[e]
  refine Ve (Ubo (Ve (Ucr (Vh (q (r1.take k++(m.toList++r2.drop t)) _ g' ?_ p1 ?_)))))
  ·rw[Waz]
   refine⟨s1.sublist (Wel _ _),?_,fun u hu v hv=>?_⟩
   ·rw[Waz]
    refine⟨gd.1,s2.sublist (Wfw _ _),fun u hu v hv=>?_⟩
    rcases im u hu with z | z
    ·exact C.le (hl1 u (Wbz z)) (dr2 v hv)
    ·have:=s2
     rw[<- Wac t r2,Waz] at this
     exact this.2.2 u z v hv
   ·rcases Xs.mp hv with z | z
    ·rcases im v z with z | z
     ·have:=s1
      rw[<- Wac k r1,Waz] at this
      exact this.2.2 u hu v z
     ·exact C.le (tk1 u hu) (hd2 v (Wcu z))
    ·exact C.le (tk1 u hu) (hd2 v (Wbz z))
  ·have hlen:(r1.drop k++r2.take t).length=m.toList.length:=gd.2.length_eq.symm
   have e0:arr.toList=(pre++r1.take k)++(r1.drop k++r2.take t)++(r2.drop t++post):=by
    rw[ha]
    exact cut4 ..
   have:=over (pre.length+k) m.toList 0 arr _ _ _ e0 (by simp; omega) hlen
   refine Eq.trans this ?_
   simp
 have sx:x.toList.Pairwise (LeK c):=by rw[ex]; exact s1.sublist (Wfw _ _)
 have sy:y.toList.Pairwise (LeK c):=by rw[ey]; exact s2.sublist (Wel _ _)
 have hSx:∀ z∈x.toList,S z:=fun z hz=>S1 z (by rw[ex] at hz; exact Wbz hz)
 have hSy:∀ z∈y.toList,S z:=fun z hz=>S2 z (by rw[ey] at hz; exact Wcu hz)
 have y0:y[0]'(by omega)=r2[0]:=by
  have:y.toList[0]'(by simp; omega)=r2[0]:=by simp only[ey]; rw[Wcq]
  simpa using this
 have xl:x[x.size - 1]'(by omega)=r1[r1.length - 1]:=by
  have:x.toList[x.size - 1]'(by simp; omega)=r1[r1.length - 1]:=by
   simp only[ex]
   rw[Wen]
   congr 1
   omega
  simpa using this
 have fst:∀ z∈x.toList,LeK c (y[0]'(by omega)) z:=fun z hz=>by
  rw[y0]
  rw[ex] at hz
  obtain⟨j,hj,rfl⟩:=Waf.mp hz
  rw[Wbv] at hj
  rw[Wen]
  exact k3' _ (by omega) (by omega)
 have lst:∀ z∈y.toList,LeK c z (x[x.size - 1]'(by omega)):=fun z hz=>by
  rw[xl]
  rw[ey] at hz
  obtain⟨j,hj,rfl⟩:=Waf.mp hz
  rw[Wao] at hj
  rw[Wcq]
  exact t2' _ (by omega) (by omega)
 by_cases hm:r1.length - k<=t
 ·exact Zar hm (Ve (Zv7 C (by omega) (by omega) sx sy hSx hSy fst lst fun m g' gd=>fin m g' gd))
 ·exact Zap hm (Ve (Zwz C (by omega) (by omega) sx sy hSx hSy fst lst fun m g' gd=>fin m g' gd))
end
nonrec def ky (a:Array Vi) (i:Nat):Vi:=a.getD i (Uq,Uq)
theorem Znh {a:Array Vi} {i:Nat} (h:i<a.size):a[i]? = some (ky a i):=by
 unfold ky; simp[Wdd,h]
theorem Znk {a b:Array Vi} {i j:Nat} (h:a[i]? = b[j]?):ky a i=ky b j:=by
 unfold ky; rw[Wcm,Wcm,h]
structure PfK (lo:Nat) (a b:Array Vi):Prop where
 perm:a.Perm b
 pre:∀ k,k<lo->a[k]? = b[k]?
section
variable {c:Vi->Vi->Bool} {lo:Nat} {a b d:Array Vi}
theorem PfK.refl:PfK lo a a:=⟨Wfe.refl _,fun _ _=>rfl⟩
theorem PfK.trans (h:PfK lo a b) (k:PfK lo b d):PfK lo a d:=⟨h.perm.trans k.perm,fun i hi=>(h.pre i hi).trans (k.pre i hi)⟩
theorem PfK.size (h:PfK lo a b):a.size=b.size:=h.perm.size_eq
theorem PfK.mir {i j:Nat} (h:PfK lo a b) (hi:lo<=i) (hj:j<=a.size):PfK lo (mirror a i j ((j - i) / 2)) b:=PfK.trans ⟨mirror_perm _ _ _ _,fun k hk=>by rw[Uds hj,if_neg (by omega)]⟩ h
theorem PfK.bub {i m:Nat} (h:PfK lo a b) (hi:lo+m<=i) (hs:i<a.size):PfK lo (bubble a i m) b:=PfK.trans ⟨bubble_perm _ _ _,fun k hk=>by rw[getElem?_bubble hs _ (by omega),if_neg (by omega),if_neg (by omega)]⟩ h
theorem PfK.list {pre rest:List Vi} (h:PfK pre.length a b) (e:b.toList=pre++rest):∃ rest',a.toList=pre++rest'/\rest'.Perm rest:=by
 have s:a.size=(pre++rest).length:=by rw[h.size,<- e]; simp
 have e1:a.toList.take pre.length=pre:=by
  apply Wfv
  intro k
  rw[List.getElem?_take]
  split
  ·rename_i hk
   rw[Waw,h.pre k hk,<- Waw,e,Xo hk]
  ·rename_i hk
   rw[List.getElem?_eq_none (by omega)]
 refine⟨a.toList.drop pre.length,?_,?_⟩
 ·conv=>lhs; rw[<- Wac pre.length a.toList,e1]
 ·have p:=Wfe.toList h.perm
  rw[e,<- Wac pre.length a.toList,e1] at p
  exact(List.perm_append_left_iff pre).mp p
def SgK (c:Vi->Vi->Bool) (a:Array Vi) (l h:Nat):Prop:=∀ i j,l<=i->i<=j->j<h->LeK c (ky a i) (ky a j)
def NiK (c:Vi->Vi->Bool) (a:Array Vi) (l h:Nat):Prop:=∀ i j,l<=i->i<=j->j<h->LeK c (ky a j) (ky a i)
theorem Zk9 {i j:Nat} (hj:j<=a.size) (k:Nat):ky (mirror a i j ((j - i) / 2)) k=if i<=k/\k<j then ky a (i+j - 1 - k) else ky a k:=by
 have e:=Uds (i:=i) hj k
 split
 ·rename_i h; rw[if_pos h] at e; exact Znk e
 ·rename_i h; rw[if_neg h] at e; exact Znk e
theorem NiK.mir {l h i j:Nat} (n:NiK c a l h) (hj:j<=a.size) (hi:l<=i) (hh:j<=h) (e:∀ u v,i<=u->u<j->i<=v->v<j->LeK c (ky a u) (ky a v)):NiK c (mirror a i j ((j - i) / 2)) l h:=by
 intro u v hu huv hv
 rw[Zk9 hj,Zk9 hj]
 by_cases h1:i<=u/\u<j
 ·by_cases h2:i<=v/\v<j
  ·rw[if_pos h1,if_pos h2]
   exact e _ _ (by omega) (by omega) (by omega) (by omega)
  ·rw[if_pos h1,if_neg h2]
   exact n _ _ (by omega) (by omega) hv
 ·by_cases h2:i<=v/\v<j
  ·rw[if_neg h1,if_pos h2]
   exact n _ _ (by omega) (by omega) (by omega)
  ·rw[if_neg h1,if_neg h2]
   exact n _ _ hu huv hv
theorem NiK.turn {l h:Nat} (n:NiK c a l h) (hj:h<=a.size):SgK c (mirror a l h ((h - l) / 2)) l h:=by
 intro u v hu huv hv
 rw[Zk9 hj,Zk9 hj,if_pos (by omega),if_pos (by omega)]
 exact n _ _ (by omega) (by omega) (by omega)
end
section
variable {prog:Vl} {w:Vt} {A:Vu} {E:Vb->Vd->Prop} {s:Vd} {κ:Ubl} {S:Vi->Prop} {c:Vi->Vi->Bool} (C:CmpK (Vj prog w) A s κ S c)
include C
theorem SgK.more {a:Array Vi} {l h:Nat} (n:SgK c a l h) (hl:l<h) (e:LeK c (ky a (h - 1)) (ky a h)):SgK c a l (h+1):=fun i j hi hij hj=>by
 by_cases h1:j<h
 ·exact n i j hi hij h1
 ·have:j=h:=by omega
  subst this
  by_cases h2:i=j
  ·subst h2; exact C.re _
  ·exact C.le (n i (j - 1) hi (by omega) (by omega)) e
theorem NiK.more {a:Array Vi} {l h:Nat} (n:NiK c a l h) (hl:l<h) (e:LeK c (ky a h) (ky a (h - 1))):NiK c a l (h+1):=fun i j hi hij hj=>by
 by_cases h1:j<h
 ·exact n i j hi hij h1
 ·have:j=h:=by omega
  subst this
  by_cases h2:i=j
  ·subst h2; exact C.re _
  ·exact C.le e (n i (j - 1) hi (by omega) (by omega))
theorem Zfq {a:Array Vi} {p:Array (Nat×Nat×Nat)} {g i j:Nat} {Q:Option Bool->Uad->Prop} (hS:∀ x∈a.toList,S x) (hi:i<a.size) (hj:j<a.size) (q:Q (some (c (ky a i) (ky a j))) (sTK κ a p g)):wpS (Vj prog w) A E s (ltAt' i j) Q (sTK κ a p g):=by
 have hk:∀ i,i<a.size->S (ky a i):=fun i h=>hS _ (by
  have:=Znh h
  rw[<- Waw] at this
  exact War this)
 rw[ltAt'_eq]
 refine Ve (Ucr (Ve (Zat (Znh hi) (Ve (Zat (Znh hj) (Zn5 C (hk i hi) (hk j hj) q))))))
theorem Zsm {a:Array Vi} {p:Array (Nat×Nat×Nat)} {g lo n0 nrem:Nat} {Q:Option (Option Nat)×Nat->Uad->Prop} {B:Nat->Option (Option Nat)×Nat->StateT Uad Sem (ForInStep (Option (Option Nat)×Nat))} (hS:∀ x∈a.toList,S x) (h1:1<=n0) (hn:n0<=nrem) (hz:lo+nrem<=a.size) (h:SgK c a lo (lo+n0))
  (q:∀ n,n0<=n->n<=nrem->SgK c a lo (lo+n)->(n=nrem\/c (ky a (lo+n)) (ky a (lo+n - 1))=true)->Q (none,n) (sTK κ a p g))
  (hB:∀ x n R,wpS (Vj prog w) A E s (do
   let r<-ltAt' (lo+n) (lo+n - 1)
   match r with
   | some smaller=>if smaller=true then pure (.done (none,n)) else pure (.yield (none,n+1))
   | _=>pure (.done (some none,n))) R (sTK κ a p g)->wpS (Vj prog w) A E s (B x (none,n)) R (sTK κ a p g)):wpS (Vj prog w) A E s (forIn [n0:nrem] (none,n0) B) Q (sTK κ a p g):=by
 refine Vy (I:=fun x r st=>st=sTK κ a p g/\r=(none,x)/\SgK c a lo (lo+x)) ?_ ?_ ⟨rfl,rfl,h⟩
 ·rintro x _ _ hx1 hx2 ⟨rfl,rfl,h⟩
  refine hB x x _ (Ve (Zfq C hS (by omega) (by omega) ?_))
  dsimp only
  cases e:c (ky a (lo+x)) (ky a (lo+x - 1)) with
  | true=>exact Zar rfl (Vh (q x hx1 (by omega) h (.inr e)))
  | false=>exact Zap (by simp) (Vh ⟨rfl,rfl,h.more C (by omega) e⟩)
 ·rintro _ _ ⟨rfl,rfl,h⟩
  rw[Wgf hn] at h ⊢
  exact q nrem hn (Xf _) h (.inl rfl)
theorem Zp4 {a:Array Vi} {p:Array (Nat×Nat×Nat)} {g lo nrem:Nat} {Q:Option Nat->Uad->Prop} (hS:∀ x∈a.toList,S x) (h1:1<=nrem) (hz:lo+nrem<=a.size)
  (q:∀ n a',1<=n->n<=nrem->PfK lo a' a->SgK c a' lo (lo+n)->Q (some n) (sTK κ a' p g)):wpS (Vj prog w) A E s (countRun' lo nrem) Q (sTK κ a p g):=by
 have hS':∀ {a':Array Vi},PfK lo a' a->∀ x∈a'.toList,S x:=fun pf x hx=>hS x ((Wfe.toList pf.perm).mem_iff.mp hx)
 refine Ve (Zsm C hS (Xf 1) h1 hz (fun i j hi hij hj=>?_) (fun n n1 n2 h hor=>?_) (fun x n R h=>h))
 ·have:i=j:=by omega
  subst this; exact C.re _
 by_cases hn:n=nrem
 ·exact Zar (beq_iff_eq.mpr hn) (Vh (q n a n1 n2 PfK.refl h))
 refine Zap (fun z=>hn (beq_iff_eq.mp z)) ?_
 have hlt:=hor.resolve_left hn
 extract_lets _ _ jp
 have hj:∀ a',PfK lo a' a->NiK c a' lo (lo+n+1)->wpS (Vj prog w) A E s (jp ()) Q (sTK κ a' p g):=fun a' pf ni=>by
  have za:=pf.size
  refine Ve (Udi (Uaj ⟨rfl,?_⟩))
  refine Ve (Uba (Vy (I:=fun x r st=>∃ a' neq,st=sTK κ a' p g/\r=(none,x,neq)/\PfK lo a' a/\NiK c a' lo (lo+x)/\neq+1<=x/\∀ u v,lo+x - (neq+1)<=u->u<lo+x->lo+x - (neq+1)<=v->v<lo+x->LeK c (ky a' u) (ky a' v))
   (Q:=fun r st=>∃ a' neq x,st=sTK κ a' p g/\r=(none,x,neq)/\PfK lo a' a/\NiK c a' lo (lo+x)/\n+1<=x/\x<=nrem/\neq+1<=x/\∀ u v,lo+x - (neq+1)<=u->u<lo+x->lo+x - (neq+1)<=v->v<lo+x->LeK c (ky a' u) (ky a' v)) ?_ ?_
   ⟨a',0,rfl,rfl,pf,ni,by omega,fun u v h1 h2 h3 h4=>by
    have:u=v:=by omega
    subst this; exact C.re _⟩) ?_)
  ·rintro x _ _ hx1 hx2 ⟨a',neq,rfl,rfl,pf,ni,hq,hb⟩
   have za:=pf.size
   refine Ve (Zfq C (i:=lo+x) (j:=lo+x - 1) (hS' pf) (by omega) (by omega) ?_)
   dsimp only
   have one:∀ (b:Array Vi) u v,lo+(x+1) - (0+1)<=u->u<lo+(x+1)->lo+(x+1) - (0+1)<=v->v<lo+(x+1)->LeK c (ky b u) (ky b v):=fun b u v h1 h2 h3 h4=>by
    have:u=v:=by omega
    subst this; exact C.re _
   cases e:c (ky a' (lo+x)) (ky a' (lo+x - 1)) with
   | true =>
    refine Zar rfl ?_
    have ni':=ni.more C (by omega) (C.as _ _ e)
    by_cases hn0:neq > 0
    ·exact Zar hn0 (Ve (Udt (Vh ⟨_,0,rfl,rfl,pf.mir (by omega) (by omega),ni'.mir (by omega) (by omega) (by omega) hb,by omega,one _⟩)))
    ·exact Zap hn0 (Vh ⟨_,0,rfl,rfl,pf,ni',by omega,one _⟩)
   | false =>
    refine Zap (by simp) (Ve (Zfq C (hS' pf) (by omega) (by omega) ?_))
    dsimp only
    cases e2:c (ky a' (lo+x - 1)) (ky a' (lo+x)) with
    | true=>exact Zar rfl (Vh ⟨a',neq,x,rfl,rfl,pf,ni,hx1,by omega,hq,hb⟩)
    | false =>
     refine Zap (by simp) (Vh ⟨a',neq+1,rfl,rfl,pf,ni.more C (by omega) e2,by omega,fun u v h1 h2 h3 h4=>?_⟩)
     have up:∀ u,lo+(x+1) - (neq+1+1)<=u->u<lo+(x+1)->LeK c (ky a' u) (ky a' (lo+x - 1))/\LeK c (ky a' (lo+x - 1)) (ky a' u):=fun u h1 h2=>by
      by_cases hu:u=lo+x
      ·subst hu; exact⟨e2,e⟩
      ·exact⟨hb _ _ (by omega) (by omega) (by omega) (by omega),hb _ _ (by omega) (by omega) (by omega) (by omega)⟩
     exact C.le (up u h1 h2).1 (up v h3 h4).2
  ·rintro _ _ ⟨a',neq,rfl,rfl,pf,ni,hq,hb⟩
   rw[Wgf (by omega:n+1<=nrem)] at *
   exact⟨a',neq,nrem,rfl,rfl,pf,ni,by omega,Xf _,hq,hb⟩
  ·rintro _ _ ⟨a',neq,x,rfl,rfl,pf,ni,x1,x2,hq,hb⟩
   have za:=pf.size
   dsimp -zeta only
   extract_lets _ _ _ _ jp2
   have hj2:∀ a',PfK lo a' a->NiK c a' lo (lo+x)->wpS (Vj prog w) A E s (jp2 ()) Q (sTK κ a' p g):=fun a' pf ni=>by
    have za:=pf.size
    have pf':=pf.mir (i:=lo) (j:=lo+x) (Xf _) (by omega)
    have sg:=ni.turn (show lo+x<=a'.size by omega)
    have x0:1<=x:=by omega
    have zz:lo+nrem<=(mirror a' lo (lo+x) ((lo+x - lo) / 2)).size:=by rw[pf'.size]; omega
    refine Ve (Udt (Ve (Zsm C (hS' pf') x0 x2 zz sg (fun m m1 m2 h _=>Vh (q m _ (Xq x0 m1) m2 pf' h)) (fun x n R h=>h))))
   by_cases hn0:neq > 0
   ·have pf2:=pf.mir (i:=lo+x - (neq+1)) (j:=lo+x) (by omega) (by omega)
    have ni2:=ni.mir (i:=lo+x - (neq+1)) (j:=lo+x) (by omega) (by omega) (Xf _) hb
    exact Zar hn0 (Ve (Udt (hj2 _ pf2 ni2)))
   ·exact Zap hn0 (hj2 _ pf ni)
 by_cases hg:n > 1
 ·refine Zar hg (Ve (Zfq C (i:=lo) (j:=lo+n - 1) hS (by omega) (by omega) ?_))
  dsimp only
  cases e:c (ky a lo) (ky a (lo+n - 1)) with
  | true=>exact Zar rfl (Vh (q n a n1 n2 PfK.refl h))
  | false =>
   have all:∀ u v,lo<=u->u<lo+n->lo<=v->v<lo+n->LeK c (ky a u) (ky a v):=fun u v h1 h2 h3 h4=>C.le (h u (lo+n - 1) h1 (by omega) (by omega)) (C.le e (h lo v (Xf _) h3 h4))
   have ni:NiK c a lo (lo+n):=fun i j h1 h2 h3=>all j i (by omega) h3 h1 (by omega)
   have pf2:=(PfK.refl (lo:=lo) (a:=a)).mir (i:=lo) (j:=lo+n) (Xf _) (by omega)
   have ni2:=(ni.more C (by omega) (C.as _ _ hlt)).mir (i:=lo) (j:=lo+n) (by omega) (Xf _) (by omega) all
   exact Zap (by simp) (Ve (Udt (hj _ pf2 ni2)))
 ·refine Zap hg (hj a PfK.refl ?_)
  have:n=1:=by omega
  subst this
  have n1':NiK c a lo (lo+1):=fun i j h1 h2 h3=>by
   have:i=j:=by omega
   subst this; exact C.re _
  exact n1'.more C (by omega) (C.as _ _ hlt)
theorem Zvu {a:Array Vi} {p:Array (Nat×Nat×Nat)} {g lo n ok:Nat} {Q:Bool->Uad->Prop} (hS:∀ x∈a.toList,S x) (h1:1<=ok) (ho:ok<=n) (hz:lo+n<=a.size) (h:SgK c a lo (lo+ok))
  (q:∀ a',PfK lo a' a->SgK c a' lo (lo+n)->Q true (sTK κ a' p g)):wpS (Vj prog w) A E s (binarySort' lo n ok) Q (sTK κ a p g):=by
 have hS':∀ {a':Array Vi},PfK lo a' a->∀ x∈a'.toList,S x:=fun pf x hx=>hS x ((Wfe.toList pf.perm).mem_iff.mp hx)
 have mx:max ok 1=ok:=by omega
 refine Ve (Uba (Vy (I:=fun x r st=>∃ a',st=sTK κ a' p g/\r=(none,())/\PfK lo a' a/\SgK c a' lo (lo+x)) (Q:=fun r st=>∃ a',st=sTK κ a' p g/\r=(none,())/\PfK lo a' a/\SgK c a' lo (lo+n)) ?_ ?_ ⟨a,rfl,rfl,PfK.refl,by rw[mx]; exact h⟩) ?_)
 ·rintro k _ _ hk1 hk2 ⟨a',rfl,rfl,pf,h⟩
  have za:=pf.size
  rw[mx] at hk1
  refine Ve (Uba (Vy (I:=fun x r st=>st=sTK κ a' p g/\∃ l r',r=(none,l,r')/\l<=r'/\r'<=k/\r' - l+x<=k/\(∀ i,i<l->LeK c (ky a' (lo+i)) (ky a' (lo+k)))/\(∀ i,r'<=i->i<k->LeK c (ky a' (lo+k)) (ky a' (lo+i))))
   (Q:=fun r st=>st=sTK κ a' p g/\∃ l,r=(none,l,l)/\l<=k/\(∀ i,i<l->LeK c (ky a' (lo+i)) (ky a' (lo+k)))/\(∀ i,l<=i->i<k->LeK c (ky a' (lo+k)) (ky a' (lo+i)))) ?_ ?_ ⟨rfl,0,k,rfl,by omega,by omega,by omega,fun i hi=>by omega,fun i hi hi2=>by omega⟩) ?_)
  ·rintro x _ _ hx1 hx2 ⟨rfl,l,r',rfl,l1,l2,l3,b1,b2⟩
   by_cases hlr:l ≥ r'
   ·have:l=r':=by omega
    subst this
    exact Zar hlr (Vh ⟨rfl,l,rfl,l2,b1,b2⟩)
   refine Zap hlr (Ve (Zfq C (i:=lo+k) (j:=lo+(l+r') / 2) (hS' pf) (by omega) (by omega) ?_))
   dsimp only
   cases e:c (ky a' (lo+k)) (ky a' (lo+(l+r') / 2)) with
   | true=>exact Zar rfl (Vh ⟨rfl,_,_,rfl,by omega,by omega,by omega,b1,fun i h1 h2=>C.le (C.as _ _ e) (h _ _ (by omega) (by omega) (by omega))⟩)
   | false=>exact Zap (by simp) (Vh ⟨rfl,_,_,rfl,by omega,by omega,by omega,fun i hi=>C.le (h _ _ (by omega) (by omega) (by omega)) e,b2⟩)
  ·rintro _ _ ⟨rfl,l,r',rfl,l1,l2,l3,b1,b2⟩
   have:l=r':=by omega
   subst this
   exact⟨rfl,l,rfl,l2,b1,b2⟩
  ·rintro _ _ ⟨rfl,l,rfl,l1,b1,b2⟩
   have hs:lo+k<a'.size:=by omega
   have ek:∀ i,ky (bubble a' (lo+k) (lo+k - (lo+l))) i=if i=lo+l then ky a' (lo+k) else if lo+l<i/\i<=lo+k then ky a' (i - 1) else ky a' i:=fun i=>by
    have e:=getElem?_bubble hs (lo+k - (lo+l)) (by omega) i
    rw[show lo+k - (lo+k - (lo+l))=lo+l by omega] at e
    split
    ·rename_i h; rw[if_pos h] at e; exact Znk e
    ·rename_i h
     rw[if_neg h] at e
     split
     ·rename_i h; rw[if_pos h] at e; exact Znk e
     ·rename_i h; rw[if_neg h] at e; exact Znk e
   refine Ve (m:=moveDown' (lo+k) (lo+l)) ?_
   rw[moveDown'_eq]
   refine Ubo (Vh ⟨_,rfl,rfl,pf.bub (by omega) hs,fun i j hi hij hj=>?_⟩)
   show LeK c (ky (bubble a' (lo+k) (lo+k - (lo+l))) i) (ky (bubble a' (lo+k) (lo+k - (lo+l))) j)
   rw[ek,ek]
   by_cases i1:i=lo+l
   ·rw[if_pos i1]
    by_cases j1:j=lo+l
    ·rw[if_pos j1]; exact C.re _
    ·rw[if_neg j1,if_pos (by omega)]
     have:=b2 (j - 1 - lo) (by omega) (by omega)
     rwa [show lo+(j - 1 - lo)=j - 1 by omega] at this
   ·rw[if_neg i1]
    by_cases i2:lo+l<i/\i<=lo+k
    ·rw[if_pos i2,if_neg (by omega),if_pos (by omega)]
     exact h _ _ (by omega) (by omega) (by omega)
    ·rw[if_neg i2]
     by_cases j1:j=lo+l
     ·rw[if_pos j1]
      have:=b1 (i - lo) (by omega)
      rwa [show lo+(i - lo)=i by omega] at this
     ·rw[if_neg j1]
      by_cases j2:lo+l<j/\j<=lo+k
      ·rw[if_pos j2]
       exact h _ _ (by omega) (by omega) (by omega)
      ·rw[if_neg j2]
       exact h _ _ (by omega) (by omega) (by omega)
 ·rintro _ _ ⟨a',rfl,rfl,pf,h⟩
  rw[show max (max ok 1) n=n by omega] at h
  exact⟨a',rfl,rfl,pf,h⟩
 ·rintro _ _ ⟨a',rfl,rfl,pf,h⟩
  exact Vh (q a' pf h)
end
def PdK (rs:List (List Vi)) (p:Array (Nat×Nat×Nat)):Prop:=p.size=rs.length/\∀ i (h:i<rs.length),∃ pw,p[i]? = some ((rs.take i).flatten.length,rs[i].length,pw)
structure SrK (c:Vi->Vi->Bool) (L:List Vi) (rs:List (List Vi)) (rest:List Vi) (a:Array Vi) (p:Array (Nat×Nat×Nat)):Prop where
 e:a.toList=rs.flatten++rest
 pm:a.toList.Perm L
 so:∀ r∈rs,r.Pairwise (LeK c)
 ne:∀ r∈rs,0<r.length
 pd:PdK rs p
theorem Zlg {us vs:List (List Vi)} {r r1 r2:List Vi} (h:r.length=r1.length+r2.length):(us++r::vs).flatten.length=(us++r1::r2::vs).flatten.length:=by simp[h]; omega
theorem PdK.merge {us vs:List (List Vi)} {r r1 r2:List Vi} {p:Array (Nat×Nat×Nat)} {pw:Nat} (h:PdK (us++r1::r2::vs) p) (hr:r.length=r1.length+r2.length):PdK (us++r::vs) ((p.setIfInBounds us.length (us.flatten.length,r1.length+r2.length,pw)).eraseIdxIfInBounds (us.length+1)):=by
 obtain⟨h1,h2⟩:=h
 have sz:us.length+1<p.size:=by rw[h1]; simp
 have sz':p.size=us.length+vs.length+2:=by rw[h1]; simp; omega
 constructor
 ·simp[Weo,sz]
  omega
 ·intro i hi
  have hi':i<us.length+vs.length+1:=by simpa [Nat.add_assoc] using hi
  have er:∀ j,((p.setIfInBounds us.length (us.flatten.length,r1.length+r2.length,pw)).eraseIdxIfInBounds (us.length+1))[j]? = if j<us.length+1 then (p.setIfInBounds us.length (us.flatten.length,r1.length+r2.length,pw))[j]? else (p.setIfInBounds us.length (us.flatten.length,r1.length+r2.length,pw))[j+1]? := fun j=>by
   unfold Weo
   rw[dif_pos (by simpa using sz),Array.getElem?_eraseIdx]
  rw[er]
  by_cases g1:i<us.length
  ·obtain⟨pw',e⟩:=h2 i (by simp; omega)
   refine⟨pw',?_⟩
   rw[if_pos (by omega),Wci,if_neg (by omega),e]
   simp[Wdu (Wcj g1),Wep g1]
  ·by_cases g2:i=us.length
   ·subst g2
    refine⟨pw,?_⟩
    rw[if_pos (by omega),Wci,if_pos rfl,if_pos (by omega)]
    simp[hr]
   ·obtain⟨k,rfl⟩:∃ k,i=us.length+1+k:=⟨i - (us.length+1),by omega⟩
    obtain⟨pw',e⟩:=h2 (us.length+1+k+1) (by simp; omega)
    refine⟨pw',?_⟩
    rw[if_neg (by omega),Wci,if_neg (by omega),e]
    have t1:(us++r1::r2::vs).take (us.length+1+k+1)=us++r1::r2::vs.take k:=by
     rw[show us.length+1+k+1=us.length+(k+2) by omega,Wcn]
     rfl
    have t2:(us++r::vs).take (us.length+1+k)=us++r::vs.take k:=by
     rw[show us.length+1+k=us.length+(k+1) by omega,Wcn]
     rfl
    have g1:(us++r1::r2::vs)[us.length+1+k+1]'(by simp; omega)=(us++r::vs)[us.length+1+k]:=by
     rw[Wcx (by omega),Wcx (by omega)]
     simp only[show us.length+1+k+1 - us.length=k+2 by omega,show us.length+1+k - us.length=k+1 by omega,List.getElem_cons_succ]
    rw[t1,t2,g1,Zlg hr]
section
variable {prog:Vl} {w:Vt} {A:Vu} {E:Vb->Vd->Prop} {s:Vd} {κ:Ubl} {S:Vi->Prop} {c:Vi->Vi->Bool} (C:CmpK (Vj prog w) A s κ S c)
include C
theorem Znt {L:List Vi} {rs:List (List Vi)} {rest:List Vi} {a:Array Vi} {p:Array (Nat×Nat×Nat)} {g i:Nat} {Q:Bool->Uad->Prop} (hS:∀ x∈L,S x) (h:SrK c L rs rest a p) (hi:i+1<rs.length)
  (q:∀ rs' a' p' g',SrK c L rs' rest a' p'->rs'.length+1=rs.length->rs'.flatten.length=rs.flatten.length->Q true (sTK κ a' p' g')):wpS (Vj prog w) A E s (mergeAt' i) Q (sTK κ a p g):=by
 obtain⟨us,r1,r2,vs,rfl,rfl⟩:∃ us r1 r2 vs,rs=us++r1::r2::vs/\us.length=i:=⟨rs.take i,rs[i],rs[i+1],rs.drop (i+2),by
  rw[<- Waj,<- Waj,Wac],by simp; omega⟩
 obtain⟨pw,e1⟩:=h.pd.2 us.length (by simp)
 obtain⟨pw',e2⟩:=h.pd.2 (us.length+1) (by simp)
 have t1:(us++r1::r2::vs).take us.length=us:=by simp
 have t2:(us++r1::r2::vs).take (us.length+1)=us++[r1]:=by
  rw[Wcn]; rfl
 rw[t1] at e1
 rw[t2] at e2
 have g1:(us++r1::r2::vs)[us.length]'(by simp)=r1:=by simp
 have g2:(us++r1::r2::vs)[us.length+1]'(by simp)=r2:=by
  rw[Wcx (by omega)]; simp
 rw[g1] at e1
 rw[g2] at e2
 refine Zw0 C (pw':=pw') (pre:=us.flatten) (r1:=r1) (r2:=r2) (post:=vs.flatten++rest) (by rw[h.e]; simp) e1 (by rw[e2]; simp) (h.so _ (by simp)) (h.so _ (by simp)) (h.ne _ (by simp)) (h.ne _ (by simp)) (fun x hx=>hS x (h.pm.mem_iff.mp hx)) fun r a' g' s1 s2 s3=>?_
 have hr:r.length=r1.length+r2.length:=by rw[s2.length_eq]; simp
 refine q (us++r::vs) a' _ g' ⟨by rw[s3]; simp,?_,?_,?_,h.pd.merge hr⟩ (by simp; omega) (Zlg hr)
 ·refine Wdg.trans ?_ h.pm
  rw[s3,h.e]
  have:(us++r1::r2::vs).flatten++rest=us.flatten++(r1++r2)++(vs.flatten++rest):=by simp
  rw[this]
  exact(s2.append_left _).append_right _
 ·intro x hx
  rcases Xs.mp hx with z | z
  ·exact h.so x (by simp[z])
  ·rcases Xl.mp z with rfl | z
   ·exact s1
   ·exact h.so x (by simp[z])
 ·intro x hx
  rcases Xs.mp hx with z | z
  ·exact h.ne x (by simp[z])
  ·rcases Xl.mp z with rfl | z
   ·have:=h.ne r1 (by simp); omega
   ·exact h.ne x (by simp[z])
omit C in
theorem SrK.tail {L:List Vi} {rs:List (List Vi)} {rest:List Vi} {a a':Array Vi} {p:Array (Nat×Nat×Nat)} (h:SrK c L rs rest a p) (pf:PfK rs.flatten.length a' a):∃ rest',SrK c L rs rest' a' p/\rest'.length=rest.length:=by
 obtain⟨rest',e,pm⟩:=pf.list h.e
 exact⟨rest',⟨e,(Wfe.toList pf.perm).trans h.pm,h.so,h.ne,h.pd⟩,pm.length_eq⟩
omit C in
theorem SrK.run {L:List Vi} {rs:List (List Vi)} {rest:List Vi} {a:Array Vi} {p:Array (Nat×Nat×Nat)} {n:Nat} (h:SrK c L rs rest a p) (hn:n<=rest.length) (sg:SgK c a rs.flatten.length (rs.flatten.length+n)):(rest.take n).Pairwise (LeK c):=by
 rw[Wby]
 intro i j hi hj hij
 rw[Wao] at hi hj
 have ek:∀ i (h':i<rest.length),ky a (rs.flatten.length+i)=rest[i]:=fun i h'=>by
  have e:a[rs.flatten.length+i]? = some rest[i]:=by
   rw[<- Waw,h.e,Wag (by omega)]
   simp[h']
  unfold ky
  rw[Wcm,e]
  rfl
 rw[Wcq,Wcq,<- ek i (by omega),<- ek j (by omega)]
 exact sg _ _ (by omega) (by omega) (by omega)
omit C in
theorem SrK.push {L:List Vi} {rs:List (List Vi)} {rest:List Vi} {a:Array Vi} {p:Array (Nat×Nat×Nat)} {n:Nat} (h:SrK c L rs rest a p) (h1:1<=n) (hn:n<=rest.length) (so:(rest.take n).Pairwise (LeK c)):SrK c L (rs++[rest.take n]) (rest.drop n) a (p.push (rs.flatten.length,n,0)):=by
 refine⟨by rw[h.e]; simp,h.pm,fun r hr=>?_,fun r hr=>?_,by simp[h.pd.1],fun i hi=>?_⟩
 ·rcases Xs.mp hr with z | z
  ·exact h.so r z
  ·rw[Xz.mp z]; exact so
 ·rcases Xs.mp hr with z | z
  ·exact h.ne r z
  ·rw[Xz.mp z]; simp; omega
 ·rw[Array.getElem?_push,h.pd.1]
  by_cases g:i=rs.length
  ·subst g
   rw[if_pos rfl]
   refine⟨0,?_⟩
   have:(rs++[rest.take n])[rs.length]'hi=rest.take n:=by simp
   rw[this]
   simp[Web hn]
  ·rw[if_neg g]
   have hi':i<rs.length:=by simp at hi; omega
   obtain⟨pw,e⟩:=h.pd.2 i hi'
   refine⟨pw,?_⟩
   rw[e,Wdu (by omega),Wep hi']
omit C in
theorem SrK.pw {L:List Vi} {rs:List (List Vi)} {rest:List Vi} {a:Array Vi} {p:Array (Nat×Nat×Nat)} {k:Nat} (h:SrK c L rs rest a p) (i:Nat):SrK c L rs rest a (p.modify i fun(x,y,_)=>(x,y,k)):=by
 refine⟨h.e,h.pm,h.so,h.ne,by simp[h.pd.1],fun j hj=>?_⟩
 obtain⟨pw,e⟩:=h.pd.2 j hj
 rw[Array.getElem?_modify,e]
 split
 ·exact⟨k,rfl⟩
 ·exact⟨pw,rfl⟩
theorem Zu2 {a:Array Vi} {g:Nat} {Q:Unit->Uad->Prop} (hS:∀ x∈a.toList,S x)
  (q:∀ a' p' g',a'.toList.Pairwise (LeK c)->a'.toList.Perm a.toList->Q () (sTK κ a' p' g')):wpS (Vj prog w) A E s sortRuns' Q (sTK κ a #[] g):=by
 have S0:SrK c a.toList [] a.toList a #[]:=⟨by simp,Wdg.refl _,(by simp),(by simp),rfl,fun i hi=>by simp at hi⟩
 have sz:∀ {rs rest a' p},SrK c a.toList rs rest a' p->a'.size=a.size/\rs.flatten.length+rest.length=a.size:=fun {rs rest a' p} h=>by
  have e1:=h.pm.length_eq
  have e2:=congrArg Was h.e
  simp only[Wad,Xp] at e1 e2
  omega
 have hS':∀ {rs rest a' p},SrK c a.toList rs rest a' p->∀ x∈a'.toList,S x:=fun h x hx=>hS x (h.pm.mem_iff.mp hx)
 refine Ve (Ucr ?_)
 refine Ve (Uba (Vy (I:=fun x r st=>∃ rs rest a' p g lo,st=sTK κ a' p g/\r=(none,lo)/\SrK c a.toList rs rest a' p/\lo=rs.flatten.length/\x<=lo) (Q:=fun r st=>∃ rs a' p g lo,st=sTK κ a' p g/\r=(none,lo)/\SrK c a.toList rs [] a' p) ?_ ?_ ⟨[],_,a,_,g,0,rfl,rfl,S0,rfl,Xf _⟩) ?_)
 ·rintro x _ _ hx1 hx2 ⟨rs,rest,a',p,g,lo,rfl,rfl,h,rfl,hx⟩
  obtain⟨z1,z2⟩:=sz h
  by_cases hl:rs.flatten.length ≥ a.size
  ·have:rest=[]:=Wbq.mp (by omega)
   subst this
   exact Zar hl (Vh ⟨rs,a',p,g,_,rfl,rfl,h⟩)
  refine Zap hl (Ve (Zp4 C (lo:=rs.flatten.length) (nrem:=a.size - rs.flatten.length) (hS' h) (by omega) (by omega) fun n a1 n1 n2 pf sg=>?_))
  obtain⟨rest1,h1,l1⟩:=h.tail pf
  have sg1:=h1.run (by omega) sg
  refine sw_R (fun R=>∀ rs' rest' a' p g lo,SrK c a.toList rs' rest' a' p->lo=rs'.flatten.length->rs.flatten.length+1<=lo->R (.yield (none,lo)) (sTK κ a' p g)) (fun rs' rest' a' p g lo h e l=>⟨rs',rest',a',p,g,lo,rfl,rfl,h,e,by omega⟩) ?_
  intro R hR
  dsimp -zeta only
  extract_lets _ jp
  have hj:∀ m a2 rest2,SrK c a.toList rs rest2 a2 p->1<=m->m<=rest2.length->(rest2.take m).Pairwise (LeK c)->wpS (Vj prog w) A E s (jp () m) R (sTK κ a2 p g):=fun m a2 rest2 h2 m1 m2 so=>by
   refine Ve (Ucr ?_)
   extract_lets _ jp2
   have hj2:∀ rs3 a3 p3 g3,SrK c a.toList rs3 rest2 a3 p3->rs3.flatten.length=rs.flatten.length->wpS (Vj prog w) A E s (jp2 ()) R (sTK κ a3 p3 g3):=fun rs3 a3 p3 g3 h3 e3=>by
    have hp:=h3.push m1 m2 so
    rw[e3] at hp
    exact Ve (Ubo (Vh (hR (rs3++[rest2.take m]) _ _ _ _ (rs.flatten.length+m) hp (by rw[List.flatten_append,Xp,e3]; simp[Web m2]) (by omega))))
   clear_value jp2
   dsimp only[sTK,Tdg]
   split
   ·refine Ve (Uba (Vy (I:=fun x r st=>∃ rs3 a3 p3 g3,st=sTK κ a3 p3 g3/\r=(none,())/\SrK c a.toList rs3 rest2 a3 p3/\rs3.flatten.length=rs.flatten.length) (Q:=fun r st=>∃ rs3 a3 p3 g3,st=sTK κ a3 p3 g3/\r=(none,())/\SrK c a.toList rs3 rest2 a3 p3/\rs3.flatten.length=rs.flatten.length) ?_ (fun _ _ z=>z) ⟨rs,a2,p,g,rfl,rfl,h2,rfl⟩) ?_)
    ·rintro x _ _ _ _ ⟨rs3,a3,p3,g3,rfl,rfl,h3,e3⟩
     refine Ve (Ucr ?_)
     dsimp only[sTK,Tdg]
     split
     ·rename_i heq
      have sz3:1<p3.size:=by
       by_cases z:p3.size > 1
       ·exact z
       ·rw[if_neg z] at heq; cases heq
      split
      ·exact Vh ⟨rs3,a3,p3,g3,rfl,rfl,h3,e3⟩
      ·have:=h3.pd.1
       exact Ve (Znt C (fun x hx=>hS x hx) h3 (by omega) fun rs4 a4 p4 g4 h4 e4 e5=>Zap (by simp) (Vh ⟨rs4,a4,p4,g4,rfl,rfl,h4,e5.trans e3⟩))
     ·exact Vh ⟨rs3,a3,p3,g3,rfl,rfl,h3,e3⟩
    ·rintro _ _ ⟨rs3,a3,p3,g3,rfl,rfl,h3,e3⟩
     exact Ve (Ubo (hj2 rs3 a3 _ g3 (h3.pw _) e3))
   ·exact hj2 rs a2 p g h2 rfl
  clear_value jp
  by_cases hm:n<minRun' a.size a.size 0
  ·refine Zar hm ?_
   refine Ve (Udi (Uaj ⟨rfl,?_⟩))
   have za:=pf.size
   refine Ve (Zvu C (lo:=rs.flatten.length) (n:=min (a.size - rs.flatten.length) (minRun' a.size a.size 0)) (ok:=n) (hS' h1) n1 (by omega) (by omega) sg fun a2 pf2 sg2=>Zap (by simp) ?_)
   obtain⟨rest2,h2,l2⟩:=h1.tail pf2
   exact hj (min (a.size - rs.flatten.length) (minRun' a.size a.size 0)) a2 rest2 h2 (by omega) (by omega) (h2.run (by omega) sg2)
  ·exact Zap hm (hj n a1 rest1 h1 n1 (by omega) sg1)
 ·rintro _ _ ⟨rs,rest,a',p,g,lo,rfl,rfl,h,rfl,hx⟩
  obtain⟨z1,z2⟩:=sz h
  have hx:a.size<=rs.flatten.length:=by simpa using hx
  have:rest=[]:=Wbq.mp (by omega)
  subst this
  exact⟨rs,a',p,g,_,rfl,rfl,h⟩
 ·rintro _ _ ⟨rs,a',p,g,lo,rfl,rfl,h⟩
  refine Ve (Uba (Vy (I:=fun x r st=>∃ rs a' p g,st=sTK κ a' p g/\r=(none,())/\SrK c a.toList rs [] a' p/\rs.length+x<=a.size) (Q:=fun r st=>∃ rs a' p g,st=sTK κ a' p g/\r=(none,())/\SrK c a.toList rs [] a' p/\rs.length<=1) ?_ ?_ ⟨rs,a',p,g,rfl,rfl,h,?_⟩) ?_)
  ·rintro x _ _ hx1 hx2 ⟨rs,a',p,g,rfl,rfl,h,l⟩
   have pz:=h.pd.1
   refine Ve (Ucr ?_)
   by_cases h1:p.size<=1
   ·exact Zar h1 (Vh ⟨rs,a',p,g,rfl,rfl,h,by omega⟩)
   refine Zap h1 ?_
   refine Ve (Znt C (fun x hx=>hS x hx) h ?_ fun rs4 a4 p4 g4 h4 e4 e5=>Zap (by simp) (Vh ⟨rs4,a4,p4,g4,rfl,rfl,h4,by omega⟩))
   have ile:∀ (P:Prop) [Decidable P] (i:Nat),(if P then i - 1 else i)<=i:=fun P _ i=>by split<;>omega
   exact Nat.lt_of_le_of_lt (Wds (ile _ (p.size - 2))) (by omega)
  ·rintro _ _ ⟨rs,a',p,g,rfl,rfl,h,l⟩
   exact⟨rs,a',p,g,rfl,rfl,h,by simp at l; omega⟩
  ·obtain⟨z1,z2⟩:=sz h
   have len:∀ (l:List (List Vi)),(∀ r∈l,0<r.length)->l.length<=l.flatten.length:=fun l=>by
    induction l with
    | nil=>simp
    | cons r l ih =>
     intro hl
     have:=ih fun r' h'=>hl r' (by simp[h'])
     have:=hl r (by simp)
     rw[Wbg,Xp,Wbo]
     omega
   have:=len rs h.ne
   simp only[Wbk] at z2
   omega
  ·rintro _ _ ⟨rs,a',p,g,rfl,rfl,h,l⟩
   refine Vh (q a' p g ?_ h.pm)
   rw[h.e,Xn]
   match rs,l,h.so with
   | [],_,_=>exact Tcu
   | [r],_,so=>simpa using so r (by simp)
   | _::_::_,l,_=>simp at l
end
end DL
namespace DL
open PySem PySem.Spec PyProof.Rows L2
theorem Zmu:∀ {a b:List Int},HT.lexLt a b=true->HT.lexLt b a=false
 | [],[],h=>by simp[HT.lexLt] at h
 | [],_::_,_=>by simp[HT.lexLt]
 | _::_,[],h=>by simp[HT.lexLt] at h
 | x::a,y::b,h=>by
  rw[HT.lexLt_cons] at h ⊢
  by_cases e:x=y
  ·subst e
   rw[if_pos rfl] at h ⊢
   exact Zmu h
  ·rw[if_neg e] at h
   rw[if_neg (Uf e)]
   simp at h ⊢
   omega
theorem Zov:∀ {a b c:List Int},HT.lexLt b a=false->HT.lexLt c b=false->HT.lexLt c a=false
 | [],b,c,_,_=>by cases c<;>simp[HT.lexLt]
 | _::_,[],_,h,_=>by simp[HT.lexLt] at h
 | _::_,_::_,[],_,k=>by simp[HT.lexLt] at k
 | x::a,y::b,z::c,h,k=>by
  rw[HT.lexLt_cons] at h k ⊢
  by_cases e:y=x
  ·subst e
   rw[if_pos rfl] at h
   by_cases f:z=y
   ·subst f
    rw[if_pos rfl] at k ⊢
    exact Zov h k
   ·rw[if_neg f] at k ⊢
    exact k
  ·rw[if_neg e] at h
   by_cases f:z=y
   ·subst f
    rw[if_neg e]
    exact h
   ·rw[if_neg f] at k
    simp at h k
    rw[if_neg (by omega)]
    simp
    omega
theorem Zry:∀ {a b:List Int},HT.lexLt a b=false->HT.lexLt b a=false->a=b
 | [],[],_,_=>rfl
 | [],_::_,h,_=>by simp[HT.lexLt] at h
 | _::_,[],_,h=>by simp[HT.lexLt] at h
 | x::a,y::b,h,k=>by
  rw[HT.lexLt_cons] at h k
  by_cases e:x=y
  ·subst e
   rw[if_pos rfl] at h k
   rw[Zry h k]
  ·rw[if_neg e] at h
   rw[if_neg (Uf e)] at k
   simp at h k
   omega
nonrec def Zjh (nss:List (List Int)):List (List Int):=nss.mergeSort fun a b => !HT.lexLt b a
theorem Zjc (nss:List (List Int)):(Zjh nss).Perm nss:=List.mergeSort_perm _ _
theorem Zqf {xs nss:List (List Int)} (h:xs.Pairwise fun a b=>HT.lexLt b a=false) (p:xs.Perm nss):xs=Zjh nss:=by
 refine Wdg.eq_of_pairwise (le:=fun a b=>HT.lexLt b a=false) (fun a b _ _ h1 h2=>Zry h2 h1) h ?_ (p.trans (Zjc nss).symm)
 have:=List.pairwise_mergeSort (le:=fun a b => !HT.lexLt b a) (fun a b c h1 h2=>by simp at h1 h2 ⊢; exact Zov h1 h2) (fun a b=>by
  cases e:HT.lexLt b a with
  | false=>simp
  | true=>simp[Zmu e]) nss
 exact this.imp fun h=>by simpa using h
theorem Ze9.one {h:Uab} {v:Vb} {ns ms:List Int} (x:Ze9 h v ns) (y:Ze9 h v ms):ns=ms:=by
 obtain⟨a,its,rfl,⟨o,e1,_,n,e2⟩,hi⟩:=x
 obtain⟨b,jts,e,⟨o',f1,_,n',f2⟩,hj⟩:=y
 cases e
 rw[e1] at f1
 cases f1
 rw[e2] at f2
 cases f2
 have go:∀ {vs:List Vb} {ns ms:List Int},Ubb vs ns->Ubb vs ms->ns=ms:=by
  intro vs ns ms h
  induction h generalizing ms with
  | nil=>intro k; cases k; rfl
  | cons a t h ih=>intro k; cases k with | cons b u k=>rw[ih k]
 exact go hi hj
nonrec def Zj0 (h:Uab) (v:Vb):List Int:=open Classical in if z:∃ ns,Ze9 h v ns then z.choose else []
theorem Zg2 {h:Uab} {v:Vb} {ns:List Int} (x:Ze9 h v ns):Zj0 h v=ns:=by
 have z:∃ ns,Ze9 h v ns:=⟨ns,x⟩
 unfold Zj0
 rw[dif_pos z]
 exact Ze9.one z.choose_spec x
section
variable {prog:Vl} {w:Vt} {A:Vu} {E:Vb->Vd->Prop} {s:Vd}
theorem Zkx {F:Vb->List Int->Prop}:∀ {vs:List Vb} {nss:List (List Int)} {f:Vb->List Int},Vm F vs nss->(∀ v ns,F v ns->f v=ns)->vs.map f=nss
 | _,_,_,.nil,_=>rfl
 | _,_,_,.cons h t,g=>by rw[Wab,g _ _ h,Zkx t g]
theorem Zsu {F:Vb->List Int->Prop}:∀ {vs:List Vb} {nss:List (List Int)},Vm F vs nss->∀ v∈vs,∃ ns,F v ns
 | _,_,.nil,v,h=>by cases h
 | _,_,.cons h t,v,hv=>by
  rcases Xl.mp hv with rfl | z
  ·exact⟨_,h⟩
  ·exact Zsu t v z
theorem Zqx {a:Vg} {vs:List Vb} {nss:List (List Int)} {n:Nat} {P:Tdi->Vd->Prop} (g0:s.heap.get? a=some (Uce "list" vs.toArray n)) (hl:vs.length<=1000000) (hu:A.units+1<cLine) (hv:Vm (Ze9 s.heap) vs nss)
  (q:∀ h' c (out:List Vb),out.Perm vs->(∀ rd:Vb->List Int,(∀ v∈vs,Ze9 s.heap v (rd v))->out.map rd=Zjh nss)->(∀ b o,b≠a->s.heap.get? b=some o->h'.get? b=some o)->h'.get? a=some (Uce "list" out.toArray c)->P (.done (.ret .none)) { s with heap:=h' }):Vf (Vj prog w) A (Builtin.«list.sort» ⟨[.ref a],[]⟩) P E s:=by
 have sz:sizeLine=16777216:=Uck
 have t1:=Xm.update s.heap a (Tbb fun _=>(#[]:Array Vb))
 obtain⟨c1,g1⟩:∃ c,(s.heap.update a (Tbb fun _=>(#[]:Array Vb))).get? a=some (Uce "list" #[] c):=⟨_,get?_update_seq g0 fun _ => #[]⟩
 let h3:Uab:=((s.heap.update a (Tbb fun _=>(#[]:Array Vb))).push (Uce "tuple" vs.toArray 0)).push (Uce "list" #[] 0)
 have g3:h3.get? a=some (Uce "list" #[] c1):=Xa _ (Xa _ g1)
 have ta:∀ b its,Ucw s.heap b its->b≠a:=fun b its ⟨o,e1,e2,n,e3⟩ z=>by
  subst z
  rw[g0] at e1
  cases e1
  exact absurd (show Ul "list" = Ul "tuple" from e2) (by decide)
 have hv3:Vm (Ze9 h3) vs nss:=Prd.imp hv fun v ns _ z=>z.mv fun b its _ ht o e=>Xa _ (Xa _ (t1.extBut b o (ta b its ht) e))
 have fin:∀ (arr:Array Vi) (st:Uad),arrOf st=arr->failedOf st=none->arr.toList.Pairwise (fun x y=>HT.lexLt (Zj0 h3 y.1) (Zj0 h3 x.1)=false)->arr.toList.Perm (vs.toArray.zip vs.toArray).toList->Vf (Vj prog w) A (do
   let touched:=(<- seqEpoch a) != c1
   Builtin.List.listUpdate (.ref a) fun _=>(arrOf st).map (·.2)
   if let some e:=failedOf st then rule "list.sort.comparison-raised"; throw e
   if touched then rule "list.sort.modified"; raiseError "ValueError" "list modified during sort"
   ret .none) P E { s with heap:=h3 }:=fun arr st ea ef pw pm=>by
  have ez:(vs.toArray.zip vs.toArray).toList=vs.zip vs:=by simp
  rw[ez] at pm
  have dg:∀ x∈arr.toList,x.1=x.2:=fun x hx=>by
   have:=pm.mem_iff.mp hx
   rw[List.zip_eq_zipWith,Waf] at this
   obtain⟨i,hi,rfl⟩:=this
   simp
  have p2:(arr.toList.map (·.2)).Perm vs:=by
   have:=pm.map (·.2)
   rwa [List.map_snd_zip (Xf _)] at this
  have el:(arrOf st).map (·.2)=(arr.toList.map (·.2)).toArray:=by rw[ea]; apply Array.toList_inj.mp; simp
  have ll:(arr.toList.map (·.2)).length=vs.length:=p2.length_eq
  have t2:=Xm.update h3 a (Tbb fun _=>(arr.toList.map (·.2)).toArray)
  obtain⟨c2,g2⟩:∃ c,(h3.update a (Tbb fun _=>(arr.toList.map (·.2)).toArray)).get? a=some (Uce "list" (arr.toList.map (·.2)).toArray c):=⟨_,get?_update_seq g3 fun _=>(arr.toList.map (·.2)).toArray⟩
  rw[el,ef]
  refine Va (seqEpoch_at g3 rfl (Va (listUpdate_at (f:=fun _=>(arr.toList.map (·.2)).toArray) g3 rfl ?_ (Wbx _) (by rw[Xj,ll]; omega))))
  show Vf _ _ (if (c1 != c1)=true then _ else _) _ _ _
  rw[if_neg (by simp)]
  refine Vc (q _ c2 _ p2 (fun rd hrd=>?_) (fun b o hb e=>t2.extBut b o hb (Xa _ (Xa _ (t1.extBut b o hb e)))) g2)
  have e3:∀ v∈vs,rd v=Zj0 h3 v:=fun v hv'=>by
   have:=hrd v hv'
   obtain⟨b,its,rfl,ht,_⟩:=id this
   refine(Zg2 (this.mv fun b its e ht o e'=>Xa _ (Xa _ (t1.extBut b o (ta b its ht) e')))).symm
  have e4:(arr.toList.map (·.2)).map rd=arr.toList.map fun x=>Zj0 h3 x.1:=by
   rw[Wal]
   refine Wdb fun x hx=>?_
   show rd x.2=_
   rw[dg x hx,e3 x.2 (p2.mem_iff.mp (Xw.mpr ⟨x,hx,rfl⟩))]
  rw[e4]
  refine Zqf ?_ ?_
  ·rw[Wfx]
   exact pw
  ·have:=pm.map fun x:Vi=>Zj0 h3 x.1
   refine this.trans (Wdg.of_eq ?_)
   rw[show (fun x:Vi=>Zj0 h3 x.1)=Zj0 h3 ∘ Prod.fst from rfl,<- Wal,List.map_fst_zip (Xf _)]
   exact Zkx hv3 fun v ns h=>Zg2 h
 rw[list_sort_plain]
 refine Va (listItems_at g0 rfl (Va (listUpdate_at g0 rfl (Va (seqEpoch_at g1 rfl (Va (Ubp (Va (Udz (Vs ?_) (Wbx _))) (show vs.length<=_ by omega))))) (by rw[Xj]; omega) (Wbx _))))
 show Vf (Vj prog w) A _ P E { s with heap:=h3 }
 dsimp only
 by_cases few:vs.toArray.size<2
 ·rw[if_pos few,if_pos few]
  refine Va (Vc (Va (Vc ?_)))
  dsimp only
  refine fin _ _ rfl rfl ?_ (Wdg.refl _)
  have:(vs.toArray.zip vs.toArray).toList.length<2:=by simpa using few
  generalize (vs.toArray.zip vs.toArray).toList=l at this
  match l,this with
  | [],_=>exact .nil
  | [_],_=>exact List.pairwise_singleton ..
  | _::_::_,h=>simp at h; omega
 ·rw[if_neg few,if_neg few]
  refine Va (Zq9 (s:={ s with heap:=h3 }) hv3 (by simp at few; omega) fun κ hκ=>?_)
  have C:CmpK (Vj prog w) A { s with heap:=h3 } κ (fun x=>∃ ns,Ze9 h3 x.1 ns) (fun x y=>HT.lexLt (Zj0 h3 x.1) (Zj0 h3 y.1)):=⟨fun x y Q E hx hy q=>by
   obtain⟨ns,hx⟩:=hx
   obtain⟨ms,hy⟩:=hy
   rw[Zg2 hx,Zg2 hy] at q
   exact Zvo (s:={ s with heap:=h3 }) hu hκ hx hy q,fun x y z h k=>Zov h k,fun x y h=>Zmu h⟩
  refine Va (Ube (Zu2 (E:=E) C (a:=vs.toArray.zip vs.toArray) (g:=7) (Q:=fun _ st=>∃ arr,arrOf st=arr/\failedOf st=none/\arr.toList.Pairwise (fun x y=>HT.lexLt (Zj0 h3 y.1) (Zj0 h3 x.1)=false)/\arr.toList.Perm (vs.toArray.zip vs.toArray).toList) (fun x hx=>?_) fun a' p' g' h1 h2=>⟨a',rfl,rfl,h1,h2⟩) ?_ fun _ _ e=>e)
  ·have ez:(vs.toArray.zip vs.toArray).toList=vs.zip vs:=by simp
   rw[ez] at hx
   exact Zsu hv3 _ (Wea (a:=x.1) (b:=x.2) hx).1
  ·rintro⟨⟨⟩,st⟩ s' ⟨rfl,arr,e1,e2,e3,e4⟩
   exact fin arr st e1 e2 e3 e4
end
section
variable {prog:Vl} {w:Vt} {A:Vu} {E:Vb->Vd->Prop} {s:Vd}
theorem Zmq {d L:Vg} {m:Str->Option Vb} {es:Array Uav} {ep:Nat} {nss:List (List Int)} {Q:Vb->Vd->Prop} (hn:s.heap.Ns L m) (hh:A.handled=none) (hu:A.units+4<cLine) (x:Zux d es ep s.heap) (hv:Vm (Ze9 s.heap) (es.toList.map (·.key)) nss) (hz:es.size<=1000000)
  (h:∀ h' tk D c (out:List Vb),out.Perm (es.toList.map (·.key))->(∀ rd:Vb->List Int,(∀ v∈es.toList.map (·.key),Ze9 s.heap v (rd v))->out.map rd=Zjh nss)->h'.Ns L m->(∀ b o,b≠L->s.heap.get? b=some o->h'.get? b=some o)->s.heap.objs.size<=D->h'.get? D=some (Uce "list" out.toArray c)->Q (.ref D) { s with heap:=h',toks:=tk }) :
  Vf (Vj prog w) A (call (.builtin "sorted") [.ref d]) Q E s:=by
 have sz:sizeLine=16777216:=Uck
 have lt:=hn.lt
 refine Calls.call_function_entry kind_sorted plain_sorted entry_sorted (args_sorted1 _) ?_
 unfold Builtin.«sorted»
 refine Va (m:=checkCount "sorted" 1 1 _) (Vc (Va (Zj9 (show A.in1.handled=none from hh) x (by omega) fun h1 tk k1 le=>Va (Udz ?_ (by simp; omega)))))
 generalize ev:es.toList.map (·.key)=vs at *
 have lv:vs.length=es.size:=by rw[<- ev]; simp
 let h2:Uab:=h1.push (Uce "list" vs.toArray 0)
 have at2:h2.get? h1.objs.size=some (Uce "list" vs.toArray 0):=Xe _ rfl
 have kp:∀ b o,s.heap.get? b=some o->h2.get? b=some o:=fun b o e=>Xa _ (k1 b o e)
 have ltD:∀ b o,s.heap.get? b=some o->b≠h1.objs.size:=fun b o e=>Xh (Xi (Xd e) le)
 have LD:h1.objs.size≠L:=Uf (Xh (Xi lt le))
 have up:∀ v ns,Ze9 s.heap v ns->Ze9 h2 v ns:=fun v ns z=>z.mv fun a its _ _ o e=>kp a o e
 show Vf _ _ _ _ _ { s with heap:=h2,toks:=tk }
 refine Va (Vs (Vr (s:={ s with heap:=h2,toks:=tk }) slot_list_sort ⟨_,at2,rfl⟩ entry_list_sort ?body (args_list_sort _)))
 case body =>
  refine Zqx (s:={ s with heap:=h2,toks:=tk }) (nss:=nss) at2 (by omega) (show A.in1.in1.units+1<cLine by simp; omega) (Prd.imp hv fun v ns _ z=>up v ns z) fun h' c out p1 p2 k' g'=>⟨_,rfl,Vc ⟨_,rfl,h h' tk _ c out p1 (fun rd hr=>p2 rd fun v hv=>up v _ (hr v hv)) (hn.at' fun o e=>k' _ _ (Uf LD) (kp _ _ e)) (fun b o _ e=>k' b o (ltD b o e) (kp b o e)) le g'⟩⟩
end
nonrec def Zvi (ns:List Int):D:=.tup (ns.map .int)
nonrec def Zgw:FF:=fun ds H=>match ds with
 | [.ref n]=>match H[n]? with
  | some (.dic kvs _)=>(Zlm (kvs.map (·.1))).bind fun nss=>if kvs.length<=1000000 then some (.ref H.length,H++[.lst ((Zjh nss).map Zvi)]) else none
  | _=>none
 | _=>none
theorem Zrf:∀ {ds:List D} {ns:List Int},Zd2 ds=some ns->ds=ns.map .int:=by
 intro ds
 induction ds with
 | nil=>intro ns h; cases h; rfl
 | cons d r ih =>
  intro ns h
  cases d<;>first | cases h | skip
  rename_i n
  unfold Zd2 at h
  obtain⟨t,e,rfl⟩:=Zm h
  rw[ih e]
  rfl
section
variable {X:Cx} {pins:List (Vg×Obj)} {σ:L2.St} {H:Hp} {s:Vd} {ι:List Vg}
theorem Zh4 (I:Inv X pins σ H s):∀ {ds:List D} {as:List Vg} {nss:List (List Int)},Zlm ds=some nss->Vm (Rep X.K H ι) ds (as.map V.ref)->∀ a∈as,∃ ns,Ze9 s.heap (.ref a) ns/\Rep X.K H ι (Zvi ns) (.ref a)
 | [],as,nss,e,p=>by
  cases as with
  | nil=>intro a h; cases h
  | cons a r=>cases p
 | d::ds,as,nss,e,p=>by
  obtain⟨ns,e1,e⟩:=Zo e
  obtain⟨t,e2,rfl⟩:=Zm e
  cases as with
  | nil=>cases p
  | cons a r =>
   rw[Wab] at p
   cases p with
   | cons p1 p2 =>
    intro b hb
    rcases Xl.mp hb with rfl | hb
    ·unfold rowI at e1
     split at e1
     ·have ed:=Zrf e1
      subst ed
      refine⟨ns,?_,p1⟩
      obtain⟨b,vs,eb,sq,P⟩:=Zan.mp p1
      cases eb
      have ev:=Zfr e1 P
      subst ev
      obtain⟨its,ri,ht,_⟩:=I.tuple sq
      exact⟨_,_,rfl,ht,by simpa using Zg4 ri⟩
     ·cases e1
    ·exact Zh4 I e2 p2 b hb
theorem Zty:∀ {out:List Vb} {as:List Vg},out.Perm (as.map Ud)->∃ bs:List Vg,out=bs.map Ud/\∀ b∈bs,b∈as
 | [],_,_=>⟨[],rfl,fun _ h=>by cases h⟩
 | v::r,as,p=>by
  have go:∀ (l:List Vb),(∀ v∈l,v∈as.map Ud)->∃ bs:List Vg,l=bs.map Ud/\∀ b∈bs,b∈as:=by
   intro l
   induction l with
   | nil=>exact fun _=>⟨[],rfl,fun _ h=>by cases h⟩
   | cons v r ih =>
    intro h
    obtain⟨bs,e,hb⟩:=ih fun v hv=>h v (Wam _ hv)
    obtain⟨b,hb1,rfl⟩:=Xw.mp (h v (Wcg ..))
    exact⟨b::bs,by rw[e]; rfl,fun x hx=>by
     rcases Xl.mp hx with rfl | z
     ·exact hb1
     ·exact hb x z⟩
  exact go _ fun v hv=>p.mem_iff.mp hv
end
section
variable {X:Cx}
theorem Zgg (hc:X.calm=true) (hu:X.A.units+64<cLine):Zgn X (.builtin "sorted") Zgw:=by
 rintro pins s σ H xs us Q I rv ⟨ι,ds,Hd,d,Hd',hr,P,e,q⟩
 unfold Zgw at e
 split at e
 ·rename_i n
  split at e
  ·rename_i kvs fz eo
   obtain⟨nss,e1,e⟩:=Zo e
   split at e
   ·rename_i hlen
    obtain⟨v,rfl,r⟩:=Zji P
    obtain⟨a,rfl,ha⟩:=Zao.mp r
    obtain⟨u,rfl,ru⟩:=rv.one
    cases ru
    obtain⟨h1,h2,ys,h3,PK,dd⟩:=Zr0 I (hr.obj n a _ ha eo)
    obtain⟨o,es,ep,g1,g2,g3,g4,g5,g6⟩:=dd
    have PR:=Zm1 PK
    have ek:es.toList.map (·.key)=(ys.map fun x=>x.2.1).map Ud:=by rw[g4,Wal,Wal]; rfl
    have er:(ys.map fun x=>V.ref x.2.1)=(ys.map fun x=>x.2.1).map V.ref:=by rw[Wal]; rfl
    rw[er] at PR
    have ly:ys.length=kvs.length:=(Prd.len PK).symm
    have ls:es.size=ys.length:=by rw[<- Wad,g4,Wap]
    obtain⟨m,hn,_⟩:=I.loc
    have hv:=Zi5 I e1 PR
    have hp:=Zh4 I e1 PR
    refine Zmq hn (I.ok.hd hc) (by omega) ⟨h1,o,g1,g2,g3⟩ (by rw[ek]; exact hv) (by omega) fun h' tk Da c out p1 p2 hn' kk hD hat=>?_
    rw[ek] at p1 p2
    obtain⟨as,rfl,hin⟩:=Zty p1
    have la:as.length=kvs.length:=by
     have:=p1.length_eq
     simp only[Wap] at this
     omega
    have eo2:=p2 (Zj0 s.heap) fun v hv'=>by
     obtain⟨b,hb,rfl⟩:=Xw.mp hv'
     obtain⟨ns,t1,_⟩:=hp b hb
     rw[Zg2 t1]
     exact t1
    have PS:Vm (Rep X.K H ι) ((Zjh nss).map Zvi) (as.map V.ref):=by
     rw[<- eo2,Wal,Wal]
     refine Zuc fun b hb=>?_
     obtain⟨ns,t1,t2⟩:=hp b (hin b hb)
     show Rep X.K H ι (Zvi (Zj0 s.heap (.ref b))) (.ref b)
     rw[Zg2 t1]
     exact t2
    have sz:sizeLine=16777216:=Uck
    have va:Za9 (as.map V.ref) (as.map Ud):=by
     clear hat PS la eo2 hin p1 p2
     induction as with
     | nil=>exact .nil
     | cons b r ih=>exact .cons rfl ih
    have hl:(as.map V.ref).length<=sizeLine:=by rw[Wap]; omega
    refine⟨.ref Da,_,Znw (o:=.lst (as.map V.ref)) I kk (fun m' hm'=>by rw[hm'.eq_nsMap,<- hn.eq_nsMap]; exact hn') hD ⟨hl,as.map Ud,c,va,hat⟩,rfl,?_⟩
    have hz2:((Zjh nss).map Zvi).length<=sizeLine:=by rw[Prd.len PS,Wap]; omega
    exact(Zgc hr PS (show mkL ((Zjh nss).map Zvi) Hd=some (d,Hd') by unfold mkL; rw[if_pos hz2,e]) (fun v H' ι' l h r=>q v H' ι' l h r)).2 _ (I.hok.fresh hD)
   ·cases e
  ·cases e
 ·cases e
end
nonrec def ikz:List D->List D->Option (List (Int×D))
 | .int k::ks,v::vs=>(ikz ks vs).map fun t=>(k,v)::t
 | [],_=>some []
 | _::_,[]=>some []
 | _,_=>none
nonrec def eDZI (f:AF):EF:=fun σ H=>(f σ H).bind fun p=>match p.1 with
 | [d1,d2]=>(Zq6 d1 p.2).bind fun a=>(Zq6 d2 p.2).bind fun b=>(ikz a.1 b.1).bind fun ps=>if ps.length<sizeLine then some (.ref p.2.length,p.2++[.dci (Zl7 ps)]) else none
 | _=>none
section
variable {X:Cx}
theorem Zi6 {pins:List (Vg×Obj)} {σ:L2.St} {H:Hp} {s:Vd} {ι:List Vg} (I:Inv X pins σ H s):∀ {xs ys:List D} {kvs:List (Int×D)} {vs ws:List V} {us zs:List Vb},ikz xs ys=some kvs->Vm (Rep X.K H ι) xs vs->Za9 vs us->Vm (Rep X.K H ι) ys ws->Za9 ws zs ->
  ∃ ps:List (Int×Vb),ps.length=min us.length zs.length/\Vm (Zlv X.K H ι) kvs ps/\∀ (i:Nat) (x y:Vb),us[i]? = some x->zs[i]? = some y->∃ k tok,x=.int k tok/\ps[i]? = some (k,y)
 | [],ys,kvs,_,ws,_,zs,e,.nil,.nil,_,_=>by
  simp only[ikz] at e
  cases e
  exact⟨[],by simp,.nil,fun i x y h=>by simp at h⟩
 | _::_,[],kvs,_,_,_,_,e,.cons _ _,.cons _ _,.nil,.nil=>by
  have:kvs=[]:=by
   unfold ikz at e
   split at e
   ·rename_i h; cases h
   ·cases e; rfl
   ·cases e; rfl
   ·cases e
  subst this
  exact⟨[],by simp,.nil,fun i x y _ h=>by simp at h⟩
 | kd::xs,vd::ys,kvs,v0::vs,w0::ws,u0::us,u2::zs,e,.cons p P,.cons q W,.cons p2 P2,.cons q2 W2=>by
  unfold ikz at e
  split at e
  ·rename_i k ks v vs' he he2
   obtain⟨rfl,rfl⟩:=Wbf.inj he
   obtain⟨rfl,rfl⟩:=Wbf.inj he2
   obtain⟨t,e1,rfl⟩:=Zm e
   obtain⟨ps,l,PP,hx⟩:=Zi6 I e1 P W P2 W2
   simp at p
   subst p
   obtain⟨tok,rfl⟩:=q
   refine⟨(k,u2)::ps,by simp[l],.cons ⟨rfl,_,q2,p2⟩ PP,fun i x y h h2=>?_⟩
   cases i with
   | zero=>simp at h h2; subst h; subst h2; exact⟨k,tok,rfl,rfl⟩
   | succ i =>
    simp at h h2
    obtain⟨k',t',h1,h3⟩:=hx i x y h h2
    exact⟨k',t',h1,by simpa using h3⟩
  ·rename_i h; cases h
  ·rename_i h; cases h
  ·cases e
theorem Ztl {a b:Uac} {f:AF} {p p2 pos pos2:Pos} (hc:X.calm=true) (hu:X.A.units+64<cLine) (hgd:Gl X "dict") (hmd:X.mg "dict" = none) (hg:Gl X "zip") (hm:X.mg "zip" = none) (ha:PAf X [a,b] f)
  (hs:Vk [a,b] X.env=[(false,eval a X.env),(false,eval b X.env)]:=by rfl) (hs2:Vk [b] X.env=[(false,eval b X.env)]:=by rfl)
  (he:Vk [Tdj (.Name "zip" p2) [a,b] [] pos2] X.env=(false,eval (Tdj (.Name "zip" p2) [a,b] [] pos2) X.env)::Vk [] X.env:=by rfl)
  (hpl:(Uau pos (Vk [] X.env)).any (·.1)=false:=by rfl):PEf X (.Call (.Name "dict" p) [.Call (.Name "zip" p2) [a,b] [] pos2] [] pos) (eDZI f):=by
 rintro pins s σ H Q I ⟨ι,σd,Hd,d,Hd',sr,hr,e,q⟩
 obtain⟨⟨ds,H1⟩,e1,e⟩:=Zo e
 dsimp only at e
 split at e
 ·rename_i d1 d2
  obtain⟨⟨us,ow1⟩,en,e⟩:=Zo e
  obtain⟨⟨vs,ow2⟩,em,e⟩:=Zo e
  obtain⟨kvs,ek,e⟩:=Zo e
  split at e
  ·rename_i hlen
   cases e
   refine Ubi (Zdk I hgd hmd Zjo ?_)
   refine Uh ?_ he hpl
   rw[he]
   show Vf _ _ (spliced ((false,eval (Tdj (.Name "zip" p2) [a,b] [] pos2) X.env)::Uau pos (Vk [] X.env))) _ _ s
   refine Tck ?_
   refine Call_ (Zdk I hg hm boot_zip (Uh (thn (ha pos2 pins s σ H (fun ws H'=>∃ ι',Le X.K H ι H' ι'/\HRep X.K H' ι' H1/\Vm (Rep X.K H' ι') [d1,d2] ws) I ⟨ι,σd,Hd,_,_,sr,hr,e1,fun ws H' ι' l h P=>⟨ι',l,h,P⟩⟩) fun us' s1 ⟨ws,H2,I2,r2,ι',L,hr2,PP⟩=>?_) (by rw[hs,hs2]) (by rw[hs2]; rfl)))
   obtain⟨v,v',rfl,r,r'⟩:=Zvf PP
   obtain⟨c1,l1,rfl,at1⟩:=Zsp r en
   obtain⟨c2,l2,rfl,at2⟩:=Zsp r' em
   obtain⟨ws1,o1,P1⟩:=at1 H2 ι' H1 Le.refl hr2 (Zkz en)
   obtain⟨ws2,o2,P2⟩:=at2 H2 ι' H1 Le.refl hr2 (Zkz em)
   obtain⟨u1,u2,rfl,ru1,ru2⟩:=Zs6 r2
   cases ru1
   cases ru2
   obtain⟨its,rv1,p1⟩:=Zpj I2 o1
   obtain⟨jts,rv2,p2'⟩:=Zpj I2 o2
   obtain⟨ps,lp,PT,hps⟩:=Zi6 I2 ek P1 rv1 P2 rv2
   refine Znb p1 p2' fun hz0 hz hTI hTO hi1 hi2 kk=>?_
   refine Tcr ?_
   have ll1:l1<s1.heap.objs.size:=let ⟨_,e,_⟩:=p1; Xd e
   have ll2:l2<s1.heap.objs.size:=let ⟨_,e,_⟩:=p2'; Xd e
   have ne:∀ {i j:Nat},i≠j->(s1.heap.objs.size+i:Nat)≠s1.heap.objs.size+j:=fun h z=>h (Nat.add_left_cancel z)
   have nl:∀ {l:Vg} (i:Nat),l<s1.heap.objs.size->l≠s1.heap.objs.size+i:=fun i h z=>absurd h (by rw[z]; exact Nat.not_lt.mpr (Nat.le_add_right _ _))
   have Ap:Ubd (s1.heap.objs.size+4) (s1.heap.objs.size+2) (s1.heap.objs.size+3) s1.heap.objs.size (s1.heap.objs.size+1) l1 l2 :=
    ⟨ne (by decide),ne (by decide),ne (i:=0) (by decide),ne (by decide),ne (by decide),ne (j:=0) (by decide),ne (by decide),ne (j:=0) (by decide),ne (by decide),ne (i:=0) (by decide),nl 4 ll1,nl 3 ll1,nl 0 ll1,nl 1 ll1,nl 4 ll2,nl 3 ll2,nl 0 ll2,nl 1 ll2⟩
   have hb:Uai<s1.heap.objs.size:=Wfb (by decide) (show Vw<s1.heap.objs.size from(I2.mod.glob.keeps I2.bk).lt)
   have sz0:s1.heap.objs.size+4<hz0.objs.size:=Xd hz
   have hle:s1.heap.objs.size<=hz0.objs.size:=by omega
   have nz:∀ i:Nat,i<=4->(hz0.objs.size:Nat)≠s1.heap.objs.size+i:=fun i hi z=>by omega
   have hp:=I2.hok.fresh hle
   have lk:ps.length=kvs.length:=(Prd.len PT).symm
   refine Zmb (A:=X.A) (s:={ s1 with heap:=hz0 }) (xs:=its.toArray) (ys:=jts.toArray) (Gd:=fun i h=>(∀ b o,s1.heap.get? b=some o->h.get? b=some o)/\h.DictOf (Zpq X.prog X.w) hz0.objs.size (Zdy ps i)) (I.ok.hd hc) Ap hz hTI ⟨_,_,hTO⟩ hi1 hi2 (p1.mv fun o e=>kk _ _ e) (p2'.mv fun o e=>kk _ _ e) ?_ ?_ ?_ ?_
   ·intro h' k
    refine⟨fun b o e=>k b o (Xa _ (kk b o e)),?_⟩
    obtain⟨o,es,ep,e2,r2⟩:=Heap.DictOf.new (knd:=Zpq X.prog X.w) hz0
    exact⟨o,es,ep,k _ _ e2,r2⟩
   ·rintro i h h' ⟨g1,g2⟩ k
    have k':∀ b o,b<s1.heap.objs.size->h.get? b=some o->h'.get? b=some o:=fun b o l e=>k b o (nl 4 l) (nl 3 l) (nl 0 l) (nl 1 l) e
    refine⟨fun b o e=>k' b o (Xd e) (g1 b o e),?_⟩
    obtain⟨o,es,ep,e2,r2⟩:=g2
    exact⟨o,es,ep,k _ _ (Uf (Xh sz0)) (nz 3 (by decide)) (nz 0 (by decide)) (nz 1 (by decide)) e2,r2⟩
   ·rintro i x y zz hx hy ⟨g1,g2⟩ Q2 E2 qq
    obtain⟨k,tok,rfl,hp2⟩:=hps i x y (by simpa using hx) (by simpa using hy)
    have hi:i<ps.length:=(Xc.mp hp2).1
    refine wpAny_dictSet_pairs (knd:=Zpq X.prog X.w) (k:=k) (Zf6 (k:=k) (t:=tok)) g2 (fun h' d' sb=>?_) (by have:=Zeb ps i; omega)
    refine qq h' _ ⟨fun b o e=>sb.extBut b o (Xh (Xi (Xd e) hle)) (g1 b o e),?_⟩ sb
    rw[Zg6 hp2]; exact d'
   ·rintro h' tk ⟨g1,g2⟩
    have ez:min its.toArray.size jts.toArray.size=ps.length:=by simp[lp]
    rw[ez] at g2
    have d3:=Zmc g2
    have ok:Zcr X.prog X.w (upd H2 hz0.objs.size (.ext (Zgq hz0.objs.size (Zdy ps ps.length)))) h' hz0.objs.size (.ext (Zgq hz0.objs.size (Zdy ps ps.length))):=by
     obtain⟨o,es,ep,e2,r2⟩:=id g2
     exact⟨d3,⟨o,e2⟩,fun h1 h2 d k=>Zgq.keep d k⟩
    refine⟨.ref hz0.objs.size,_,I2.laid (a:=hz0.objs.size) (o:=.ext (Zgq hz0.objs.size (Zdy ps ps.length))) (t':=tk) g1 hle ok,rfl,?_⟩
    have hl2:ι'.length=H1.length:=hr2.len
    have L2:=Le.fresh1 (K:=X.K) (ι:=ι') hp (.ext (Zgq hz0.objs.size (Zdy ps ps.length)))
    have PA:=Zph PT
    refine q _ _ (ι'++[hz0.objs.size]) (L.trans L2) (hr2.new hp ⟨beq_eq_false_iff_ne.mpr (Uf (Xh (Xi hb hle))),?_,_,Zas,Prd.imp PA fun p x _ z=>⟨z.1,let ⟨v,z1,z2⟩:=z.2; ⟨v,z1,z2.mono L2⟩⟩⟩) (Zao.mpr ⟨_,rfl,by rw[<- hl2]; simp⟩)
    have:=Zeb ps ps.length
    rw[Prd.len PA]; omega
  ·cases e
 ·cases e
end
end DL
namespace DL
open PySem L2
theorem Zex {n:Nat} (h:n<=1000000):n<=sizeLine:=by rw[Uk]; omega
theorem Zfm {xs:List D} {i:Int} {d:D} (h0:0<=i) (h:xs[i.toNat]? = some d):atI xs i=some d:=by
 have:i=(i.toNat:Int):=by omega
 rw[this]; exact Zcb h
end DL
namespace LH
open PySem L2 DL
structure ExtS (S:List Nat) (H H':HD):Prop where
 old:∀ m o,m∉S->H[m]? = some o->H'[m]? = some o
 len:H.length<=H'.length
theorem ExtS.trans {S:List Nat} {H H1 H2:HD} (a:ExtS S H H1) (b:ExtS S H1 H2):ExtS S H H2:=⟨fun m o h q=>b.old m o h (a.old m o h q),Xq a.len b.len⟩
theorem ExtS.refl {S:List Nat} {H:HD}:ExtS S H H:=⟨fun _ _ _ q=>q,Xf _⟩
theorem ExtS.set {S:List Nat} {H:HD} {p:Nat} {o:DO} (h:p∈S):ExtS S H (H.set p o):=⟨fun m u hm q=>by rw[Wbe (fun z=>hm (by rw[<- z]; exact h))]; exact q,by simp⟩
nonrec def Za5 (l:Int):Int:=if l<0 then -l else l
nonrec def Up (m:Int):Int->List Int->Prop
 | _,[]=>True
 | last,l::r=>last<Za5 l/\Za5 l<=m/\Up m (Za5 l) r
def Za1 (d:D):Prop:=d=.str "all" \/ d=.str "some"
theorem Znz (H:HD) (n:Nat) (i:Int):toP H n (.int i)=some (.int i):=by cases n<;>rw[toP]
theorem Zyg (H:HD) (n:Nat) (b:Bool):toP H n (.bl b)=some (.bool b):=by cases n<;>rw[toP]
theorem Ztj (H:HD) (i:Int):dat (.int i) H=some (.int i):=by
 simp[dat,Znz,okP,Tbl,Tca]
theorem Zvv (i j:Int) (H:HD):eqD (.int i) (.int j) H=some (.bl (i==j),H):=by
 simp[eqD,Zpp,Ztj,Ub]
theorem Zju (H:HD) (n:Nat) (x:Str):toP H n (.str x)=some (.str x):=by cases n<;>rw[toP]
theorem Zeo {x:Str} (h:(x.cps.toList.all fun c=>decide (c<0x110000))=true):Tcx x=true:=by
 unfold Tcx
 rw[<- Array.all_toList]
 exact h
theorem Zsd (xs:List D) (k:Nat):Zjg xs (some (k:Int)) none=xs.drop k:=by
 unfold Zjg
 have h1:HT.sIx xs.length 0 (some (k:Int))=min k xs.length:=by
  show (if (k:Int)<0 then ((k:Int)+(xs.length:Int)).toNat else min (k:Int).toNat xs.length)=min k xs.length
  rw[if_neg (by omega),Waq]
 have h2:HT.sIx xs.length xs.length none=xs.length:=rfl
 rw[h1,h2]
 by_cases h:k<=xs.length
 ·rw[Web h]
  exact Wbt (by simp)
 ·rw[Wgb (by omega),Wbu (Xf _),Wbu (by omega)]
  simp
theorem Zxg (xs:List D) (k:Nat):Zjg xs none (some (k:Int))=xs.take k:=by
 unfold Zjg
 have h1:HT.sIx xs.length 0 none=0:=rfl
 have h2:HT.sIx xs.length xs.length (some (k:Int))=min k xs.length:=by
  show (if (k:Int)<0 then ((k:Int)+(xs.length:Int)).toNat else min (k:Int).toNat xs.length)=min k xs.length
  rw[if_neg (by omega),Waq]
 rw[h1,h2]
 simp
theorem ac {f:EF} {g:AF} {σ:SD} {H H1 H2:HD} {d:D} {ds:List D} (h1:f σ H=some (d,H1)) (h2:g σ H1=some (ds,H2)):Zab f g σ H=some (d::ds,H2):=by
 unfold Zab; rw[h1]; simp only[Zb]; rw[h2]; rfl
theorem cb {g:FF} {f:AF} {σ:SD} {H H1:HD} {ds:List D} {r:Option (D×HD)} (h1:f σ H=some (ds,H1)) (h2:g ds H1=r):eCB g f σ H=r:=by
 unfold eCB; rw[h1]; exact h2
theorem tu {n:Nat} {xs:List D} {H:HD} (h:H[n]? = some (.lst xs)):Zbu [.ref n] H=some (.tup xs,H):=by
 simp[Zbu,Zkp,h]
theorem tp {f:AF} {σ:SD} {H H1:HD} {ds:List D} (h1:f σ H=some (ds,H1)) (h2:ds.length<=1000000):Zca f σ H=some (.tup ds,H1):=by
 unfold Zca; rw[h1]; exact if_pos (Zex h2)
theorem ls {f:AF} {σ:SD} {H H1:HD} {ds:List D} (h1:f σ H=some (ds,H1)) (h2:ds.length<=1000000):Zel f σ H=some (.ref H1.length,H1++[.lst ds]):=by
 unfold Zel; rw[h1]; exact if_pos (Zex h2)
theorem ca {n:Nat} {F:FF} {f:AF} {σ:SD} {H H1:HD} {ds:List D} {r:Option (D×HD)} (h1:f σ H=some (ds,H1)) (hl:ds.length=n) (h2:F ds H1=r):Zax n F f σ H=r:=by
 unfold Zax; rw[h1]; simp only[Zb]; rw[if_pos hl]; exact h2
theorem rt {f:EF} {σ:SD} {H H1:HD} {d:D} (h:f σ H=some (d,H1)):Zc0 f σ H=some (.rt d,σ,H1):=by
 unfold Zc0; rw[h]; rfl
theorem op {g:F2} {fa fb:EF} {σ:SD} {H H1 H2:HD} {d1 d2:D} {r:Option (D×HD)} (h1:fa σ H=some (d1,H1)) (h2:fb σ H1=some (d2,H2)) (h3:g d1 d2 H2=r):eOp g fa fb σ H=r:=by
 unfold eOp; rw[h1]; simp only[Zb]; rw[h2]; exact h3
theorem iff_t {t:TF} {f g:SF} {σ:SD} {H H1:HD} {b:Bool} (h:t σ H=some (b,H1)):sIf t f g σ H=if b=true then f σ H1 else g σ H1:=by
 unfold sIf; rw[h]; rfl
theorem tof {f:EF} {σ:SD} {H H1:HD} {b:Bool} (h:f σ H=some (.bl b,H1)):tOf f σ H=some (b,H1):=by
 unfold tOf; rw[h]; rfl
theorem lenT (xs:List D) (H:HD):Ze1 [.tup xs] H=some (.int xs.length,H):=by simp[Ze1,Zkp]
theorem lenB (bs:List Bool) (H:HD):Ze1 [.tup (bs.map .bl)] H=some (.int bs.length,H):=by simp[Ze1,Zkp]
theorem ixT {xs:List D} {i:Int} {d:D} {H:HD} (h:atI xs i=some d):ixD (.tup xs) (.int i) H=some (d,H):=by simp[ixD,Zkp,h]
theorem sl {fe:EF} {fl fh:OF} {σ:SD} {H H1 H2 H3:HD} {d:D} {l h:Option Int} {r:Option (D×HD)} (h1:fe σ H=some (d,H1)) (h2:fl σ H1=some (l,H2)) (h3:fh σ H2=some (h,H3)) (h4:slD d l h H3=r):eSl fe fl fh σ H=r:=by
 unfold eSl; rw[h1]; simp only[Zb]; rw[h2]; simp only[Zb]; rw[h3]; exact h4
theorem os {f:EF} {σ:SD} {H H1:HD} {i:Int} (h:f σ H=some (.int i,H1)):Ze6 f σ H=some (some i,H1):=by
 unfold Ze6; rw[h]; rfl
theorem slhi {xs:List D} {k:Nat} {H:HD}:slD (.tup xs) none (some (k:Int)) H=some (.tup (xs.take k),H):=by
 rw[<- Zxg]; rfl
theorem adT {xs ys:List D} {H:HD} (h:xs.length+ys.length<=1000000):Zb4 (.tup xs) (.tup ys) H=some (.tup (xs++ys),H) :=
 if_pos (Zex (by rw[Xp]; exact h))
theorem suI (i j:Int) (H:HD):Zkl (.int i) (.int j) H=some (.int (i - j),H):=by simp[Zkl,iiD,CT]
theorem muT {xs:List D} {k:Int} {H:HD} (h1 : -1000<=k) (h2:k<=1000) (h3:xs.length<=1000):Zh3 (.tup xs) (.int k) H=some (.tup (Xk k.toNat xs).flatten,H):=by
 have b:xs.length*k.toNat<=1000*1000:=Wcy h3 (by omega)
 have sz:sizeLine=16777216:=Uk
 have c : -(2 ^ 63)<=k/\k<2 ^ 63/\xs.length*k.toNat<=sizeLine:=⟨by omega,by omega,by omega⟩
 have l:(Xk k.toNat xs).flatten.length<=sizeLine:=by
  rw[List.length_flatten,Wfn,List.sum_replicate_nat,Wey]; omega
 show (if -(2 ^ 63)<=k/\k<2 ^ 63/\xs.length*k.toNat<=sizeLine then mkT (Xk k.toNat xs).flatten H else none)=_
 rw[if_pos c]
 exact if_pos l
theorem ExtS.app {S:List Nat} {H:HD} (L:HD):ExtS S H (H++L):=⟨fun m o _ q=>by
 have:m<H.length:=(Xc.mp q).1
 rw[Xo this]; exact q,by simp⟩
theorem ExtS.weak {p:Nat} {H H1 H':HD} (e0:ExtS [] H H1) (e:ExtS [p] H1 H') (hp:H.length<=p):ExtS [] H H':=⟨fun m o _ q=>by
 have:m<H.length:=(Xc.mp q).1
 exact e.old m o (by simp; omega) (e0.old m o (by simp) q),Xq e0.len e.len⟩
nonrec def Za7 (ls:List Int):D:=.tup (ls.map .int)
theorem orF {t u:TF} {σ:SD} {H H1:HD} (h:t σ H=some (false,H1)):Zmj t u σ H=u σ H1:=by unfold Zmj; rw[h]; rfl
theorem orT {t u:TF} {σ:SD} {H H1:HD} (h:t σ H=some (true,H1)):Zmj t u σ H=some (true,H1):=by unfold Zmj; rw[h]; rfl
theorem anF {t u:TF} {σ:SD} {H H1:HD} (h:t σ H=some (false,H1)):tAn t u σ H=some (false,H1):=by unfold tAn; rw[h]; rfl
theorem anT {t u:TF} {σ:SD} {H H1:HD} (h:t σ H=some (true,H1)):tAn t u σ H=u σ H1:=by unfold tAn; rw[h]; rfl
theorem Zr3:∀ bs:List Bool,(!(bs.map Tcj).any fun z=>Ub z (.bool false))=bs.all id
 | []=>rfl
 | b::r=>by
  have ih:=Zr3 r
  rw[Wab,Wdw,Bool.not_or,ih,List.all_cons]
  cases b<;>simp[Ub]
end LH
namespace WP
open PySem L2 DL LH
def wE (r:Option (D×HD)) (Q:D->HD->Prop):Prop:=∃ d H,r=some (d,H)/\Q d H
def wT (r:Option (Bool×HD)) (Q:Bool->HD->Prop):Prop:=∃ d H,r=some (d,H)/\Q d H
def wA (r:Option (List D×HD)) (Q:List D->HD->Prop):Prop:=∃ d H,r=some (d,H)/\Q d H
def wO (r:Option (Option Int×HD)) (Q:Option Int->HD->Prop):Prop:=∃ d H,r=some (d,H)/\Q d H
def wI (r:Option ((List D×Zem)×HD)) (Q:List D->Zem->HD->Prop):Prop:=∃ d o H,r=some ((d,o),H)/\Q d o H
def wG (r:Option (SD×HD)) (Q:SD->HD->Prop):Prop:=∃ d H,r=some (d,H)/\Q d H
def wH (r:Option HD) (Q:HD->Prop):Prop:=∃ H,r=some H/\Q H
def wS (r:Option (FD×SD×HD)) (Q:FD->SD->HD->Prop):Prop:=∃ x d H,r=some (x,d,H)/\Q x d H
def wN (n:Nat) (F:FF) (ds:List D) (H:HD) (Q:D->HD->Prop):Prop:=ds.length=n/\wE (F ds H) Q
def br (b:Bool) (P Q:Prop):Prop:=(b=true->P)/\(b=false->Q)
nonrec def Zxw (k:SD->HD->Prop) (Q:FD->SD->HD->Prop):FD->SD->HD->Prop
 | .nx,σ,H=>k σ H
 | r,σ,H=>Q r σ H
nonrec def fin (Q:D->HD->Prop):FD->SD->HD->Prop
 | .rt d,_,H=>Q d H
 | .nx,_,H=>Q .non H
 | _,_,_=>False
section
variable {σ:SD} {H:HD} {Q:D->HD->Prop}
theorem w_var {i:Nat} {d:D} (h:(σ[i]?).join=some d) (q:Q d H):wE (Zac i σ H) Q:=⟨d,H,by unfold Zac; rw[h]; rfl,q⟩
theorem w_c {d:D} (q:Q d H):wE (eC d σ H) Q:=⟨d,H,rfl,q⟩
theorem w_op {g:F2} {fa fb:EF} (h:wE (fa σ H) fun x H1=>wE (fb σ H1) fun y H2=>wE (g x y H2) Q):wE (eOp g fa fb σ H) Q:=by
 obtain⟨x,H1,e1,y,H2,e2,d,H3,e3,q⟩:=h
 exact⟨d,H3,op e1 e2 e3,q⟩
theorem w_un {g:D->HD->Option (D×HD)} {fa:EF} (h:wE (fa σ H) fun x H1=>wE (g x H1) Q):wE (eUn g fa σ H) Q:=by
 obtain⟨x,H1,e1,d,H3,e3,q⟩:=h
 exact⟨d,H3,by unfold eUn; rw[e1]; exact e3,q⟩
theorem w_tof {f:EF} {Q:Bool->HD->Prop} (h:wE (f σ H) fun d H1=>∃ b,d=.bl b/\Q b H1):wT (tOf f σ H) Q:=by
 obtain⟨d,H1,e,b,rfl,q⟩:=h
 exact⟨b,H1,tof e,q⟩
theorem w_bl {b:Bool} {P:Bool->Prop} (h:P b):∃ c,D.bl b=.bl c/\P c:=⟨b,rfl,h⟩
theorem w_ttru {f:EF} {Q:Bool->HD->Prop} (h:wE (f σ H) fun d H1=>∃ b,Zpv d H1=some b/\Q b H1):wT (Zpr f σ H) Q:=by
 obtain⟨d,H1,e,b,e2,q⟩:=h
 exact⟨b,H1,by unfold Zpr; rw[e]; simp only[Zb]; rw[e2]; rfl,q⟩
theorem w_no {t:TF} {Q:Bool->HD->Prop} (h:wT (t σ H) fun b H1=>Q (!b) H1):wT (tNo t σ H) Q:=by
 obtain⟨b,H1,e,q⟩:=h
 exact⟨!b,H1,by unfold tNo; rw[e]; rfl,q⟩
theorem w_an {t u:TF} {Q:Bool->HD->Prop} (h:wT (t σ H) fun b H1=>br b (wT (u σ H1) Q) (Q false H1)):wT (tAn t u σ H) Q:=by
 obtain⟨b,H1,e,q1,q2⟩:=h
 cases b with
 | true=>obtain⟨c,H2,e2,q⟩:=q1 rfl; exact⟨c,H2,(anT e).trans e2,q⟩
 | false=>exact⟨false,H1,anF e,q2 rfl⟩
theorem w_or {t u:TF} {Q:Bool->HD->Prop} (h:wT (t σ H) fun b H1=>br b (Q true H1) (wT (u σ H1) Q)):wT (Zmj t u σ H) Q:=by
 obtain⟨b,H1,e,q1,q2⟩:=h
 cases b with
 | true=>exact⟨true,H1,orT e,q1 rfl⟩
 | false=>obtain⟨c,H2,e2,q⟩:=q2 rfl; exact⟨c,H2,(orF e).trans e2,q⟩
theorem w_ean {f g:EF} (h:wE (f σ H) fun d H1=>∃ b,d=.bl b/\br b (wE (g σ H1) Q) (Q (.bl false) H1)):wE (eAn f g σ H) Q:=by
 obtain⟨d,H1,e,b,rfl,q1,q2⟩:=h
 unfold eAn
 rw[e]; simp only[Zb,blD]
 cases b with
 | true=>rw[if_pos rfl]; exact q1 rfl
 | false=>rw[if_neg (by simp)]; exact⟨_,_,rfl,q2 rfl⟩
theorem w_eif {t:TF} {f g:EF} (h:wT (t σ H) fun b H1=>br b (wE (f σ H1) Q) (wE (g σ H1) Q)):wE (eIf t f g σ H) Q:=by
 obtain⟨b,H1,e,q1,q2⟩:=h
 unfold eIf
 rw[e]; simp only[Zb]
 cases b with
 | true=>rw[if_pos rfl]; exact q1 rfl
 | false=>rw[if_neg (by simp)]; exact q2 rfl
theorem w_anil {Q:List D->HD->Prop} (q:Q [] H):wA (Zah σ H) Q:=⟨[],H,rfl,q⟩
theorem w_acons {f:EF} {g:AF} {Q:List D->HD->Prop} (h:wE (f σ H) fun d H1=>wA (g σ H1) fun ds H2=>Q (d::ds) H2):wA (Zab f g σ H) Q:=by
 obtain⟨d,H1,e1,ds,H2,e2,q⟩:=h
 exact⟨d::ds,H2,ac e1 e2,q⟩
theorem w_cb {g:FF} {f:AF} (h:wA (f σ H) fun ds H1=>wE (g ds H1) Q):wE (eCB g f σ H) Q:=by
 obtain⟨ds,H1,e1,d,H2,e2,q⟩:=h
 exact⟨d,H2,cb e1 e2,q⟩
theorem w_call {n:Nat} {F:FF} {f:AF} (h:wA (f σ H) fun ds H1=>wN n F ds H1 Q):wE (Zax n F f σ H) Q:=by
 obtain⟨ds,H1,e1,hl,d,H2,e2,q⟩:=h
 exact⟨d,H2,ca e1 hl e2,q⟩
theorem w_n {n:Nat} {F:FF} {ds:List D} (hl:ds.length=n) (h:wE (F ds H) Q):wN n F ds H Q:=⟨hl,h⟩
theorem w_tup {f:AF} (h:wA (f σ H) fun ds H1=>ds.length<=1000000/\Q (.tup ds) H1):wE (Zca f σ H) Q:=by
 obtain⟨ds,H1,e1,hl,q⟩:=h
 exact⟨_,H1,tp e1 hl,q⟩
theorem w_lst {f:AF} (h:wA (f σ H) fun ds H1=>ds.length<=1000000/\Q (.ref H1.length) (H1++[.lst ds])):wE (Zel f σ H) Q:=by
 obtain⟨ds,H1,e1,hl,q⟩:=h
 exact⟨_,_,ls e1 hl,q⟩
theorem w_lm {g:D->List D->HD->Option (D×HD)} {fo:EF} {f:AF} (h:wE (fo σ H) fun o H1=>Ze7 o H1=true/\wA (f σ H1) fun ds H2=>wE (g o ds H2) Q):wE (eLM g fo f σ H) Q:=by
 obtain⟨o,H1,e1,i,ds,H2,e2,d,H3,e3,q⟩:=h
 exact⟨d,H3,by unfold eLM; rw[e1]; simp only[Zb]; rw[if_pos i,e2]; exact e3,q⟩
theorem w_tm {g:D->List D->HD->Option (D×HD)} {fo:EF} {f:AF} (h:wE (fo σ H) fun o H1=>Ztq o=true/\wA (f σ H1) fun ds H2=>wE (g o ds H2) Q):wE (eTM g fo f σ H) Q:=by
 obtain⟨o,H1,e1,i,ds,H2,e2,d,H3,e3,q⟩:=h
 exact⟨d,H3,by unfold eTM; rw[e1]; simp only[Zb]; rw[if_pos i,e2]; exact e3,q⟩
theorem w_dn (q:Q (.ref H.length) (H++[.dic [] false])):wE (eDN σ H) Q:=⟨_,_,rfl,q⟩
theorem w_on {Q:Option Int->HD->Prop} (q:Q none H):wO (Zgp σ H) Q:=⟨none,H,rfl,q⟩
theorem w_os {f:EF} {Q:Option Int->HD->Prop} (h:wE (f σ H) fun d H1=>∃ i,d=.int i/\Q (some i) H1):wO (Ze6 f σ H) Q:=by
 obtain⟨d,H1,e,i,rfl,q⟩:=h
 exact⟨some i,H1,os e,q⟩
theorem w_int {i:Int} {P:Int->Prop} (h:P i):∃ c,D.int i=.int c/\P c:=⟨i,rfl,h⟩
theorem w_sl {fe:EF} {fl fh:OF} (h:wE (fe σ H) fun x H1=>wO (fl σ H1) fun l H2=>wO (fh σ H2) fun u H3=>wE (slD x l u H3) Q):wE (eSl fe fl fh σ H) Q:=by
 obtain⟨x,H1,e1,l,H2,e2,u,H3,e3,d,H4,e4,q⟩:=h
 exact⟨d,H4,sl e1 e2 e3 e4,q⟩
variable {R:FD->SD->HD->Prop}
theorem w_snil (q:R .nx σ H):wS (Zaq σ H) R:=⟨_,_,_,rfl,q⟩
theorem w_seq {f g:SF} (h:wS (f σ H) (Zxw (fun σ1 H1=>wS (g σ1 H1) R) R)):wS (Zai f g σ H) R:=by
 obtain⟨x,σ1,H1,e,k⟩:=h
 unfold Zai
 rw[e]; simp only[Zb]
 cases x with
 | nx=>exact k
 | bk=>exact⟨_,_,_,rfl,k⟩
 | ct=>exact⟨_,_,_,rfl,k⟩
 | rt d=>exact⟨_,_,_,rfl,k⟩
theorem w_kn {k:SD->HD->Prop} (h:k σ H):Zxw k R .nx σ H:=h
theorem w_kr {k:SD->HD->Prop} {d:D} (h:R (.rt d) σ H):Zxw k R (.rt d) σ H:=h
theorem Zh7 {r:Option (FD×SD×HD)} {k:SD->HD->Prop} (J:SD->HD->Prop) (h:wS r fun x σ H=>x=.nx/\J σ H) (q:∀ σ H,J σ H->k σ H):wS r (Zxw k R):=by
 obtain⟨x,s,H,e,rfl,j⟩:=h
 exact⟨_,s,H,e,q s H j⟩
theorem w_fr {d:D} (h:Q d H):fin Q (.rt d) σ H:=h
theorem w_ret {f:EF} (h:wE (f σ H) fun d H1=>R (.rt d) σ H1):wS (Zc0 f σ H) R:=by
 obtain⟨d,H1,e,q⟩:=h; exact⟨_,_,_,rt e,q⟩
theorem w_expr {f:EF} (h:wE (f σ H) fun d H1=>R .nx σ H1):wS (Zcy f σ H) R:=by
 obtain⟨d,H1,e,q⟩:=h; exact⟨_,_,_,by unfold Zcy; rw[e]; rfl,q⟩
theorem w_if {t:TF} {f g:SF} (h:wT (t σ H) fun b H1=>br b (wS (f σ H1) R) (wS (g σ H1) R)):wS (sIf t f g σ H) R:=by
 obtain⟨b,H1,e,q1,q2⟩:=h
 rw[iff_t e]
 cases b with
 | true=>rw[if_pos rfl]; exact q1 rfl
 | false=>rw[if_neg (by simp)]; exact q2 rfl
theorem w_set {i:Nat} {f:EF} (h:wE (f σ H) fun d H1=>R .nx (σ.set i (some d)) H1):wS (Za6 i f σ H) R:=by
 obtain⟨d,H1,e,q⟩:=h; exact⟨_,_,_,by unfold Za6; rw[e]; rfl,q⟩
theorem w_asg {f:EF} {g:GF} (h:wE (f σ H) fun d H1=>wG (g d σ H1) fun σ2 H2=>R .nx σ2 H2):wS (Zra f g σ H) R:=by
 obtain⟨d,H1,e,σ2,H2,e2,q⟩:=h; exact⟨_,_,_,by unfold Zra; rw[e]; simp only[Zb]; rw[e2]; rfl,q⟩
theorem w_gnm {i:Nat} {d:D} {Q:SD->HD->Prop} (h:Q (σ.set i (some d)) H):wG (gNm i d σ H) Q:=⟨_,_,rfl,h⟩
theorem w_gsb {fo fi:EF} {g:Zvk} {d:D} {Q:SD->HD->Prop} (h:wE (fo σ H) fun o H1=>wE (fi σ H1) fun i H2=>wH (g o i d H2) fun H3=>Q σ H3):wG (gSb fo fi g d σ H) Q:=by
 obtain⟨o,H1,e1,i,H2,e2,H3,e3,q⟩:=h
 exact⟨σ,H3,by unfold gSb; rw[e1]; simp only[Zb]; rw[e2]; simp only[Zb]; rw[e3]; rfl,q⟩
theorem w_gtp {n:Nat} {g:GFs} {ds:List D} {Q:SD->HD->Prop} (hl:ds.length=n) (h:wG (g ds σ H) Q):wG (gTp n g (.tup ds) σ H) Q:=by
 obtain⟨s,H1,e,q⟩:=h
 exact⟨s,H1,by unfold gTp; simp only[if_pos hl]; exact e,q⟩
theorem w_gnl {Q:SD->HD->Prop} (h:Q σ H):wG (gNl [] σ H) Q:=⟨_,_,rfl,h⟩
theorem w_gcn {g:GF} {h:GFs} {d:D} {r:List D} {Q:SD->HD->Prop} (q:wG (g d σ H) fun σ1 H1=>wG (h r σ1 H1) Q):wG (gCn g h (d::r) σ H) Q:=by
 obtain⟨s,H1,e,s2,H2,e2,q⟩:=q
 exact⟨s2,H2,by unfold gCn; simp only; rw[e]; exact e2,q⟩
theorem w_for {it:ItF} {g:GF} {b:SF} (h:wI (it σ H) fun xs own H1=>wS (Zgk own g b xs σ H1) R):wS (Zfh it g b σ H) R:=by
 obtain⟨xs,own,H1,e,q⟩:=h
 unfold Zfh; rw[e]; exact q
theorem Zcc {n N:Nat} {b:SF} {ds:List D} (hl:ds.length=n) (h:wS (b (ds.map some++Xk (N - ds.length) none) H) (fin Q)):wE (Zce n N b ds H) Q:=by
 obtain⟨x,s,H1,e,q⟩:=h
 unfold Zce
 rw[if_pos hl,e]
 simp only[Zb]
 cases x with
 | nx=>exact⟨_,_,rfl,q⟩
 | rt d=>exact⟨_,_,rfl,q⟩
 | bk=>exact q.elim
 | ct=>exact q.elim
theorem w_lc {it:ItF} {ci:List Nat} {tt:TF} {te:EF} (h:wI (it σ H) fun xs own H1=>wA (Zdj own (Zpu ci σ) tt te xs H1) fun ds H2=>ds.length<=1000000/\Q (.ref H2.length) (H2++[.lst ds])):wE (eLC it ci tt te σ H) Q:=by
 obtain⟨xs,own,H1,e,ds,H2,e2,hl,q⟩:=h
 exact⟨_,_,by unfold eLC; rw[e]; simp only[Zb]; rw[e2]; exact if_pos (Zex hl),q⟩
theorem w_bt {P S:Prop} (h:P):br true P S:=⟨fun _=>h,nofun⟩
theorem w_bf {P S:Prop} (h:S):br false P S:=⟨nofun,fun _=>h⟩
theorem w_bnt {P S:Prop} (h:P):br (!false) P S:=⟨fun _=>h,nofun⟩
theorem w_bnf {P S:Prop} (h:S):br (!true) P S:=⟨nofun,fun _=>h⟩
theorem w_bT {b:Bool} {P S:Prop} (e:b=true) (h:P):br b P S:=by subst e; exact w_bt h
theorem w_bF {b:Bool} {P S:Prop} (e:b=false) (h:S):br b P S:=by subst e; exact w_bf h
theorem w_sz {ds:List D} {P:Prop} (h:ds.length<=1000000) (q:P):ds.length<=1000000/\P:=⟨h,q⟩
theorem w_addI {i j:Int} (q:Q (.int (i+j)) H):wE (Zb4 (.int i) (.int j) H) Q:=⟨_,_,rfl,q⟩
theorem w_addT {a b:List D} (h:a.length+b.length<=1000000) (q:Q (.tup (a++b)) H):wE (Zb4 (.tup a) (.tup b) H) Q:=⟨_,_,adT h,q⟩
theorem w_subI {i j:Int} (q:Q (.int (i - j)) H):wE (Zkl (.int i) (.int j) H) Q:=⟨_,_,suI i j H,q⟩
theorem w_lt {i j:Int} (q:Q (.bl (decide (i<j))) H):wE (ltD (.int i) (.int j) H) Q:=⟨_,_,by simp[ltD,iiD,CT],q⟩
theorem w_gt {i j:Int} (q:Q (.bl (decide (j<i))) H):wE (gtD (.int i) (.int j) H) Q:=⟨_,_,by simp[gtD,iiD,CT],q⟩
theorem w_ge {i j:Int} (q:Q (.bl (decide (j<=i))) H):wE (geD (.int i) (.int j) H) Q:=⟨_,_,by simp[geD,iiD,CT],q⟩
theorem w_mod {i j:Int} (h:0<j) (q:Q (.int (i % j)) H):wE (Zd4 (.int i) (.int j) H) Q:=⟨_,_,by have c:Zyi i j:=h; simp[Zd4,iiD,c],q⟩
theorem w_fdiv {i j:Int} (h:0<j) (h2:j<1073741824) (q:Q (.int (i / j)) H):wE (Ziw (.int i) (.int j) H) Q:=⟨_,_,by have c:Zxn i j:=⟨h,h2⟩; simp[Ziw,iiD,c],q⟩
theorem w_mulL {i j:Int} (h1 : -(2 ^ 64)<i) (h2:i<2 ^ 64) (q:Q (.int (i*j)) H):wE (Zh3 (.int i) (.int j) H) Q:=⟨_,_,by have c:Zrx i j:=.inl ⟨h1,h2⟩; simp[Zh3,c],q⟩
theorem w_mulR {i j:Int} (h1 : -(2 ^ 64)<j) (h2:j<2 ^ 64) (q:Q (.int (i*j)) H):wE (Zh3 (.int i) (.int j) H) Q:=⟨_,_,by have c:Zrx i j:=.inr ⟨h1,h2⟩; simp[Zh3,c],q⟩
theorem Zu6 {i j:Int} (h1:0<=j) (h2:j<=1000000) (h3:i.natAbs<2 ^ 64) (q:Q (.int (i ^ j.toNat)) H):wE (Zvb (.int i) (.int j) H) Q:=⟨_,_,by have c:Zxr i j:=⟨h1,h2,h3⟩; simp[Zvb,iiD,c],q⟩
theorem w_neg {i:Int} (q:Q (.int (-i)) H):wE (Zr4 (.int i) H) Q:=⟨_,_,rfl,q⟩
theorem w_eqI {i j:Int} (q:Q (.bl (i==j)) H):wE (eqD (.int i) (.int j) H) Q:=⟨_,_,Zvv _ _ _,q⟩
theorem w_eqS {a b:Str} (q:Q (.bl (a==b)) H):wE (eqD (.str a) (.str b) H) Q:=⟨_,_,rfl,q⟩
theorem w_lenT {xs:List D} (q:Q (.int xs.length) H):wE (Ze1 [.tup xs] H) Q:=⟨_,_,lenT xs H,q⟩
theorem w_lenR {n:Nat} {xs:List D} (h:H[n]? = some (.lst xs)) (q:Q (.int xs.length) H):wE (Ze1 [.ref n] H) Q:=⟨_,_,by simp[Ze1,Zkp,h],q⟩
theorem w_lenF {xs:List D} (q:Q (.int xs.length) H):wE (Ze1 [.fl xs] H) Q:=⟨_,_,by simp[Ze1,Zkp],q⟩
theorem w_abs {i:Int} (q:Q (.int (Za5 i)) H):wE (Zsj [.int i] H) Q:=⟨_,_,rfl,q⟩
theorem w_ixT {xs:List D} {i:Int} {d:D} (h:atI xs i=some d) (q:Q d H):wE (ixD (.tup xs) (.int i) H) Q:=⟨_,_,ixT h,q⟩
theorem w_ixR {n:Nat} {xs:List D} {i:Int} {d:D} (g:H[n]? = some (.lst xs)) (h:atI xs i=some d) (q:Q d H):wE (ixD (.ref n) (.int i) H) Q:=⟨_,_,by simp[ixD,Zkp,g,h],q⟩
theorem w_ixF {xs:List D} {i:Int} {d:D} (h:atI xs i=some d) (q:Q d H):wE (ixD (.fl xs) (.int i) H) Q:=⟨_,_,by simp[ixD,Zkp,h],q⟩
theorem w_intB {b:Bool} (q:Q (.int (if b then 1 else 0)) H):wE (Zs3 [.bl b] H) Q:=⟨_,_,rfl,q⟩
theorem w_max {i j:Int} (q:Q (.int (if j > i then j else i)) H):wE (maxD [.int i,.int j] H) Q:=⟨_,_,rfl,q⟩
theorem w_tupR {n:Nat} {xs:List D} (h:H[n]? = some (.lst xs)) (q:Q (.tup xs) H):wE (Zbu [.ref n] H) Q:=⟨_,_,tu h,q⟩
theorem Zhg {n:Nat} {xs:List D} {d:D} (h:H[n]? = some (.lst xs)) (hl:xs.length<1000000) (q:Q .non (H.set n (.lst (xs++[d])))):wE (Zbb (.ref n) [d] H) Q :=
 ⟨_,_,by simp[Zbb,h,Xi hl (Zex (Xf _))],q⟩
theorem w_isi {d:D} {c t:String} (ha:Znr c=true) (h:tyD d H=some t) (q:Q (.bl (t==c||(t == "bool" && c == "int"))) H):wE (Zml [d,.ty c] H) Q:=⟨_,_,by simp[Zml,ha,h],q⟩
theorem w_isnN {d:D} {b:Bool} (h:isB d .non=some b) (q:Q (.bl (!b)) H):wE (Zu5 d .non H) Q:=⟨_,_,by simp[Zu5,h],q⟩
theorem w_truB {b:Bool} {P:Bool->Prop} (h:P b):∃ c,Zpv (.bl b) H=some c/\P c:=⟨b,rfl,h⟩
theorem w_isi' {d:D} {c t:String} {r:Bool} (ha:Znr c=true) (h:tyD d H=some t) (hr:(t==c||(t == "bool" && c == "int"))=r) (q:Q (.bl r) H):wE (Zml [d,.ty c] H) Q:=w_isi ha h (by rw[hr]; exact q)
theorem w_eqS' {a b:Str} {r:Bool} (hr:(a==b)=r) (q:Q (.bl r) H):wE (eqD (.str a) (.str b) H) Q:=w_eqS (by rw[hr]; exact q)
theorem w_slhi {xs:List D} {k:Nat} (q:Q (.tup (xs.take k)) H):wE (slD (.tup xs) none (some (k:Int)) H) Q:=⟨_,_,slhi,q⟩
variable {I:List D->Zem->HD->Prop}
theorem w_isq {f:EF} (h:wE (f σ H) fun d H1=>∃ xs own,Zgd d H1=some (xs,own)/\I xs own H1):wI (iSq f σ H) I:=by
 obtain⟨d,H1,e,xs,own,e2,q⟩:=h
 exact⟨xs,own,H1,by unfold iSq; rw[e]; simp only[Zb]; rw[e2]; rfl,q⟩
theorem w_itT {xs:List D} {P:List D->Zem->Prop} (h:P xs []):∃ ys own,Zgd (.tup xs) H=some (ys,own)/\P ys own:=⟨_,_,rfl,h⟩
theorem w_itR {n:Nat} {xs:List D} {P:List D->Zem->Prop} (g:H[n]? = some (.lst xs)) (h:P xs [(n,.lst xs)]):∃ ys own,Zgd (.ref n) H=some (ys,own)/\P ys own:=⟨_,_,by simp[Zgd,g],h⟩
theorem w_ir1 {f:AF} (h:wA (f σ H) fun ds H1=>∃ j,ds=[.int j]/\Ze0 j/\I (Zal 0 j.toNat) [] H1):wI (iR1 f σ H) I:=by
 obtain⟨ds,H1,e,j,rfl,s,q⟩:=h
 exact⟨_,_,H1,by unfold iR1; rw[e]; exact if_pos s,q⟩
theorem w_ir2 {f:AF} (h:wA (f σ H) fun ds H1=>∃ i j,ds=[.int i,.int j]/\Ze0 i/\Ze0 j/\I (Zal i (j - i).toNat) [] H1):wI (iR2 f σ H) I:=by
 obtain⟨ds,H1,e,i,j,rfl,s1,s2,q⟩:=h
 exact⟨_,_,H1,by unfold iR2; rw[e]; exact if_pos ⟨s1,s2⟩,q⟩
theorem w_enum {f:AF} (h:wA (f σ H) fun ds H1=>∃ xs,ds=[.tup xs]/\I (Zcq 0 xs) [] H1):wI (Zqh f σ H) I:=by
 obtain⟨ds,H1,e,xs,rfl,q⟩:=h
 exact⟨_,_,H1,by unfold Zqh; rw[e]; rfl,q⟩
theorem w_enum1 {f:AF} (h:wA (f σ H) fun ds H1=>∃ xs,ds=[.tup xs]/\I (Zcq 1 xs) [] H1):wI (Zkk f σ H) I:=by
 obtain⟨ds,H1,e,xs,rfl,q⟩:=h
 exact⟨_,_,H1,by unfold Zkk; rw[e]; rfl,q⟩
theorem Zsi {own:Zem} {g:GF} {b:SF} (h:Zbn own H) (q:R .nx σ H):wS (Zgk own g b [] σ H) R:=⟨_,_,_,by rw[Zgk,if_pos h],q⟩
nonrec def again (k:SD->HD->Prop) (R:FD->SD->HD->Prop):FD->SD->HD->Prop
 | .nx,σ,H=>k σ H
 | .ct,σ,H=>k σ H
 | .bk,σ,H=>R .nx σ H
 | .rt d,σ,H=>R (.rt d) σ H
theorem Zm2 {own:Zem} {g:GF} {b:SF} {x:D} {r:List D} (h:Zbn own H) (q:wG (g x σ H) fun σ1 H1=>wS (b σ1 H1) (again (fun σ2 H2=>wS (Zgk own g b r σ2 H2) R) R)):wS (Zgk own g b (x::r) σ H) R:=by
 obtain⟨σ1,H1,e1,y,σ2,H2,e2,q⟩:=q
 rw[Zgk,if_pos h,e1]
 simp only[Zb]
 rw[e2]
 cases y with
 | nx=>exact q
 | ct=>exact q
 | bk=>exact⟨_,_,_,rfl,q⟩
 | rt d=>exact⟨_,_,_,rfl,q⟩
theorem w_agn {k:SD->HD->Prop} (h:k σ H):again k R .nx σ H:=h
theorem w_agr {k:SD->HD->Prop} {d:D} (h:R (.rt d) σ H):again k R (.rt d) σ H:=h
theorem Zbq {own:Zem} {g:GF} {b:SF} (Inv:List D->List D->SD->HD->Prop) (ho:∀ d t σ H,Inv d t σ H->Zbn own H)
  (st:∀ d x t σ H,Inv d (x::t) σ H->wG (g x σ H) fun σ1 H1=>wS (b σ1 H1) (again (fun σ2 H2=>Inv (d++[x]) t σ2 H2) R))
  (q:∀ d σ H,Inv d [] σ H->R .nx σ H):∀ (t d:List D) (σ:SD) (H:HD),Inv d t σ H->wS (Zgk own g b t σ H) R
 | [],d,σ,H,i=>Zsi (ho _ _ _ _ i) (q d σ H i)
 | x::t,d,σ,H,i=>by
  refine Zm2 (ho _ _ _ _ i) ?_
  obtain⟨σ1,H1,e1,y,σ2,H2,e2,k⟩:=st d x t σ H i
  refine⟨σ1,H1,e1,y,σ2,H2,e2,?_⟩
  cases y with
  | nx=>exact Zbq Inv ho st q t _ σ2 H2 k
  | ct=>exact Zbq Inv ho st q t _ σ2 H2 k
  | bk=>exact k
  | rt d=>exact k
theorem Zg5 {own:Zem} {g:GF} {b:SF} (Inv:SD->HD->Prop) (ho:∀ σ H,Inv σ H->Zbn own H):∀ (xs:List D) (st:∀ x∈xs,∀ σ H,Inv σ H->wG (g x σ H) fun σ1 H1=>wS (b σ1 H1) (again Inv R)) (σ:SD) (H:HD),Inv σ H->(∀ σ H,Inv σ H->R .nx σ H)->wS (Zgk own g b xs σ H) R
 | [],st,σ,H,i,q=>Zsi (ho _ _ i) (q σ H i)
 | x::t,st,σ,H,i,q=>by
  refine Zm2 (ho _ _ i) ?_
  obtain⟨σ1,H1,e1,y,σ2,H2,e2,k⟩:=st x (by simp) σ H i
  refine⟨σ1,H1,e1,y,σ2,H2,e2,?_⟩
  cases y with
  | nx=>exact Zg5 Inv ho t (fun z hz=>st z (by simp[hz])) σ2 H2 k q
  | ct=>exact Zg5 Inv ho t (fun z hz=>st z (by simp[hz])) σ2 H2 k q
  | bk=>exact k
  | rt d=>exact k
theorem w_wh {t:TF} {b:SF} {n:Nat} (h:wT (t σ H) fun x H1=>br x (wS (b σ H1) (again (fun σ2 H2=>wS (sWh t b n σ2 H2) R) R)) (R .nx σ H1)):wS (sWh t b (n+1) σ H) R:=by
 obtain⟨x,H1,e,q1,q2⟩:=h
 rw[sWh]
 dsimp only
 rw[e]
 simp only[Zb]
 cases x with
 | true =>
  rw[if_pos rfl]
  obtain⟨y,σ2,H2,e2,q⟩:=q1 rfl
  rw[e2]
  cases y with
  | nx=>exact q
  | ct=>exact q
  | bk=>exact⟨_,_,_,rfl,q⟩
  | rt d=>exact⟨_,_,_,rfl,q⟩
 | false=>rw[if_neg (by simp)]; exact⟨_,_,_,rfl,q2 rfl⟩
theorem Zjk {t:TF} {b:SF} (Inv:Nat->SD->HD->Prop) (st:∀ m σ H,Inv m σ H->wT (t σ H) fun x H1=>br x (∃ m',m=m'+1/\wS (b σ H1) (again (Inv m') R)) (R .nx σ H1)):∀ (n m:Nat) (σ:SD) (H:HD),m<n->Inv m σ H->wS (sWh t b n σ H) R
 | 0,m,σ,H,h,i=>by omega
 | n+1,m,σ,H,h,i=>by
  refine w_wh ?_
  obtain⟨x,H1,e,q1,q2⟩:=st m σ H i
  refine⟨x,H1,e,fun hx=>?_,q2⟩
  obtain⟨m',rfl,y,σ2,H2,e2,q⟩:=q1 hx
  refine⟨y,σ2,H2,e2,?_⟩
  cases y with
  | nx=>exact Zjk Inv st n m' σ2 H2 (by omega) q
  | ct=>exact Zjk Inv st n m' σ2 H2 (by omega) q
  | bk=>exact q
  | rt d=>exact q
theorem Zoh {own:Zem} {c0:SD} {tt:TF} {te:EF} {Q:List D->HD->Prop} (h:Zbn own H) (q:Q [] H):wA (Zdj own c0 tt te [] H) Q:=⟨_,_,by rw[Zdj,if_pos h],q⟩
theorem Zkd {own:Zem} {c0:SD} {tt:TF} {te:EF} {x:D} {r:List D} {Q:List D->HD->Prop} (h:Zbn own H)
  (q:wT (tt (some x::c0) H) fun b H1=>br b (wE (te (some x::c0) H1) fun e H2=>wA (Zdj own c0 tt te r H2) fun es H3=>Q (e::es) H3) (wA (Zdj own c0 tt te r H1) Q)):wA (Zdj own c0 tt te (x::r) H) Q:=by
 obtain⟨b,H1,e1,q1,q2⟩:=q
 rw[Zdj,if_pos h,e1]
 simp only[Zb]
 cases b with
 | true =>
  obtain⟨e,H2,e2,es,H3,e3,q⟩:=q1 rfl
  exact⟨e::es,H3,by rw[if_pos rfl,e2]; simp only[Zb]; rw[e3]; rfl,q⟩
 | false=>rw[if_neg (by simp)]; exact q2 rfl
theorem w_yes {Q:Bool->HD->Prop} (q:Q true H):wT (Zjj σ H) Q:=⟨_,_,rfl,q⟩
theorem Zkf {own:Zem} {c0:SD} {tt:TF} {te:EF} (Inv:List D->List D->List D->HD->Prop) (ho:∀ d t o H,Inv d t o H->Zbn own H)
  (st:∀ d x t o H,Inv d (x::t) o H->wT (tt (some x::c0) H) fun b H1=>br b (wE (te (some x::c0) H1) fun e H2=>Inv (d++[x]) t (o++[e]) H2) (Inv (d++[x]) t o H1))
  {Q:List D->HD->Prop}:∀ (t d o:List D) (H:HD),Inv d t o H->(∀ d o' H',Inv d [] (o++o') H'->Q o' H')->wA (Zdj own c0 tt te t H) Q
 | [],d,o,H,i,q=>Zoh (ho _ _ _ _ i) (q d [] H (by rw[Xn]; exact i))
 | x::t,d,o,H,i,q=>by
  refine Zkd (ho _ _ _ _ i) ?_
  obtain⟨b,H1,e1,q1,q2⟩:=st d x t o H i
  refine⟨b,H1,e1,fun h=>?_,fun h=>?_⟩
  ·obtain⟨e,H2,e2,k⟩:=q1 h
   refine⟨e,H2,e2,?_⟩
   refine Zkf Inv ho st t _ _ H2 k fun d' o' H' i'=>q d' (e::o') H' ?_
   rw[Xv] at i'; exact i'
  ·exact Zkf Inv ho st t _ _ H1 (q2 h) fun d' o' H' i'=>q d' o' H' i'
theorem Zc6 {own:Zem} {c0:SD} {tt:TF} (f:D->Bool) (J:HD->Prop) (ho:∀ H,J H->Zbn own H) {Q:List D->HD->Prop}:∀ (xs:List D) (st:∀ x∈xs,∀ H,J H->wT (tt (some x::c0) H) fun b H1=>b=f x/\J H1) (H:HD),J H->(∀ H',J H'->Q (xs.filter f) H')->wA (Zdj own c0 tt (Zac 0) xs H) Q
 | [],st,H,j,q=>Zoh (ho H j) (q H j)
 | x::xs,st,H,j,q=>by
  refine Zkd (ho H j) ?_
  obtain⟨b,H1,e,rfl,j1⟩:=st x (by simp) H j
  refine⟨_,H1,e,fun h=>?_,fun h=>?_⟩
  ·refine⟨x,H1,rfl,?_⟩
   refine Zc6 f J ho xs (fun y hy=>st y (by simp[hy])) H1 j1 fun H' j'=>?_
   have:=q H' j'
   rwa [Wdh h] at this
  ·refine Zc6 f J ho xs (fun y hy=>st y (by simp[hy])) H1 j1 fun H' j'=>?_
   have:=q H' j'
   rwa [Wdi (by rw[h]; simp)] at this
theorem Zfl {own:Zem} {c0:SD} {te:EF} (g:D->D) (J:HD->Prop) (ho:∀ H,J H->Zbn own H) {Q:List D->HD->Prop}:∀ (xs:List D) (st:∀ x∈xs,∀ H,J H->wE (te (some x::c0) H) fun d H1=>d=g x/\J H1) (H:HD),J H->(∀ H',J H'->Q (xs.map g) H')->wA (Zdj own c0 Zjj te xs H) Q
 | [],st,H,j,q=>Zoh (ho H j) (q H j)
 | x::xs,st,H,j,q=>by
  refine Zkd (ho H j) (w_yes (w_bt ?_))
  obtain⟨b,H1,e,rfl,j1⟩:=st x (by simp) H j
  exact⟨_,H1,e,Zfl g J ho xs (fun y hy=>st y (by simp[hy])) H1 j1 q⟩
end
structure Fm (S:List Nat) (H H':HD):Prop where
 old:∀ (m:Nat) (o:DO),m∉S->H[m]? = some o->H'[m]? = some o\/∃ kvs,o=.dic kvs false/\H'[m]? = some (.dic kvs true)
 len:H.length<=H'.length
theorem Fm.refl {S:List Nat} {H:HD}:Fm S H H:=⟨fun _ _ _ h=>.inl h,Xf _⟩
theorem Fm.trans {S:List Nat} {H H1 H2:HD} (a:Fm S H H1) (b:Fm S H1 H2):Fm S H H2:=by
 refine⟨fun m o hm h=>?_,Xq a.len b.len⟩
 rcases a.old m o hm h with h1 | ⟨kvs,rfl,h1⟩
 ·exact b.old m o hm h1
 ·rcases b.old m _ hm h1 with h2 | ⟨k2,e,_⟩
  ·exact .inr ⟨kvs,rfl,h2⟩
  ·cases e
theorem Fm.sub {S T:List Nat} {H H':HD} (a:Fm S H H') (h:∀ m∈S,m∈T):Fm T H H':=⟨fun m o hm q=>a.old m o (fun z=>hm (h m z)) q,a.len⟩
theorem Fm.app {S:List Nat} {H:HD} (L:HD):Fm S H (H++L):=⟨fun m o _ q=>.inl (by
 have:m<H.length:=(Xc.mp q).1
 rw[Xo this]; exact q),by simp⟩
theorem Fm.set {S:List Nat} {H:HD} {p:Nat} {o:DO} (h:p∈S):Fm S H (H.set p o):=⟨fun m u hm q=>.inl (by rw[Wbe (fun z=>hm (by rw[<- z]; exact h))]; exact q),by simp⟩
theorem Fm.new {S T:List Nat} {H H1 H':HD} (a:Fm S H H1) (b:Fm T H1 H') (h:∀ m∈T,m∉S->H.length<=m):Fm S H H':=by
 refine⟨fun m o hm q=>?_,Xq a.len b.len⟩
 have lt:m<H.length:=(Xc.mp q).1
 have ht:m∉T:=fun z=>by have:=h m z hm; omega
 rcases a.old m o hm q with h1 | ⟨kvs,rfl,h1⟩
 ·exact b.old m o ht h1
 ·rcases b.old m _ ht h1 with h2 | ⟨k2,e,_⟩
  ·exact .inr ⟨kvs,rfl,h2⟩
  ·cases e
theorem Fm.lst {S:List Nat} {H H':HD} (x:Fm S H H') {m:Nat} {xs:List D} (hm:m∉S) (h:H[m]? = some (.lst xs)):H'[m]? = some (.lst xs):=by
 rcases x.old m _ hm h with h1 | ⟨k2,e,_⟩
 ·exact h1
 ·cases e
theorem isl {H:HD} {n:Nat} {xs:List D} (h:H[n]? = some (.lst xs)):Ze7 (.ref n) H=true:=by simp[Ze7,h]
theorem Zr5 {H:HD} {n:Nat} {o:DO} (h:H[n]? = some o):Zbn [(n,o)] H:=by intro p hp; simp at hp; subst hp; exact h
theorem Zff {H:HD}:Zbn [] H:=by intro p hp; cases hp
theorem last {H:HD} {o:DO}:(H++[o])[H.length]? = some o:=by simp
theorem appL {H:HD} {n:Nat} {o u:DO} (h:H[n]? = some o):(H++[u])[n]? = some o:=by
 rw[Xo (Xc.mp h).1]; exact h
theorem setO {H:HD} {n m:Nat} {o u:DO} (hn:n≠m) (h:H[m]? = some o):(H.set n u)[m]? = some o:=by rw[Wbe hn]; exact h
theorem setS {H:HD} {n:Nat} {o u:DO} (h:H[n]? = some u):(H.set n o)[n]? = some o:=Xy (Xc.mp h).1
structure Fine (d:D) (x:Uak) (h:Nat):Prop where
 to:∀ H n,toP H n d=some x
 lay:x.canLay0=true
 dep:x.depth<=h
theorem Fine.le {d:D} {x:Uak} {h h':Nat} (f:Fine d x h) (l:h<=h'):Fine d x h':=⟨f.to,f.lay,Xq f.dep l⟩
theorem Fine.int (i:Int):Fine (.int i) (.int i) 0:=⟨fun H n=>Znz H n i,rfl,Xf _⟩
theorem Fine.bl (b:Bool):Fine (.bl b) (.bool b) 0:=⟨fun H n=>Zyg H n b,rfl,Xf _⟩
theorem Fine.str {s:Str} (h:Tcx s=true):Fine (.str s) (.str s) 0:=⟨fun H n=>Zju H n s,h,Xf _⟩
structure Fines (ds:List D) (xs:List Uak) (h:Nat):Prop where
 to:∀ H n,Zly H n ds=some xs
 lay:Tag xs=true
 dep:Tcz xs<=h
 len:xs.length=ds.length
theorem Fines.nil {h:Nat}:Fines [] [] h:=⟨fun H n=>by rw[Zly],rfl,Wbx _,rfl⟩
theorem Fines.cons {d:D} {x:Uak} {ds:List D} {xs:List Uak} {h:Nat} (a:Fine d x h) (b:Fines ds xs h):Fines (d::ds) (x::xs) h :=
 ⟨fun H n=>by rw[Zly,a.to,b.to]; rfl,by simp[Tag,a.lay,b.lay],by simp only[Tcz]; exact Nat.max_le.mpr ⟨a.dep,b.dep⟩,by simp[b.len]⟩
theorem Fines.of {h:Nat}:∀ ds:List D,(∀ d∈ds,∃ x,Fine d x h)->∃ xs,Fines ds xs h
 | [],_=>⟨[],.nil⟩
 | d::ds,f=>by
  obtain⟨x,a⟩:=f d (by simp)
  obtain⟨xs,b⟩:=Fines.of ds fun e he=>f e (by simp[he])
  exact⟨x::xs,.cons a b⟩
theorem Fine.tup {ds:List D} {xs:List Uak} {h:Nat} (f:Fines ds xs h):Fine (.tup ds) (.tuple xs) (h+1) :=
 ⟨fun H n=>by cases n<;>rw[toP,f.to]<;>rfl,f.lay,Wds f.dep⟩
theorem Fine.dat {d:D} {x:Uak} {h:Nat} (f:Fine d x h) (l:h<=30) (H:HD):DL.dat d H=some x:=by
 unfold DL.dat
 rw[f.to]
 have:x.depth<=30:=Xq f.dep l
 simp[okP,f.lay,this]
theorem Fines.dat {ds:List D} {xs:List Uak} {h:Nat} (f:Fines ds xs h) (l:h<30) {H:HD} {p:Nat} (g:H[p]? = some (.lst ds)):DL.dat (.ref p) H=some (.list xs):=by
 unfold DL.dat
 rw[toP]
 simp only[g]
 rw[f.to]
 have:(PyData.list xs).depth<=30:=Xq (Wds f.dep) l
 have h2:(PyData.list xs).canLay0=true:=f.lay
 simp[okP,h2,this]
mutual
theorem Zhz:∀ x:Uak,x.canLay0=true->Ub x x=true
 | .none,_=>by simp[Ub]
 | .bool _,_=>by simp[Ub]
 | .int _,_=>by simp[Ub]
 | .str _,_=>by simp[Ub]
 | .list xs,h=>by rw[Ub]; exact Zdv xs h
 | .tuple xs,h=>by rw[Ub]; exact Zdv xs h
 | .dict _,h=>by cases h
theorem Zdv:∀ xs:List Uak,Tag xs=true->Tbt xs xs=true
 | [],_=>by rw[Tbt]
 | x::xs,h=>by
  simp only[Tag,Wbc] at h
  rw[Tbt,Zhz x h.1,Zdv xs h.2]; rfl
end
theorem Zue {a b:D} {x y:Uak} {H:HD} (h1:dat a H=some x) (h2:dat b H=some y):eqD a b H=some (.bl (Ub x y),H):=by
 unfold eqD
 cases e:Zpp a b with
 | none=>rw[h1,h2]; rfl
 | some p =>
  obtain⟨s,t⟩:=p
  unfold Zpp at e
  split at e
  ·cases e
   unfold dat at h1 h2
   rw[Zju] at h1 h2
   simp only[Zb] at h1 h2
   split at h1
   ·split at h2
    ·cases h1; cases h2; simp[Ub]
    ·cases h2
   ·cases h1
  ·cases e
theorem Zub {a b:D} {x y:Uak} {H:HD} (h1:dat a H=some x) (h2:dat b H=some y):neD a b H=some (.bl (!Ub x y),H):=by
 unfold neD
 cases e:Zpp a b with
 | none=>rw[h1,h2]; rfl
 | some p =>
  obtain⟨s,t⟩:=p
  unfold Zpp at e
  split at e
  ·cases e
   unfold dat at h1 h2
   rw[Zju] at h1 h2
   simp only[Zb] at h1 h2
   split at h1
   ·split at h2
    ·cases h1; cases h2; simp[Ub]; rfl
    ·cases h2
   ·cases h1
  ·cases e
variable {H:HD} {Q:D->HD->Prop}
theorem Zwm {a b:D} {x y:Uak} {h k:Nat} (f:Fine a x h) (g:Fine b y k) (hh:h<=30) (hk:k<=30) (q:Q (.bl (Ub x y)) H):wE (eqD a b H) Q:=⟨_,_,Zue (f.dat hh H) (g.dat hk H),q⟩
theorem Ztf {a b:D} {x y:Uak} {h k:Nat} (f:Fine a x h) (g:Fine b y k) (hh:h<=30) (hk:k<=30) (q:Q (.bl (!Ub x y)) H):wE (neD a b H) Q:=⟨_,_,Zub (f.dat hh H) (g.dat hk H),q⟩
theorem Zqu {a:D} {x:Uak} {h:Nat} (f:Fine a x h) (hh:h<=30) (q:Q (.bl false) H):wE (neD a a H) Q:=Ztf f f hh hh (by rw[Zhz x f.lay]; exact q)
theorem Zkt {a:D} {x:Uak} {h:Nat} (f:Fine a x h) (hh:h<=30) (q:Q (.bl true) H):wE (eqD a a H) Q:=Zwm f f hh hh (by rw[Zhz x f.lay]; exact q)
theorem Zwj {a:D} {x:Uak} {h k p:Nat} {ds:List D} {xs:List Uak} (f:Fine a x h) (g:Fines ds xs k) (hh:h<=30) (hk:k<30) (hp:H[p]? = some (.lst ds)) (q:Q (.bl (xs.any fun z=>Ub z x)) H):wE (inD a (.ref p) H) Q :=
 ⟨_,_,by unfold inD; rw[f.dat hh,Zb,g.dat hk hp]; rfl,q⟩
theorem w_neI {i j:Int} (q:Q (.bl (!(i==j))) H):wE (neD (.int i) (.int j) H) Q:=Ztf (.int i) (.int j) (by omega) (by omega) (by simpa [Ub] using q)
theorem w_neI' {i j:Int} {r:Bool} (hr:(i==j)=r) (q:Q (.bl (!r)) H):wE (neD (.int i) (.int j) H) Q:=w_neI (by rw[hr]; exact q)
end WP
set_option maxHeartbeats 8000000
namespace K08
open PySem L2 DL
nonrec def k_TRUTHS:D:=(.tup [(.bl false),(.bl true)])
nonrec def Zbi:SF :=
 (Zai (Zc0 (eLC (iR1 (Zab (eCB Ze1 (Zab (Zac 0) Zah)) Zah)) [0] Zjj (eTM Zfk (eSl (Zac 1) Zgp (Ze6 (Zac 0))) (Zab (eC (.str "all")) Zah))))
 Zaq)
nonrec def Zbv:FF:=Zce 1 1 Zbi
nonrec def Zc9:SF :=
 (Zai (Za6 1 (Zel (Zab (Zca Zah) Zah)))
 (Zai (sWh (tOf (eOp ltD (eCB Ze1 (Zab (eOp ixD (Zac 1) (eC (.int 0))) Zah)) (Zac 0))) (Zai (Za6 2 (Zel Zah))
 (Zai (Zfh (iSq (Zac 1)) (gNm 3) (Zai (Zcy (eLM Zdo (Zac 2) (Zab (eLC (iSq (eC k_TRUTHS)) [3] Zjj (eOp Zb4 (Zac 1) (Zca (Zab (Zac 0) Zah)))) Zah)))
 Zaq))
 (Zai (Za6 1 (Zac 2))
 Zaq))) 20)
 (Zai (Zc0 (Zac 1))
 Zaq)))
nonrec def Zd9:FF:=Zce 1 4 Zc9
nonrec def Zck:SF :=
 (Zai (Za6 1 (Zel Zah))
 (Zai (Za6 2 (Zax 1 Zbv (Zab (Zac 0) Zah)))
 (Zai (Zfh (Zqh (Zab (Zac 0) Zah)) (gTp 2 (gCn (gNm 3) (gCn (gNm 4) gNl))) (Zai (sIf (tOf (eOp eqD (Zac 4) (eC (.str "some")))) (Zai (Zcy (eLM Zdo (Zac 1) (Zab (eLC (iSq (Zax 1 Zd9 (Zab (eOp ixD (Zac 2) (Zac 3)) Zah))) [3] Zjj (Zca (Zab (eOp Zb4 (Zac 1) (eC (.int 1))) (Zab (Zac 0) Zah)))) Zah)))
 Zaq) Zaq)
 Zaq))
 (Zai (Zc0 (eCB Zbu (Zab (Zac 1) Zah)))
 Zaq))))
nonrec def Zep:FF:=Zce 1 5 Zck
nonrec def Zbt:SF :=
 (Zai (Za6 5 (Zel Zah))
 (Zai (Zfh (iSq (Zac 3)) (gNm 6) (Zai (Za6 7 (eCB Zsj (Zab (Zac 6) Zah)))
 (Zai (Za6 8 (eOp ixD (Zac 1) (eOp Zkl (Zac 7) (eC (.int 1)))))
 (Zai (sIf (tOf (eOp eqD (eOp ixD (Zac 0) (eOp Zkl (Zac 7) (eC (.int 1)))) (eC (.str "some")))) (Zai (Za6 9 (eOp Zjs (Zac 2) (Zca (Zab (Zac 7) (Zab (eSl (Zac 4) Zgp (Ze6 (Zac 8))) Zah)))))
 (Zai (Zcy (eLM Zbb (Zac 5) (Zab (eIf (tOf (eOp gtD (Zac 6) (eC (.int 0)))) (Zac 9) (eUn Zr4 (Zac 9))) Zah)))
 Zaq)) (Zai (sIf (tOf (eOp eqD (eOp ixD (Zac 4) (Zac 8)) (eOp gtD (Zac 6) (eC (.int 0))))) (Zai (Zc0 (eC .non))
 Zaq) Zaq)
 Zaq))
 Zaq))))
 (Zai (Zc0 (eCB Zbu (Zab (Zac 5) Zah)))
 Zaq)))
nonrec def Zb9:FF:=Zce 5 10 Zbt
nonrec def Zeg:SF :=
 (Zai (Za6 1 (eOp ixD (Zac 0) (eC (.int 0))))
 (Zai (Za6 2 (Zax 1 Zep (Zab (Zac 1) Zah)))
 (Zai (Za6 3 (eCB Ze4 (Zab (Zvc (Zkk (Zab (Zac 2) Zah)) [] Zjj (Zca (Zab (Zac 1) (Zab (Zac 0) Zah)))) Zah)))
 (Zai (Za6 4 (Zax 1 Zbv (Zab (Zac 1) Zah)))
 (Zai (Za6 5 eDN)
 (Zai (Zfh (iSq (Zax 1 Zd9 (Zab (eTM Zfk (Zac 1) (Zab (eC (.str "all")) Zah)) Zah))) (gNm 6) (Zai (Zfh (iSq (eOp ixD (Zac 0) (eC (.int 1)))) (gNm 7) (Zai (Za6 8 (Zax 5 Zb9 (Zab (Zac 1) (Zab (Zac 4) (Zab (Zac 3) (Zab (Zac 7) (Zab (Zac 6) Zah)))))))
 (Zai (sIf (tOf (eOp Zu5 (Zac 8) (eC .non))) (Zai (Zra (eC (.bl true)) (gSb (Zac 5) (Zac 8) Ziv))
 Zaq) Zaq)
 Zaq)))
 Zaq))
 (Zai (Zc0 (Zca (Zab (Zac 2) (Zab (eCB Zbu (Zab (eCB Zgw (Zab (Zac 5) Zah)) Zah)) Zah))))
 Zaq)))))))
nonrec def Zdg:FF:=Zce 1 9 Zeg
nonrec def Zc1:SF :=
 (Zai (Za6 2 (eOp ixD (Zel (Zab (eC (.int 2147483647)) (Zab (eC (.int 2147483629)) (Zab (eC (.int 2147483587)) (Zab (eC (.int 2147483579)) (Zab (eC (.int 2147483563)) (Zab (eC (.int 2147483549)) (Zab (eC (.int 2147483543)) Zah)))))))) (eOp Zd4 (Zac 1) (eC (.int 7)))))
 (Zai (Za6 3 (eOp Zd4 (eOp Zh3 (eOp Zb4 (eOp Zd4 (Zac 0) (eC (.int 998244353))) (eOp Zh3 (eC (.int 104729)) (eOp Zb4 (Zac 1) (eC (.int 1))))) (eOp Zb4 (eOp Zb4 (eOp Zh3 (Zac 1) (Zac 1)) (eOp Zh3 (eC (.int 7)) (Zac 1))) (eC (.int 13)))) (Zac 2)))
 (Zai (Za6 3 (eOp Zd4 (eOp Zvb (Zac 3) (eC (.int 5))) (eC (.int 1000000007))))
 (Zai (Za6 3 (eOp Zd4 (eOp Zb4 (eOp Zb4 (eOp Zh3 (Zac 3) (eC (.int 48271))) (eOp Zh3 (eC (.int 31)) (Zac 1))) (eC (.int 5))) (Zac 2)))
 (Zai (Zc0 (eOp Ziw (eOp Zd4 (eOp Zvb (Zac 3) (eC (.int 3))) (eC (.int 998244353))) (eC (.int 8))))
 Zaq)))))
nonrec def Zgb:FF:=Zce 2 4 Zc1
nonrec def Zbo:SF :=
 (Zai (Za6 2 (Zel Zah))
 (Zai (Za6 3 (eCB Zsj (Zab (Zac 0) Zah)))
 (Zai (Za6 4 (eOp geD (Zac 3) (eOp Zvb (eC (.int 10)) (eC (.int 18)))))
 (Zai (Zfh (iR1 (Zab (Zac 1) Zah)) (gNm 5) (Zai (sIf (tAn (Zpr (Zac 4)) (tOf (eOp gtD (Zac 3) (eC (.int 0))))) (Zai (Zcy (eLM Zbb (Zac 2) (Zab (eOp Zd4 (Zac 3) (eC (.int 10007))) Zah)))
 (Zai (Za6 3 (eOp Ziw (Zac 3) (eC (.int 10007))))
 Zaq)) (Zai (Zcy (eLM Zbb (Zac 2) (Zab (Zax 2 Zgb (Zab (Zac 0) (Zab (Zac 5) Zah))) Zah)))
 Zaq))
 Zaq))
 (Zai (Zc0 (Zac 2))
 Zaq)))))
nonrec def Zbp:FF:=Zce 2 6 Zbo
nonrec def Zcs:SF :=
 (Zai (sIf (tOf (eOp ltD (Zac 1) (eCB Ze1 (Zab (Zac 0) Zah)))) (Zai (Zc0 (eOp ixD (Zac 0) (Zac 1)))
 Zaq) Zaq)
 (Zai (Zc0 (eOp Zb4 (eOp Zb4 (eOp Zh3 (eC (.int 67)) (Zac 1)) (eC (.int 19))) (eCB Ze1 (Zab (Zac 0) Zah))))
 Zaq))
nonrec def Zcm:FF:=Zce 2 2 Zcs
nonrec def Zb3:SF :=
 (Zai (Za6 2 (Zel Zah))
 (Zai (Zfh (iR1 (Zab (Zac 1) Zah)) (gNm 3) (Zai (Za6 4 (eOp ixD (Zel (Zab (eC (.str "all")) (Zab (eC (.str "some")) Zah))) (eOp Zd4 (eOp ixD (Zac 0) (eOp Zb4 (eC (.int 1)) (Zac 3))) (eC (.int 2)))))
 (Zai (sIf (tOf (eOp eqD (eOp Zd4 (eOp ixD (Zac 0) (eC (.int 0))) (eC (.int 4))) (eC (.int 1)))) (Zai (Za6 4 (eOp ixD (Zel (Zab (eC (.str "some")) (Zab (eC (.str "all")) Zah))) (eOp Zd4 (eOp Zb4 (Zac 3) (eOp ixD (Zac 0) (eC (.int 1)))) (eC (.int 2)))))
 Zaq) Zaq)
 (Zai (sIf (tOf (eOp eqD (eOp Zd4 (eOp ixD (Zac 0) (eC (.int 0))) (eC (.int 4))) (eC (.int 2)))) (Zai (Za6 4 (eOp ixD (Zel (Zab (eC (.str "all")) (Zab (eC (.str "some")) Zah))) (eCB Zs3 (Zab (eOp gtD (eOp Zd4 (eOp ixD (Zac 0) (eOp Zb4 (eC (.int 1)) (Zac 3))) (eC (.int 3))) (eC (.int 0))) Zah))))
 Zaq) Zaq)
 (Zai (Zcy (eLM Zbb (Zac 2) (Zab (Zac 4) Zah)))
 Zaq)))))
 (Zai (Zc0 (eCB Zbu (Zab (Zac 2) Zah)))
 Zaq)))
nonrec def Zdw:FF:=Zce 2 5 Zb3
nonrec def Zc2:SF :=
 (Zai (Za6 3 (Zax 2 Zbp (Zab (Zac 0) (Zab (eOp Zb4 (Zac 1) (eC (.int 1))) Zah))))
 (Zai (Za6 4 (Zel Zah))
 (Zai (Zfh (iR1 (Zab (Zac 1) Zah)) (gNm 5) (Zai (sIf (tOf (eOp ltD (eOp Zd4 (eOp ixD (Zac 3) (eOp Zb4 (eC (.int 1)) (Zac 5))) (eOp Zb4 (Zac 1) (eC (.int 1)))) (eOp Zb4 (Zac 2) (eOp Zd4 (eOp ixD (Zac 3) (eC (.int 0))) (eC (.int 3)))))) (Zai (Zcy (eLM Zbb (Zac 4) (Zab (eOp ixD (Zel (Zab (eOp Zb4 (Zac 5) (eC (.int 1))) (Zab (eOp Zkl (eOp Zkl (eC (.int 0)) (Zac 5)) (eC (.int 1))) Zah))) (eOp Zd4 (eOp Ziw (eOp ixD (Zac 3) (eOp Zb4 (eC (.int 1)) (Zac 5))) (eOp Zb4 (Zac 1) (eC (.int 1)))) (eC (.int 2)))) Zah)))
 Zaq) Zaq)
 Zaq))
 (Zai (Zc0 (eCB Zbu (Zab (Zac 4) Zah)))
 Zaq))))
nonrec def Zfp:FF:=Zce 3 6 Zc2
nonrec def Zb2:SF :=
 (Zai (Za6 2 (Zax 2 Zbp (Zab (Zax 2 Zcm (Zab (Zac 0) (Zab (eC (.int 0)) Zah))) (Zab (eC (.int 14)) Zah))))
 (Zai (Za6 3 (eOp ixD (Zel (Zab (eOp Zd4 (eOp ixD (Zac 2) (eC (.int 0))) (eOp Zb4 (Zac 1) (eC (.int 1)))) (Zab (eOp Zkl (Zac 1) (eOp Zd4 (eOp ixD (Zac 2) (eC (.int 0))) (eC (.int 3)))) (Zab (Zac 1) Zah)))) (eOp Zd4 (eOp ixD (Zac 2) (eC (.int 1))) (eC (.int 3)))))
 (Zai (Za6 4 (Zax 2 Zdw (Zab (eSl (Zac 2) (Ze6 (eC (.int 2))) Zgp) (Zab (eCB maxD (Zab (eC (.int 0)) (Zab (Zac 3) Zah))) Zah))))
 (Zai (Za6 5 (eOp ixD (Zel (Zab (eOp Zd4 (eOp ixD (Zac 2) (eC (.int 12))) (eC (.int 5))) (Zab (eOp Zd4 (eOp ixD (Zac 2) (eC (.int 12))) (eC (.int 11))) (Zab (eOp Zb4 (eC (.int 5)) (eOp Zd4 (eOp ixD (Zac 2) (eC (.int 12))) (eC (.int 16)))) Zah)))) (eOp Zd4 (eOp ixD (Zac 2) (eC (.int 11))) (eC (.int 3)))))
 (Zai (Za6 6 (eLC (iR1 (Zab (Zac 5) Zah)) [0,4] Zjj (Zax 3 Zfp (Zab (Zax 2 Zcm (Zab (Zac 1) (Zab (eOp Zb4 (eC (.int 1)) (Zac 0)) Zah))) (Zab (eCB Ze1 (Zab (Zac 2) Zah)) (Zab (eC (.int 1)) Zah))))))
 (Zai (sIf (tOf (eOp gtD (eOp Zd4 (eOp ixD (Zac 2) (eC (.int 13))) (eC (.int 3))) (eC (.int 0)))) (Zai (Za6 6 (eLC (iSq (Zac 6)) [] (tOf (eOp neD (Zac 0) (Zca Zah))) (Zac 0)))
 Zaq) Zaq)
 (Zai (Zc0 (Zca (Zab (Zac 4) (Zab (eCB Zbu (Zab (Zac 6) Zah)) Zah))))
 Zaq)))))))
nonrec def Zdu:FF:=Zce 2 7 Zb2
nonrec def Zbf:SF :=
 (Zai (Za6 1 (Zel (Zab (Zca Zah) Zah)))
 (Zai (Zfh (iR1 (Zab (Zac 0) Zah)) (gNm 2) (Zai (Za6 3 (Zel Zah))
 (Zai (Zfh (iSq (Zac 1)) (gNm 4) (Zai (Za6 3 (eOp Zb4 (Zac 3) (Zel (Zab (eOp Zb4 (Zac 4) (Zca (Zab (eC (.bl false)) Zah))) (Zab (eOp Zb4 (Zac 4) (Zca (Zab (eC (.bl true)) Zah))) Zah)))))
 Zaq))
 (Zai (Za6 1 (Zac 3))
 Zaq))))
 (Zai (Zc0 (Zac 1))
 Zaq)))
nonrec def Zbg:FF:=Zce 1 5 Zbf
nonrec def Zbd:SF :=
 (Zai (Zc0 (eLC (iR2 (Zab (eC (.int 1)) (Zab (Zac 1) Zah))) [0,2] (tOf (eOp eqD (eOp ixD (Zac 1) (eOp Zkl (Zac 0) (eC (.int 1)))) (Zac 2))) (Zac 0)))
 Zaq)
nonrec def Za3:FF:=Zce 3 3 Zbd
nonrec def Zby:SF :=
 (Zai (Za6 2 (eOp ixD (Zel (Zab (eC (.str "all")) (Zab (eC (.str "some")) Zah))) (eCB Zs3 (Zab (eOp eqD (Zac 1) (eC (.str "all"))) Zah))))
 (Zai (Za6 3 (Zel Zah))
 (Zai (Zfh (iR2 (Zab (eC (.int 1)) (Zab (eOp Zb4 (eCB Ze1 (Zab (Zac 0) Zah)) (eC (.int 1))) Zah))) (gNm 4) (Zai (sIf (tOf (eOp eqD (eOp ixD (Zac 0) (eOp Zkl (Zac 4) (eC (.int 1)))) (Zac 1))) (Zai (Zfh (iSq (Zax 1 Zbg (Zab (eCB Ze1 (Zab (Zax 3 Za3 (Zab (Zac 0) (Zab (Zac 4) (Zab (Zac 2) Zah)))) Zah)) Zah))) (gNm 5) (Zai (Zcy (eLM Zbb (Zac 3) (Zab (Zca (Zab (Zac 4) (Zab (Zac 5) Zah))) Zah)))
 Zaq))
 Zaq) Zaq)
 Zaq))
 (Zai (Zc0 (Zac 3))
 Zaq))))
nonrec def Zdt:FF:=Zce 2 6 Zby
nonrec def Zaz:SF :=
 (Zai (Za6 5 (eDZI (Zab (Zac 2) (Zab (Zac 3) Zah))))
 (Zai (Za6 6 (Zel Zah))
 (Zai (Zfh (iSq (Zac 4)) (gNm 7) (Zai (Za6 8 (eCB Zsj (Zab (Zac 7) Zah)))
 (Zai (sIf (tOf (eOp Zwh (Zac 8) (Zac 5))) (Zai (sIf (tOf (eOp eqD (eOp Zox (Zac 5) (Zac 8)) (eOp gtD (Zac 7) (eC (.int 0))))) (Zai (Zc0 (eC .non))
 Zaq) Zaq)
 Zaq) (Zai (Za6 9 (Zca (Zab (Zac 8) (Zab (eSl (Zac 3) Zgp (Ze6 (eCB Ze1 (Zab (Zax 3 Za3 (Zab (Zac 0) (Zab (Zac 8) (Zab (eC (.str "all")) Zah)))) Zah)))) Zah))))
 (Zai (Zcy (eLM Zbb (Zac 6) (Zab (eOp Zh3 (eOp ixD (Zel (Zab (eUn Zr4 (eC (.int 1))) (Zab (eC (.int 1)) Zah))) (eCB Zs3 (Zab (eOp gtD (Zac 7) (eC (.int 0))) Zah))) (eOp Zb4 (eOp Zjs (Zac 1) (Zac 9)) (eC (.int 1)))) Zah)))
 Zaq)))
 Zaq)))
 (Zai (Zc0 (eCB Zbu (Zab (Zac 6) Zah)))
 Zaq))))
nonrec def Zba:FF:=Zce 5 10 Zaz
nonrec def Zbs:SF :=
 (Zai (Zra (Zac 0) (gTp 2 (gCn (gNm 6) (gCn (gNm 7) gNl))))
 (Zai (Za6 1 (Zax 2 Zdt (Zab (Zac 6) (Zab (eC (.str "some")) Zah))))
 (Zai (Za6 2 (eCB Ze4 (Zab (Zvc (Zkg (Zab (Zac 1) Zah)) [] Zjj (Zca (Zab (Zac 1) (Zab (Zac 0) Zah)))) Zah)))
 (Zai (Za6 3 (Zax 3 Za3 (Zab (Zac 6) (Zab (eOp Zb4 (eCB Ze1 (Zab (Zac 6) Zah)) (eC (.int 1))) (Zab (eC (.str "all")) Zah)))))
 (Zai (Za6 4 eDN)
 (Zai (Zfh (iSq (Zax 1 Zbg (Zab (eCB Ze1 (Zab (Zac 3) Zah)) Zah))) (gNm 5) (Zai (Zfh (iSq (Zac 7)) (gNm 8) (Zai (Za6 9 (Zax 5 Zba (Zab (Zac 6) (Zab (Zac 2) (Zab (Zac 3) (Zab (Zac 5) (Zab (Zac 8) Zah)))))))
 (Zai (sIf (tOf (eOp Zu5 (Zac 9) (eC .non))) (Zai (Zra (eC (.bl true)) (gSb (Zac 4) (Zac 9) Ziv))
 Zaq) Zaq)
 Zaq)))
 Zaq))
 (Zai (Zc0 (Zca (Zab (eCB Zbu (Zab (Zac 1) Zah)) (Zab (eCB Zbu (Zab (eCB Zgw (Zab (Zac 4) Zah)) Zah)) Zah))))
 Zaq)))))))
nonrec def Zdc:FF:=Zce 1 10 Zbs
nonrec def Zbm:SF :=
 (Zai (sIf (Zmj (tNo (Zpr (eCB Zml (Zab (Zac 0) (Zab (eC (.ty "tuple")) Zah))))) (tOf (eOp neD (eCB Ze1 (Zab (Zac 0) Zah)) (eC (.int 2))))) (Zai (Zc0 (eC (.bl false)))
 Zaq) Zaq)
 (Zai (sIf (Zmj (tNo (Zpr (eCB Zml (Zab (eOp ixD (Zac 0) (eC (.int 0))) (Zab (eC (.ty "tuple")) Zah))))) (tNo (Zpr (eCB Zml (Zab (eOp ixD (Zac 0) (eC (.int 1))) (Zab (eC (.ty "tuple")) Zah)))))) (Zai (Zc0 (eC (.bl false)))
 Zaq) Zaq)
 (Zai (Zfh (iSq (eOp ixD (Zac 0) (eC (.int 0)))) (gTp 2 (gCn (gNm 2) (gCn (gNm 3) gNl))) (Zai (sIf (Zmj (Zpr (eCB Zml (Zab (Zac 2) (Zab (eC (.ty "bool")) Zah)))) (tOf (eOp inD (eC (.bl false)) (eLC (iSq (Zac 3)) [] Zjj (eCB Zml (Zab (Zac 0) (Zab (eC (.ty "bool")) Zah))))))) (Zai (Zc0 (eC (.bl false)))
 Zaq) Zaq)
 Zaq))
 (Zai (Zfh (iSq (eOp ixD (Zac 0) (eC (.int 1)))) (gNm 1) (Zai (sIf (Zmj (tNo (Zpr (eCB Zml (Zab (Zac 1) (Zab (eC (.ty "tuple")) Zah))))) (tOf (eOp inD (eC (.bl true)) (eLC (iSq (Zac 1)) [] Zjj (eCB Zml (Zab (Zac 0) (Zab (eC (.ty "bool")) Zah))))))) (Zai (Zc0 (eC (.bl false)))
 Zaq) Zaq)
 Zaq))
 (Zai (Zc0 (eC (.bl true)))
 Zaq)))))
nonrec def Zdb:FF:=Zce 1 4 Zbm
nonrec def Za4:SF :=
 (Zai (Zra (Zac 0) (gTp 2 (gCn (gNm 3) (gCn (gNm 4) gNl))))
 (Zai (sIf (Zmj (tOf (eOp gtD (eOp Zd4 (Zac 1) (eC (.int 6))) (eC (.int 0)))) (tOf (eOp gtD (eCB Ze1 (Zab (Zac 3) Zah)) (eC (.int 5))))) (Zai (Zc0 (Zac 0))
 Zaq) Zaq)
 (Zai (Za6 2 (eCB Zbu (Zab (eLC (iSq (eSl (Zac 4) Zgp (Ze6 (eOp Zb4 (eC (.int 1)) (eOp Zd4 (eOp Ziw (Zac 1) (eC (.int 6))) (eC (.int 20))))))) [] Zjj (eCB Zbu (Zab (eLC (iSq (Zac 0)) [] Zjj (eUn Zr4 (Zac 0))) Zah))) Zah)))
 (Zai (Zc0 (Zca (Zab (Zac 3) (Zab (eOp Zh3 (eOp Zb4 (Zac 4) (Zac 2)) (eOp Zb4 (eC (.int 1)) (eOp Zd4 (eOp Ziw (Zac 1) (eC (.int 120))) (eC (.int 3))))) Zah))))
 Zaq))))
nonrec def Zb0:FF:=Zce 2 5 Za4
nonrec def Zon:SF :=
 (Zai (Zfh (iR1 (Zab (eC (.int 2)) Zah)) (gNm 1) (Zai (Za6 2 (Zax 2 Zdu (Zab (eSl (Zac 0) (Ze6 (eOp Zh3 (eC (.int 5)) (Zac 1))) Zgp) (Zab (eOp ixD (Zel (Zab (eC (.int 8)) (Zab (eC (.int 6)) Zah))) (Zac 1)) Zah))))
 (Zai (Za6 2 (Zax 2 Zb0 (Zab (Zac 2) (Zab (eOp ixD (Zax 2 Zbp (Zab (Zax 2 Zcm (Zab (Zac 0) (Zab (eOp Zb4 (eC (.int 3)) (Zac 1)) Zah))) (Zab (eC (.int 32)) Zah))) (eC (.int 31))) Zah))))
 (Zai (Za6 3 (Zax 1 Zdc (Zab (Zac 2) Zah)))
 (Zai (Zfh (iR1 (Zab (eC (.int 2)) Zah)) (gNm 4) (Zai (Za6 5 (Zax 1 Zdg (Zab (Zac 2) Zah)))
 (Zai (sIf (Zmj (tNo (Zpr (Zax 1 Zdb (Zab (Zac 5) Zah)))) (tOf (eOp neD (Zac 5) (Zac 3)))) (Zai (Zc0 (eC (.bl false)))
 Zaq) Zaq)
 Zaq)))
 Zaq)))))
 (Zai (Zc0 (eAn (eOp eqD (Zax 1 Zdg (Zab (Zca (Zab (Zca Zah) (Zab (Zca Zah) Zah))) Zah)) (Zca (Zab (Zca Zah) (Zab (Zca Zah) Zah)))) (eOp eqD (Zax 1 Zdg (Zab (Zca (Zab (Zca (Zab (eC (.str "all")) Zah)) (Zab (Zca (Zab (Zca (Zab (eC (.int 1)) Zah)) (Zab (Zca Zah) Zah))) Zah))) Zah)) (Zca (Zab (Zca Zah) (Zab (Zca (Zab (Zca Zah) Zah)) Zah))))))
 Zaq))
nonrec def Zl1:FF:=Zce 1 6 Zon
end K08
set_option maxHeartbeats 4000000
namespace K08
open PySem L2 DL LH
theorem Zkj:∀ ls:List Int,Zjb (ls.map .int)=some ls
 | []=>rfl
 | l::r=>by simp[Zjb,Zv4,Zkj r]
theorem Zo3 (ls:List Int):nk (Za7 ls)=some ls:=Zkj ls
nonrec def kS (d:D):Bool:=match d with
 | .str s=>s == "some"
 | _=>false
nonrec def Zb1 (b:Bool):D:=if b then .str "some" else .str "all"
theorem Zof {d:D} (h:Za1 d):d=Zb1 (kS d):=by
 rcases h with rfl | rfl
 ·have:kS (.str "all")=false:=by decide
  rw[this]; rfl
 ·have:kS (.str "some")=true:=by decide
  rw[this]; rfl
theorem Ztm (a b:Bool) (H:HD):eqD (Zb1 a) (Zb1 b) H=some (.bl (a==b),H):=by
 have e1:((("all" : Str))==("some" : Str))=false:=by decide
 have e2:((("some" : Str))==("all" : Str))=false:=by decide
 cases a<;>cases b<;>simp[eqD,Zpp,Zb1,e1,e2]
nonrec def Zaj (bs:List Bool):D:=.tup (bs.map .bl)
end K08
namespace K08
open PySem L2 DL LH WP
theorem at0 (a b:D):atI [a,b] 0=some a:=Zcb (j:=0) rfl
theorem at1 (a b:D):atI [a,b] 1=some b:=Zcb (j:=1) rfl
structure Cl (ks:List D) (rss:List (List Int)):Prop where
 hk:∀ d∈ks,Za1 d
 hu:∀ ls∈rss,Up ks.length 0 ls
 hl:rss.length<=1000
 h8:ks.length<=8
nonrec def Zbz (ks:List D) (rss:List (List Int)):D:=.tup [.tup ks,.tup (rss.map Za7)]
variable {H:HD} {Q:D->HD->Prop}
theorem w_cl0 {ks:List D} {rss:List (List Int)} (q:Q (.tup ks) H):wE (ixD (Zbz ks rss) (.int 0) H) Q:=⟨_,_,ixT (at0 _ _),q⟩
theorem w_cl1 {ks:List D} {rss:List (List Int)} (q:Q (.tup (rss.map Za7)) H):wE (ixD (Zbz ks rss) (.int 1) H) Q:=⟨_,_,ixT (at1 _ _),q⟩
theorem Zwp {bs:List Bool} {H:HD} {Q:D->HD->Prop} (q:Q (.int bs.length) H):wE (Ze1 [Zaj bs] H) Q:=⟨_,_,lenB bs H,q⟩
theorem Zw7 {bs:List Bool} {t:Bool} {H:HD} {Q:D->HD->Prop} (h:bs.length<=1000) (q:Q (Zaj (bs++[t])) H):wE (Zb4 (Zaj bs) (.tup [.bl t]) H) Q :=
 ⟨Zaj (bs++[t]),H,by unfold Zaj; rw[adT (by simp; omega),Wba]; rfl,q⟩
theorem Zf5 {ks:List D} (hk:∀ d∈ks,Za1 d) {i:Nat} (h:i<ks.length):ks[i]? = some (Zb1 (kS (ks.getD i .non))):=by
 have e0:ks.getD i .non=ks[i]:=by simp[List.getD,h]
 have:=Zof (hk ks[i] (Wgg h))
 rw[Xx h,e0]
 exact congrArg some this
theorem Zd7 {a b:Bool} (q:Q (.bl (a==b)) H):wE (eqD (Zb1 a) (Zb1 b) H) Q:=⟨_,_,Ztm _ _ _,q⟩
local macro_rules | `(tactic| fail $s:str)=>do
 if s.getString == "g" then `(tactic| (repeat fail "go")) else if s.getString == "i" then `(tactic| ((repeat fail "go"); (refine WP.w_if ?_; (repeat fail "go")))) else Lean.Macro.throwUnsupported
local macro_rules | `(tactic| fail $s:str)=>do
 if s.getString == "lk" then `(tactic| first | assumption | with_reducible exact WP.last | (with_reducible refine WP.appL ?_; fail "lk"))
 else if s.getString == "go" then do
  let a0 <- `(by with_unfolding_all rfl)
  let a1 <- `(?_)
  let a2 <- `(by first | (simp; done) | (simp; omega) | omega)
  let a3 <- `(by decide)
  let a4 <- `(by with_unfolding_all first | exact(rfl:_=true) | exact(rfl:_=false))
  let a5 <- `(by fail "lk")
  let a6 <- `(by with_unfolding_all exact rfl)
  let t<-([`WP.w_var].map (·,[a0,a1])++[`WP.w_c,`WP.w_seq,`WP.w_kn,`WP.w_set,`WP.w_op,`WP.w_acons,`WP.w_anil,`WP.w_call,`WP.w_cb,`WP.w_tof,`WP.w_bl,`WP.w_bt,`WP.w_bf,`WP.w_bnt,`WP.w_bnf,`WP.w_ret,`WP.w_fr,`WP.w_kr,`WP.w_snil,`WP.w_expr,`WP.w_for,`WP.w_or,`WP.w_an,`WP.w_no,`WP.w_ttru,`WP.w_eif,`WP.w_eno,`WP.w_ean,`WP.w_eorr,`WP.w_un,`WP.w_ch,`WP.w_int,`WP.w_tup,`WP.w_lst,`WP.w_lm,`WP.w_tm,`WP.w_dm,`WP.w_dn,`WP.w_on,`WP.w_os,`WP.w_sl,`WP.w_rv,`WP.w_lc,`WP.w_asg,`WP.w_gnm,`WP.w_gsb,`WP.w_gcn,`WP.w_gnl].map (·,[a1])++[`WP.w_n,`WP.w_gtp,`WP.w_ixT,`WP.w_isN,`WP.w_isnN,`WP.w_isBl,`WP.w_isnBl].map (·,[a0,a1])++[`WP.w_sz,`WP.w_addT].map (·,[a2,a1])++[`WP.w_mod].map (·,[a3,a1])++[`WP.w_fdiv,`WP.w_mulL,`WP.w_mulR].map (·,[a3,a3,a1])++[`WP.w_eqI',`WP.w_neI',`WP.w_eqS',`WP.w_neS'].map (·,[a4,a1])++[`WP.w_lenR,`WP.w_tupR,`WP.w_itR].map (·,[a5,a1])++[`WP.w_ixR].map (·,[a5,a0,a1])++[`WP.w_isi'].map (·,[a0,a0,a4,a1])++[`WP.w_addI,`WP.w_subI,`WP.w_lt,`WP.w_le,`WP.w_gt,`WP.w_ge,`WP.w_slhi,`WP.w_sllo,`WP.w_sllo1,`WP.w_neg,`WP.w_eqI,`WP.w_neI,`WP.w_eqS,`WP.w_neS,`WP.w_lenT,`WP.w_lenF,`WP.w_abs,`WP.w_intI,`WP.w_intB,`WP.w_max,`WP.w_min,`WP.w_truB,`WP.w_truT,`WP.w_truN,`WP.w_isq,`WP.w_itT,`WP.w_itF,`WP.w_ir1,`WP.w_ir2,`WP.w_ir3,`WP.w_idic,`WP.w_enum,`WP.w_enum1,`WP.w_zip,`WP.w_yes,`WP.w_retn,`WP.w_fn,`WP.w_agn,`WP.w_agr,`WP.w_kb,`WP.w_kc,`WP.w_agb,`WP.w_agc,`WP.w_brk,`WP.w_cnt].map (·,[a1])++[`WP.w_bT,`WP.w_bF].map (·,[a6,a1]):List (Lean.Name×List Lean.Term)).foldrM (fun p (r:Lean.TSyntax `tactic) => `(tactic| first | with_reducible refine $(Lean.Syntax.mkApp (Lean.mkIdent p.1) p.2.toArray) | $r:tactic)) (<- `(tactic| fail "no"))
  return t
 else Lean.Macro.throwUnsupported
local macro_rules | `(tactic| fail $s:str)=>do
 if s.getString == "go" then `(tactic| first | with_reducible refine Zwp ?_ | with_reducible refine Zw7 (by omega) ?_ | with_reducible refine w_cl0 ?_ | with_reducible refine w_cl1 ?_)
 else Lean.Macro.throwUnsupported
variable {H:HD} {Q:D->HD->Prop}
theorem Zx5 {t:TF} {f g:SF} {σ:SD} {R:FD->SD->HD->Prop} (B:Bool) (h:wT (t σ H) fun b H'=>H'=H/\b=B) (ht:B=true->wS (f σ H) R) (hf:B=false->wS (g σ H) R):wS (sIf t f g σ H) R:=by
 obtain⟨b,H1,e,rfl,rfl⟩:=h
 exact w_if ⟨_,_,e,ht,hf⟩
theorem mod7 (k:Int):k % 7=0\/k % 7=1\/k % 7=2\/k % 7=3\/k % 7=4\/k % 7=5\/k % 7=6:=by
 obtain⟨n,hn⟩:=Wde (Wbb k (show (7:Int)≠0 by decide))
 have h1:=Wav k (show (0:Int)<7 by decide)
 rw[hn] at h1 ⊢
 exact(by decide:∀ n:Nat,n<7->((n:Int)=0\/(n:Int)=1\/(n:Int)=2\/(n:Int)=3\/(n:Int)=4\/(n:Int)=5\/(n:Int)=6)) n (Int.ofNat_lt.mp h1)
theorem mod3 (k:Int):k % 3=0\/k % 3=1\/k % 3=2:=by
 obtain⟨n,hn⟩:=Wde (Wbb k (show (3:Int)≠0 by decide))
 have h1:=Wav k (show (0:Int)<3 by decide)
 rw[hn] at h1 ⊢
 exact(by decide:∀ n:Nat,n<3->((n:Int)=0\/(n:Int)=1\/(n:Int)=2)) n (Int.ofNat_lt.mp h1)
theorem emT (x:Int) {m:Int} {k:Nat} (h:0<m) (hk:m<=(k:Int)+1):(x % m).toNat<=k:=by
 have:=Wav x h
 omega
theorem w_mix {cell k:Int} (h0:0<=k) (h1:k<=100) (q:∀ r H',0<=r->r<2147483648->Fm [] H H'->Q (.int r) H'):wE (Zgb [.int cell,.int k] H) Q:=by
 refine Zcc rfl ?_
 show wS (Zc1 [some (.int cell),some (.int k),none,none] H) _
 unfold Zc1
 obtain⟨P,hP,hP2,eP⟩:∃ P:Int,0<P/\P<2147483648/\atI [D.int 2147483647,.int 2147483629,.int 2147483587,.int 2147483579,.int 2147483563,.int 2147483549,.int 2147483543] (k % 7)=some (.int P):=by
  rcases mod7 k with h | h | h | h | h | h | h<;>rw[h]
  ·exact⟨2147483647,by decide,by decide,rfl⟩
  ·exact⟨2147483629,by decide,by decide,rfl⟩
  ·exact⟨2147483587,by decide,by decide,rfl⟩
  ·exact⟨2147483579,by decide,by decide,rfl⟩
  ·exact⟨2147483563,by decide,by decide,rfl⟩
  ·exact⟨2147483549,by decide,by decide,rfl⟩
  ·exact⟨2147483543,by decide,by decide,rfl⟩
 fail "g"
 refine w_ixR last eP ?_
 fail "g"
 have c0:=Wbb cell (show (998244353:Int)≠0 by decide)
 have c1:=Wav cell (show (0:Int)<998244353 by decide)
 generalize cell % 998244353=c at *
 refine w_mulL (by omega) (by omega) ?_
 fail "g"
 refine w_mulL (by omega) (by omega) ?_
 fail "g"
 refine w_mod hP ?_
 have a0:=Wbb ((c+104729*(k+1))*(k*k+7*k+13)) (show P≠0 by omega)
 have a1:=Wav ((c+104729*(k+1))*(k*k+7*k+13)) hP
 generalize (c+104729*(k+1))*(k*k+7*k+13) % P=a at *
 fail "g"
 refine Zu6 (by decide) (by decide) (by omega) ?_
 fail "g"
 have b0:=Wbb (a ^ (5:Int).toNat) (show (1000000007:Int)≠0 by decide)
 have b1:=Wav (a ^ (5:Int).toNat) (show (0:Int)<1000000007 by decide)
 generalize a ^ (5:Int).toNat % 1000000007=b at *
 refine w_mod hP ?_
 have d0:=Wbb (b*48271+31*k+5) (show P≠0 by omega)
 have d1:=Wav (b*48271+31*k+5) hP
 generalize (b*48271+31*k+5) % P=d at *
 fail "g"
 refine Zu6 (by decide) (by decide) (by omega) ?_
 fail "g"
 have e0:=Wbb (d ^ (3:Int).toNat) (show (998244353:Int)≠0 by decide)
 have e1:=Wav (d ^ (3:Int).toNat) (show (0:Int)<998244353 by decide)
 generalize d ^ (3:Int).toNat % 998244353=e at *
 exact q _ _ (by omega) (by omega) (Fm.app _)
def Zuq (ds:List Int):Prop:=∀ d∈ds,0<=d/\d<2147483648
theorem Zhr {cell:Int} {many:Nat} (h1:many<=100) (q:∀ (ds:List Int) p H',ds.length=many->Zuq ds->H'[p]? = some (.lst (ds.map .int))->H.length<=p->Fm [] H H'->Q (.ref p) H'):wE (Zbp [.int cell,.int many] H) Q:=by
 refine Zcc rfl ?_
 show wS (Zbo [some (.int cell),some (.int many),none,none,none,none] H) _
 unfold Zbo
 fail "g"
 refine Zu6 (by decide) (by decide) (by decide) ?_
 fail "g"
 generalize decide ((10:Int) ^ (18:Int).toNat<=Za5 cell)=wide
 refine⟨_,rfl,⟨by omega,by omega⟩,?_⟩
 rw[show ((many:Int)).toNat=many by omega]
 refine Zbq (fun d t σ H'=>d++t=Zal 0 many/\∃ (ds:List Int) (L:Int) (z5:Option D),ds.length=d.length/\Zuq ds/\H'[H.length]? = some (.lst (ds.map .int))/\Fm [H.length] (H++[.lst []]) H'/\0<=L/\σ=[some (.int cell),some (.int many),some (.ref H.length),some (.int L),some (.bl wide),z5]) (fun _ _ _ _ _=>Zff) (fun d x t σ H1 ⟨e0,ds,L,z5,e1,e2,e3,x1,hL,e5⟩=>?_) (fun d σ H1 ⟨e0,ds,L,z5,e1,e2,e3,x1,hL,e5⟩=>?_) _ [] _ _ ⟨rfl,[],Za5 cell,_,rfl,(by intro d h; cases h),last,Fm.refl,(by unfold Za5; split<;>omega),rfl⟩
 ·subst e5
  have hx:x∈Zal 0 many:=by rw[<- e0]; simp
  simp only[Zal,Xw,Wbw] at hx
  obtain⟨i,hi,rfl⟩:=hx
  have hd:d.length<=100:=by
   have:=congrArg Was e0
   simp[Zal] at this
   omega
  fail "g"
  refine Zx5 (wide&&decide (0<L)) ?_ (fun h=>?_) (fun h=>?_)
  ·fail "g"
   cases wide
   ·exact⟨(fun z=>nomatch z),fun _=>⟨rfl,rfl⟩⟩
   ·refine⟨fun _=>?_,(fun z=>nomatch z)⟩
    fail "g"
    exact⟨rfl,by simp⟩
  ·fail "g"
   refine⟨isl e3,?_⟩
   fail "g"
   refine Zhg e3 (by simp; omega) ?_
   fail "g"
   have m0:=Wbb L (show (10007:Int)≠0 by decide)
   have m1:=Wav L (show (0:Int)<10007 by decide)
   refine⟨by rw[<- e0]; simp,ds++[L % 10007],L / 10007,_,by simp[e1],?_,?_,x1.trans (Fm.set (by simp)),Int.ediv_nonneg hL (by decide),rfl⟩
   ·intro y hy
    rcases Xs.mp hy with h | h
    ·exact e2 y h
    ·simp at h; subst h; exact⟨m0,by omega⟩
   ·rw[Wba]; exact setS e3
  ·fail "g"
   refine⟨isl e3,?_⟩
   fail "g"
   refine w_mix (by omega) (by omega) fun r H2 r0 r1 x2=>?_
   fail "g"
   have e3':=x2.lst (by simp) e3
   refine Zhg e3' (by simp; omega) ?_
   fail "g"
   refine⟨by rw[<- e0]; simp,ds++[r],L,_,by simp[e1],?_,?_,(x1.trans (x2.sub (by simp))).trans (Fm.set (by simp)),hL,rfl⟩
   ·intro y hy
    rcases Xs.mp hy with h | h
    ·exact e2 y h
    ·simp at h; subst h; exact⟨r0,r1⟩
   ·rw[Wba]; exact setS e3'
 ·subst e5
  have hd:d.length=many:=by
   have:=congrArg Was e0
   simpa [Zal] using this
  fail "g"
  exact q ds _ H1 (by omega) e2 e3 (Xf _) ((Fm.app (S:=[]) _).new x1 (by intro m hm _; simp at hm; omega))
theorem Zc4 {p:Nat} {ds:List Int} {i:Int} (g:H[p]? = some (.lst (ds.map .int))) (hd:Zuq ds) (h0:0<=i) (h1:i<ds.length) (q:∀ r,0<=r->r<2147483648->Q (.int r) H):wE (ixD (.ref p) (.int i) H) Q:=by
 have lt:i.toNat<ds.length:=by omega
 have hm:=hd _ (Wgg lt)
 exact w_ixR g (Zfm h0 (d:=.int ds[i.toNat]) (by rw[Wah,Xx lt]; rfl)) (q _ hm.1 hm.2)
theorem Zso {r:Int} (h0:0<=r) (h1:r<2):∃ k,Za1 k/\atI [D.str "all",.str "some"] r=some k:=by
 rcases(show r=0\/r=1 by omega) with rfl | rfl
 ·exact⟨_,.inl rfl,rfl⟩
 ·exact⟨_,.inr rfl,rfl⟩
theorem Zx6 {r:Int} (h0:0<=r) (h1:r<2):∃ k,Za1 k/\atI [D.str "some",.str "all"] r=some k:=by
 rcases(show r=0\/r=1 by omega) with rfl | rfl
 ·exact⟨_,.inr rfl,rfl⟩
 ·exact⟨_,.inl rfl,rfl⟩
theorem mod2 (r:Int):0<=r % 2/\r % 2<2:=by omega
theorem Zs0 {p:Nat} {ds:List Int} {many:Nat} (g:H[p]? = some (.lst (ds.map .int))) (hd:Zuq ds) (hl:many+1<=ds.length) (h100:many<=100) (q:∀ ks H',(∀ d∈ks,Za1 d)->ks.length=many->Fm [] H H'->Q (.tup ks) H'):wE (Zdw [.ref p,.int many] H) Q:=by
 refine Zcc rfl ?_
 show wS (Zb3 [some (.ref p),some (.int many),none,none,none] H) _
 unfold Zb3
 fail "g"
 have hp:p<H.length:=(Xc.mp g).1
 refine⟨_,rfl,⟨by omega,by omega⟩,?_⟩
 rw[show ((many:Int)).toNat=many by omega]
 refine Zbq (fun d t σ H'=>d++t=Zal 0 many/\∃ (ks:List D) (z3 z4:Option D),ks.length=d.length/\(∀ d∈ks,Za1 d)/\H'[H.length]? = some (.lst ks)/\Fm [H.length] (H++[.lst []]) H'/\σ=[some (.ref p),some (.int many),some (.ref H.length),z3,z4]) (fun _ _ _ _ _=>Zff) (fun d x t σ H1 ⟨e0,ks,z3,z4,e1,e2,e3,x1,e5⟩=>?_) (fun d σ H1 ⟨e0,ks,z3,z4,e1,e2,e3,x1,e5⟩=>?_) _ [] _ _ ⟨rfl,[],_,_,rfl,(by intro d h; cases h),last,Fm.refl,rfl⟩
 ·subst e5
  have hx:x∈Zal 0 many:=by rw[<- e0]; simp
  simp only[Zal,Xw,Wbw] at hx
  obtain⟨i,hi,rfl⟩:=hx
  have hdl:d.length<=100:=by
   have:=congrArg Was e0
   simp[Zal] at this
   omega
  have gp:H1[p]? = some (.lst (ds.map .int)):=x1.lst (by simp; omega) (appL g)
  have Jn:∀ (L:List D) {H2:HD},Fm [H.length] (H++[.lst []]) H2->H2[p]? = some (.lst (ds.map .int))->H2[H.length]? = some (.lst ks)->Fm [H.length] (H++[.lst []]) (H2++[.lst L])/\(H2++[.lst L])[p]? = some (.lst (ds.map .int))/\(H2++[.lst L])[H.length]? = some (.lst ks):=fun L H2 a b c=>⟨a.trans (Fm.app _),appL b,appL c⟩
  refine w_gnm (w_seq ?_)
  refine Zh7 (fun σ H2=>(Fm [H.length] (H++[.lst []]) H2/\H2[p]? = some (.lst (ds.map .int))/\H2[H.length]? = some (.lst ks))/\∃ k,Za1 k/\σ=[some (.ref p),some (.int many),some (.ref H.length),some (.int (0+i)),some k]) ?_ ?_
  ·fail "g"
   refine Zc4 (appL gp) hd (by omega) (by omega) fun r r0 r1=>?_
   fail "g"
   obtain⟨k,hk,ek⟩:=Zso (mod2 r).1 (mod2 r).2
   refine w_ixR last ek ?_
   exact⟨rfl,Jn _ x1 gp e3,k,hk,rfl⟩
  rintro _ H2 ⟨⟨x2,g2,e4⟩,k,hk,rfl⟩
  refine w_seq (Zh7 (fun σ H2=>(Fm [H.length] (H++[.lst []]) H2/\H2[p]? = some (.lst (ds.map .int))/\H2[H.length]? = some (.lst ks))/\∃ k,Za1 k/\σ=[some (.ref p),some (.int many),some (.ref H.length),some (.int (0+i)),some k]) ?_ ?_)
  ·(refine WP.w_if ?_; fail "g")
   refine Zc4 g2 hd (by omega) (by omega) fun r r0 r1=>?_
   fail "g"
   refine⟨fun h=>?_,fun h=>?_⟩
   ·fail "g"
    refine Zc4 (appL g2) hd (by omega) (by omega) fun r' r0' r1'=>?_
    fail "g"
    obtain⟨k2,hk2,ek2⟩:=Zx6 (mod2 (0+(i:Int)+r')).1 (mod2 _).2
    refine w_ixR last ek2 ?_
    fail "g"
    exact⟨rfl,Jn _ x2 g2 e4,k2,hk2,rfl⟩
   ·fail "g"
    exact⟨rfl,⟨x2,g2,e4⟩,k,hk,rfl⟩
  rintro _ H3 ⟨⟨x3,g3,e6⟩,k,hk,rfl⟩
  refine w_seq (Zh7 (fun σ H2=>(Fm [H.length] (H++[.lst []]) H2/\H2[p]? = some (.lst (ds.map .int))/\H2[H.length]? = some (.lst ks))/\∃ k,Za1 k/\σ=[some (.ref p),some (.int many),some (.ref H.length),some (.int (0+i)),some k]) ?_ ?_)
  ·(refine WP.w_if ?_; fail "g")
   refine Zc4 g3 hd (by omega) (by omega) fun r r0 r1=>?_
   fail "g"
   refine⟨fun h=>?_,fun h=>?_⟩
   ·fail "g"
    refine Zc4 (appL g3) hd (by omega) (by omega) fun r' r0' r1'=>?_
    fail "g"
    obtain⟨k2,hk2,ek2⟩:=Zso (r:=if decide (0<r' % 3)=true then 1 else 0) (by split<;>omega) (by split<;>omega)
    refine w_ixR last ek2 ?_
    fail "g"
    exact⟨rfl,Jn _ x3 g3 e6,k2,hk2,rfl⟩
   ·fail "g"
    exact⟨rfl,⟨x3,g3,e6⟩,k,hk,rfl⟩
  rintro _ H4 ⟨⟨x4,g4,e7⟩,k,hk,rfl⟩
  fail "g"
  refine⟨isl e7,?_⟩
  fail "g"
  refine Zhg e7 (by omega) ?_
  fail "g"
  refine⟨by rw[<- e0]; simp,ks++[k],_,_,by simp[e1],?_,setS e7,x4.trans (Fm.set (by simp)),rfl⟩
  intro y hy
  rcases Xs.mp hy with h | h
  ·exact e2 y h
  ·simp at h; subst h; exact hk
 ·subst e5
  have hdl:d.length=many:=by
   have:=congrArg Was e0
   simpa [Zal] using this
  fail "g"
  exact q ks H1 e2 (by omega) ((Fm.app (S:=[]) _).new x1 (by intro m hm _; simp at hm; omega))
theorem Zn8 {m:Int}:∀ (ls:List Int) (last l:Int),Up m last ls->(∀ x∈ls,Za5 x<Za5 l)->last<Za5 l->Za5 l<=m->Up m last (ls++[l])
 | [],last,l,_,_,h1,h2=>⟨h1,h2,trivial⟩
 | x::r,last,l,u,h,h1,h2=>by
  obtain⟨u1,u2,u3⟩:=u
  exact⟨u1,u2,Zn8 r (Za5 x) l u3 (fun y hy=>h y (by simp[hy])) (h x (by simp)) h2⟩
theorem Zdd (lo:Int) (m:Nat):Zal lo (m+1)=.int lo::Zal (lo+1) m:=by
 unfold Zal
 rw[List.range_succ_eq_map,Wab,Wal]
 have e0:D.int (lo+((0:Nat):Int))=.int lo:=by simp
 rw[e0]
 refine congrArg (Wbf _) (Wdb fun a _=>?_)
 show D.int _=D.int _
 congr 1
 omega
theorem Ztt {cell:Int} {M:Nat} {wide:Int} (hM:M<=8) (q:∀ ls H',Up M 0 ls->Fm [] H H'->Q (Za7 ls) H'):wE (Zfp [.int cell,.int M,.int wide] H) Q:=by
 refine Zcc rfl ?_
 show wS (Zc2 [some (.int cell),some (.int M),some (.int wide),none,none,none] H) _
 unfold Zc2
 fail "g"
 rw[show (M:Int)+1=((M+1:Nat):Int) by omega]
 refine Zhr (by omega) fun ds p H1 l1 d1 g1 n1 x1=>?_
 fail "g"
 refine⟨_,rfl,⟨by omega,by omega⟩,?_⟩
 rw[Waq]
 refine Zbq (fun d t σ H'=>∃ ls:List Int,t=Zal (d.length:Int) (M - d.length)/\H'[p]? = some (.lst (ds.map .int))/\H'[H1.length]? = some (.lst (ls.map .int))/\ls.length<=d.length/\d.length<=M/\Up M 0 ls/\(∀ x∈ls,Za5 x<=d.length)/\Fm [] H H'/\∃ z,σ=[some (.int cell),some (.int M),some (.int wide),some (.ref p),some (.ref H1.length),z]) (fun _ _ _ _ _=>Zff) (fun d x t σ H2 ⟨ls,i1,i2,i3,i4,i5,i6,i7,i8,z,i9⟩=>?_) (fun d σ H2 ⟨ls,i1,i2,i3,i4,i5,i6,i7,i8,z,i9⟩=>?_) _ [] _ _ ⟨[],by simp,appL g1,last,by simp,by simp,trivial,by simp,x1.trans (Fm.app _),none,rfl⟩
 ·subst i9
  obtain⟨k,hk⟩:∃ k,M - d.length=k+1:=by
   cases h:M - d.length with
   | zero=>rw[h] at i1; simp[Zal] at i1
   | succ k=>exact⟨k,rfl⟩
  rw[hk,Zdd] at i1
  obtain⟨rfl,rfl⟩:=Wbf.inj i1
  have tl:Zal ((d.length:Int)+1) k=Zal (((d++[D.int (d.length:Int)]).length:Nat):Int) (M - (d++[D.int (d.length:Int)]).length):=by
   simp only[Xp,Wbo,Wbk]
   congr 1
   omega
  fail "i"
  refine Zc4 i2 d1 (by omega) (by omega) fun r r0 r1=>?_
  fail "g"
  refine w_mod (by omega) ?_
  fail "g"
  refine Zc4 i2 d1 (by omega) (by omega) fun r' r0' r1'=>?_
  fail "g"
  refine⟨fun h=>?_,fun h=>?_⟩
  ·fail "g"
   refine⟨isl i3,?_⟩
   fail "g"
   refine Zc4 (appL i2) d1 (by omega) (by omega) fun r2 r20 r21=>?_
   fail "g"
   refine w_fdiv (by omega) (by omega) ?_
   fail "g"
   have m2:r2 / ((M:Int)+1) % 2=0\/r2 / ((M:Int)+1) % 2=1:=by omega
   obtain⟨l,hl,el⟩:∃ l:Int,Za5 l=(d.length:Int)+1/\atI [D.int ((d.length:Int)+1),.int (0 - (d.length:Int) - 1)] (r2 / ((M:Int)+1) % 2)=some (.int l):=by
    rcases m2 with z | z<;>rw[z]
    ·exact⟨_,by unfold Za5; split<;>omega,rfl⟩
    ·exact⟨_,by unfold Za5; split<;>omega,rfl⟩
   refine w_ixR last el ?_
   fail "g"
   refine Zhg (appL i3) (by simp; omega) ?_
   fail "g"
   have np:H1.length≠p:=by have:=(Xc.mp g1).1; omega
   refine⟨ls++[l],tl,setO np (appL i2),by rw[setS (appL i3)]; simp,by simp; omega,by simp; omega,Zn8 ls 0 l i6 (fun x hx=>by have:=i7 x hx; omega) (by omega) (by omega),fun x hx=>?_,?_,_,rfl⟩
   ·rcases Xs.mp hx with z | z
    ·have:=i7 x z; simp; omega
    ·simp at z; subst z; simp; omega
   ·exact(i8.trans (Fm.app _)).new (Fm.set (S:=[H1.length]) (by simp)) (fun q hq _=>by simp at hq; subst hq; exact x1.len)
  ·fail "g"
   exact⟨ls,tl,i2,i3,by simp; omega,by simp; omega,i6,fun x hx=>by have:=i7 x hx; simp; omega,i8,_,rfl⟩
 ·subst i9
  fail "g"
  exact q ls H2 i6 i8
variable {σ:SD} {H:HD} {Q:D->HD->Prop}
theorem w_atF {ns:List Int} (H:HD) (k:Int) (Q:D->HD->Prop) (h0:0<=k) (h1:k<=1000) (q:∀ c,Q (.int c) H):wE (Zcm [.fl (ns.map .int),.int k] H) Q:=by
 refine Zcc rfl ?_
 show wS (Zcs [some (.fl (ns.map .int)),some (.int k)] H) _
 unfold Zcs
 fail "i"
 refine⟨fun h=>?_,fun h=>?_⟩
 ·have lt:k.toNat<ns.length:=by have:=of_decide_eq_true h; simp at this; omega
  fail "g"
  refine w_ixF (Zfm h0 (d:=.int ns[k.toNat]) (by rw[Wah,Xx lt]; rfl)) ?_
  fail "g"
  exact q _
 ·fail "g"
  exact q _
theorem w_slL {p:Nat} {xs:List D} {k:Nat} (g:H[p]? = some (.lst xs)) (q:Q (.ref H.length) (H++[.lst (xs.drop k)])):wE (slD (.ref p) (some (k:Int)) none H) Q :=
 ⟨_,_,by rw[<- Zsd]; simp only[slD,g],q⟩
theorem Zuq.drop {ds:List Int} (h:Zuq ds) (k:Nat):Zuq (ds.drop k):=fun d hd=>h d (Wbz hd)
theorem Zie (ls:List Int):Fines (ls.map .int) (ls.map .int) 0:=by
 induction ls with
 | nil=>exact .nil
 | cons l r ih=>exact .cons (.int l) ih
theorem Zja {m:Int}:∀ (ls:List Int) (last:Int),Up m last ls->ls.length<=(m - last).toNat
 | [],_,_=>Wbx _
 | x::r,last,u=>by
  obtain⟨u1,u2,u3⟩:=u
  have:=Zja r _ u3
  simp only[Wbo]
  omega
theorem Zts {m:Int}:∀ (ls:List Int) (last:Int),0<=last->Up m last ls->∀ l∈ls,0<Za5 l/\Za5 l<=m
 | [],_,_,_,l,h=>by simp at h
 | x::r,last,h0,u,l,h=>by
  obtain⟨u1,u2,u3⟩:=u
  rcases Xl.mp h with rfl | h
  ·exact⟨by omega,u2⟩
  ·exact Zts r (Za5 x) (by omega) u3 l h
theorem Zwc {xs:List D} {k:Nat} (q:Q (.ref H.length) (H++[.lst (xs.drop k)])):wE (slD (.fl xs) (some (k:Int)) none H) Q :=
 ⟨_,_,by rw[<- Zsd]; rfl,q⟩
theorem w_atR {p:Nat} {ns:List Int} {k:Int} (g:H[p]? = some (.lst (ns.map .int))) (h0:0<=k) (h1:k<=1000) (q:∀ c,Q (.int c) H):wE (Zcm [.ref p,.int k] H) Q:=by
 refine Zcc rfl ?_
 show wS (Zcs [some (.ref p),some (.int k)] H) _
 unfold Zcs
 fail "i"
 refine⟨fun h=>?_,fun h=>?_⟩
 ·have lt:k.toNat<ns.length:=by have:=of_decide_eq_true h; simp at this; omega
  fail "g"
  refine w_ixR g (Zfm h0 (d:=.int ns[k.toNat]) (by rw[Wah,Xx lt]; rfl)) ?_
  fail "g"
  exact q _
 ·fail "g"
  exact q _
theorem Zww {a b:Bool} (q:Q (.bl (a==b)) H):wE (eqD (.bl a) (.bl b) H) Q:=Zwm (.bl a) (.bl b) (by omega) (by omega) (by simpa [Ub] using q)
variable {σ:SD} {H:HD} {Q:D->HD->Prop}
theorem Zsc {m:Int}:∀ (ls:List Int) (last:Int),Up m last ls->Up m last (ls.map fun l => -l)
 | [],_,_=>trivial
 | x::r,last,u=>by
  have e:Za5 (-x)=Za5 x:=by unfold Za5; split<;>split<;>omega
  obtain⟨u1,u2,u3⟩:=u
  refine⟨by rw[e]; exact u1,by rw[e]; exact u2,?_⟩
  rw[e]; exact Zsc r _ u3
theorem Zn4 {α:Type} (xs:List α):∀ Z:Nat,(Xk Z xs).flatten.length=Z*xs.length
 | 0=>by simp
 | Z+1=>by rw[Wbd,Wbg,Xp,Zn4 xs Z,Wfz]; omega
nonrec def negZ:D->D
 | .int i=>.int (-i)
 | d=>d
theorem Zrw {ks:List D} {rss:List (List Int)} {one:Int} (c:Cl ks rss) (hr:rss.length<=20) (q:∀ rs H',Cl ks rs->Fm [] H H'->Q (Zbz ks rs) H'):wE (Zb0 [Zbz ks rss,.int one] H) Q:=by
 have h8:=c.h8
 refine Zcc rfl ?_
 show wS (Za4 [some (.tup [.tup ks,.tup (rss.map Za7)]),some (.int one),none,none,none] H) _
 unfold Za4
 fail "g"
 (refine WP.w_if ?_; fail "g")
 refine⟨fun h=>?_,fun h=>?_⟩
 ·fail "g"
  exact q rss H c Fm.refl
 fail "g"
 refine⟨fun h2=>?_,fun h2=>?_⟩
 ·fail "g"
  exact q rss H c Fm.refl
 fail "g"
 obtain⟨K,eK,hK⟩:∃ K:Nat,1+one / 6 % 20=(K:Int)/\K<=20:=⟨(1+one / 6 % 20).toNat,by omega,by omega⟩
 rw[eK]
 refine w_slhi ?_
 fail "g"
 rw[<- Wfo]
 refine Zkf (fun d t o H'=>∃ rs tn:List (List Int),t=rs.map Za7/\o=tn.map Za7/\tn.length=d.length/\d.length+t.length=(rss.take K).length/\(∀ ls∈rs,Up ks.length 0 ls)/\(∀ ls∈tn,Up ks.length 0 ls)/\Fm [] H H') (fun _ _ _ _ _=>Zff) (fun d x t o H1 ⟨rs,tn,i1,i2,i3,i4,i5,i6,i7⟩=>?_) _ [] [] _ ⟨rss.take K,[],rfl,rfl,rfl,by simp,fun ls h=>c.hu ls (Wcu h),by simp,Fm.refl⟩ (fun d o H1 ⟨rs,tn,i1,i2,i3,i4,i5,i6,i7⟩=>?_)
 ·obtain⟨ls,rs',rfl,rfl,rfl⟩:∃ ls rs',rs=ls::rs'/\x=Za7 ls/\t=rs'.map Za7:=by
   cases rs with
   | nil=>cases i1
   | cons ls rs'=>obtain⟨a,b⟩:=Wbf.inj i1; exact⟨ls,rs',rfl,a,b⟩
  have u:=i5 ls (by simp)
  unfold Za7
  fail "g"
  have hl:=Zja ls 0 u
  refine Zfl negZ (fun H'=>H'=H1) (fun _ _=>Zff) _ (fun y hy H2 j=>?_) _ rfl fun H2 j=>?_
  ·obtain⟨l,_,rfl⟩:=Xw.mp hy
   subst j
   fail "g"
   exact⟨rfl,rfl⟩
  subst j
  refine⟨by simp; omega,?_⟩
  fail "g"
  have em:(ls.map D.int).map negZ=(ls.map fun l => -l).map D.int:=by rw[Wal,Wal]; rfl
  rw[em]
  refine⟨rs',tn++[ls.map fun l => -l],rfl,by rw[i2]; simp[Za7],by simp[i3],by simp at i4 ⊢; omega,fun y hy=>i5 y (by simp[hy]),fun y hy=>?_,i7.trans (Fm.app _)⟩
  rcases Xs.mp hy with z | z
  ·exact i6 y z
  ·simp at z; subst z; exact Zsc ls 0 u
 rw[Wbr] at i2
 simp only[Wbk,Wga] at i4
 subst i2
 have lo:tn.length<=20:=by rw[i3,i4,Wao]; omega
 refine⟨by simp; omega,?_⟩
 fail "g"
 refine⟨_,_,muT (by omega) (by omega) (by simp; omega),?_⟩
 fail "g"
 obtain⟨Z,eZ,hZ⟩:∃ Z:Nat,1+one / 120 % 3=(Z:Int)/\Z<=3:=⟨(1+one / 120 % 3).toNat,by omega,by omega⟩
 rw[eZ,Waq]
 have em:(Xk Z (rss.map Za7++tn.map Za7)).flatten=((Xk Z (rss++tn)).flatten).map Za7:=by
  rw[List.map_flatten,Wfn,Wba]
 rw[em]
 have mem:∀ ls∈(Xk Z (rss++tn)).flatten,ls∈rss++tn:=fun ls h=>by
  obtain⟨l,h1,h2⟩:=List.mem_flatten.mp h
  rw[List.eq_of_mem_replicate h1] at h2; exact h2
 have hz:Z*(rss.length+tn.length)<=3*40:=Wcy hZ (by omega)
 refine q _ _ ⟨c.hk,fun ls h=>?_,?_,c.h8⟩ (i7.trans (Fm.app _))
 ·rcases Xs.mp (mem ls h) with z | z
  ·exact c.hu ls z
  ·exact i6 ls z
 ·rw[Zn4,Xp]; omega
variable {σ:SD} {H:HD} {Q:D->HD->Prop}
theorem Zoa {sd:D} {most:Nat} (at':∀ (H1:HD) (k:Int) (Q:D->HD->Prop),Fm [] H H1->0<=k->k<=1000->(∀ c,Q (.int c) H1)->wE (Zcm [sd,.int k] H1) Q) (hm:2<=most/\most<=8) (q:∀ ks rss H',Cl ks rss->ks.length<=most->rss.length<=20->Fm [] H H'->Q (Zbz ks rss) H'):wE (Zdu [sd,.int most] H) Q:=by
 refine Zcc rfl ?_
 show wS (Zb2 [some sd,some (.int most),none,none,none,none,none] H) _
 unfold Zb2
 fail "g"
 refine at' _ _ _ .refl (by omega) (by omega) fun c=>?_
 fail "g"
 refine Zhr (many:=14) (by omega) fun ds pd H1 l1 d1 g1 n1 x1=>?_
 fail "g"
 refine Zc4 g1 d1 (by omega) (by omega) fun a a0 a1=>?_
 fail "g"
 refine w_mod (by omega) ?_
 fail "g"
 refine Zc4 g1 d1 (by omega) (by omega) fun a' a0' a1'=>?_
 fail "g"
 refine Zc4 (appL g1) d1 (by omega) (by omega) fun b b0 b1=>?_
 fail "g"
 have m3:=mod3 b
 obtain⟨N,hN,eN⟩:∃ N:Nat,N<=most/\atI [D.int (a % ((most:Int)+1)),.int ((most:Int) - a' % 3),.int (most:Int)] (b % 3)=some (.int N):=by
  have e1:=Wbb a (show (most:Int)+1≠0 by omega)
  have e2:=Wav a (show 0<(most:Int)+1 by omega)
  rcases m3 with z | z | z<;>rw[z]
  ·refine⟨(a % ((most:Int)+1)).toNat,by omega,?_⟩
   rw[Wce e1]; rfl
  ·refine⟨((most:Int) - a' % 3).toNat,by omega,?_⟩
   rw[Wce (by omega)]; rfl
  ·exact⟨most,Xf _,rfl⟩
 refine w_ixR last eN ?_
 fail "g"
 refine w_slL (k:=2) (appL g1) ?_
 fail "g"
 rw[show (if (N:Int) > 0 then (N:Int) else 0)=(N:Int) by split<;>omega]
 rw[<- List.map_drop]
 refine Zs0 (many:=N) last (d1.drop 2) (by simp; omega) (by omega) fun ks H2 hk lk x2=>?_
 have X2:Fm [] H H2:=((x1.trans (Fm.app _)).trans (Fm.app _)).trans x2
 have g2:=x2.lst (by simp) (appL (u:=DO.lst ((ds.drop 2).map D.int)) (appL (u:=DO.lst [D.int (a % ((most:Int)+1)),.int ((most:Int) - a' % 3),.int (most:Int)]) g1))
 fail "g"
 refine Zc4 g2 d1 (by omega) (by omega) fun u0 u1 u2=>?_
 fail "g"
 refine Zc4 g2 d1 (by omega) (by omega) fun v0 v1 v2=>?_
 fail "g"
 refine Zc4 g2 d1 (by omega) (by omega) fun y0 y1 y2=>?_
 fail "g"
 refine Zc4 (appL g2) d1 (by omega) (by omega) fun e e0 e1=>?_
 fail "g"
 have m3':=mod3 e
 obtain⟨Z,hZ,eZ⟩:∃ Z:Nat,Z<=20/\atI [D.int (u0 % 5),.int (v0 % 11),.int (5+y0 % 16)] (e % 3)=some (.int Z):=by
  rcases m3' with z | z | z<;>rw[z]
  ·refine⟨(u0 % 5).toNat,emT _ (by decide) (by decide),?_⟩
   rw[Wce (Wbb _ (by decide))]; rfl
  ·refine⟨(v0 % 11).toNat,emT _ (by decide) (by decide),?_⟩
   rw[Wce (Wbb _ (by decide))]; rfl
  ·refine⟨(5+y0 % 16).toNat,by omega,?_⟩
   rw[Wce (by omega)]; rfl
 refine w_ixR last eZ ?_
 fail "g"
 refine⟨_,rfl,⟨by omega,by omega⟩,?_⟩
 rw[Waq]
 have Y:Fm [] H (H2++[DO.lst [D.int (u0 % 5),.int (v0 % 11),.int (5+y0 % 16)]]):=X2.trans (Fm.app _)
 refine Zkf (fun d t o H'=>∃ rss:List (List Int),o=rss.map Za7/\rss.length=d.length/\d.length+t.length=Z/\(∀ ls∈rss,Up N 0 ls)/\(∀ x∈t,∃ i:Nat,x=.int i/\i<=100)/\True/\H'[pd]? = some (.lst (ds.map .int))/\Fm [] H H') (fun _ _ _ _ _=>Zff) (fun d x t o H3 ⟨rss,i1,i2,i3,i4,i5,i6,i7,i8⟩=>?_) _ [] [] _ ⟨[],rfl,rfl,by simp[Zal],by simp,fun x hx=>?_,trivial,appL g2,Y⟩ (fun d o H3 ⟨rss,i1,i2,i3,i4,i5,i6,i7,i8⟩=>?_)
 ·obtain⟨i,rfl,hi⟩:=i5 x (by simp)
  fail "g"
  refine at' _ _ _ i8 (by omega) (by omega) fun cell=>?_
  fail "g"
  rw[lk]
  refine Ztt (by omega) fun ls H4 u x4=>?_
  refine⟨rss++[ls],by rw[i1]; simp,by simp[i2],by simp at i3 ⊢; omega,fun y hy=>?_,fun y hy=>i5 y (by simp[hy]),trivial,x4.lst (by simp) i7,i8.trans x4⟩
  rcases Xs.mp hy with z | z
  ·exact i4 y z
  ·simp at z; subst z; exact u
 ·simp only[Zal,Xw,Wbw] at hx
  obtain⟨k,hk,rfl⟩:=hx
  exact⟨k,by simp,by omega⟩
 rw[Wbr] at i1
 simp only[Wbk,Wga] at i3
 subst i1
 refine⟨by simp; omega,?_⟩
 show wS (Zai _ _ [some sd,some (.int most),some (.ref pd),some (.int N),some (.tup ks),some (.int Z),some (.ref H3.length)] (H3++[.lst (rss.map Za7)])) _
 refine w_seq (Zh7 (fun σ H'=>∃ (rs:List (List Int)) (pr:Nat),H'[pr]? = some (.lst (rs.map Za7))/\rs.length<=20/\(∀ ls∈rs,Up N 0 ls)/\Fm [] H H'/\σ=[some sd,some (.int most),some (.ref pd),some (.int N),some (.tup ks),some (.int Z),some (.ref pr)]) ?_ ?_)
 ·(refine WP.w_if ?_; fail "g")
  refine Zc4 (appL i7) d1 (by omega) (by omega) fun r r0 r1=>?_
  fail "g"
  refine⟨fun h=>?_,fun h=>?_⟩
  ·fail "g"
   refine Zc6 (fun d=>match d with | .tup xs => !xs.isEmpty | _=>true) (fun H'=>H'=H3++[.lst (rss.map Za7)]) (fun _ j=>by rw[j]; exact Zr5 last) _ (fun x hx H4 j=>?_) _ rfl fun H4 j=>?_
   ·obtain⟨ls,hls,rfl⟩:=Xw.mp hx
    subst j
    fail "g"
    refine Ztf (Fine.tup (Zie ls)) (Fine.tup (h:=0) Fines.nil) (by omega) (by omega) ?_
    refine⟨_,rfl,?_,rfl⟩
    cases ls<;>simp[Ub,Tbt,Za7]
   ·subst j
    have ef:(rss.map Za7).filter (fun d=>match d with | .tup xs => !xs.isEmpty | _=>true)=(rss.filter fun ls => !ls.isEmpty).map Za7:=by
     rw[List.filter_map]
     congr 1
     exact List.filter_congr fun ls _=>by cases ls<;>rfl
    rw[ef]
    have lf:=Wdp (fun ls:List Int => !ls.isEmpty) rss
    refine⟨by simp; omega,?_⟩
    fail "g"
    exact⟨rfl,_,_,last,by omega,fun ls h=>i4 ls (Wex.mp h).1,(i8.trans (Fm.app _)).trans (Fm.app _),rfl⟩
  ·fail "g"
   exact⟨rfl,rss,_,last,by omega,i4,i8.trans (Fm.app _),rfl⟩
 rintro _ H4 ⟨rs,pr,g4,l4,u4,X4,rfl⟩
 fail "g"
 refine q ks rs H4 ⟨hk,fun ls h=>by rw[lk]; exact u4 ls h,by omega,by omega⟩ (by omega) l4 X4
variable {σ:SD} {H:HD} {Q:D->HD->Prop}
nonrec def two (bs:List Bool):List (List Bool):=[bs++[false],bs++[true]]
nonrec def lev:Nat->List (List Bool)
 | 0=>[[]]
 | k+1=>(lev k).flatMap two
theorem Zc5:∀ (k:Nat),∀ bs∈lev k,bs.length=k
 | 0,bs,h=>by simp[lev] at h; subst h; rfl
 | k+1,bs,h=>by
  obtain⟨x,hx,h⟩:=Wgh.mp h
  have:=Zc5 k x hx
  simp only[two,Xl,Wdr,or_false] at h
  rcases h with rfl | rfl<;>simp[this]
theorem Zjt (xs:List (List Bool)):(xs.flatMap two).length=2*xs.length:=by
 induction xs with
 | nil=>rfl
 | cons x r ih=>rw[Wdm,Xp,ih]; simp[two]; omega
theorem Zho:∀ k:Nat,(lev k).length=2 ^ k
 | 0=>rfl
 | k+1=>by
  show ((lev k).flatMap two).length=_
  rw[Zjt,Zho k,Nat.pow_succ]; omega
theorem Zd1 {k:Nat} (h:k<=8):(lev k).length<=256:=by
 rw[Zho]
 exact Xq (Nat.pow_le_pow_right (by omega) h) (by decide)
theorem Zh9:∀ k:Nat,(lev k).Nodup
 | 0=>by simp[lev]
 | k+1=>by
  have:∀ xs:List (List Bool),xs.Nodup->(xs.flatMap two).Nodup:=fun xs=>by
   induction xs with
   | nil=>intro _; simp
   | cons x r ih =>
    intro h
    obtain⟨h1,h2⟩:=Wck.mp h
    rw[Wdm]
    refine Wcp.mpr ⟨by simp[two],ih h2,?_⟩
    intro a ha b hb e
    subst e
    obtain⟨y,hy,hb⟩:=Wgh.mp hb
    simp only[two,Xl,Wdr,or_false] at ha hb
    have:x=y:=by
     rcases ha with ha | ha<;>rcases hb with hb | hb<;>rw[ha] at hb<;>exact(List.append_inj' hb rfl).1
    exact h1 (this ▸ hy)
  exact this _ (Zh9 k)
theorem Zxs {p q:Nat} {xs ys:List D} (h1:H[p]? = some (.lst xs)) (h2:H[q]? = some (.lst ys)) (hl:xs.length+ys.length<=100000) (k:Q (.ref H.length) (H++[.lst (xs++ys)])):wE (Zb4 (.ref p) (.ref q) H) Q:=by
 have z:(xs++ys).length<=sizeLine:=Zex (by simp; omega)
 exact⟨_,_,by simp only[Zb4,h1,h2]; exact if_pos z,k⟩
theorem Zq5 {k q:Nat} {a0 a2 z4:Option D} {R:FD->SD->HD->Prop} {H:HD} (hk:k<=8) (g:H[q]? = some (.lst ((lev k).map Zaj)))
  (h:∀ m z H',H'[m]? = some (.lst ((lev (k+1)).map Zaj))->ExtS [] H H'->R .nx [a0,some (.ref q),a2,some (.ref m),z] H') :
  wS (Zgk [(q,.lst ((lev k).map Zaj))] (gNm 4) (Zai (Za6 3 (eOp Zb4 (Zac 3) (Zel (Zab (eOp Zb4 (Zac 4) (Zca (Zab (eC (.bl false)) Zah))) (Zab (eOp Zb4 (Zac 4) (Zca (Zab (eC (.bl true)) Zah))) Zah))))) Zaq) ((lev k).map Zaj) [a0,some (.ref q),a2,some (.ref H.length),z4] (H++[.lst []])) R:=by
 have l256:=Zd1 hk
 refine Zbq (fun d t σ H'=>∃ (dn td:List (List Bool)) (m:Nat) (z:Option D),d=dn.map Zaj/\t=td.map Zaj/\lev k=dn++td/\H'[m]? = some (.lst ((dn.flatMap two).map Zaj))/\H'[q]? = some (.lst ((lev k).map Zaj))/\ExtS [] H H'/\σ=[a0,some (.ref q),a2,some (.ref m),z]) (fun d t σ H' ⟨dn,td,m,z,i1,i2,i3,i4,i5,i6,i7⟩=>Zr5 i5) (fun d x t σ H' ⟨dn,td,m,z,i1,i2,i3,i4,i5,i6,i7⟩=>?_) (fun d σ H' ⟨dn,td,m,z,i1,i2,i3,i4,i5,i6,i7⟩=>?_) _ [] _ _ ⟨[],lev k,H.length,z4,rfl,rfl,rfl,last,appL g,ExtS.app _,rfl⟩
 ·subst i7 i1
  obtain⟨b,tr,rfl,rfl,rfl⟩:∃ b tr,td=b::tr/\x=Zaj b/\t=tr.map Zaj:=by
   cases td with
   | nil=>cases i2
   | cons b tr=>obtain⟨e1,e2⟩:=Wbf.inj i2; exact⟨b,tr,rfl,e1,e2⟩
  have lb:b.length=k:=Zc5 k b (by rw[i3]; simp)
  have ln:dn.length<=256:=by have:=congrArg Was i3; simp at this; omega
  fail "g"
  refine Zxs (appL i4) last (by rw[Wap,Zjt]; simp; omega) ?_
  fail "g"
  refine⟨dn++[b],tr,_,_,by simp,rfl,by rw[i3]; simp,?_,appL (appL i5),(i6.trans (ExtS.app _)).trans (ExtS.app _),rfl⟩
  rw[last]
  simp[two]
 ·subst i7
  cases td with
  | cons b tr=>cases i2
  | nil =>
   rw[Xn] at i3
   subst i3
   exact h m z H' i4 i6
nonrec def enc (bs:List Bool):List Int:=bs.map fun b=>if b then 1 else 0
theorem Zuw (bs:List Bool):nk (Zaj bs)=some (enc bs):=by
 show Zjb (bs.map D.bl)=_
 induction bs with
 | nil=>rfl
 | cons b r ih =>
  rw[Wab,Zjb,ih]
  cases b<;>rfl
theorem Zpo:∀ a b:List Bool,enc a=enc b->a=b
 | [],[],_=>rfl
 | [],_::_,h=>by simp[enc] at h
 | _::_,[],h=>by simp[enc] at h
 | x::a,y::b,h=>by
  have h1:(if x then (1:Int) else 0)=(if y then 1 else 0):=(Wbf.inj h).1
  have h2:enc a=enc b:=(Wbf.inj h).2
  rw[Zpo a b h2]
  cases x<;>cases y<;>simp at h1<;>rfl
nonrec abbrev Ky:=Nat×List Bool
theorem Zic:∀ k:Nat,lev (k+1)=(lev k).map (false :: ·)++(lev k).map (true :: ·)
 | 0=>rfl
 | k+1=>by
  have two_c:∀ (b:Bool) (xs:List (List Bool)),(xs.map (b :: ·)).flatMap two=(xs.flatMap two).map (b :: ·):=fun b xs=>by
   induction xs with
   | nil=>rfl
   | cons x r ih=>rw[Wab,Wdm,Wdm,ih,Wba]; rfl
  show (lev (k+1)).flatMap two=_
  conv=>lhs; rw[Zic k]
  rw[List.flatMap_append,two_c,two_c]
  rfl
nonrec def sm (sd:Bool) (ks:List D) (i:Nat):Nat:=(ks.take i).countP fun d=>kS d != sd
nonrec def blk (sd:Bool) (ks:List D) (i:Nat):List Ky:=if (kS (ks.getD i .non)==sd)=true then (lev (sm sd ks i)).map fun c=>(i+1,c) else []
nonrec def PTd (sd:Bool) (ks:List D):Nat->Nat->List Ky
 | 0,_=>[]
 | j+1,i=>blk sd ks i++PTd sd ks j (i+1)
section
variable {sd:Bool} {ks:List D}
theorem Zf9 {i:Nat} (h:i<ks.length):sm sd ks (i+1)=sm sd ks i+(if (kS (ks.getD i .non)==sd)=true then 0 else 1):=by
 unfold sm
 rw[Wcb,Xx h,List.countP_append,Wcs,Xx h]
 simp only[Option.toList_some,Wda,List.countP_nil,Wfc,Option.getD_some]
 by_cases h1:kS ks[i]=sd
 ·simp[h1]
 ·have h2:(kS ks[i]==sd)=false:=by simpa using h1
  have h3:(kS ks[i] != sd)=true:=by simpa using h1
  rw[if_pos h3,if_neg (show ¬ (kS ks[i]==sd)=true by simp[h2])]
theorem Zn1:∀ (j i:Nat),i+j=ks.length->∀ q∈PTd sd ks j i,i<q.1/\sm sd ks i<=q.2.length
 | 0,i,_,q,h=>by cases h
 | j+1,i,e,q,h=>by
  rcases Xs.mp h with h | h
  ·unfold blk at h
   split at h
   ·obtain⟨c,hc,rfl⟩:=Xw.mp h
    have:=Zc5 _ c hc
    exact⟨Wcz _,by simp[this]⟩
   ·cases h
  ·have:=Zn1 j (i+1) (by omega) q h
   have l:=Zf9 (sd:=sd) (ks:=ks) (i:=i) (by omega)
   exact⟨by omega,by omega⟩
theorem Zjx:∀ (k:Nat) (c:List Bool),c.length=k->c∈lev k
 | 0,c,h=>by rw[Wbq.mp h]; exact Xz.mpr rfl
 | k+1,c,h=>by
  cases c with
  | nil=>cases h
  | cons b r =>
   have:=Zjx k r (by simpa using h)
   rw[Zic]
   cases b<;>simp[this]
theorem Zkm:∀ (j i:Nat),i+j=ks.length->sm sd ks i<=sm sd ks ks.length
 | 0,i,e=>by rw[show i=ks.length by omega]; exact Xf _
 | j+1,i,e=>by
  have:=Zkm j (i+1) (by omega)
  have:=Zf9 (sd:=sd) (ks:=ks) (i:=i) (by omega)
  omega
theorem Zf0:∀ (j i:Nat),i+j=ks.length->(PTd sd ks j i).Nodup
 | 0,i,_=>Wej
 | j+1,i,e=>by
  unfold PTd
  rw[Wcp]
  refine⟨?_,Zf0 j (i+1) (by omega),fun a ha b hb z=>?_⟩
  ·unfold blk
   split
   ·have nd:=Zh9 (sm sd ks i)
    unfold List.Nodup at nd ⊢
    rw[Wfx]
    exact nd.imp fun h z=>h (by simpa using z)
   ·exact Wej
  ·subst z
   have h2:=(Zn1 j (i+1) (by omega) a hb).1
   unfold blk at ha
   split at ha
   ·obtain⟨c,_,rfl⟩:=Xw.mp ha
    simp at h2
   ·cases ha
theorem Zjn:∀ (j i:Nat),i+j=ks.length->∀ (k:Nat) (c:List Bool),i<=k->k<ks.length->(kS (ks.getD k .non)==sd)=true->c.length=sm sd ks k->(k+1,c)∈PTd sd ks j i
 | 0,i,e,k,c,h1,h2,_,_=>absurd h2 (by omega)
 | j+1,i,e,k,c,h1,h2,h3,h4=>by
  unfold PTd
  rw[Xs]
  by_cases hk:k=i
  ·subst hk
   left
   unfold blk
   rw[if_pos h3]
   exact Xw.mpr ⟨c,Zjx _ c h4,rfl⟩
  ·exact .inr (Zjn j (i+1) (by omega) k c (by omega) h2 h3 h4)
end
theorem Zf8 {n:Nat} (hn:n<=8) (q:∀ p H',H'[p]? = some (.lst ((lev n).map Zaj))->ExtS [] H H'->Q (.ref p) H'):wE (Zbg [.int n] H) Q:=by
 refine Zcc rfl ?_
 show wS (Zbf [some (.int n),none,none,none,none] H) _
 unfold Zbf
 fail "g"
 refine⟨_,rfl,⟨by omega,by omega⟩,?_⟩
 rw[Waq]
 refine Zbq (fun d t σ H'=>∃ (m:Nat) (z2 z3 z4:Option D),d.length+t.length=n/\H'[m]? = some (.lst ((lev d.length).map Zaj))/\ExtS [] H H'/\σ=[some (.int n),some (.ref m),z2,z3,z4]) (fun _ _ _ _ _=>Zff) (fun d x t σ H' ⟨m,z2,z3,z4,i1,i2,i3,i4⟩=>?_) (fun d σ H' ⟨m,z2,z3,z4,i1,i2,i3,i4⟩=>?_) _ [] _ _ ⟨H.length,none,none,none,by simp[Zal],last,ExtS.app _,rfl⟩
 ·subst i4
  fail "g"
  refine Zq5 (k:=d.length) (by simp at i1; omega) i2 fun m' z H2 g2 x2=>?_
  fail "g"
  refine⟨m',_,_,_,by simp at i1 ⊢; omega,by rw[g2]; simp,i3.trans x2,rfl⟩
 ·subst i4
  simp only[Wbk,Wga] at i1
  subst i1
  fail "g"
  exact q m H' i2 i3
nonrec def Zse (ks:List D) (b:Bool):D->Bool
 | .int i=>kS (ks.getD (i - 1).toNat .non)==b
 | _=>false
theorem Zfx (lo:Int) (k:Nat):Zal lo (k+1)=Zal lo k++[.int (lo+k)]:=by
 unfold Zal
 rw[List.range_succ,Wba]
 rfl
theorem Zfi (ks:List D):∀ k:Nat,k<=ks.length->((Zal 1 k).filter (Zse ks false)).length=sm true ks k
 | 0,_=>rfl
 | k+1,h=>by
  rw[Zfx,Wfp,Xp,Zfi ks k (by omega),Zf9 (by omega)]
  congr 1
  have e:Zse ks false (.int (1+k))=(kS (ks.getD k .non)==false):=by
   show (kS (ks.getD ((1:Int)+k - 1).toNat .non)==false)=_
   rw[show ((1:Int)+k - 1).toNat=k by omega]
  cases hk:kS (ks.getD k .non) with
  | true=>rw[Wdi (by rw[e,hk]; simp)]; rfl
  | false=>rw[Wdh (by rw[e,hk]; rfl)]; rfl
theorem Zn6 {ks:List D} {k:Nat} (hk:∀ d∈ks,Za1 d) (h:k<=ks.length) (h8:ks.length<=8) (q:∀ (xs:List D) (p:Nat) (H':HD),xs.length=sm true ks k->H'[p]? = some (.lst xs)->Fm [] H H'->Q (.ref p) H'):wE (Za3 [.tup ks,.int ((k:Int)+1),.str "all"] H) Q:=by
 refine Zcc rfl ?_
 show wS (Zbd [some (.tup ks),some (.int ((k:Int)+1)),some (.str "all")] H) _
 unfold Zbd
 fail "g"
 refine⟨_,_,rfl,by decide,⟨by omega,by omega⟩,?_⟩
 rw[show ((k:Int)+1 - 1).toNat=k by omega]
 refine Zc6 (Zse ks false) (fun H'=>H'=H) (fun _ _=>Zff) _ (fun y hy H2 j=>?_) _ rfl fun H2 j=>?_
 ·subst j
  simp only[Zal,Xw,Wbw] at hy
  obtain⟨i,hi,rfl⟩:=hy
  fail "g"
  have e:atI ks (1+(i:Int) - 1)=some (Zb1 (kS (ks.getD i .non))):=by
   rw[show (1:Int)+i - 1=(i:Nat) by omega]
   exact Zcb (Zf5 hk (by omega))
  refine w_ixT e ?_
  fail "g"
  show wE (eqD (Zb1 _) (Zb1 false) _) _
  refine Zd7 ⟨_,rfl,?_,rfl⟩
  show _=(kS (ks.getD ((1:Int)+i - 1).toNat .non)==false)
  rw[show ((1:Int)+i - 1).toNat=i by omega]
 ·subst j
  have l:=Zfi ks k h
  have l2:=Wdp (Zse ks false) (Zal 1 k)
  have l3:(Zal 1 k).length=k:=by simp[Zal]
  refine⟨by omega,?_⟩
  fail "g"
  exact q _ _ _ l last (Fm.app _)
nonrec def Zbk (p:Ky):D:=.tup [.int p.1,Zaj p.2]
theorem Zs7 {ks:List D} {i q:Nat} {p:Nat} {dn:List Ky} {a0 a1 a2 z5:Option D} {R:FD->SD->HD->Prop} {H:HD} (h8:ks.length<=8) (hi:i<ks.length) (hb:sm true ks i<=8) (hd:dn.length<=10000) (hqp:p≠q) (g:H[p]? = some (.lst (dn.map Zbk))) (gq:H[q]? = some (.lst ((lev (sm true ks i)).map Zaj)))
  (h:∀ z H',H'[p]? = some (.lst ((dn++(lev (sm true ks i)).map fun c=>(i+1,c)).map Zbk))->Fm [p] H H'->R .nx [a0,a1,a2,some (.ref p),some (.int ((i:Int)+1)),z] H') :
  wS (Zgk [(q,.lst ((lev (sm true ks i)).map Zaj))] (gNm 5) (Zai (Zcy (eLM Zbb (Zac 3) (Zab (Zca (Zab (Zac 4) (Zab (Zac 5) Zah))) Zah))) Zaq) ((lev (sm true ks i)).map Zaj) [a0,a1,a2,some (.ref p),some (.int ((i:Int)+1)),z5] H) R:=by
 have l256:=Zd1 hb
 refine Zbq (fun d t σ H'=>∃ (cs td:List (List Bool)) (z:Option D),t=td.map Zaj/\lev (sm true ks i)=cs++td/\H'[p]? = some (.lst ((dn++cs.map fun c=>(i+1,c)).map Zbk))/\Fm [p] H H'/\σ=[a0,a1,a2,some (.ref p),some (.int ((i:Int)+1)),z]) (fun d t σ H' ⟨cs,td,z,i1,i2,i3,i4,i5⟩=>Zr5 (i4.lst (by simpa using Uf hqp) gq)) (fun d x t σ H' ⟨cs,td,z,i1,i2,i3,i4,i5⟩=>?_) (fun d σ H' ⟨cs,td,z,i1,i2,i3,i4,i5⟩=>?_) _ [] _ _ ⟨[],_,z5,rfl,rfl,by simpa using g,Fm.refl,rfl⟩
 ·subst i5
  obtain⟨c,tr,rfl,rfl,rfl⟩:∃ c tr,td=c::tr/\x=Zaj c/\t=tr.map Zaj:=by
   cases td with
   | nil=>cases i1
   | cons b tr=>obtain⟨e1,e2⟩:=Wbf.inj i1; exact⟨b,tr,rfl,e1,e2⟩
  have ln:cs.length<=256:=by have:=congrArg Was i2; simp at this; omega
  fail "g"
  refine⟨by simp[Ze7,i3],?_⟩
  fail "g"
  refine Zhg i3 (by simp; omega) ?_
  fail "g"
  refine⟨cs++[c],tr,_,rfl,by rw[i2]; simp,?_,i4.trans (Fm.set (by simp)),rfl⟩
  have hp:p<H'.length:=(Xc.mp i3).1
  rw[Xy hp]
  simp[Zbk]
 ·subst i5
  cases td with
  | cons b tr=>cases i1
  | nil =>
   rw[Xn] at i2
   rw[i2] at h
   exact h z H' i3 i4
theorem Znd {ks:List D} (hk:∀ d∈ks,Za1 d) (h8:ks.length<=8) (hP:(PTd true ks ks.length 0).length<=3000) (q:∀ p H',H'[p]? = some (.lst ((PTd true ks ks.length 0).map Zbk))->Fm [] H H'->Q (.ref p) H'):wE (Zdt [.tup ks,.str "some"] H) Q:=by
 refine Zcc rfl ?_
 show wS (Zby [some (.tup ks),some (.str "some"),none,none,none,none] H) _
 unfold Zby
 fail "g"
 refine⟨_,_,rfl,by decide,⟨by omega,by omega⟩,?_⟩
 rw[show ((ks.length:Int)+1 - 1).toNat=ks.length by omega]
 have sml:∀ i,sm true ks i<=8:=fun i=>by
  unfold sm
  have:=Wfd (p:=fun d=>kS d != true) (l:=ks.take i)
  have:=List.length_take_le i ks
  have:=Wff i ks
  omega
 have part:∀ (H2:HD) (p:Nat),H2[p]? = some (.lst [])->H.length<=p->Fm [] H H2->wS (Zgk [] (gNm 4) (Zai (sIf (tOf (eOp eqD (eOp ixD (Zac 0) (eOp Zkl (Zac 4) (eC (D.int 1)))) (Zac 1))) (Zai (Zfh (iSq (Zax 1 Zbg (Zab (eCB Ze1 (Zab (Zax 3 Za3 (Zab (Zac 0) (Zab (Zac 4) (Zab (Zac 2) Zah)))) Zah)) Zah))) (gNm 5) (Zai (Zcy (eLM Zbb (Zac 3) (Zab (Zca (Zab (Zac 4) (Zab (Zac 5) Zah))) Zah))) Zaq)) Zaq) Zaq) Zaq) (Zal 1 ks.length) [some (.tup ks),some (.str "some"),some (.str "all"),some (.ref p),none,none] H2) (Zxw (fun σ1 H1=>wS ((Zai (Zc0 (Zac 3)) Zaq) σ1 H1) (fin Q)) (fin Q)):=by
  intro H2 p gp hp x2
  refine Zbq (fun d t σ H'=>∃ (i m:Nat) (dn:List Ky) (z4 z5:Option D),i+m=ks.length/\t=Zal ((i:Int)+1) m/\H'[p]? = some (.lst (dn.map Zbk))/\dn++PTd true ks m i=PTd true ks ks.length 0/\Fm [p] H2 H'/\σ=[some (.tup ks),some (.str "some"),some (.str "all"),some (.ref p),z4,z5]) (fun _ _ _ _ _=>Zff) (fun d x t σ H' ⟨i,m,dn,z4,z5,i1,i2,i3,i4,i5,i6⟩=>?_) (fun d σ H' ⟨i,m,dn,z4,z5,i1,i2,i3,i4,i5,i6⟩=>?_) _ [] _ _ ⟨0,ks.length,[],none,none,by omega,rfl,by simpa using gp,rfl,Fm.refl,rfl⟩
  ·subst i6
   cases m with
   | zero=>cases i2
   | succ m =>
    rw[Zdd] at i2
    obtain⟨rfl,rfl⟩:=Wbf.inj i2
    have hi:i<ks.length:=by omega
    have dl:dn.length<=3000:=by have:=congrArg Was i4; simp at this; omega
    refine w_gnm (w_seq ?_)
    refine Zh7 (fun σ H2'=>∃ z,H2'[p]? = some (.lst ((dn++blk true ks i).map Zbk))/\Fm [p] H2 H2'/\σ=[some (.tup ks),some (.str "some"),some (.str "all"),some (.ref p),some (.int ((i:Int)+1)),z]) ?_ ?_
    ·(refine WP.w_if ?_; fail "g")
     have e:atI ks ((i:Int)+1 - 1)=some (Zb1 (kS (ks.getD i .non))):=by
      rw[show (i:Int)+1 - 1=(i:Nat) by omega]
      exact Zcb (Zf5 hk hi)
     refine w_ixT e ?_
     fail "g"
     show wE (eqD (Zb1 _) (Zb1 true) _) _
     refine Zd7 ⟨_,rfl,⟨fun h=>?_,fun h=>?_⟩⟩
     ·fail "g"
      refine Zn6 hk (Wcj hi) h8 fun xs r H3 l3 g3 x3=>?_
      fail "g"
      rw[l3]
      refine Zf8 (sml i) fun r4 H4 g4 x4=>?_
      fail "g"
      have f4:Fm [] H' H4:=x3.trans ⟨fun m o hm h=>.inl (x4.old m o hm h),x4.len⟩
      have gp4:H4[p]? = some (.lst (dn.map Zbk)):=f4.lst (by simp) i3
      have np:p≠r4:=fun z=>by
       subst z
       rw[gp4] at g4
       have e4:dn.map Zbk=(lev (sm true ks i)).map Zaj:=by injection g4 with g4; injection g4
       have m4:Zaj (Xk (sm true ks i) false)∈dn.map Zbk:=by rw[e4]; exact Xw.mpr ⟨_,Zjx _ _ (by simp),rfl⟩
       obtain⟨k4,_,e5⟩:=Xw.mp m4
       unfold Zbk Zaj at e5
       injection e5 with e5
       cases hr:Xk (sm true ks i) false with
       | nil=>rw[hr] at e5; cases e5
       | cons b r=>rw[hr] at e5; injection e5 with e6 _; cases e6
      refine Zs7 h8 hi (sml i) (by omega) np gp4 g4 fun z H5 g5 x5=>?_
      fail "g"
      refine⟨rfl,_,?_,i5.trans ((f4.sub (by simp)).trans x5),rfl⟩
      unfold blk
      rw[if_pos h]
      exact g5
     ·fail "g"
      refine⟨rfl,_,?_,i5,rfl⟩
      unfold blk
      rw[h,if_neg (by simp),Xn]
      exact i3
    rintro _ H3 ⟨z,g3,x3,rfl⟩
    fail "g"
    exact⟨i+1,m,dn++blk true ks i,_,_,by omega,by push_cast; rfl,g3,by rw[Xv]; exact i4,x3,rfl⟩
  ·subst i6
   cases m with
   | succ m=>rw[Zdd] at i2; cases i2
   | zero =>
    simp only[PTd,Xn] at i4
    subst i4
    fail "g"
    exact q p H' i3 (Fm.new x2 i5 fun m hm _=>by simp at hm; rw[hm]; exact hp)
 exact part _ _ last (by simp) ((Fm.app _).trans (Fm.app _))
nonrec def kk (p:Ky):PK:=((p.1:Int),enc p.2)
theorem Zes (p:Ky):nk2 (Zbk p)=some (kk p):=by
 show (Zv4 (.int p.1)).bind (fun i=>(nk (Zaj p.2)).map fun ks=>(i,ks))=_
 rw[Zuw]
 rfl
theorem Zst {a b:Ky} (h:kk a=kk b):a=b:=by
 obtain⟨a1,a2⟩:=a
 obtain⟨b1,b2⟩:=b
 unfold kk at h
 injection h with h1 h2
 have e1:a1=b1:=by have:(a1:Int)=b1:=h1; omega
 have e2:a2=b2:=Zpo _ _ h2
 rw[e1,e2]
theorem _root_.WP.Fm.dcn {S:List Nat} {H H':HD} (x:Fm S H H') {m:Nat} {kvs:List (D×D)} (hm:m∉S) (h:H[m]? = some (.dcn kvs)):H'[m]? = some (.dcn kvs):=by
 rcases x.old m _ hm h with e | ⟨kv,e,_⟩
 ·exact e
 ·cases e
theorem Zni {n:Nat} {kvs:List (D×D)} {k:D} {q:PK} {v:D} (g:H[n]? = some (.dcn kvs)) (hk:nk2 k=some q) (hv:Zd3 kvs q=some v) (k2:Q v H):wE (Zjs (.ref n) k H) Q:=⟨_,_,by simp[Zjs,dcnD,g,hk,hv],k2⟩
variable {σ:SD} {H:HD} {Q:D->HD->Prop}
nonrec def num (P:List Ky) (p:Ky):Int:=(P.idxOf p:Int)+1
nonrec def part (ks:List D) (c:List Bool) (l:Int):Ky:=(Za5 l,c.take (sm true ks (Za5 l - 1).toNat)) |> fun x=>(x.1.toNat,x.2)
nonrec def rsp (ks:List D) (P:List Ky) (c:List Bool):List Int->Option (List Int)
 | []=>some []
 | l::r=>if (kS (ks.getD (Za5 l - 1).toNat .non)==true)=true then (rsp ks P c r).map fun t=>(if 0<l then num P (part ks c l) else - num P (part ks c l))::t
  else if (c.getD (sm true ks (Za5 l - 1).toNat) false==decide (0<l))=true then none else rsp ks P c r
theorem Zv1 {p q:Nat} {xs ys:List D} (g:H[p]? = some (.lst xs)) (g2:H[q]? = some (.lst ys)) (hl:xs.length+ys.length<=100000) (k:Q .non (H.set p (.lst (xs++ys)))):wE (Zdo (.ref p) [.ref q] H) Q:=by
 have sz:sizeLine=16777216:=Uk
 exact⟨_,_,by simp only[Zdo,g,g2]; rw[if_pos (by omega)],k⟩
theorem Zrg {k q r:Nat} {a0 z3:Option D} {R:FD->SD->HD->Prop} {H:HD} (hk:k<=8) (hr:r≠q) (g:H[q]? = some (.lst ((lev k).map Zaj))) (gr:H[r]? = some (.lst []))
  (h:∀ z H',H'[r]? = some (.lst ((lev (k+1)).map Zaj))->ExtS [r] H H'->R .nx [a0,some (.ref q),some (.ref r),z] H') :
  wS (Zgk [(q,.lst ((lev k).map Zaj))] (gNm 3) (Zai (Zcy (eLM Zdo (Zac 2) (Zab (eLC (iSq (eC k_TRUTHS)) [3] Zjj (eOp Zb4 (Zac 1) (Zca (Zab (Zac 0) Zah)))) Zah))) Zaq) ((lev k).map Zaj) [a0,some (.ref q),some (.ref r),z3] H) R:=by
 have l256:=Zd1 hk
 refine Zbq (fun d t σ H'=>∃ (dn td:List (List Bool)) (z:Option D),t=td.map Zaj/\lev k=dn++td/\H'[r]? = some (.lst ((dn.flatMap two).map Zaj))/\ExtS [r] H H'/\σ=[a0,some (.ref q),some (.ref r),z]) (fun d t σ H' ⟨dn,td,z,i1,i2,i3,i4,i5⟩=>Zr5 (i4.old _ _ (by simpa using Uf hr) g)) (fun d x t σ H' ⟨dn,td,z,i1,i2,i3,i4,i5⟩=>?_) (fun d σ H' ⟨dn,td,z,i1,i2,i3,i4,i5⟩=>?_) _ [] _ _ ⟨[],lev k,z3,rfl,rfl,gr,ExtS.refl,rfl⟩
 ·subst i5
  obtain⟨b,tr,rfl,rfl,rfl⟩:∃ b tr,td=b::tr/\x=Zaj b/\t=tr.map Zaj:=by
   cases td with
   | nil=>cases i1
   | cons b tr=>obtain⟨e1,e2⟩:=Wbf.inj i1; exact⟨b,tr,rfl,e1,e2⟩
  have lb:b.length=k:=Zc5 k b (by rw[i2]; simp)
  have ln:dn.length<=256:=by have:=congrArg Was i2; simp at this; omega
  fail "g"
  refine⟨by simp[Ze7,i3],?_⟩
  fail "g"
  unfold k_TRUTHS
  fail "g"
  refine Zfl (fun d=>match d with | .bl t=>Zaj (b++[t]) | _=>.non) (fun H2=>H2=H') (fun _ _=>Zff) _ (fun y hy H2 j=>?_) _ rfl fun H2 j=>?_
  ·subst j
   obtain⟨t,rfl⟩:∃ t,y=.bl t:=by
    simp at hy
    rcases hy with z | z<;>exact⟨_,z⟩
   fail "g"
   exact⟨rfl,rfl⟩
  subst j
  refine⟨by simp,?_⟩
  fail "g"
  refine Zv1 (appL i3) last (by rw[Wap,Zjt]; simp; omega) ?_
  fail "g"
  refine⟨dn++[b],tr,_,rfl,by rw[i2]; simp,?_,(i4.trans (ExtS.app _)).trans (ExtS.set (by simp)),rfl⟩
  have hp:r<(H2++[DO.lst [Zaj (b++[false]),Zaj (b++[true])]]).length:=by have:=(Xc.mp i3).1; simp; omega
  show (List.set (H2++[DO.lst [Zaj (b++[false]),Zaj (b++[true])]]) r _)[r]? = _
  rw[Xy hp]
  simp[two]
 ·subst i5
  cases td with
  | cons b tr=>cases i1
  | nil =>
   rw[Xn] at i2
   subst i2
   exact h z H' i3 i4
theorem Zf3 {n:Nat} (hn:n<=8) (q:∀ p H',H'[p]? = some (.lst ((lev n).map Zaj))->H.length<=p->ExtS [] H H'->Q (.ref p) H'):wE (Zd9 [.int n] H) Q:=by
 refine Zcc rfl ?_
 show wS (Zc9 [some (.int n),none,none,none] H) _
 unfold Zc9
 fail "g"
 refine Zjk (fun m σ H'=>∃ (p:Nat) (z2 z3:Option D) (k:Nat),k+m=n/\H'[p]? = some (.lst ((lev k).map Zaj))/\H.length<=p/\ExtS [] H H'/\σ=[some (.int n),some (.ref p),z2,z3]) (fun m σ H' ⟨p,z2,z3,k,i1,i2,i3,i4,i5⟩=>?_) _ n _ _ (by omega) ⟨H.length,none,none,0,by omega,last,Xf _,ExtS.app _,rfl⟩
 subst i5
 obtain⟨c0,cr,ec⟩:∃ c0 cr,lev k=c0::cr:=by
  cases hq:lev k with
  | nil=>have:=Zho k; rw[hq] at this; have:=Nat.two_pow_pos k; simp at *; omega
  | cons a b=>exact⟨a,b,rfl⟩
 have lc:c0.length=k:=Zc5 k c0 (by rw[ec]; simp)
 fail "g"
 refine w_ixR i2 (d:=Zaj c0) (by rw[ec]; exact Zcb (j:=0) rfl) ?_
 fail "g"
 rw[lc]
 refine⟨fun hb=>?_,fun hb=>?_⟩
 ·have hlt:k<n:=by have:=of_decide_eq_true hb; omega
  refine⟨m - 1,by omega,?_⟩
  fail "g"
  refine Zrg (k:=k) (by omega) (fun z=>?_) (appL i2) last fun z H2 g2 x2=>?_
  ·have:=(Xc.mp i2).1
   omega
  ·fail "g"
   exact⟨_,_,_,k+1,by omega,g2,by have:=i4.len; omega,ExtS.weak i4 ((ExtS.app _).trans x2) i4.len,rfl⟩
 ·have hge:k=n:=by have:=of_decide_eq_false hb; omega
  subst hge
  fail "g"
  exact q p H' i2 i3 i4
theorem Znx (ks:List D) (hk:∀ d∈ks,Za1 d) (i:Nat):∃ xs:List Uak,Fines (ks.take i) xs 0/\(xs.countP fun z=>Ub z (.str "all"))=sm true ks i:=by
 unfold sm
 have hk':∀ d∈ks.take i,Za1 d:=fun d hd=>hk d (Wcu hd)
 generalize ks.take i=l at hk'
 induction l with
 | nil=>exact⟨[],.nil,rfl⟩
 | cons d r ih =>
  obtain⟨xs,f,e⟩:=ih fun x hx=>hk' x (by simp[hx])
  have h:=hk' d (by simp)
  rcases h with rfl | rfl
  ·refine⟨.str "all" :: xs,.cons (Fine.str (Zeo (by decide))) f,?_⟩
   rw[Wda,Wda,e]
   congr 1
  ·refine⟨.str "some" :: xs,.cons (Fine.str (Zeo (by decide))) f,?_⟩
   rw[Wda,Wda,e]
   congr 1
theorem Zla {ks:List D} {i:Nat} (hk:∀ d∈ks,Za1 d) (q:Q (.int (sm true ks i:Nat)) H):wE (Zfk (.tup (ks.take i)) [.str "all"] H) Q:=by
 obtain⟨xs,f,e⟩:=Znx ks hk i
 refine⟨_,_,?_,q⟩
 unfold Zfk
 dsimp only
 have fa:Fine (D.str "all") (.str "all") 0:=Fine.str (Zeo (by decide))
 rw[(Fine.tup f).dat (by omega),Zb,fa.dat (by omega)]
 rw[<- e]
 rfl
theorem Zou {ks:List D} (hk:∀ d∈ks,Za1 d) (q:Q (.int (sm true ks ks.length:Nat)) H):wE (Zfk (.tup ks) [.str "all"] H) Q:=by
 have:=Zla (i:=ks.length) hk q
 rwa [Wdt] at this
nonrec def Zc8 (ks:List D):List D:=(Wdy ks.length).map fun i=>.int (sm true ks i:Nat)
theorem Zik {ks:List D} (hk:∀ d∈ks,Za1 d) (h8:ks.length<=8) (q:∀ (p:Nat) (H':HD),H'[p]? = some (.lst (Zc8 ks))->H.length<=p->Fm [] H H'->Q (.ref p) H'):wE (Zbv [.tup ks] H) Q:=by
 refine Zcc rfl ?_
 show wS (Zbi [some (.tup ks)] H) _
 unfold Zbi
 fail "g"
 refine⟨_,rfl,⟨by omega,by omega⟩,?_⟩
 rw[Waq]
 refine Zfl (fun d=>match d with | .int i=>.int (sm true ks i.toNat:Nat) | _=>.non) (fun H2=>H2=H) (fun _ _=>Zff) _ (fun y hy H2 j=>?_) _ rfl fun H2 j=>?_
 ·subst j
  simp only[Zal,Xw,Wbw] at hy
  obtain⟨i,hi,rfl⟩:=hy
  rw[Int.zero_add]
  fail "g"
  refine⟨rfl,?_⟩
  fail "g"
  refine Zla hk ?_
  exact⟨by simp,rfl⟩
 ·subst j
  have e:(Zal 0 ks.length).map (fun d=>match d with | .int i=>D.int (sm true ks i.toNat:Nat) | _=>.non)=Zc8 ks:=by
   unfold Zal Zc8
   rw[Wal]
   exact Wdb fun i _=>by simp
  rw[e]
  refine⟨by simp[Zc8]; omega,?_⟩
  fail "g"
  exact q _ _ last (Xf _) (Fm.app _)
theorem sm8 {ks:List D} (h8:ks.length<=8) (i:Nat):sm true ks i<=8:=by
 unfold sm
 have:=Wfd (p:=fun d=>kS d != true) (l:=ks.take i)
 have:=Wff i ks
 omega
theorem Zlc {ks:List D} {i:Nat} (hi:i<ks.length):atI (Zc8 ks) (i:Int)=some (.int (sm true ks i:Nat)):=by
 refine Zcb ?_
 unfold Zc8
 rw[Wah,List.getElem?_range hi]
 rfl
theorem Zo4 {ks:List D} (hk:∀ d∈ks,Za1 d) (h8:ks.length<=8) (hP:(PTd true ks ks.length 0).length<=3000) (q:∀ H',Fm [] H H'->Q (.tup ((PTd true ks ks.length 0).map Zbk)) H'):wE (Zep [.tup ks] H) Q:=by
 refine Zcc rfl ?_
 show wS (Zck [some (.tup ks),none,none,none,none] H) _
 unfold Zck
 fail "g"
 refine Zik hk h8 fun a H1 g1 l1 x1=>?_
 fail "g"
 refine⟨_,rfl,?_⟩
 have gr:H1[H.length]? = some (.lst []):=x1.lst (by simp) last
 have ar:H.length≠a:=fun z=>by subst z; simp at l1; omega
 refine Zbq (fun d t σ H'=>∃ (i m:Nat) (dn:List Ky) (z3 z4:Option D),i+m=ks.length/\t=Zcq i (ks.drop i)/\H'[H.length]? = some (.lst (dn.map Zbk))/\dn++PTd true ks m i=PTd true ks ks.length 0/\Fm [H.length] H1 H'/\σ=[some (.tup ks),some (.ref H.length),some (.ref a),z3,z4]) (fun _ _ _ _ _=>Zff) (fun d x t σ H' ⟨i,m,dn,z3,z4,i1,i2,i3,i4,i5,i6⟩=>?_) (fun d σ H' ⟨i,m,dn,z3,z4,i1,i2,i3,i4,i5,i6⟩=>?_) _ [] _ _ ⟨0,ks.length,[],none,none,by omega,rfl,gr,rfl,Fm.refl,rfl⟩
 ·subst i6
  have hi:i<ks.length:=by
   refine Nat.lt_of_not_le fun z=>?_
   rw[Wcf z] at i2
   cases i2
  obtain⟨m,rfl⟩:∃ k,m=k+1:=⟨m - 1,by omega⟩
  rw[Waj hi] at i2
  obtain⟨rfl,rfl⟩:=Wbf.inj i2
  have dl:dn.length<=3000:=by have:=congrArg Was i4; simp at this; omega
  have ek:ks[i]=Zb1 (kS (ks.getD i .non)):=by
   have:=Zf5 hk hi
   rw[Xx hi] at this
   exact Waa.inj this
  have ga:H'[a]? = some (.lst (Zc8 ks)):=i5.lst (by simpa using Uf ar) g1
  rw[ek]
  fail "g"
  refine Zh7 (fun σ H2=>H2[H.length]? = some (.lst ((dn++blk true ks i).map Zbk))/\Fm [H.length] H1 H2/\σ=[some (.tup ks),some (.ref H.length),some (.ref a),some (.int i),some (Zb1 (kS (ks.getD i .non)))]) ?_ ?_
  ·(refine WP.w_if ?_; fail "g")
   show wE (eqD (Zb1 _) (Zb1 true) _) _
   refine Zd7 ⟨_,rfl,⟨fun hb=>?_,fun hb=>?_⟩⟩
   ·fail "g"
    refine⟨by simp[Ze7,i3],?_⟩
    fail "g"
    refine w_ixR ga (Zlc hi) ?_
    fail "g"
    refine Zf3 (sm8 h8 i) fun r2 H2 g2 l2 x2'=>?_
    have x2:Fm [] H' H2:=⟨fun m o hm h=>.inl (x2'.old m o hm h),x2'.len⟩
    fail "g"
    refine Zfl (fun d=>.tup [.int ((i:Int)+1),d]) (fun H3=>H3=H2) (fun H3 j=>by rw[j]; exact Zr5 g2) _ (fun y hy H3 j=>?_) _ rfl fun H3 j=>?_
    ·subst j
     fail "g"
     exact⟨rfl,rfl⟩
    subst j
    have l256:=Zd1 (sm8 h8 i)
    refine⟨by simp; omega,?_⟩
    fail "g"
    have gr2:H3[H.length]? = some (.lst (dn.map Zbk)):=x2.lst (by simp) i3
    refine Zv1 (appL gr2) last (by simp; omega) ?_
    fail "g"
    refine⟨rfl,?_,((i5.trans (x2.sub (by simp))).trans (Fm.app _)).trans (Fm.set (by simp)),rfl⟩
    have hp:H.length<(H3++[DO.lst (((lev (sm true ks i)).map Zaj).map fun d=>D.tup [.int ((i:Int)+1),d])]).length:=by have:=(Xc.mp gr2).1; simp; omega
    rw[Xy hp]
    unfold blk
    rw[if_pos hb,Wba,Wal,Wal]
    rfl
   ·fail "g"
    refine⟨rfl,?_,i5,rfl⟩
    unfold blk
    rw[hb,if_neg (by simp),Xn]
    exact i3
  rintro _ H2 ⟨g2,x2,rfl⟩
  fail "g"
  exact⟨i+1,m,dn++blk true ks i,_,_,by omega,rfl,g2,by rw[Xv]; exact i4,x2,rfl⟩
 ·subst i6
  have hi:¬ i<ks.length:=fun z=>by
   rw[Waj z] at i2
   cases i2
  have:m=0:=by omega
  subst this
  simp only[PTd,Xn] at i4
  subst i4
  fail "g"
  exact q H' (((Fm.app (S:=[]) [DO.lst []]).trans x1).new i5 fun m hm _=>by simp at hm; omega)
nonrec def zkg (x:Ky×D):D×D:=(Zbk x.1,x.2)
def Zqc (P:List Ky) (kvs:List (D×D)):Prop:=∀ p∈P,Zd3 kvs (kk p)=some (.int (num P p))
theorem Zfs {k:Ky}:∀ {xs:List (Ky×D)},(∀ x∈xs,x.1≠k)->Zd3 (xs.map zkg) (kk k)=none
 | [],_=>rfl
 | x::xs,h=>by
  have e:(nk2 (zkg x).1==some (kk k))=false:=by
   show (nk2 (Zbk x.1)==_)=false
   rw[Zes]
   simp only[beq_eq_false_iff_ne,ne_eq,Waa.injEq]
   exact fun z=>h x (by simp) (Zst z)
  unfold Zd3
  rw[Wab,Wbm]
  simp only[e]
  exact Zfs fun y hy=>h y (by simp[hy])
theorem Zfz:∀ {xs:List (Ky×D)} {i:Nat} {k:Ky} {v:D},(xs.map (·.1)).Nodup->xs[i]? = some (k,v)->Zd3 (xs.map zkg) (kk k)=some v
 | [],i,k,v,_,h=>by simp at h
 | x::xs,i,k,v,nd,h=>by
  rw[Wab,Wck] at nd
  unfold Zd3
  rw[Wab,Wbm]
  cases i with
  | zero =>
   simp at h
   subst h
   have e:(nk2 (zkg (k,v)).1==some (kk k))=true:=by show (nk2 (Zbk k)==_)=true; rw[Zes]; simp
   simp only[e]
   rfl
  | succ i =>
   have hm:k∈xs.map (·.1):=Xw.mpr ⟨(k,v),War (by simpa using h),rfl⟩
   have e:(nk2 (zkg x).1==some (kk k))=false:=by
    show (nk2 (Zbk x.1)==_)=false
    rw[Zes]
    simp only[beq_eq_false_iff_ne,ne_eq,Waa.injEq]
    exact fun z=>nd.1 (by rw[Zst z]; exact hm)
   simp only[e]
   exact Zfz nd.2 (by simpa using h)
theorem Zn7:∀ (xs acc:List (Ky×D)),((acc++xs).map (·.1)).Nodup->(xs.map fun x=>(Zbk x.1,kk x.1,x.2)).foldl (fun acc p=>Zsr acc p.1 p.2.1 p.2.2) (acc.map zkg)=(acc++xs).map zkg
 | [],acc,_=>by simp
 | x::xs,acc,nd=>by
  rw[Wab,Wbl]
  have e:Zsr (acc.map zkg) (Zbk x.1) (kk x.1) x.2=(acc++[x]).map zkg:=by
   unfold Zsr
   rw[Zfs (xs:=acc) fun y hy z=>?_]
   ·rw[Wba]; rfl
   ·rw[Wba,Wcp] at nd
    exact nd.2.2 y.1 (Xw.mpr ⟨y,hy,rfl⟩) x.1 (by simp) z
  show Wdc _ (Zsr (acc.map zkg) (Zbk x.1) (kk x.1) x.2) _=_
  rw[e,Zn7 xs (acc++[x]) (by simpa using nd)]
  simp
nonrec def en (c:Int):List Ky->List (Ky×D)
 | []=>[]
 | p::r=>(p,.int c)::en (c+1) r
theorem Zcv:∀ (P:List Ky) (c:Int),(en c P).map (·.1)=P
 | [],_=>rfl
 | p::r,c=>by rw[en,Wab,Zcv r]
theorem Zt1:∀ (P:List Ky) (c:Int) (i:Nat) (p:Ky),P[i]? = some p->(en c P)[i]? = some (p,.int (c+i))
 | [],_,_,_,h=>by simp at h
 | q::r,c,0,p,h=>by simp at h; subst h; simp[en]
 | q::r,c,i+1,p,h=>by
  have:=Zt1 r (c+1) i p (by simpa using h)
  rw[en,Wcd,this]
  congr 3
  omega
theorem Zjy:∀ (P:List Ky) (c:Int),Zvh ((en c P).map fun x=>.tup [Zbk x.1,x.2])=some ((en c P).map fun x=>(Zbk x.1,kk x.1,x.2))
 | [],_=>rfl
 | p::r,c=>by
  rw[en,Wab,Zvh,Zes,Zb,Zjy r]
  rfl
theorem Zhi {own:Zem} (ho:Zbn own H):∀ (P:List Ky) (c:Int) {R:List D->HD->Prop},R ((en c P).map fun x=>.tup [Zbk x.1,x.2]) H->wA (Zci own [] Zjj (Zca (Zab (Zac 1) (Zab (Zac 0) Zah))) (Zcq c (P.map Zbk)) H) R
 | [],c,R,q=>⟨_,_,by rw[Wef,Zcq,Zci,if_pos ho]; rfl,q⟩
 | p::r,c,R,q=>by
  obtain⟨ds,H1,e,h⟩:=Zhi ho r (c+1) (R:=fun ds H1=>R (.tup [Zbk p,.int c]::ds) H1) q
  refine⟨_,H1,?_,h⟩
  rw[Wab,Zcq,Zci]
  simp only[two2,Zb]
  rw[if_pos ho]
  have et:Zca (Zab (Zac 1) (Zab (Zac 0) Zah)) [some (.int c),some (Zbk p)] H=some (.tup [Zbk p,.int c],H):=rfl
  simp only[Zjj,Zb,if_true]
  rw[et]
  simp only[Zb]
  rw[e]; rfl
theorem Zsk {it:ItF} {ci:List Nat} {tt:TF} {te:EF} {σ:SD} (h:wI (it σ H) fun xs own H1=>wA (Zci own (Zpu ci σ) tt te xs H1) fun ds H2=>ds.length<=1000000/\Q (.ref H2.length) (H2++[.lst ds])):wE (Zvc it ci tt te σ H) Q:=by
 obtain⟨xs,own,H1,e1,ds,H2,e2,hz,q⟩:=h
 have sz:sizeLine=16777216:=Uk
 refine⟨_,_,?_,q⟩
 unfold Zvc
 rw[e1]
 simp only[Zb]
 rw[e2]
 simp only[Zb]
 unfold mkL
 rw[if_pos (by omega)]
theorem Zu7 {P:List Ky} (nd:P.Nodup):Zqc P (Zhh ((en 1 P).map fun x=>(Zbk x.1,kk x.1,x.2))):=by
 have e:=Zn7 (en 1 P) [] (by simpa [Zcv] using nd)
 simp only[Wef,Wbr] at e
 intro p hp
 have il:P.idxOf p<P.length:=Wco hp
 have gi:P[P.idxOf p]? = some p:=by rw[Xx il,Wfq]
 show Zd3 (Wdc _ [] _) _=_
 rw[e,Zfz (by rw[Zcv]; exact nd) (Zt1 P 1 _ p gi)]
 unfold num
 congr 2
 omega
theorem Zu3 {n:Nat} {P:List Ky} (g:H[n]? = some (.lst ((en 1 P).map fun x=>.tup [Zbk x.1,x.2]))) (hl:P.length<=3000) (q:Q (.ref H.length) (H++[.dcn (Zhh ((en 1 P).map fun x=>(Zbk x.1,kk x.1,x.2)))])):wE (Ze4 [.ref n] H) Q:=by
 have sz:sizeLine=16777216:=Uk
 have l:(en 1 P).length=P.length:=by have:=congrArg Was (Zcv P 1); simpa using this
 refine⟨_,_,?_,q⟩
 unfold Ze4
 simp only[g,Zjy,Zb]
 rw[if_pos (by simp[l]; omega)]
theorem Zct {ks:List D} {P:List Ky} {c:List Bool} (l:Int) (r:List Int):rsp ks P c (l::r)=if (kS (ks.getD (Za5 l - 1).toNat .non)==true)=true then (rsp ks P c r).map fun t=>(if 0<l then num P (part ks c l) else - num P (part ks c l))::t
  else if (c.getD (sm true ks (Za5 l - 1).toNat) false==decide (0<l))=true then none else rsp ks P c r:=rfl
theorem Zeu {ks:List D} {P:List Ky} {c:List Bool}:∀ (dn td xs:List Int),rsp ks P c dn=some xs->rsp ks P c (dn++td)=(rsp ks P c td).map (xs ++ ·)
 | [],td,xs,h=>by
  cases h
  rw[Wbr]
  cases rsp ks P c td<;>rfl
 | l::r,td,xs,h=>by
  rw[Zct l r] at h
  rw[List.cons_append,Zct l (r++td)]
  split at h
  ·rename_i hk
   rw[if_pos hk]
   obtain⟨t,e1,rfl⟩:=Zm h
   rw[Zeu r td t e1,Option.map_map]
   rfl
  ·rename_i hk
   rw[if_neg hk]
   split at h
   ·cases h
   ·rename_i hb
    rw[if_neg hb]
    exact Zeu r td xs h
nonrec def rspD (o:Option (List Int)):D:=match o with
 | none=>.non
 | some xs=>Za7 xs
theorem Zte {ks:List D} {P:List Ky} {kvs:List (D×D)} {c:List Bool} {l:Int} {a n r:Nat} {xs:List Int} {z3 z7 z8 z9:Option D} {R:FD->SD->HD->Prop} (hk:∀ d∈ks,Za1 d) (h0:0<Za5 l) (h1:Za5 l<=ks.length) (hP:∀ (k:Nat) (m:List Bool),k<ks.length->(kS (ks.getD k .non)==true)=true->m.length=sm true ks k->(k+1,m)∈P) (hc:c.length=sm true ks ks.length) (T:Zqc P kvs) (ga:H[a]? = some (.lst (Zc8 ks))) (gn:H[n]? = some (.dcn kvs)) (gr:H[r]? = some (.lst (xs.map .int))) (hx:xs.length<=1000)
  (hn:rsp ks P c [l]=none->R (.rt .non) [some (.tup ks),some (.ref a),some (.ref n),z3,some (Zaj c),some (.ref r),some (.int l),some (.int (Za5 l)),some (.int (sm true ks (Za5 l - 1).toNat:Nat)),z9] H)
  (hs:∀ ys z7 z8 z9 H',rsp ks P c [l]=some ys->H'[r]? = some (.lst ((xs++ys).map .int))->ExtS [r] H H'->R .nx [some (.tup ks),some (.ref a),some (.ref n),z3,some (Zaj c),some (.ref r),some (.int l),z7,z8,z9] H') :
  wS (Zai (Za6 7 (eCB Zsj (Zab (Zac 6) Zah))) (Zai (Za6 8 (eOp ixD (Zac 1) (eOp Zkl (Zac 7) (eC (.int 1))))) (Zai (sIf (tOf (eOp eqD (eOp ixD (Zac 0) (eOp Zkl (Zac 7) (eC (.int 1)))) (eC (.str "some")))) (Zai (Za6 9 (eOp Zjs (Zac 2) (Zca (Zab (Zac 7) (Zab (eSl (Zac 4) Zgp (Ze6 (Zac 8))) Zah))))) (Zai (Zcy (eLM Zbb (Zac 5) (Zab (eIf (tOf (eOp gtD (Zac 6) (eC (.int 0)))) (Zac 9) (eUn Zr4 (Zac 9))) Zah))) Zaq)) (Zai (sIf (tOf (eOp eqD (eOp ixD (Zac 4) (Zac 8)) (eOp gtD (Zac 6) (eC (.int 0))))) (Zai (Zc0 (eC .non)) Zaq) Zaq) Zaq)) Zaq)) [some (.tup ks),some (.ref a),some (.ref n),z3,some (Zaj c),some (.ref r),some (.int l),z7,z8,z9] H) R:=by
 have hi:(Za5 l - 1).toNat<ks.length:=by omega
 have ei:Za5 l - 1=(((Za5 l - 1).toNat:Nat):Int):=by omega
 have sn:=Zf9 (sd:=true) hi
 have sa:=Zkm (sd:=true) (ks:=ks) (ks.length - ((Za5 l - 1).toNat+1)) ((Za5 l - 1).toNat+1) (by omega)
 fail "g"
 refine w_ixR ga (d:=.int (sm true ks (Za5 l - 1).toNat:Nat)) (by rw[ei]; exact Zlc hi) ?_
 fail "i"
 refine w_ixT (d:=Zb1 (kS (ks.getD (Za5 l - 1).toNat .non))) (by rw[ei]; exact Zcb (Zf5 hk hi)) ?_
 fail "g"
 show wE (eqD (Zb1 _) (Zb1 true) _) _
 refine Zd7 ⟨_,rfl,⟨fun hb=>?_,fun hb=>?_⟩⟩
 ·have tl:(c.take (sm true ks (Za5 l - 1).toNat)).length=sm true ks (Za5 l - 1).toNat:=by rw[Wao]; omega
  have ep:part ks c l=((Za5 l - 1).toNat+1,c.take (sm true ks (Za5 l - 1).toNat)):=by
   unfold part
   simp only[Wbh.injEq,and_true]
   omega
  have mp:part ks c l∈P:=by rw[ep]; exact hP _ _ hi hb tl
  have key:nk2 (.tup [.int (Za5 l),.tup ((c.map .bl).take (sm true ks (Za5 l - 1).toNat))])=some (kk (part ks c l)):=by
   have e1:D.tup [.int (Za5 l),.tup ((c.map D.bl).take (sm true ks (Za5 l - 1).toNat))]=Zbk (part ks c l):=by
    rw[ep]
    unfold Zbk Zaj
    rw[Wfo]
    congr 3
    show Za5 l=(((Za5 l - 1).toNat+1:Nat):Int)
    omega
   rw[e1]
   exact Zes _
  have er:rsp ks P c [l]=some [if 0<l then num P (part ks c l) else - num P (part ks c l)]:=by
   unfold rsp
   rw[if_pos hb]
   rfl
  fail "g"
  unfold Zaj
  refine w_slhi ?_
  fail "g"
  refine Zni gn key (T _ mp) ?_
  fail "g"
  refine⟨by simp[Ze7,gr],?_⟩
  refine w_acons ?_
  have hp:r<H.length:=(Xc.mp gr).1
  by_cases hl:0<l
  ·fail "g"
   refine w_bT (decide_eq_true hl) ?_
   fail "g"
   refine Zhg gr (by simp; omega) ?_
   fail "g"
   refine hs _ _ _ _ _ er ?_ (ExtS.set (by simp))
   rw[Xy hp,if_pos hl]
   simp
  ·fail "g"
   refine w_bF (decide_eq_false hl) ?_
   fail "g"
   refine Zhg gr (by simp; omega) ?_
   fail "g"
   refine hs _ _ _ _ _ er ?_ (ExtS.set (by simp))
   rw[Xy hp,if_neg hl]
   simp
 ·rw[hb,if_neg (by simp)] at sn
  have at1:atI (c.map D.bl) (sm true ks (Za5 l - 1).toNat:Nat)=some (.bl (c.getD (sm true ks (Za5 l - 1).toNat) false)):=by
   refine Zcb ?_
   rw[Wah,Wcs,Xx (by omega)]
   rfl
  fail "i"
  unfold Zaj
  refine w_ixT at1 ?_
  fail "g"
  refine Zww ?_
  have er:rsp ks P c [l]=if (c.getD (sm true ks (Za5 l - 1).toNat) false==decide (0<l))=true then none else some []:=by
   unfold rsp
   rw[if_neg (by rw[hb]; simp)]
   rfl
  refine⟨_,rfl,⟨fun hq=>?_,fun hq=>?_⟩⟩
  ·fail "g"
   refine hn ?_
   rw[er,if_pos hq]
  ·fail "g"
   refine hs [] _ _ _ _ (by rw[er,if_neg (by rw[hq]; simp)]) (by simpa using gr) ExtS.refl
theorem Zf2 {ks:List D} {P:List Ky} {c:List Bool}:∀ (ls xs:List Int),rsp ks P c ls=some xs->xs.length<=ls.length
 | [],xs,h=>by cases h; simp
 | l::r,xs,h=>by
  rw[Zct] at h
  split at h
  ·obtain⟨t,e1,rfl⟩:=Zm h
   have:=Zf2 r t e1
   simp; omega
  ·split at h
   ·cases h
   ·have:=Zf2 r xs h
    simp; omega
theorem Zrc {ks:List D} {P:List Ky} {kvs:List (D×D)} {c:List Bool} {ls:List Int} {a n:Nat} (hk:∀ d∈ks,Za1 d) (h8:ks.length<=8) (hu:Up ks.length 0 ls) (hP:∀ (k:Nat) (m:List Bool),k<ks.length->(kS (ks.getD k .non)==true)=true->m.length=sm true ks k->(k+1,m)∈P) (hc:c.length=sm true ks ks.length) (T:Zqc P kvs) (ga:H[a]? = some (.lst (Zc8 ks))) (gn:H[n]? = some (.dcn kvs))
  (q:∀ H',ExtS [] H H'->Q (rspD (rsp ks P c ls)) H'):wE (Zb9 [.tup ks,.ref a,.ref n,Za7 ls,Zaj c] H) Q:=by
 have ub:=Zts ls 0 (by omega) hu
 have ul:=Zja ls 0 hu
 refine Zcc rfl ?_
 show wS (Zbt [some (.tup ks),some (.ref a),some (.ref n),some (Za7 ls),some (Zaj c),none,none,none,none,none] H) _
 unfold Zbt
 fail "g"
 refine⟨ls.map D.int,[],rfl,?_⟩
 refine Zbq (fun d t σ H'=>∃ (dn td xs:List Int) (z6 z7 z8 z9:Option D),t=td.map .int/\ls=dn++td/\rsp ks P c dn=some xs/\H'[H.length]? = some (.lst (xs.map .int))/\ExtS [H.length] (H++[.lst []]) H'/\σ=[some (.tup ks),some (.ref a),some (.ref n),some (Za7 ls),some (Zaj c),some (.ref H.length),z6,z7,z8,z9]) (fun _ _ _ _ _=>Zff) (fun d x t σ H' ⟨dn,td,xs,z6,z7,z8,z9,i1,i2,i3,i4,i5,i6⟩=>?_) (fun d σ H' ⟨dn,td,xs,z6,z7,z8,z9,i1,i2,i3,i4,i5,i6⟩=>?_) _ [] _ _ ⟨[],ls,[],none,none,none,none,rfl,rfl,rfl,last,ExtS.refl,rfl⟩
 ·subst i6
  obtain⟨l,tr,rfl,rfl,rfl⟩:∃ l tr,td=l::tr/\x=.int l/\t=tr.map .int:=by
   cases td with
   | nil=>cases i1
   | cons b tr=>obtain⟨e1,e2⟩:=Wbf.inj i1; exact⟨b,tr,rfl,e1,e2⟩
  obtain⟨l0,l1⟩:=ub l (by rw[i2]; simp)
  have lx:=Zf2 dn xs i3
  have ld:dn.length<=ls.length:=by rw[i2]; simp
  have la:a<H.length:=(Xc.mp ga).1
  have ln:n<H.length:=(Xc.mp gn).1
  refine w_gnm ?_
  refine Zte (P:=P) (kvs:=kvs) hk l0 l1 hP hc T (i5.old _ _ (by simp; omega) (appL ga)) (i5.old _ _ (by simp; omega) (appL gn)) i4 (by omega) (fun hn=>?_) fun ys z7 z8 z9 H2 hy g2 x2=>?_
  ·have e:rsp ks P c ls=none:=by
    rw[i2,Zeu dn (l::tr) xs i3,Zct]
    rw[Zct] at hn
    split at hn
    ·rename_i hb
     obtain⟨t,e1,_⟩:=(show ∃ t,rsp ks P c []=some t/\True from⟨[],rfl,trivial⟩)
     rw[e1] at hn
     cases hn
    ·rename_i hb
     split at hn
     ·rename_i hq
      rw[if_neg hb,if_pos hq]
      rfl
     ·cases hn
   fail "g"
   have:=q H' (ExtS.weak (ExtS.app _) i5 (Xf _))
   rw[e] at this
   exact this
  ·fail "g"
   refine⟨dn++[l],tr,xs++ys,_,_,_,_,rfl,by rw[i2]; simp,?_,g2,i5.trans x2,rfl⟩
   rw[Zeu dn [l] xs i3,hy]
   rfl
 ·subst i6
  cases td with
  | cons b tr=>cases i1
  | nil =>
   rw[Xn] at i2
   subst i2
   fail "g"
   have:=q H' (ExtS.weak (ExtS.app _) i5 (Xf _))
   rw[i3] at this
   exact this
variable {σ:SD} {H:HD} {Q:D->HD->Prop}
nonrec def kvT (xs:List Int):D×D:=(Za7 xs,.bl true)
nonrec def Ztg (xss:List (List Int)) (xs:List Int):List (List Int):=if xs∈xss then xss else xss++[xs]
theorem Zxf {xs:List Int}:∀ xss:List (List Int),(Zij (xss.map kvT) xs).isSome=decide (xs∈xss)
 | []=>by simp[Zij]
 | y::r=>by
  unfold Zij
  rw[Wab,Wbm]
  by_cases h:y=xs
  ·subst h
   have e:(nk (kvT y).1==some y)=true:=by show (nk (Za7 y)==some y)=true; rw[Zo3]; simp
   simp[e]
  ·have e:(nk (kvT y).1==some xs)=false:=by show (nk (Za7 y)==some xs)=false; rw[Zo3]; simpa using h
   simp only[e]
   have:=Zxf (xs:=xs) r
   unfold Zij at this
   rw[this]
   have h2:¬ xs=y:=fun z=>h z.symm
   simp[h2]
theorem putT (xss:List (List Int)) (xs:List Int):Zr9 (xss.map kvT) (Za7 xs) xs (.bl true)=(Ztg xss xs).map kvT:=by
 unfold Zr9 Ztg
 rw[Zxf]
 by_cases h:xs∈xss
 ·rw[if_pos (by simpa using h),if_pos h,Wal]
  refine Wdb fun y _=>?_
  show (if nk (Za7 y)=some xs then (Za7 y,D.bl true) else kvT y)=kvT y
  split<;>rfl
 ·rw[if_neg (by simpa using h),if_neg h,Wba]
  rfl
theorem Zr1 {xss:List (List Int)} {xs:List Int} {p:Nat} {R:HD->Prop} (g:H[p]? = some (.dic (xss.map kvT) false)) (hl:xss.length<=1000000) (q:R (H.set p (.dic ((Ztg xss xs).map kvT) false))):wH (Ziv (.ref p) (Za7 xs) (.bl true) H) R:=by
 have sz:sizeLine=16777216:=Uk
 refine⟨_,?_,q⟩
 unfold Ziv
 simp only[g,Zo3,Zb]
 rw[if_pos (by simp; omega),putT]
theorem Zp1 (xss:List (List Int)) (xs:List Int):(Ztg xss xs).length<=xss.length+1:=by unfold Ztg; split<;>simp
theorem Zgy:∀ xss:List (List Int),Zlm (xss.map Za7)=some xss
 | []=>rfl
 | xs::r=>by
  have e:rowI (Za7 xs)=some xs:=by
   show Zd2 (xs.map .int)=some xs
   induction xs with
   | nil=>rfl
   | cons x t ih=>rw[Wab,Zd2,ih]; rfl
  rw[Wab,Zlm,e,Zb,Zgy r]
  rfl
theorem Zo8 {xss:List (List Int)} {p:Nat} {fz:Bool} (g:H[p]? = some (.dic (xss.map kvT) fz)) (hl:xss.length<=1000000) (q:Q (.ref H.length) (H++[.lst ((Zjh xss).map Za7)])):wE (Zgw [.ref p] H) Q:=by
 have e:(xss.map kvT).map (·.1)=xss.map Za7:=by rw[Wal]; rfl
 refine⟨_,_,?_,q⟩
 unfold Zgw
 simp only[g,e,Zgy,Zb]
 rw[if_pos (by simpa using hl)]
 rfl
nonrec def Zei (ks:List D) (P:List Ky) (c:List Bool) (acc:List (List Int)) (ls:List Int):List (List Int):=match rsp ks P c ls with
 | none=>acc
 | some xs=>Ztg acc xs
nonrec def Zhv (ks:List D) (P:List Ky) (rss:List (List Int)) (cs:List (List Bool)):List (List Int):=cs.foldl (fun acc c=>rss.foldl (Zei ks P c) acc) []
theorem Zro (ks:List D) (P:List Ky) (c:List Bool) (acc:List (List Int)) (ls:List Int):(Zei ks P c acc ls).length<=acc.length+1:=by
 unfold Zei
 split
 ·omega
 ·exact Zp1 _ _
theorem Zfg (ks:List D) (P:List Ky) (c:List Bool):∀ (rs acc:List (List Int)),(rs.foldl (Zei ks P c) acc).length<=acc.length+rs.length
 | [],acc=>by simp
 | ls::r,acc=>by
  have:=Zfg ks P c r (Zei ks P c acc ls)
  have:=Zro ks P c acc ls
  rw[Wbl,Wbo]
  omega
theorem Zd8 (ks:List D) (P:List Ky) (rss:List (List Int)):∀ (cs:List (List Bool)) (acc:List (List Int)),(cs.foldl (fun acc c=>rss.foldl (Zei ks P c) acc) acc).length<=acc.length+cs.length*rss.length
 | [],acc=>by simp
 | c::r,acc=>by
  have h1:=Zd8 ks P rss r (rss.foldl (Zei ks P c) acc)
  have h2:=Zfg ks P c rss acc
  rw[Wbl,Wbo,Wfz]
  omega
theorem Zm9 {ks:List D} {rss:List (List Int)} {P:List Ky} {kvs:List (D×D)} {c:List Bool} {xss:List (List Int)} {a n p:Nat} {z2 z7 z8:Option D} {R:FD->SD->HD->Prop} (cl:Cl ks rss) (hP:∀ (k:Nat) (m:List Bool),k<ks.length->(kS (ks.getD k .non)==true)=true->m.length=sm true ks k->(k+1,m)∈P) (hc:c.length=sm true ks ks.length) (T:Zqc P kvs) (ga:H[a]? = some (.lst (Zc8 ks))) (gn:H[n]? = some (.dcn kvs)) (gp:H[p]? = some (.dic (xss.map kvT) false)) (hx:xss.length<=500000)
  (h:∀ z7 z8 H',H'[p]? = some (.dic ((rss.foldl (Zei ks P c) xss).map kvT) false)->Fm [p] H H'->R .nx [some (Zbz ks rss),some (.tup ks),z2,some (.ref n),some (.ref a),some (.ref p),some (Zaj c),z7,z8] H') :
  wS (Zgk [] (gNm 7) (Zai (Za6 8 (Zax 5 Zb9 (Zab (Zac 1) (Zab (Zac 4) (Zab (Zac 3) (Zab (Zac 7) (Zab (Zac 6) Zah))))))) (Zai (sIf (tOf (eOp Zu5 (Zac 8) (eC .non))) (Zai (Zra (eC (.bl true)) (gSb (Zac 5) (Zac 8) Ziv)) Zaq) Zaq) Zaq)) (rss.map Za7) [some (Zbz ks rss),some (.tup ks),z2,some (.ref n),some (.ref a),some (.ref p),some (Zaj c),z7,z8] H) R:=by
 have rl:=cl.hl
 have np:n≠p:=fun z=>by subst z; rw[gn] at gp; cases gp
 have ap:a≠p:=fun z=>by subst z; rw[ga] at gp; cases gp
 refine Zbq (fun d t σ H'=>∃ (dr tr:List (List Int)) (z7 z8:Option D),t=tr.map Za7/\rss=dr++tr/\H'[p]? = some (.dic ((dr.foldl (Zei ks P c) xss).map kvT) false)/\Fm [p] H H'/\σ=[some (Zbz ks rss),some (.tup ks),z2,some (.ref n),some (.ref a),some (.ref p),some (Zaj c),z7,z8]) (fun _ _ _ _ _=>Zff) (fun d x t σ H' zz=>?_) (fun d σ H' zz=>?_) _ [] _ _ ⟨[],rss,z7,z8,rfl,rfl,gp,Fm.refl,rfl⟩
 ·obtain⟨dr,tr,z7,z8,i1,i2,i3,i7,i8⟩:=zz
  subst i8
  obtain⟨ls,t',rfl,rfl,rfl⟩:∃ ls t',tr=ls::t'/\x=Za7 ls/\t=t'.map Za7:=by
   cases tr with
   | nil=>cases i1
   | cons b t'=>obtain⟨e1,e2⟩:=Wbf.inj i1; exact⟨b,t',rfl,e1,e2⟩
  have dl:dr.length<=1000:=by have:=congrArg Was i2; simp at this; omega
  have yl:=Zfg ks P c dr xss
  have ef:(dr++[ls]).foldl (Zei ks P c) xss=Zei ks P c (dr.foldl (Zei ks P c) xss) ls:=by rw[Wcr]; rfl
  generalize dr.foldl (Zei ks P c) xss=yss at i3 yl ef
  fail "g"
  refine Zrc (P:=P) (kvs:=kvs) cl.hk cl.h8 (cl.hu ls (by rw[i2]; simp)) hP hc T (i7.lst (by simpa using ap) ga) (i7.dcn (by simpa using np) gn) fun H2 x2=>?_
  have g2:H2[p]? = some (.dic (yss.map kvT) false):=x2.old _ _ (by simp) i3
  have f2:Fm [p] H H2:=i7.trans ⟨fun m o _ h=>.inl (x2.old m o (by simp) h),x2.len⟩
  fail "g"
  refine Zh7 (fun σ H3=>∃ (z8:Option D),H3[p]? = some (.dic ((Zei ks P c yss ls).map kvT) false)/\Fm [p] H H3/\σ=[some (Zbz ks rss),some (.tup ks),z2,some (.ref n),some (.ref a),some (.ref p),some (Zaj c),some (Za7 ls),z8]) ?_ ?_
  ·unfold Zei
   cases hr':rsp ks P c ls with
   | none =>
    (refine WP.w_if ?_; fail "g")
    exact⟨rfl,_,g2,f2,rfl⟩
   | some xs =>
    (refine WP.w_if ?_; fail "g")
    refine Zr1 g2 (by omega) ?_
    fail "g"
    have hp:p<H2.length:=(Xc.mp g2).1
    exact⟨rfl,_,by rw[Xy hp],f2.trans (Fm.set (by simp)),rfl⟩
  rintro _ H3 ⟨z8',g3,x3,rfl⟩
  fail "g"
  exact⟨dr++[ls],t',_,_,rfl,by rw[i2]; simp,by rw[ef]; exact g3,x3,rfl⟩
 ·obtain⟨dr,tr,z7,z8,i1,i2,i3,i7,i8⟩:=zz
  subst i8
  cases tr with
  | cons b t'=>cases i1
  | nil =>
   rw[Xn] at i2
   subst i2
   exact h z7 z8 H' i3 i7
theorem Zjf {ks:List D} (h8:ks.length<=8):∀ (j i:Nat),(PTd true ks j i).length<=256*j
 | 0,i=>by simp[PTd]
 | j+1,i=>by
  have h1:=Zjf h8 j (i+1)
  have h2:(blk true ks i).length<=256:=by
   unfold blk
   split
   ·rw[Wap]; exact Zd1 (sm8 h8 i)
   ·simp
  unfold PTd
  rw[Xp]
  omega
theorem Zke {ks:List D} (h8:ks.length<=8):(PTd true ks ks.length 0).length<=3000:=by
 have:=Zjf h8 ks.length 0
 omega
nonrec def Zvg (ks:List D) (rss:List (List Int)):D:=.tup [.tup ((PTd true ks ks.length 0).map Zbk),.tup ((Zjh (Zhv ks (PTd true ks ks.length 0) rss (lev (sm true ks ks.length)))).map Za7)]
theorem Zen {ks:List D} {rss:List (List Int)} (cl:Cl ks rss) (q:∀ H',Fm [] H H'->Q (Zvg ks rss) H'):wE (Zdg [Zbz ks rss] H) Q:=by
 have hP:=Zke cl.h8
 have rl:=cl.hl
 have h8:=cl.h8
 have s8:=sm8 h8 ks.length
 have hin:∀ (k:Nat) (m:List Bool),k<ks.length->(kS (ks.getD k .non)==true)=true->m.length=sm true ks k->(k+1,m)∈PTd true ks ks.length 0:=fun k m h1 h2 h3=>Zjn ks.length 0 (by omega) k m (by omega) h1 h2 h3
 refine Zcc rfl ?_
 show wS (Zeg [some (Zbz ks rss),none,none,none,none,none,none,none,none] H) _
 unfold Zeg
 fail "g"
 refine Zo4 cl.hk h8 hP fun H1 x1=>?_
 fail "g"
 refine Zsk (w_enum1 ?_)
 fail "g"
 refine⟨_,rfl,?_⟩
 refine Zhi Zff _ 1 ?_
 have l:=congrArg Was (Zcv (PTd true ks ks.length 0) 1)
 rw[Wap] at l
 refine⟨by simp; omega,?_⟩
 fail "g"
 refine Zu3 last (by omega) ?_
 fail "g"
 have T:=Zu7 (Zf0 (sd:=true) (ks:=ks) ks.length 0 (by omega))
 generalize ekv:Zhh ((en 1 (PTd true ks ks.length 0)).map fun x=>(Zbk x.1,kk x.1,x.2))=kvs at T
 have X2:∀ A:DO,Fm [] H (H1++[A]++[DO.dcn kvs]):=fun A=>(x1.trans (Fm.app _)).trans (Fm.app _)
 refine Zik cl.hk h8 fun a H2 g2 l2 x2=>?_
 have gn:H2[(H1++[DO.lst ((en 1 (PTd true ks ks.length 0)).map fun x=>D.tup [Zbk x.1,x.2])]).length]? = some (.dcn kvs):=x2.dcn (by simp) last
 have Y2:Fm [] H H2:=(X2 _).trans x2
 generalize (H1++[DO.lst ((en 1 (PTd true ks ks.length 0)).map fun x=>D.tup [Zbk x.1,x.2])]).length=n at gn
 fail "g"
 refine⟨rfl,?_⟩
 fail "g"
 refine Zou cl.hk ?_
 fail "g"
 refine Zf3 s8 fun rc H3 g3 l3 x3=>?_
 have gd:H3[H2.length]? = some (.dic (([]:List (List Int)).map kvT) false):=x3.old _ _ (by simp) last
 have ga3:H3[a]? = some (.lst (Zc8 ks)):=x3.old _ _ (by simp) (appL g2)
 have gn3:H3[n]? = some (.dcn kvs):=x3.old _ _ (by simp) (appL gn)
 have dp:∀ {m:Nat} {o:DO},H3[m]? = some o->(∀ kv f,o≠.dic kv f)->m≠H2.length:=fun h1 h2 z=>by subst z; rw[gd] at h1; cases h1; exact h2 _ _ rfl
 have nc:rc≠H2.length:=dp g3 (by simp)
 have na:a≠H2.length:=dp ga3 (by simp)
 have nn:n≠H2.length:=dp gn3 (by simp)
 have l256:=Zd1 s8
 have Y3:Fm [] H H3:=(Y2.trans (Fm.app _)).trans ⟨fun m o hm h=>.inl (x3.old m o hm h),x3.len⟩
 fail "g"
 refine Zbq (fun d t σ H'=>∃ (dn td:List (List Bool)) (z6 z7 z8:Option D),t=td.map Zaj/\lev (sm true ks ks.length)=dn++td/\H'[H2.length]? = some (.dic ((Zhv ks (PTd true ks ks.length 0) rss dn).map kvT) false)/\Fm [H2.length] H3 H'/\σ=[some (Zbz ks rss),some (.tup ks),some (.tup ((PTd true ks ks.length 0).map Zbk)),some (.ref n),some (.ref a),some (.ref H2.length),z6,z7,z8]) (fun d t σ H' zz=>?_) (fun d x t σ H' zz=>?_) (fun d σ H' zz=>?_) _ [] _ _ ⟨[],_,none,none,none,rfl,rfl,gd,Fm.refl,rfl⟩
 ·obtain⟨dn,td,z6,z7,z8,i1,i2,i3,i7,i8⟩:=zz
  exact Zr5 (i7.lst (by simpa using nc) g3)
 ·obtain⟨dn,td,z6,z7,z8,i1,i2,i3,i7,i8⟩:=zz
  subst i8
  obtain⟨c,tr,rfl,rfl,rfl⟩:∃ c tr,td=c::tr/\x=Zaj c/\t=tr.map Zaj:=by
   cases td with
   | nil=>cases i1
   | cons b tr=>obtain⟨e1,e2⟩:=Wbf.inj i1; exact⟨b,tr,rfl,e1,e2⟩
  have lc:c.length=sm true ks ks.length:=Zc5 _ c (by rw[i2]; simp)
  have dl:dn.length<=256:=by have:=congrArg Was i2; simp at this; omega
  have ml:=Zd8 ks (PTd true ks ks.length 0) rss dn []
  have mm:dn.length*rss.length<=256*1000:=Wcy dl rl
  have ef:Zhv ks (PTd true ks ks.length 0) rss (dn++[c])=rss.foldl (Zei ks (PTd true ks ks.length 0) c) (Zhv ks (PTd true ks ks.length 0) rss dn):=by unfold Zhv; rw[Wcr]; rfl
  fail "g"
  refine Zm9 cl hin lc T (i7.lst (by simpa using na) ga3) (i7.dcn (by simpa using nn) gn3) i3 (by unfold Zhv; simp at ml; omega) fun z7 z8 H4 g4 x4=>?_
  fail "g"
  exact⟨dn++[c],tr,_,_,_,rfl,by rw[i2]; simp,by rw[ef]; exact g4,i7.trans x4,rfl⟩
 ·obtain⟨dn,td,z6,z7,z8,i1,i2,i3,i7,i8⟩:=zz
  subst i8
  cases td with
  | cons b tr=>cases i1
  | nil =>
   rw[Xn] at i2
   rw[<- i2] at i3
   have ml:=Zd8 ks (PTd true ks ks.length 0) rss (lev (sm true ks ks.length)) []
   have mm:(lev (sm true ks ks.length)).length*rss.length<=256*1000:=Wcy l256 rl
   fail "g"
   refine Zo8 i3 (by unfold Zhv; simp at ml; omega) ?_
   fail "g"
   exact q _ ((Y3.new i7 fun m hm _=>by simp at hm; have:=Y2.len; omega).trans (Fm.app _))
variable {σ:SD} {H:HD} {Q:D->HD->Prop}
nonrec def alN (ks:List D) (k:Nat):List D:=(Zal 1 k).filter (Zse ks false)
theorem Zku {ks:List D} {k:Nat} (hk:∀ d∈ks,Za1 d) (h:k<=ks.length) (h8:ks.length<=8) (q:∀ (p:Nat) (H':HD),H'[p]? = some (.lst (alN ks k))->ExtS [] H H'->Q (.ref p) H'):wE (Za3 [.tup ks,.int ((k:Int)+1),.str "all"] H) Q:=by
 refine Zcc rfl ?_
 show wS (Zbd [some (.tup ks),some (.int ((k:Int)+1)),some (.str "all")] H) _
 unfold Zbd
 fail "g"
 refine⟨_,_,rfl,by decide,⟨by omega,by omega⟩,?_⟩
 rw[show ((k:Int)+1 - 1).toNat=k by omega]
 refine Zc6 (Zse ks false) (fun H'=>H'=H) (fun _ _=>Zff) _ (fun y hy H2 j=>?_) _ rfl fun H2 j=>?_
 ·subst j
  simp only[Zal,Xw,Wbw] at hy
  obtain⟨i,hi,rfl⟩:=hy
  fail "g"
  have e:atI ks (1+(i:Int) - 1)=some (Zb1 (kS (ks.getD i .non))):=by
   rw[show (1:Int)+i - 1=(i:Nat) by omega]
   exact Zcb (Zf5 hk (by omega))
  refine w_ixT e ?_
  fail "g"
  show wE (eqD (Zb1 _) (Zb1 false) _) _
  refine Zd7 ⟨_,rfl,?_,rfl⟩
  show _=(kS (ks.getD ((1:Int)+i - 1).toNat .non)==false)
  rw[show ((1:Int)+i - 1).toNat=i by omega]
 ·subst j
  have l2:=Wdp (Zse ks false) (Zal 1 k)
  have l3:(Zal 1 k).length=k:=by simp[Zal]
  refine⟨by omega,?_⟩
  fail "g"
  exact q _ _ last (ExtS.app _)
theorem Zjw {ks:List D} {k:Nat} (h:k<=ks.length):(alN ks k).length=sm true ks k:=Zfi ks k h
nonrec def zN (ks:List D) (c:List Bool):Nat->List (Int×D)
 | 0=>[]
 | k+1=>zN ks c k++if kS (ks.getD k .non)=false then [((k:Int)+1,.bl (c.getD (sm true ks k) false))] else []
theorem Zmn:∀ (a b:List D) (ps:List (Int×D)) (i:Int) (v:D) (r:List D),ikz a b=some ps->a.length=b.length->ikz (a++[.int i]) (b++v::r)=some (ps++[(i,v)])
 | [],[],ps,i,v,r,h,_=>by cases h; rfl
 | .int k::a,w::b,ps,i,v,r,h,l=>by
  unfold ikz at h
  obtain⟨t,e,rfl⟩:=Zm h
  show (ikz (a++[.int i]) (b++v::r)).map _=_
  rw[Zmn a b t i v r e (by simpa using l)]
  rfl
 | [],_::_,_,_,_,_,_,l=>by cases l
 | _::_,[],_,_,_,_,_,l=>by cases l
 | .non::a,w::b,ps,i,v,r,h,l=>by cases h
 | .bl _::a,w::b,ps,i,v,r,h,l=>by cases h
 | .str _::a,w::b,ps,i,v,r,h,l=>by cases h
 | .ty _::a,w::b,ps,i,v,r,h,l=>by cases h
 | .tup _::a,w::b,ps,i,v,r,h,l=>by cases h
 | .fl _::a,w::b,ps,i,v,r,h,l=>by cases h
 | .ref _::a,w::b,ps,i,v,r,h,l=>by cases h
theorem Zsl {ks:List D} {c:List Bool} (hc:c.length=sm true ks ks.length):∀ k,k<=ks.length->ikz (alN ks k) ((c.take (sm true ks k)).map .bl)=some (zN ks c k)
 | 0,_=>rfl
 | k+1,h=>by
  have ih:=Zsl hc k (by omega)
  have sn:=Zf9 (sd:=true) (ks:=ks) (i:=k) (by omega)
  have sa:=Zkm (sd:=true) (ks:=ks) (ks.length - (k+1)) (k+1) (by omega)
  have e:Zse ks false (.int (1+k))=(kS (ks.getD k .non)==false):=by
   show (kS (ks.getD ((1:Int)+k - 1).toNat .non)==false)=_
   rw[show ((1:Int)+k - 1).toNat=k by omega]
  unfold alN zN
  rw[Zfx,Wfp]
  cases hk:kS (ks.getD k .non) with
  | true =>
   rw[hk] at sn e
   replace sn:sm true ks (k+1)=sm true ks k:=by simpa using sn
   rw[Wdi (by rw[e]; simp),if_neg (by simp),sn,List.filter_nil,Xn,Xn]
   exact ih
  | false =>
   rw[hk] at sn e
   rw[if_neg (by simp)] at sn
   rw[Wdh (by rw[e]; rfl),if_pos rfl,sn]
   have lt:sm true ks k<c.length:=by omega
   have e2:(c.take (sm true ks k+1)).map D.bl=(c.take (sm true ks k)).map D.bl++[.bl (c.getD (sm true ks k) false)]:=by
    rw[Wcb,Xx lt,Wcs,Xx lt,Wba]
    rfl
   rw[e2,show (1:Int)+k=k+1 by omega]
   exact Zmn _ _ _ _ _ [] ih (by rw[Wap,Wao]; have:=Zjw (ks:=ks) (k:=k) (by omega); unfold alN at this; omega)
theorem Zka {ks:List D} {c:List Bool}:∀ k,∀ x∈zN ks c k,x.1<=k
 | 0,x,h=>by cases h
 | k+1,x,h=>by
  unfold zN at h
  rcases Xs.mp h with h | h
  ·have:=Zka k x h; omega
  ·split at h
   ·simp at h; rw[h]; simp
   ·cases h
theorem Zkv {ks:List D} {c:List Bool}:∀ k,Zl7 (zN ks c k)=zN ks c k
 | 0=>rfl
 | k+1=>by
  have ih:=Zkv (ks:=ks) (c:=c) k
  unfold zN
  split
  ·unfold Zl7 at ih ⊢
   rw[Wcr,ih]
   show Zvj (zN ks c k) _ _=_
   unfold Zvj
   rw[if_neg]
   rw[List.any_eq_true]
   rintro⟨x,hx,e⟩
   have:=Zka k x hx
   simp at e
   omega
  ·rw[Xn]; exact ih
theorem Zm8 {ks:List D} {c:List Bool}:∀ k,∀ m,m<k->Zf4 (zN ks c k) ((m:Int)+1)=if kS (ks.getD m .non)=false then some (.bl (c.getD (sm true ks m) false)) else none
 | 0,m,h=>by omega
 | k+1,m,h=>by
  unfold zN Zf4
  rw[List.find?_append]
  by_cases hm:m=k
  ·subst hm
   have e:(zN ks c m).find? (fun p=>p.1=(m:Int)+1)=none:=by
    rw[Wfr]
    intro x hx
    have:=Zka m x hx
    simp
    omega
   rw[e]
   split
   ·simp
   ·simp
  ·have ih:=Zm8 (ks:=ks) (c:=c) k m (by omega)
   unfold Zf4 at ih
   cases hf:(zN ks c k).find? (fun p=>p.1=(m:Int)+1) with
   | some p=>rw[hf] at ih; rw[<- ih]; simp
   | none =>
    rw[hf] at ih
    rw[<- ih]
    have e:(if kS (ks.getD k .non)=false then [((k:Int)+1,D.bl (c.getD (sm true ks k) false))] else []).find? (fun p=>p.1=(m:Int)+1)=none:=by
     rw[Wfr]
     intro x hx
     split at hx
     ·simp at hx; rw[hx]; simp; omega
     ·cases hx
    simp only[Option.none_or]
    rw[e]
theorem w_dzi {f:AF} (h:wA (f σ H) fun ds H1=>∃ d1 d2 a b ps,ds=[d1,d2]/\Zq6 d1 H1=some a/\Zq6 d2 H1=some b/\ikz a.1 b.1=some ps/\ps.length<=1000/\Q (.ref H1.length) (H1++[.dci (Zl7 ps)])):wE (eDZI f σ H) Q:=by
 obtain⟨ds,H1,e,d1,d2,a,b,ps,rfl,e1,e2,e3,hl,q⟩:=h
 have sz:sizeLine=16777216:=Uk
 refine⟨_,_,?_,q⟩
 unfold eDZI
 rw[e]
 simp only[Zb,e1,e2,e3]
 rw[if_pos (by omega)]
theorem w_iin {n:Nat} {kvs:List (Int×D)} {k:Int} (g:H[n]? = some (.dci kvs)) (q:Q (.bl (Zf4 kvs k).isSome) H):wE (Zwh (.int k) (.ref n) H) Q:=⟨_,_,by simp[Zwh,Zvd,g],q⟩
theorem Zwb {n:Nat} {kvs:List (Int×D)} {k:Int} {v:D} (g:H[n]? = some (.dci kvs)) (hv:Zf4 kvs k=some v) (q:Q v H):wE (Zox (.ref n) (.int k) H) Q:=⟨_,_,by simp[Zox,Zvd,g,hv],q⟩
theorem Zsy {ks:List D} {c:List Bool}:∀ k,(zN ks c k).length<=k
 | 0=>by simp[zN]
 | k+1=>by
  have:=Zsy (ks:=ks) (c:=c) k
  unfold zN
  rw[Xp]
  split<;>simp<;>omega
def Zq0 (P:List Ky) (kvs:List (D×D)):Prop:=∀ p∈P,Zd3 kvs (kk p)=some (.int (P.idxOf p:Nat))
theorem Zu9 {ks:List D} {P:List Ky} {kvs:List (D×D)} {c:List Bool} {l:Int} {n m r:Nat} {xs:List Int} {z2 z4 z8 z9:Option D} {R:FD->SD->HD->Prop} (hk:∀ d∈ks,Za1 d) (h8:ks.length<=8) (h0:0<Za5 l) (h1:Za5 l<=ks.length) (hP:∀ (k:Nat) (m:List Bool),k<ks.length->(kS (ks.getD k .non)==true)=true->m.length=sm true ks k->(k+1,m)∈P) (hc:c.length=sm true ks ks.length) (T:Zq0 P kvs) (gn:H[n]? = some (.dcn kvs)) (gm:H[m]? = some (.dci (zN ks c ks.length))) (gr:H[r]? = some (.lst (xs.map .int))) (hx:xs.length<=1000) (hp3:P.length<=3000)
  (hn:∀ z8 z9,rsp ks P c [l]=none->R (.rt .non) [some (.tup ks),some (.ref n),z2,some (Zaj c),z4,some (.ref m),some (.ref r),some (.int l),z8,z9] H)
  (hs:∀ ys z8 z9 H',rsp ks P c [l]=some ys->H'[r]? = some (.lst ((xs++ys).map .int))->ExtS [r] H H'->R .nx [some (.tup ks),some (.ref n),z2,some (Zaj c),z4,some (.ref m),some (.ref r),some (.int l),z8,z9] H') :
  wS ((Zai (Za6 8 (eCB Zsj (Zab (Zac 7) Zah))) (Zai (sIf (tOf (eOp Zwh (Zac 8) (Zac 5))) (Zai (sIf (tOf (eOp eqD (eOp Zox (Zac 5) (Zac 8)) (eOp gtD (Zac 7) (eC (.int 0))))) (Zai (Zc0 (eC .non)) Zaq) Zaq) Zaq) (Zai (Za6 9 (Zca (Zab (Zac 8) (Zab (eSl (Zac 3) Zgp (Ze6 (eCB Ze1 (Zab (Zax 3 Za3 (Zab (Zac 0) (Zab (Zac 8) (Zab (eC (.str "all")) Zah)))) Zah)))) Zah)))) (Zai (Zcy (eLM Zbb (Zac 6) (Zab (eOp Zh3 (eOp ixD (Zel (Zab (eUn Zr4 (eC (.int 1))) (Zab (eC (.int 1)) Zah))) (eCB Zs3 (Zab (eOp gtD (Zac 7) (eC (.int 0))) Zah))) (eOp Zb4 (eOp Zjs (Zac 1) (Zac 9)) (eC (.int 1)))) Zah))) Zaq))) Zaq)) [some (.tup ks),some (.ref n),z2,some (Zaj c),z4,some (.ref m),some (.ref r),some (.int l),z8,z9] H) R:=by
 have hi:(Za5 l - 1).toNat<ks.length:=by omega
 have ea:Za5 l=(((Za5 l - 1).toNat:Nat):Int)+1:=by omega
 have lk:=Zm8 (ks:=ks) (c:=c) ks.length _ hi
 rw[<- ea] at lk
 have sa:=Zkm (sd:=true) (ks:=ks) (ks.length - (Za5 l - 1).toNat) (Za5 l - 1).toNat (by omega)
 fail "i"
 refine w_iin gm ?_
 rw[lk]
 cases hb:kS (ks.getD (Za5 l - 1).toNat .non) with
 | false =>
  have er:rsp ks P c [l]=if (c.getD (sm true ks (Za5 l - 1).toNat) false==decide (0<l))=true then none else some []:=by
   unfold rsp
   rw[if_neg (by rw[hb]; simp)]
   rfl
  rw[hb,if_pos rfl] at lk
  refine⟨_,rfl,⟨fun _=>?_,fun h=>by simp at h⟩⟩
  fail "i"
  refine Zwb gm lk ?_
  fail "g"
  refine Zww ?_
  refine⟨_,rfl,⟨fun hq=>?_,fun hq=>?_⟩⟩
  ·fail "g"
   refine hn _ _ ?_
   rw[er,if_pos hq]
  ·fail "g"
   exact hs [] _ _ _ (by rw[er,if_neg (by rw[hq]; simp)]) (by simpa using gr) ExtS.refl
 | true =>
  have tl:(c.take (sm true ks (Za5 l - 1).toNat)).length=sm true ks (Za5 l - 1).toNat:=by rw[Wao]; omega
  have ep:part ks c l=((Za5 l - 1).toNat+1,c.take (sm true ks (Za5 l - 1).toNat)):=by
   unfold part
   simp only[Wbh.injEq,and_true]
   omega
  have mp:part ks c l∈P:=by rw[ep]; exact hP _ _ hi (by rw[hb]; rfl) tl
  have key:nk2 (.tup [.int (Za5 l),.tup ((c.map .bl).take (sm true ks (Za5 l - 1).toNat))])=some (kk (part ks c l)):=by
   have e1:D.tup [.int (Za5 l),.tup ((c.map D.bl).take (sm true ks (Za5 l - 1).toNat))]=Zbk (part ks c l):=by
    rw[ep]
    unfold Zbk Zaj
    rw[Wfo]
    congr 3
   rw[e1]
   exact Zes _
  have er:rsp ks P c [l]=some [if 0<l then num P (part ks c l) else - num P (part ks c l)]:=by
   unfold rsp
   rw[if_pos (by rw[hb]; rfl)]
   rfl
  have il:P.idxOf (part ks c l)<P.length:=Wco mp
  refine⟨_,rfl,⟨fun h=>by simp at h,fun _=>?_⟩⟩
  fail "g"
  rw[ea]
  refine Zku hk (Wcj hi) h8 fun pa H1 g1 x1=>?_
  fail "g"
  rw[Zjw (Wcj hi),<- ea]
  unfold Zaj
  refine w_slhi ?_
  fail "g"
  have gr1:H1[r]? = some (.lst (xs.map .int)):=x1.old _ _ (by simp) gr
  refine⟨by simp[Ze7,gr1],?_⟩
  refine w_acons ?_
  have hp:r<H1.length:=(Xc.mp gr1).1
  by_cases hl:0<l
  ·fail "g"
   refine w_ixR last (d:=.int 1) (by rw[show (if decide (l > 0)=true then (1:Int) else 0)=1 by simp[hl]]; rfl) ?_
   fail "g"
   refine Zni (appL (x1.old _ _ (by simp) gn)) key (T _ mp) ?_
   fail "g"
   refine Zhg (appL gr1) (by simp; omega) ?_
   fail "g"
   refine hs _ _ _ _ er ?_ (((show ExtS [r] H H1 from⟨fun m o _ h=>x1.old m o (by simp) h,x1.len⟩).trans (ExtS.app _)).trans (ExtS.set (by simp)))
   rw[Xy (by simp; omega),if_pos hl]
   unfold num
   simp
  ·fail "g"
   refine w_ixR last (d:=.int (-1)) (by rw[show (if decide (l > 0)=true then (1:Int) else 0)=0 by simp[hl]]; rfl) ?_
   fail "g"
   refine Zni (appL (x1.old _ _ (by simp) gn)) key (T _ mp) ?_
   fail "g"
   refine Zhg (appL gr1) (by simp; omega) ?_
   fail "g"
   refine hs _ _ _ _ er ?_ (((show ExtS [r] H H1 from⟨fun m o _ h=>x1.old m o (by simp) h,x1.len⟩).trans (ExtS.app _)).trans (ExtS.set (by simp)))
   rw[Xy (by simp; omega),if_neg hl]
   unfold num
   simp
theorem Zp5 {ks:List D} {P:List Ky} {kvs:List (D×D)} {c:List Bool} {ls:List Int} {n pn:Nat} (hk:∀ d∈ks,Za1 d) (h8:ks.length<=8) (hu:Up ks.length 0 ls) (hP:∀ (k:Nat) (m:List Bool),k<ks.length->(kS (ks.getD k .non)==true)=true->m.length=sm true ks k->(k+1,m)∈P) (hc:c.length=sm true ks ks.length) (T:Zq0 P kvs) (hp3:P.length<=3000) (gn:H[n]? = some (.dcn kvs)) (gp:H[pn]? = some (.lst (alN ks ks.length)))
  (q:∀ H',ExtS [] H H'->Q (rspD (rsp ks P c ls)) H'):wE (Zba [.tup ks,.ref n,.ref pn,Zaj c,Za7 ls] H) Q:=by
 have ub:=Zts ls 0 (by omega) hu
 have ul:=Zja ls 0 hu
 refine Zcc rfl ?_
 show wS (Zaz [some (.tup ks),some (.ref n),some (.ref pn),some (Zaj c),some (Za7 ls),none,none,none,none,none] H) _
 unfold Zaz
 fail "g"
 refine w_dzi ?_
 fail "g"
 have ez:=Zsl hc ks.length (Xf _)
 rw[<- hc,Wdt] at ez
 refine⟨_,_,(alN ks ks.length,[(pn,.lst (alN ks ks.length))]),(c.map .bl,[]),_,rfl,?_,rfl,ez,?_,?_⟩
 ·simp[Zq6,gp]
 ·have:=Zsy (ks:=ks) (c:=c) ks.length
  omega
 rw[Zkv]
 fail "g"
 refine⟨ls.map D.int,[],rfl,?_⟩
 have gm0:(H++[DO.dci (zN ks c ks.length)]++[DO.lst []])[H.length]? = some (.dci (zN ks c ks.length)):=appL last
 have gr0:(H++[DO.dci (zN ks c ks.length)]++[DO.lst []])[H.length+1]? = some (.lst []):=by
  have:H.length+1=(H++[DO.dci (zN ks c ks.length)]).length:=by simp
  rw[this]; exact last
 have X0:ExtS [] H (H++[DO.dci (zN ks c ks.length)]++[DO.lst []]):=(ExtS.app _).trans (ExtS.app _)
 have el:(H++[DO.dci (zN ks c ks.length)]).length=H.length+1:=by simp
 rw[el]
 generalize H++[DO.dci (zN ks c ks.length)]++[DO.lst []]=H0 at gm0 gr0 X0 ⊢
 have gn0:=X0.old _ _ (by simp) gn
 have ln:n<H.length:=(Xc.mp gn).1
 refine Zbq (fun d t σ H'=>∃ (dn td xs:List Int) (z7 z8 z9:Option D),t=td.map .int/\ls=dn++td/\rsp ks P c dn=some xs/\H'[H.length+1]? = some (.lst (xs.map .int))/\H'[H.length]? = some (.dci (zN ks c ks.length))/\ExtS [H.length+1] H0 H'/\σ=[some (.tup ks),some (.ref n),some (.ref pn),some (Zaj c),some (Za7 ls),some (.ref H.length),some (.ref (H.length+1)),z7,z8,z9]) (fun _ _ _ _ _=>Zff) (fun d x t σ H' zz=>?_) (fun d σ H' zz=>?_) _ [] _ _ ⟨[],ls,[],none,none,none,rfl,rfl,rfl,gr0,gm0,ExtS.refl,rfl⟩
 ·obtain⟨dn,td,xs,z7,z8,z9,i1,i2,i3,i4,i4',i5,i6⟩:=zz
  subst i6
  obtain⟨l,tr,rfl,rfl,rfl⟩:∃ l tr,td=l::tr/\x=.int l/\t=tr.map .int:=by
   cases td with
   | nil=>cases i1
   | cons b tr=>obtain⟨e1,e2⟩:=Wbf.inj i1; exact⟨b,tr,rfl,e1,e2⟩
  obtain⟨l0,l1⟩:=ub l (by rw[i2]; simp)
  have lx:=Zf2 dn xs i3
  have ld:dn.length<=ls.length:=by rw[i2]; simp
  refine w_gnm ?_
  refine Zu9 (P:=P) (kvs:=kvs) hk h8 l0 l1 hP hc T (i5.old _ _ (by simp; omega) gn0) i4' i4 (by omega) hp3 (fun z8 z9 hn=>?_) fun ys z8 z9 H2 hy g2 x2=>?_
  ·have e:rsp ks P c ls=none:=by
    rw[i2,Zeu dn (l::tr) xs i3,Zct]
    rw[Zct] at hn
    split at hn
    ·rename_i hb
     obtain⟨t,e1,_⟩:=(show ∃ t,rsp ks P c []=some t/\True from⟨[],rfl,trivial⟩)
     rw[e1] at hn
     cases hn
    ·rename_i hb
     split at hn
     ·rename_i hq
      rw[if_neg hb,if_pos hq]
      rfl
     ·cases hn
   fail "g"
   have:=q H' (ExtS.weak X0 i5 (by omega))
   rw[e] at this
   exact this
  ·fail "g"
   refine⟨dn++[l],tr,xs++ys,_,_,_,rfl,by rw[i2]; simp,?_,g2,?_,i5.trans x2,rfl⟩
   ·rw[Zeu dn [l] xs i3,hy]
    rfl
   ·exact x2.old _ _ (by simp) i4'
 ·obtain⟨dn,td,xs,z7,z8,z9,i1,i2,i3,i4,i4',i5,i6⟩:=zz
  subst i6
  cases td with
  | cons b tr=>cases i1
  | nil =>
   rw[Xn] at i2
   subst i2
   fail "g"
   have:=q H' (ExtS.weak X0 i5 (by omega))
   rw[i3] at this
   exact this
variable {σ:SD} {H:HD} {Q:D->HD->Prop}
theorem Zt6 {f:AF} {I:List D->Zem->HD->Prop} (h:wA (f σ H) fun ds H1=>∃ n xs,ds=[.ref n]/\H1[n]? = some (.lst xs)/\I (Zcq 0 xs) [(n,.lst xs)] H1):wI (Zkg f σ H) I:=by
 obtain⟨ds,H1,e,n,xs,rfl,g,q⟩:=h
 exact⟨_,_,_,by unfold Zkg; rw[e]; simp only[Zb]; rw[g],q⟩
theorem Zqo {P:List Ky} (nd:P.Nodup):Zq0 P (Zhh ((en 0 P).map fun x=>(Zbk x.1,kk x.1,x.2))):=by
 have e:=Zn7 (en 0 P) [] (by simpa [Zcv] using nd)
 simp only[Wef,Wbr] at e
 intro p hp
 have il:P.idxOf p<P.length:=Wco hp
 have gi:P[P.idxOf p]? = some p:=by rw[Xx il,Wfq]
 show Zd3 (Wdc _ [] _) _=_
 rw[e,Zfz (by rw[Zcv]; exact nd) (Zt1 P 0 _ p gi)]
 simp
theorem Zpw {n:Nat} {P:List Ky} (g:H[n]? = some (.lst ((en 0 P).map fun x=>.tup [Zbk x.1,x.2]))) (hl:P.length<=3000) (q:Q (.ref H.length) (H++[.dcn (Zhh ((en 0 P).map fun x=>(Zbk x.1,kk x.1,x.2)))])):wE (Ze4 [.ref n] H) Q:=by
 have sz:sizeLine=16777216:=Uk
 have l:(en 0 P).length=P.length:=by have:=congrArg Was (Zcv P 0); simpa using this
 refine⟨_,_,?_,q⟩
 unfold Ze4
 simp only[g,Zjy,Zb]
 rw[if_pos (by simp[l]; omega)]
theorem Zqa {ks:List D} {rss:List (List Int)} {P:List Ky} {kvs:List (D×D)} {c:List Bool} {xss:List (List Int)} {n pn p:Nat} {z0 z1 z8 z9:Option D} {R:FD->SD->HD->Prop} (cl:Cl ks rss) (hP:∀ (k:Nat) (m:List Bool),k<ks.length->(kS (ks.getD k .non)==true)=true->m.length=sm true ks k->(k+1,m)∈P) (hc:c.length=sm true ks ks.length) (T:Zq0 P kvs) (hp3:P.length<=3000) (gn:H[n]? = some (.dcn kvs)) (ga:H[pn]? = some (.lst (alN ks ks.length))) (gp:H[p]? = some (.dic (xss.map kvT) false)) (hx:xss.length<=500000)
  (h:∀ z8 z9 H',H'[p]? = some (.dic ((rss.foldl (Zei ks P c) xss).map kvT) false)->Fm [p] H H'->R .nx [z0,z1,some (.ref n),some (.ref pn),some (.ref p),some (Zaj c),some (.tup ks),some (.tup (rss.map Za7)),z8,z9] H') :
  wS (Zgk [] (gNm 8) (Zai (Za6 9 (Zax 5 Zba (Zab (Zac 6) (Zab (Zac 2) (Zab (Zac 3) (Zab (Zac 5) (Zab (Zac 8) Zah))))))) (Zai (sIf (tOf (eOp Zu5 (Zac 9) (eC .non))) (Zai (Zra (eC (.bl true)) (gSb (Zac 4) (Zac 9) Ziv)) Zaq) Zaq) Zaq)) (rss.map Za7) [z0,z1,some (.ref n),some (.ref pn),some (.ref p),some (Zaj c),some (.tup ks),some (.tup (rss.map Za7)),z8,z9] H) R:=by
 have rl:=cl.hl
 have np:n≠p:=fun z=>by subst z; rw[gn] at gp; cases gp
 have ap:pn≠p:=fun z=>by subst z; rw[ga] at gp; cases gp
 refine Zbq (fun d t σ H'=>∃ (dr tr:List (List Int)) (z8 z9:Option D),t=tr.map Za7/\rss=dr++tr/\H'[p]? = some (.dic ((dr.foldl (Zei ks P c) xss).map kvT) false)/\Fm [p] H H'/\σ=[z0,z1,some (.ref n),some (.ref pn),some (.ref p),some (Zaj c),some (.tup ks),some (.tup (rss.map Za7)),z8,z9]) (fun _ _ _ _ _=>Zff) (fun d x t σ H' zz=>?_) (fun d σ H' zz=>?_) _ [] _ _ ⟨[],rss,z8,z9,rfl,rfl,gp,Fm.refl,rfl⟩
 ·obtain⟨dr,tr,z8,z9,i1,i2,i3,i7,i8⟩:=zz
  subst i8
  obtain⟨ls,t',rfl,rfl,rfl⟩:∃ ls t',tr=ls::t'/\x=Za7 ls/\t=t'.map Za7:=by
   cases tr with
   | nil=>cases i1
   | cons b t'=>obtain⟨e1,e2⟩:=Wbf.inj i1; exact⟨b,t',rfl,e1,e2⟩
  have dl:dr.length<=1000:=by have:=congrArg Was i2; simp at this; omega
  have yl:=Zfg ks P c dr xss
  have ef:(dr++[ls]).foldl (Zei ks P c) xss=Zei ks P c (dr.foldl (Zei ks P c) xss) ls:=by rw[Wcr]; rfl
  generalize dr.foldl (Zei ks P c) xss=yss at i3 yl ef
  fail "g"
  refine Zp5 (P:=P) (kvs:=kvs) cl.hk cl.h8 (cl.hu ls (by rw[i2]; simp)) hP hc T hp3 (i7.dcn (by simpa using np) gn) (i7.lst (by simpa using ap) ga) fun H2 x2=>?_
  have g2:H2[p]? = some (.dic (yss.map kvT) false):=x2.old _ _ (by simp) i3
  have f2:Fm [p] H H2:=i7.trans ⟨fun m o _ h=>.inl (x2.old m o (by simp) h),x2.len⟩
  fail "g"
  refine Zh7 (fun σ H3=>∃ (z9:Option D),H3[p]? = some (.dic ((Zei ks P c yss ls).map kvT) false)/\Fm [p] H H3/\σ=[z0,z1,some (.ref n),some (.ref pn),some (.ref p),some (Zaj c),some (.tup ks),some (.tup (rss.map Za7)),some (Za7 ls),z9]) ?_ ?_
  ·unfold Zei
   cases hr':rsp ks P c ls with
   | none =>
    (refine WP.w_if ?_; fail "g")
    exact⟨rfl,_,g2,f2,rfl⟩
   | some xs =>
    (refine WP.w_if ?_; fail "g")
    refine Zr1 g2 (by omega) ?_
    fail "g"
    have hp:p<H2.length:=(Xc.mp g2).1
    exact⟨rfl,_,by rw[Xy hp],f2.trans (Fm.set (by simp)),rfl⟩
  rintro _ H3 ⟨z8',g3,x3,rfl⟩
  fail "g"
  exact⟨dr++[ls],t',_,_,rfl,by rw[i2]; simp,by rw[ef]; exact g3,x3,rfl⟩
 ·obtain⟨dr,tr,z8,z9,i1,i2,i3,i7,i8⟩:=zz
  subst i8
  cases tr with
  | cons b t'=>cases i1
  | nil =>
   rw[Xn] at i2
   subst i2
   exact h z8 z9 H' i3 i7
theorem Zpg {ks:List D} {rss:List (List Int)} (cl:Cl ks rss) (q:∀ H',Fm [] H H'->Q (Zvg ks rss) H'):wE (Zdc [Zbz ks rss] H) Q:=by
 have hP:=Zke cl.h8
 have rl:=cl.hl
 have h8:=cl.h8
 have s8:=sm8 h8 ks.length
 have hin:∀ (k:Nat) (m:List Bool),k<ks.length->(kS (ks.getD k .non)==true)=true->m.length=sm true ks k->(k+1,m)∈PTd true ks ks.length 0:=fun k m h1 h2 h3=>Zjn ks.length 0 (by omega) k m (by omega) h1 h2 h3
 refine Zcc rfl ?_
 show wS (Zbs [some (.tup [.tup ks,.tup (rss.map Za7)]),none,none,none,none,none,none,none,none,none] H) _
 unfold Zbs
 fail "g"
 refine Znd cl.hk h8 hP fun p1 H1 g1 x1=>?_
 fail "g"
 refine Zsk (Zt6 ?_)
 fail "g"
 refine⟨_,_,rfl,g1,?_⟩
 refine Zhi (Zr5 g1) _ 0 ?_
 have l:=congrArg Was (Zcv (PTd true ks ks.length 0) 0)
 rw[Wap] at l
 refine⟨by simp; omega,?_⟩
 fail "g"
 refine Zpw last (by omega) ?_
 fail "g"
 have T:=Zqo (Zf0 (sd:=true) (ks:=ks) ks.length 0 (by omega))
 generalize ekv:Zhh ((en 0 (PTd true ks ks.length 0)).map fun x=>(Zbk x.1,kk x.1,x.2))=kvs at T
 have X2:∀ A:DO,Fm [] H1 (H1++[A]++[DO.dcn kvs]):=fun A=>(Fm.app _).trans (Fm.app _)
 refine Zku (k:=ks.length) cl.hk (Xf _) h8 fun pn H2 g2 x2'=>?_
 have x2:Fm [] _ H2:=⟨fun m o _ h=>.inl (x2'.old m o (by simp) h),x2'.len⟩
 have gn:H2[(H1++[DO.lst ((en 0 (PTd true ks ks.length 0)).map fun x=>D.tup [Zbk x.1,x.2])]).length]? = some (.dcn kvs):=x2.dcn (by simp) last
 have g12:H2[p1]? = some (.lst ((PTd true ks ks.length 0).map Zbk)):=((X2 _).trans x2).lst (by simp) g1
 have Y2:Fm [] H H2:=(x1.trans (X2 _)).trans x2
 generalize (H1++[DO.lst ((en 0 (PTd true ks ks.length 0)).map fun x=>D.tup [Zbk x.1,x.2])]).length=n at gn
 fail "g"
 rw[Zjw (Xf _)]
 refine Zf8 s8 fun rc H3 g3 x3=>?_
 have gd:H3[H2.length]? = some (.dic (([]:List (List Int)).map kvT) false):=x3.old _ _ (by simp) last
 have ga3:H3[pn]? = some (.lst (alN ks ks.length)):=x3.old _ _ (by simp) (appL g2)
 have gn3:H3[n]? = some (.dcn kvs):=x3.old _ _ (by simp) (appL gn)
 have gt3:H3[p1]? = some (.lst ((PTd true ks ks.length 0).map Zbk)):=x3.old _ _ (by simp) (appL g12)
 have dp:∀ {m:Nat} {o:DO},H3[m]? = some o->(∀ kv f,o≠.dic kv f)->m≠H2.length:=fun h1 h2 z=>by subst z; rw[gd] at h1; cases h1; exact h2 _ _ rfl
 have nc:rc≠H2.length:=dp g3 (by simp)
 have na:pn≠H2.length:=dp ga3 (by simp)
 have nn:n≠H2.length:=dp gn3 (by simp)
 have nt:p1≠H2.length:=dp gt3 (by simp)
 have l256:=Zd1 s8
 have Y3:Fm [] H H3:=(Y2.trans (Fm.app _)).trans ⟨fun m o hm h=>.inl (x3.old m o hm h),x3.len⟩
 fail "g"
 refine Zbq (fun d t σ H'=>∃ (dn td:List (List Bool)) (z5 z8 z9:Option D),t=td.map Zaj/\lev (sm true ks ks.length)=dn++td/\H'[H2.length]? = some (.dic ((Zhv ks (PTd true ks ks.length 0) rss dn).map kvT) false)/\Fm [H2.length] H3 H'/\σ=[some (.tup [.tup ks,.tup (rss.map Za7)]),some (.ref p1),some (.ref n),some (.ref pn),some (.ref H2.length),z5,some (.tup ks),some (.tup (rss.map Za7)),z8,z9]) (fun d t σ H' zz=>?_) (fun d x t σ H' zz=>?_) (fun d σ H' zz=>?_) _ [] _ _ ⟨[],_,none,none,none,rfl,rfl,gd,Fm.refl,rfl⟩
 ·obtain⟨dn,td,z5,z8,z9,i1,i2,i3,i7,i8⟩:=zz
  exact Zr5 (i7.lst (by simpa using nc) g3)
 ·obtain⟨dn,td,z5,z8,z9,i1,i2,i3,i7,i8⟩:=zz
  subst i8
  obtain⟨c,tr,rfl,rfl,rfl⟩:∃ c tr,td=c::tr/\x=Zaj c/\t=tr.map Zaj:=by
   cases td with
   | nil=>cases i1
   | cons b tr=>obtain⟨e1,e2⟩:=Wbf.inj i1; exact⟨b,tr,rfl,e1,e2⟩
  have lc:c.length=sm true ks ks.length:=Zc5 _ c (by rw[i2]; simp)
  have dl:dn.length<=256:=by have:=congrArg Was i2; simp at this; omega
  have ml:=Zd8 ks (PTd true ks ks.length 0) rss dn []
  have mm:dn.length*rss.length<=256*1000:=Wcy dl rl
  have ef:Zhv ks (PTd true ks ks.length 0) rss (dn++[c])=rss.foldl (Zei ks (PTd true ks ks.length 0) c) (Zhv ks (PTd true ks ks.length 0) rss dn):=by unfold Zhv; rw[Wcr]; rfl
  fail "g"
  refine Zqa cl hin lc T hP (i7.dcn (by simpa using nn) gn3) (i7.lst (by simpa using na) ga3) i3 (by unfold Zhv; simp at ml; omega) fun z8 z9 H4 g4 x4=>?_
  fail "g"
  exact⟨dn++[c],tr,_,_,_,rfl,by rw[i2]; simp,by rw[ef]; exact g4,i7.trans x4,rfl⟩
 ·obtain⟨dn,td,z5,z8,z9,i1,i2,i3,i7,i8⟩:=zz
  subst i8
  cases td with
  | cons b tr=>cases i1
  | nil =>
   rw[Xn] at i2
   rw[<- i2] at i3
   have ml:=Zd8 ks (PTd true ks ks.length 0) rss (lev (sm true ks ks.length)) []
   have mm:(lev (sm true ks ks.length)).length*rss.length<=256*1000:=Wcy l256 rl
   have gt4:=i7.lst (by simpa using nt) gt3
   fail "g"
   refine Zo8 i3 (by unfold Zhv; simp at ml; omega) ?_
   fail "g"
   exact q _ ((Y3.new i7 fun m hm _=>by simp at hm; have:=Y2.len; omega).trans (Fm.app _))
variable {σ:SD} {H:HD} {Q:D->HD->Prop}
theorem w_inF {p:Nat} {bs:List Bool} (g:H[p]? = some (.lst (bs.map .bl))) (q:Q (.bl (!bs.all id)) H):wE (inD (.bl false) (.ref p) H) Q:=by
 have f:Fines (bs.map D.bl) (bs.map Tcj) 0:=by
  clear g q
  induction bs with
  | nil=>exact .nil
  | cons b r ih=>exact .cons (.bl b) ih
 refine Zwj (.bl false) f (by omega) (by omega) g ?_
 have:=Zr3 bs
 rw[<- this,Bool.not_not] at q
 exact q
theorem Zkq:∀ bs:List Bool,((bs.map Tcj).any fun z=>Ub z (.bool true))=bs.any id
 | []=>rfl
 | b::r=>by
  rw[Wab,Wdw,Wdw,Zkq r]
  cases b<;>rfl
theorem Zv8 {p:Nat} {bs:List Bool} (g:H[p]? = some (.lst (bs.map .bl))) (q:Q (.bl (bs.any id)) H):wE (inD (.bl true) (.ref p) H) Q:=by
 have f:Fines (bs.map D.bl) (bs.map Tcj) 0:=by
  clear g q
  induction bs with
  | nil=>exact .nil
  | cons b r ih=>exact .cons (.bl b) ih
 refine Zwj (.bl true) f (by omega) (by omega) g ?_
 rw[Zkq]
 exact q
theorem Zqn {P:List Ky} {rs:List (List Int)} (hb:∀ p∈P,p.2.length<=100) (hr:∀ ls∈rs,ls.length<=1000) (q:∀ H',Fm [] H H'->Q (.bl true) H'):wE (Zdb [.tup [.tup (P.map Zbk),.tup (rs.map Za7)]] H) Q:=by
 refine Zcc rfl ?_
 show wS (Zbm [some (.tup [.tup (P.map Zbk),.tup (rs.map Za7)]),none,none,none] H) _
 unfold Zbm
 fail "i"
 fail "i"
 fail "g"
 refine Zg5 (fun σ H'=>∃ z1 z2 z3,Fm [] H H'/\σ=[some (.tup [.tup (P.map Zbk),.tup (rs.map Za7)]),z1,z2,z3]) (fun _ _ _=>Zff) _ (fun d hd σ H1 zz=>?_) _ _ ⟨_,_,_,Fm.refl,rfl⟩ fun σ H1 zz=>?_
 ·obtain⟨z1,z2,z3,x1,rfl⟩:=zz
  obtain⟨p,hp,rfl⟩:=Xw.mp hd
  unfold Zbk Zaj
  fail "i"
  fail "g"
  refine Zfl (fun _=>.bl true) (fun H'=>H'=H1) (fun _ _=>Zff) _ (fun y hy H2 j=>?_) _ rfl fun H2 j=>?_
  ·obtain⟨b,_,rfl⟩:=Xw.mp hy
   subst j
   fail "g"
   exact⟨rfl,rfl⟩
  subst j
  have e1:(p.2.map D.bl).map (fun _=>D.bl true)=(p.2.map fun _=>true).map D.bl:=by rw[Wal,Wal]; rfl
  have:=hb p hp
  rw[e1]
  refine⟨by simp; omega,?_⟩
  fail "g"
  refine w_inF last ?_
  fail "g"
  have ea:(p.2.map fun _=>true).all id=true:=by simp
  rw[ea]
  fail "g"
  exact⟨_,_,_,x1.trans (Fm.app _),rfl⟩
 ·obtain⟨z1,z2,z3,x1,rfl⟩:=zz
  fail "g"
  refine Zg5 (fun σ H'=>∃ z1 z2 z3,Fm [] H H'/\σ=[some (.tup [.tup (P.map Zbk),.tup (rs.map Za7)]),z1,z2,z3]) (fun _ _ _=>Zff) _ (fun d hd σ H1 zz=>?_) _ _ ⟨_,_,_,x1,rfl⟩ fun σ H1 zz=>?_
  ·obtain⟨z1,z2,z3,x1,rfl⟩:=zz
   obtain⟨ls,hp,rfl⟩:=Xw.mp hd
   unfold Za7
   fail "i"
   fail "g"
   refine Zfl (fun _=>.bl false) (fun H'=>H'=H1) (fun _ _=>Zff) _ (fun y hy H2 j=>?_) _ rfl fun H2 j=>?_
   ·obtain⟨b,_,rfl⟩:=Xw.mp hy
    subst j
    fail "g"
    exact⟨rfl,rfl⟩
   subst j
   have e1:(ls.map D.int).map (fun _=>D.bl false)=(ls.map fun _=>false).map D.bl:=by rw[Wal,Wal]; rfl
   have:=hr ls hp
   rw[e1]
   refine⟨by simp; omega,?_⟩
   fail "g"
   refine Zv8 last ?_
   fail "g"
   have ea:(ls.map fun _=>false).any id=false:=by simp
   rw[ea]
   fail "g"
   exact⟨_,_,_,x1.trans (Fm.app _),rfl⟩
  ·obtain⟨z1,z2,z3,x1,rfl⟩:=zz
   fail "g"
   exact q H1 x1
variable {σ:SD} {H:HD} {Q:D->HD->Prop}
theorem Zlh {ks:List D} (h8:ks.length<=8):∀ (j i:Nat),∀ p∈PTd true ks j i,p.2.length<=8
 | 0,i,p,h=>by cases h
 | j+1,i,p,h=>by
  rcases Xs.mp h with h | h
  ·unfold blk at h
   split at h
   ·obtain⟨c,hc,rfl⟩:=Xw.mp h
    rw[Zc5 _ c hc]
    exact sm8 h8 i
   ·cases h
  ·exact Zlh h8 j (i+1) p h
theorem Zu0 {ks:List D} {P:List Ky} {c:List Bool} {acc:List (List Int)} {ls xs:List Int} (h:xs∈Zei ks P c acc ls):xs∈acc\/rsp ks P c ls=some xs:=by
 unfold Zei at h
 split at h
 ·exact .inl h
 ·rename_i ys e
  unfold Ztg at h
  split at h
  ·exact .inl h
  ·rcases Xs.mp h with z | z
   ·exact .inl z
   ·rw[Xz.mp z]; exact .inr e
theorem Zow {ks:List D} {P:List Ky} {c:List Bool} {xs:List Int}:∀ (rs acc:List (List Int)),xs∈rs.foldl (Zei ks P c) acc->xs∈acc\/∃ ls∈rs,rsp ks P c ls=some xs
 | [],acc,h=>.inl h
 | ls::r,acc,h=>by
  rcases Zow r _ h with z | ⟨l,h1,h2⟩
  ·rcases Zu0 z with z | z
   ·exact .inl z
   ·exact .inr ⟨ls,by simp,z⟩
  ·exact .inr ⟨l,by simp[h1],h2⟩
theorem Zol {ks:List D} {P:List Ky} {rss:List (List Int)} {xs:List Int}:∀ (cs:List (List Bool)) (acc:List (List Int)),xs∈cs.foldl (fun acc c=>rss.foldl (Zei ks P c) acc) acc->xs∈acc\/∃ c∈cs,∃ ls∈rss,rsp ks P c ls=some xs
 | [],acc,h=>.inl h
 | c::r,acc,h=>by
  rcases Zol r _ h with z | ⟨d,h1,ls,h2,h3⟩
  ·rcases Zow rss acc z with z | ⟨ls,h2,h3⟩
   ·exact .inl z
   ·exact .inr ⟨c,by simp,ls,h2,h3⟩
  ·exact .inr ⟨d,by simp[h1],ls,h2,h3⟩
theorem Zrj {ks:List D} {rss:List (List Int)} (cl:Cl ks rss):∀ xs∈Zjh (Zhv ks (PTd true ks ks.length 0) rss (lev (sm true ks ks.length))),xs.length<=8:=fun xs h=>by
 have h:=(Zjc _).mem_iff.mp h
 rcases Zol _ _ h with z | ⟨c,h1,ls,h2,h3⟩
 ·cases z
 ·have a:=Zf2 ls xs h3
  have b:=Zja ls 0 (cl.hu ls h2)
  have d:=cl.h8
  omega
theorem Zqj {ks:List D} {rss:List (List Int)}:∃ x,Fine (Zvg ks rss) x 5:=by
 obtain⟨a,fa⟩:=Fines.of (h:=3) ((PTd true ks ks.length 0).map Zbk) fun d hd=>by
  obtain⟨p,_,rfl⟩:=Xw.mp hd
  obtain⟨b,fb⟩:=Fines.of (h:=0) (p.2.map D.bl) fun d hd=>by
   obtain⟨t,_,rfl⟩:=Xw.mp hd
   exact⟨_,Fine.bl t⟩
  exact⟨_,(Fine.tup (h:=1) (Fines.cons ((Fine.int _).le (by omega)) (Fines.cons (Fine.tup fb) Fines.nil))).le (by omega)⟩
 obtain⟨b,fb⟩:=Fines.of (h:=3) ((Zjh (Zhv ks (PTd true ks ks.length 0) rss (lev (sm true ks ks.length)))).map Za7) fun d hd=>by
  obtain⟨ls,_,rfl⟩:=Xw.mp hd
  exact⟨_,(Fine.tup (Zie ls)).le (by omega)⟩
 exact⟨_,Fine.tup (h:=4) (Fines.cons (Fine.tup fa) (Fines.cons (Fine.tup fb) Fines.nil))⟩
theorem pure_law:∀ ns:List Int,ns.length<=63->∃ Hd',Zl1 [.fl (ns.map .int)] []=some (.bl true,Hd'):=by
 intro ns _
 suffices h:wE (Zl1 [.fl (ns.map .int)] []) fun d _=>d=.bl true by
  obtain⟨d,H',e,rfl⟩:=h
  exact⟨H',e⟩
 refine Zcc rfl ?_
 show wS (Zon [some (.fl (ns.map .int)),none,none,none,none,none] []) _
 unfold Zon
 fail "g"
 refine⟨_,rfl,⟨by omega,by omega⟩,?_⟩
 refine Zg5 (fun σ H'=>∃ z1 z2 z3 z4 z5,σ=[some (.fl (ns.map .int)),z1,z2,z3,z4,z5]) (fun _ _ _=>Zff) _ (fun d hd σ H5 zz=>?_) _ _ ⟨_,_,_,_,_,rfl⟩ fun σ H5 zz=>?_
 ·obtain⟨z1,z2,z3,z4,z5,rfl⟩:=zz
  simp only[Zal,Xw,Wbw] at hd
  obtain⟨k,hk,rfl⟩:=hd
  rw[Int.zero_add]
  fail "g"
  rw[show (5:Int)*(k:Int)=((5*k:Nat):Int) by omega]
  refine Zwc ?_
  rw[<- List.map_drop]
  fail "g"
  obtain⟨M,hM,eM⟩:∃ M:Nat,(2<=M/\M<=8)/\atI [D.int 8,.int 6] (k:Int)=some (.int M):=by
   have:k=0\/k=1:=by omega
   rcases this with rfl | rfl
   ·exact⟨8,by omega,rfl⟩
   ·exact⟨6,by omega,rfl⟩
  refine w_ixR last eM ?_
  fail "g"
  refine Zoa (most:=M) (fun H5 k Q x5 h0 h1 q=>w_atR (x5.lst (by simp) (appL last)) h0 h1 q) hM fun ks rss0 H6 c0 lk lr x6=>?_
  fail "g"
  refine w_atF _ _ _ (by omega) (by omega) fun cell=>?_
  fail "g"
  refine Zhr (many:=32) (by omega) fun dg pd H7 l7 d7 g7 n7 x7=>?_
  fail "g"
  refine Zc4 g7 d7 (by omega) (by omega) fun r r0 r1=>?_
  fail "g"
  refine Zrw c0 lr fun rss H8 c x8=>?_
  fail "g"
  refine Zpg c fun H9 x9=>?_
  fail "g"
  refine⟨_,rfl,⟨by omega,by omega⟩,?_⟩
  refine Zg5 (fun σ H'=>∃ z4 z5,σ=[some (.fl (ns.map .int)),some (.int k),some (Zbz ks rss),some (Zvg ks rss),z4,z5]) (fun _ _ _=>Zff) _ (fun d hd σ Ha zz=>?_) _ _ ⟨_,_,rfl⟩ fun σ Ha zz=>?_
  ·obtain⟨z4,z5,rfl⟩:=zz
   obtain⟨x,fx⟩:=Zqj (ks:=ks) (rss:=rss)
   fail "g"
   refine Zen c fun Hb xb=>?_
   fail "i"
   refine Zqn (fun p hp=>Xq (Zlh c.h8 _ _ p hp) (by omega)) (fun ls hl=>Xq (Zrj c ls hl) (by omega)) fun Hc xc=>?_
   fail "g"
   refine Zqu fx (by omega) ?_
   fail "g"
   exact⟨_,_,rfl⟩
  ·obtain⟨z4,z5,rfl⟩:=zz
   fail "g"
   exact⟨_,_,_,_,_,rfl⟩
 ·obtain⟨z1,z2,z3,z4,z5,rfl⟩:=zz
  fail "g"
  have c1:Cl [] []:=⟨by simp,by simp,by simp,by simp⟩
  refine Zen (ks:=[]) (rss:=[]) c1 fun H6 x6=>?_
  have m1:Zhv [] (PTd true [] 0 0) [] (lev (sm true [] 0))=[]:=rfl
  have e1:Zvg [] []=.tup [.tup [],.tup []]:=by
   show D.tup [.tup [],.tup ((Zjh (Zhv [] (PTd true [] 0 0) [] (lev (sm true [] 0)))).map Za7)]=_
   rw[m1]
   simp[Zjh]
  rw[e1]
  fail "g"
  refine Zkt (Fine.tup (h:=1) (Fines.cons (Fine.tup (h:=0) Fines.nil) (Fines.cons (Fine.tup (h:=0) Fines.nil) Fines.nil))) (by omega) ?_
  fail "g"
  have c2:Cl [.str "all"] [[1],[]]:=⟨by intro d h; simp at h; subst h; exact .inl rfl,by intro ls h; simp at h; rcases h with rfl | rfl<;>simp[Up,Za5],by simp,by simp⟩
  show wE (Zdg [Zbz [.str "all"] [[1],[]]] _) _
  refine Zen c2 fun H7 x7=>?_
  have m2:Zhv [.str "all"] (PTd true [.str "all"] 1 0) [[1],[]] (lev (sm true [.str "all"] 1))=[[]]:=by rfl
  have e2:Zvg [.str "all"] [[1],[]]=.tup [.tup [],.tup [.tup []]]:=by
   show D.tup [.tup ((PTd true [.str "all"] 1 0).map Zbk),.tup ((Zjh (Zhv [.str "all"] (PTd true [.str "all"] 1 0) [[1],[]] (lev (sm true [.str "all"] 1)))).map Za7)]=_
   rw[m2]
   simp[Zjh,Za7]
   rfl
  rw[e2]
  fail "g"
  refine Zkt (Fine.tup (h:=2) (Fines.cons ((Fine.tup (h:=0) Fines.nil).le (by omega)) (Fines.cons (Fine.tup (h:=1) (Fines.cons (Fine.tup (h:=0) Fines.nil) Fines.nil)) Fines.nil))) (by omega) ?_
  fail "g"
  rfl
end K08
set_option maxHeartbeats 8000000
namespace K08
open PySem PySem.Spec PyProof.Rows L2 DL
nonrec def top (i:Nat):Ubv:=PySem.Challenge.pw_allsome_k40_claims_spread.main.body.getD i (.Pass ⟨0,0,0,0⟩)
nonrec abbrev s_names_ahead:Ubv:=top 2
theorem Zgj:FnScope ["kinds"] ["kinds"] (Zag s_names_ahead):=⟨rfl,rfl,rfl,by decide +kernel,rfl,by decide +kernel,by decide +kernel⟩
nonrec abbrev s_choices:Ubv:=top 3
theorem Zg9:FnScope ["many","told","longer","choice"] ["many"] (Zag s_choices):=⟨rfl,rfl,rfl,by decide +kernel,rfl,by decide +kernel,by decide +kernel⟩
nonrec abbrev s_parts_of:Ubv:=top 4
theorem Zfv:FnScope ["kinds","told","ahead","number","kind"] ["kinds"] (Zag s_parts_of):=⟨rfl,rfl,rfl,by decide +kernel,rfl,by decide +kernel,by decide +kernel⟩
nonrec abbrev s_row_spread:Ubv:=top 5
theorem Zej:FnScope ["kinds","ahead","numbers","row","choice","told","literal","name","many","number"] ["kinds","ahead","numbers","row","choice"] (Zag s_row_spread):=⟨rfl,rfl,rfl,by decide +kernel,rfl,by decide +kernel,by decide +kernel⟩
nonrec abbrev s_spread:Ubv:=top 6
theorem Zi2:FnScope ["claim","kinds","parts","numbers","ahead","rows","choice","row","told"] ["claim"] (Zag s_spread):=⟨rfl,rfl,rfl,by decide +kernel,rfl,by decide +kernel,by decide +kernel⟩
nonrec abbrev s_law_mix:Ubv:=top 8
theorem Zg7:FnScope ["cell","k","prime","one"] ["cell","k"] (Zag s_law_mix):=⟨rfl,rfl,rfl,by decide +kernel,rfl,by decide +kernel,by decide +kernel⟩
nonrec abbrev s_law_digits:Ubv:=top 9
theorem Zd6:FnScope ["cell","many","found","left_over","wide","k"] ["cell","many"] (Zag s_law_digits):=⟨rfl,rfl,rfl,by decide +kernel,rfl,by decide +kernel,by decide +kernel⟩
nonrec abbrev s_law_at:Ubv:=top 10
theorem Znq:FnScope ["script","k"] ["script","k"] (Zag s_law_at):=⟨rfl,rfl,rfl,by decide +kernel,rfl,by decide +kernel,by decide +kernel⟩
nonrec abbrev s_law_kinds:Ubv:=top 11
theorem Ze3:FnScope ["some","many","found","k","kind"] ["some","many"] (Zag s_law_kinds):=⟨rfl,rfl,rfl,by decide +kernel,rfl,by decide +kernel,by decide +kernel⟩
nonrec abbrev s_law_row:Ubv:=top 12
theorem Zgx:FnScope ["cell","many","wide","some","found","k"] ["cell","many","wide"] (Zag s_law_row):=⟨rfl,rfl,rfl,by decide +kernel,rfl,by decide +kernel,by decide +kernel⟩
nonrec abbrev s_law_claim:Ubv:=top 13
theorem Zey:FnScope ["script","most","some","many","kinds","size","rows"] ["script","most"] (Zag s_law_claim):=⟨rfl,rfl,rfl,by decide +kernel,rfl,by decide +kernel,by decide +kernel⟩
nonrec abbrev s_law_choices:Ubv:=top 14
theorem Zdl:FnScope ["many","found","turn","both","one"] ["many"] (Zag s_law_choices):=⟨rfl,rfl,rfl,by decide +kernel,rfl,by decide +kernel,by decide +kernel⟩
nonrec abbrev s_law_ahead:Ubv:=top 15
theorem Zi0:FnScope ["kinds","name","side"] ["kinds","name","side"] (Zag s_law_ahead):=⟨rfl,rfl,rfl,by decide +kernel,rfl,by decide +kernel,by decide +kernel⟩
nonrec abbrev s_law_parts:Ubv:=top 16
theorem Zez:FnScope ["kinds","side","other","found","name","choice"] ["kinds","side"] (Zag s_law_parts):=⟨rfl,rfl,rfl,by decide +kernel,rfl,by decide +kernel,by decide +kernel⟩
nonrec abbrev s_law_spread_row:Ubv:=top 17
theorem Zcg:FnScope ["kinds","parts","names","choice","row","chosen","found","literal","name","part"] ["kinds","parts","names","choice","row"] (Zag s_law_spread_row):=⟨rfl,rfl,rfl,by decide +kernel,rfl,by decide +kernel,by decide +kernel⟩
nonrec abbrev s_law_spread:Ubv:=top 18
theorem Zeh:FnScope ["claim","told","parts","names","found","choice","kinds","rows","row","one"] ["claim"] (Zag s_law_spread):=⟨rfl,rfl,rfl,by decide +kernel,rfl,by decide +kernel,by decide +kernel⟩
nonrec abbrev s_law_formed:Ubv:=top 19
theorem Zec:FnScope ["told","row","name","choice"] ["told"] (Zag s_law_formed):=⟨rfl,rfl,rfl,by decide +kernel,rfl,by decide +kernel,by decide +kernel⟩
nonrec abbrev s_law_many_rows:Ubv:=top 20
theorem Zcx:FnScope ["claim","one","turned_rows","kinds","rows"] ["claim","one"] (Zag s_law_many_rows):=⟨rfl,rfl,rfl,by decide +kernel,rfl,by decide +kernel,by decide +kernel⟩
nonrec abbrev s_law:Ubv:=top 21
theorem Zsx:FnScope ["script","k","claim","due","turn","told"] ["script"] (Zag s_law):=⟨rfl,rfl,rfl,by decide +kernel,rfl,by decide +kernel,by decide +kernel⟩
structure Top (K:Xb) (mg:Str->Option Vb):Prop where
 t_names_ahead:Tf K mg "names_ahead" K08.s_names_ahead
 t_choices:Tf K mg "choices" K08.s_choices
 t_parts_of:Tf K mg "parts_of" K08.s_parts_of
 t_row_spread:Tf K mg "row_spread" K08.s_row_spread
 t_spread:Tf K mg "spread" K08.s_spread
 t_law_mix:Tf K mg "_law_mix" K08.s_law_mix
 t_law_digits:Tf K mg "_law_digits" K08.s_law_digits
 t_law_at:Tf K mg "_law_at" K08.s_law_at
 t_law_kinds:Tf K mg "_law_kinds" K08.s_law_kinds
 t_law_row:Tf K mg "_law_row" K08.s_law_row
 t_law_claim:Tf K mg "_law_claim" K08.s_law_claim
 t_law_choices:Tf K mg "_law_choices" K08.s_law_choices
 t_law_ahead:Tf K mg "_law_ahead" K08.s_law_ahead
 t_law_parts:Tf K mg "_law_parts" K08.s_law_parts
 t_law_spread_row:Tf K mg "_law_spread_row" K08.s_law_spread_row
 t_law_spread:Tf K mg "_law_spread" K08.s_law_spread
 t_law_formed:Tf K mg "_law_formed" K08.s_law_formed
 t_law_many_rows:Tf K mg "_law_many_rows" K08.s_law_many_rows
 t_law:Tf K mg "law" K08.s_law
 n_abs:mg "abs" = none
 n_bool:mg "bool" = none
 n_dict:mg "dict" = none
 n_enumerate:mg "enumerate" = none
 n_int:mg "int" = none
 n_isinstance:mg "isinstance" = none
 n_len:mg "len" = none
 n_max:mg "max" = none
 n_range:mg "range" = none
 n_sorted:mg "sorted" = none
 n_tuple:mg "tuple" = none
 n_zip:mg "zip" = none
 c_TRUTHS:Gc K mg "TRUTHS" k_TRUTHS
section
variable {P:Vl} {w:Vt} {K:Xb} {mg:Str->Option Vb} {base:Uab}
local macro_rules | `(tactic| fail $s:str)=>do
 if s.getString.take 1 != "~" then Lean.Macro.throwUnsupported
 let mut o:Array (Lean.TSyntax `tactic) := #[]
 let ls:=("a=Q _;b=R paf_c ? ? ?;c=E Zjq;d=E nd;e=F _;f=R Zje ? ?;g=R Zje ? Zld;h=E ( Zaa ( pv 0 ) );i=I _;j=R Zo2 ?;k=E Zad;l=R Zth Tda ? ? ? ?;m=R Zak Zco ? Zad;n=R Zk2 ? ? Zld;o=R Zcw ?;p=E ( Zaa ( pv 1 ) );q=E Zhj;r=R Zno ?;s=R Za2 @i3 ? ? ? ?;t=R Zch Zok ? T.n_len Zxx ?;u=R Za2 @i2 ? ? ? ?;v=R Zdf Zj5 ? T.n_tuple Zkw ?;w=E ( Zaa ( pv 2 ) );x=E Zqq;y=E Zo2 Zjq;z=E Zno Zjq;A=R Zrh ?;B=R Zcf ?;C=E Zbl ixf ( Zaa ( pv 0 ) ) Zad @f;D=R Zbl ixf ? ? @f;E=R Zlk ? T.n_range ?;F=E ( Zaa ( pv 6 ) );G=E Zbl ixf ( Zaa ( pv 2 ) ) Zad @f;H=E ( Zaa ( pv 5 ) );I=R Za2 @i4 ? ? ? ?;J=E ( Zaa ( pv 4 ) );K=E ( Zaa ( pv 3 ) );L=R PWf.pt ?;M=R Zch Zot ? T.n_isinstance Zhd ?;N=E Zak Zav ( Zaa ( pv 1 ) ) Zad;P=R Zak Zav ? Zad;Q=R Zyb ? ?;R=R Zuk ?;S=E Zcw Zfy;T=R Za2 @i1 ? ? ? ?;U=R Za0 @i3 ? ? ?;V=R Za0 @i4 ? ? ?;W=R Ztn ?;X=R Zu4 ? ?;Y=R Zim ? ?;Z=R Zim ? Zrv;0=R Za2 @i5 ? ? ? ?;1=R Zbl ixf ( Zaa ( pv 0 ) ) ? @f;2=R Zak Zav ? ?;3=E Zak Zdz Zad ( Zaa ( pv 1 ) );4=R Za0 @i5 ? ? ?;5=R Zkn ? T.n_tuple Zkw;6=E Zcf ( Zaa ( pv 1 ) );7=R Za0 @i6 ? ? ?;8=R Zch Zmt ? T.n_abs Zxv ?;9=R Za2 @i8 ? ? ? ?;aa=R Zk2 ? ? ?;ab=R Za2 @i9 ? ? ? ?;ac=E ( Zaa ( pv 7 ) );ad=R Za0 @i7 ? ? ?;ae=R Zak Zdz ? ?;af=R Zft Ur Us Zcl ( Zaa ( pv 2 ) ) ?;ag=R Zdf Zoq ? T.n_int Zye ?;ah=R Za8 ( ok_law_digits T ) ( hr.mono @d ) ? ?;ai=R Za8 ( ok_law_at T ) ( hr.mono @d ) ? ?;aj=R Zak Zav Zad ?;ak=R Zau Zfw ? Zad ( Zaw _ );al=R Za8 ( ok_law_ahead T ) ( hr.mono @d ) ? ?;am=E ( Zaa ( pv 8 ) );an=R Zdi ?;ao=R Zkn ? T.n_bool Zjv;ap=R Za8 ( ok_spread T ) ( hr.mono @d ) ? ?;aq=R Za8 ( Zdm T ) ( hr.mono @d ) ? ?;ar=R Za8 ( Zg0 T ) ( hr.mono @d ) ? ?;as=R Zbl ixf ( Zaa ( pv 1 ) ) ? @f;at=E Zak Zdr ( Zaa ( pv 7 ) ) Zad;au=R Zcj ( Zaa ( pv 4 ) ) Zdh ?;av=R Zau ( Zda hr.units ) ? ? ( Zaw _ );aw=R Zdf ( Zge @r hr.units ) ? T.n_dict Zjo ?;ax=R Zch ( Zgg @r hr.units ) ? T.n_sorted Zid ?;ay=E Zak Zco ( Zaa ( pv 1 ) ) Zad;az=R Zak Zco ? ( Zaa ( pv 2 ) );aA=E Zak Zj4 ( Zaa ( pv 3 ) ) Zad;aB=E Zak Zav Zad ( Zaa ( pv 3 ) );aC=R Zau ( Zda hr.units ) ? Zad ( Zaw _ );aD=R Zak Zav ( Zaa ( pv 3 ) ) ?;aE=R Zak Zco ? ?;aF=R Zbl ixf ( Zaa ( pv 3 ) ) ? @f;aG=E Zak Zav Zad ( Zaa ( pv 5 ) );aH=R Za0 @i2 ? ? ?;aI=R Zak Zav ( Zaa ( pv 4 ) ) ?;aJ=R Zgv ? T.n_range ?;aK=R Za8 ( Zdn T ) ( hr.mono @d ) ? ?;aL=E Zc3 Zfw ( Zaa ( pv 7 ) ) Zad ( Zaw _ );aM=R Zhw ( Zaa ( pv 0 ) ) ?;aN=R Zau ( Zr7 hr.units ) Zfy ? ?;aO=R Za0 @i1 ? ? ?;aP=E Zak Zd5 ( Zaa ( pv 1 ) ) Zad;aQ=R Zc3 ( Zda hr.units ) ? ? ( Zaw _ );aR=R Zbl ixf ? ( Zaa ( pv 1 ) ) @f;aS=R Zbl ixf ? Zad @f" : String).splitOn ";"
 for w in (s.getString.drop 1).toString.splitOn " " do
  if w == "O" then o:=o.push (<- `(tactic| refine Zih ?_ (fun _=>rfl))); continue
  if w == "U1" then o:=o.push (<- `(tactic| (intro _ _ _ _ _ _ us hl; obtain⟨_,e⟩:=us1 hl; subst e; rfl))); continue
  if w == "U2" then o:=o.push (<- `(tactic| (intro _ _ _ _ _ _ us hl; obtain⟨_,_,e⟩:=us2 hl; subst e; rfl))); continue
  if w == "U3" then o:=o.push (<- `(tactic| (intro _ _ _ _ _ _ us hl; obtain⟨_,_,_,e⟩:=us3 hl; subst e; rfl))); continue
  if w == "U5" then o:=o.push (<- `(tactic| (intro _ _ _ _ _ _ us hl; obtain⟨_,_,_,_,_,e⟩:=us5 hl; subst e; rfl))); continue
  let some l:=ls.find? (·.startsWith (w ++ "=")) | Lean.Macro.throwUnsupported
  let ts:=(l.drop (w.length+1)).toString.splitOn " "
  let mut st:Array (Array Lean.Term) := #[#[]]
  for t in ts.drop 1 do
   if t == "(" then st:=st.push #[] else
    let mut x:Lean.Term:=⟨Lean.mkIdent t.toName⟩
    if t == ")" then
     let a:=st.back!
     st:=st.pop
     x <- `(($(Lean.Syntax.mkApp a[0]! (a.extract 1 a.size))))
    else if t == "?" then x <- `(?_)
    else if t == "_" then x <- `(_)
    else if t == "@d" then x <- `(by decide)
    else if t == "@o" then x <- `(by omega)
    else if t == "@r" then x <- `(by rfl)
    else if t == "@f" then x <- `(fun _ _=>rfl)
    else if t.startsWith "@i" then
     let n <- `(a ($(Lean.mkIdent `i) := $(Lean.Syntax.mkNumLit (t.drop 2).toString)))
     x:=⟨n.raw[1][0]⟩
    else if t.all Char.isDigit then x:=Lean.Syntax.mkNumLit t
    st:=st.push (st.back!.push x)
    st:=(st.extract 0 (st.size - 2)).push st.back!
  let a:=st[0]!
  let e:=Lean.Syntax.mkApp a[0]! (a.extract 1 a.size)
  o:=o.push (<- match ts.head! with
   | "R" => `(tactic| refine $e)
   | "E" => `(tactic| exact $e)
   | "I" => `(tactic| intro _ _ _ _ _ _)
   | "F" => `(tactic| first | exact Or.inl rfl | exact Or.inr rfl)
   | _ => `(tactic| rfl))
 `(tactic| ($[$o]*))
theorem Zdm (T:Top K mg):Fn P w K mg base 1 "names_ahead" ["kinds"] Zbv:=by
 refine(fun h=>h:_->Fn P w K mg base 1 "names_ahead" ["kinds"] (Zce 1 1 Zbi)) (Zcn (N:=["kinds"]) (k:=0) T.t_names_ahead Zgj (by fail "~U1") ?_)
 intro f cdv A outer s H E hr
 unfold Zbi
 fail "~g o"
 refine Ze2 (cn:=["kinds"]) ?_ (Zed (x := "number") (cn:=["kinds"]) (ci:=[0]) (by decide +kernel)) ?_ ?_ ?_
 fail "~a E a b t a b h c a c a i x i"
 refine Zr6 Tam Tbo (Zio hr.units) ?_ ?_
 refine Zcj (Zaa (pv 1)) Zdh ?_
 exact Zdi (Zaa (pv 0))
 fail "~b q c a"
theorem Zg0 (T:Top K mg):Fn P w K mg base 1 "choices" ["many"] Zd9:=by
 refine(fun h=>h:_->Fn P w K mg base 1 "choices" ["many"] (Zce 1 4 Zc9)) (Zcn (N:=["many","told","longer","choice"]) (k:=0) T.t_choices Zg9 (by fail "~U1") ?_)
 intro f cdv A outer s H E hr
 unfold Zc9
 have nd:=Zg9.nd
 fail "~f T d a e r b y c a f"
 refine Zo7 Tda ?_ ?_
 refine Zau Zop ?_ (Zaa (pv 0)) (Zaw _)
 fail "~t a b"
 exact Zbl ixf (Zaa (pv 1)) Zad (fun _ _=>rfl)
 fail "~c a f u d a e z f l a 6 U d a e g A"
 refine Zft Tbp Tbq Zg8 (Zaa (pv 2)) ?_
 fail "~b"
 refine Ze2 (cn:=["choice"]) ?_ (Zed (x := "truth") (cn:=["choice"]) (ci:=[3]) (by decide +kernel)) ?_ ?_ ?_
 fail "~a B"
 refine Zya ?_ T.c_TRUTHS
 fail "~a i x i"
 refine Zak Zav (Zaa (pv 1)) ?_
 fail "~j b h c a c a g"
 refine Za2 (i:=1) ?_ ?_ ?_ (Zaa (pv 2))
 fail "~d a e g"
 exact Zcw (Zaa (pv 1))
theorem Zjp (T:Top K mg):Fn P w K mg base 2 "parts_of" ["kinds"] Zep:=by
 refine(fun h=>h:_->Fn P w K mg base 2 "parts_of" ["kinds"] (Zce 1 5 Zck)) (Zcn (N:=["kinds","told","ahead","number","kind"]) (k:=1) T.t_parts_of Zfv (by fail "~U1") ?_)
 intro f cdv A outer s H E hr
 unfold Zck
 have nd:=Zfv.nd
 fail "~f T d a e z f u d a e aq a b h c a f l a"
 refine Zqd ?_ T.n_enumerate ?_
 fail "~a b h c a X a Y U d a e Z V d a e g n"
 exact Zau (Zda hr.units) (Zaa (pv 4)) Zhj (Zaw _)
 fail "~g A"
 refine Zft Tbp Tbq Zg8 (Zaa (pv 1)) ?_
 fail "~b"
 refine Ze2 (cn:=["number"]) ?_ (Zed (x := "choice") (cn:=["number"]) (ci:=[3]) (by decide +kernel)) ?_ ?_ ?_
 fail "~a B ar a b"
 exact Zbl ixf (Zaa (pv 2)) (Zaa (pv 3)) (fun _ _=>rfl)
 fail "~c a i x i j b N b h c a a c a g o v a b p c a"
theorem Zhm (T:Top K mg):Fn P w K mg base 1 "row_spread" ["kinds","ahead","numbers","row","choice"] Zb9:=by
 refine(fun h=>h:_->Fn P w K mg base 1 "row_spread" ["kinds","ahead","numbers","row","choice"] (Zce 5 10 Zbt)) (Zcn (N:=["kinds","ahead","numbers","row","choice","told","literal","name","many","number"]) (k:=0) T.t_row_spread Zej (by fail "~U5") ?_)
 intro f cdv A outer s H E hr
 unfold Zbt
 have nd:=Zej.nd
 fail "~f 0 d a e z f l a"
 exact Zcf (Zaa (pv 3))
 fail "~7 d a e f"
 refine Za2 (i:=7) ?_ ?_ ?_ ?_
 fail "~d a e 8 a b F c a f 9 d a e as at g aa"
 refine Zau (Zda hr.units) ?_ Zhj (Zaw _)
 fail "~1 at f ab d a e"
 refine Zbl (Zx4 hr.units) (Zaa (pv 2)) ?_ (fun _ _=>rfl)
 fail "~j b ac b au"
 exact Zdi (Zaa (pv 8))
 fail "~c a a g A"
 refine Zft Ur Us Zcl (Zaa (pv 5)) ?_
 fail "~b"
 refine Zx3 ?_ (Zaa (pv 9)) ?_
 exact Zau Zfw (Zaa (pv 6)) Zad (Zaw _)
 exact Zna Zj8 (Zaa (pv 9))
 fail "~c a g n av"
 exact Zbl ixf (Zaa (pv 4)) (Zaa (pv 8)) (fun _ _=>rfl)
 exact Zc3 Zfw (Zaa (pv 6)) Zad (Zaw _)
 fail "~g"
 exact Zcw Zhf
 fail "~g o v a b H c a"
theorem ok_spread (T:Top K mg):Fn P w K mg base 3 "spread" ["claim"] Zdg:=by
 refine(fun h=>h:_->Fn P w K mg base 3 "spread" ["claim"] (Zce 1 9 Zeg)) (Zcn (N:=["claim","kinds","parts","numbers","ahead","rows","choice","row","told"]) (k:=2) T.t_spread Zi2 (by fail "~U1") ?_)
 intro f cdv A outer s H E hr
 unfold Zeg
 have nd:=Zi2.nd
 fail "~f T d a e C f u d a e"
 refine Za8 (Zjp T) (hr.mono (by decide)) ?_ ?_
 fail "~a b p c a f s d a e aw a b"
 refine Zo0 (cn:=[]) ?_ (Znc (x := "number") (y0 := "part") (cn:=[]) (ci:=[]) (by decide +kernel)) ?_ ?_ ?_
 fail "~a"
 refine Zos ?_ T.n_enumerate ?_
 fail "~a b w c a i x i j b p b h c a a c a f I d a e aq a b p c a f"
 refine Za2 (i:=5) ?_ ?_ ?_ Zk8
 fail "~d a e f l a B ar a b"
 refine Zr6 Tam Tbo (Zio hr.units) (Zaa (pv 1)) ?_
 fail "~b q c a c a 7 d a e g l a B C ad d a e f 9 d a e"
 refine Za8 (Zhm T) (hr.mono (by decide)) ?_ ?_
 fail "~a b p b J b K b ac b F c a a a a a g n"
 exact Zau Zoo (Zaa (pv 8)) Zhf (Zaw _)
 fail "~g"
 refine Zhw Zfy ?_
 exact Zpi (Zaa (pv 5)) (Zaa (pv 8)) (Zyh hr.units)
 fail "~g o j b w b v a b ax a b H c a c a c a a"
theorem Zlx (T:Top K mg):Fn P w K mg base 1 "_law_mix" ["cell","k"] Zgb:=by
 refine(fun h=>h:_->Fn P w K mg base 1 "_law_mix" ["cell","k"] (Zce 2 4 Zc1)) (Zcn (N:=["cell","k","prime","one"]) (k:=0) T.t_law_mix Zg7 (by fail "~U2") ?_)
 intro f cdv A outer s H E hr
 unfold Zc1
 have nd:=Zg7.nd
 fail "~f u d a e D r b k b k b k b k b k b k b k c a a a a a a a ay f s d a e az ae 2"
 exact Zak Zco (Zaa (pv 0)) Zad
 refine Zak Zdz Zad ?_
 fail "~N P 2"
 exact Zak Zdz (Zaa (pv 1)) (Zaa (pv 1))
 fail "~3 f s d a e m aA f s d a e az P 2"
 exact Zak Zdz (Zaa (pv 3)) Zad
 fail "~3 g o"
 refine Zak Zd5 ?_ Zad
 fail "~m aA"
theorem ok_law_digits (T:Top K mg):Fn P w K mg base 2 "_law_digits" ["cell","many"] Zbp:=by
 refine(fun h=>h:_->Fn P w K mg base 2 "_law_digits" ["cell","many"] (Zce 2 6 Zbo)) (Zcn (N:=["cell","many","found","left_over","wide","k"]) (k:=1) T.t_law_digits Zd6 (by fail "~U2") ?_)
 intro f cdv A outer s H E hr
 unfold Zbo
 have nd:=Zd6.nd
 fail "~f u d a e z f s d a e 8 a b h c a f I d a e"
 refine Zc3 Zxm (Zaa (pv 3)) ?_ (Zaw _)
 exact Zak Zj4 Zad Zad
 fail "~f l a E a b p c a 4 d a e g aa L"
 refine Zuy ?_ ?_
 exact Zih (Zaa (pv 4)) (fun _=>rfl)
 refine Zqy ?_
 exact Zau Zfw (Zaa (pv 3)) Zad (Zaw _)
 fail "~f A af b"
 exact Zak Zco (Zaa (pv 3)) Zad
 fail "~c a g s d a e"
 exact Zak Zd5 (Zaa (pv 3)) Zad
 fail "~g A af b"
 refine Za8 (Zlx T) (hr.mono (by decide)) ?_ ?_
 fail "~a b h b H c a a c a g"
 exact Zcw (Zaa (pv 2))
theorem ok_law_at (T:Top K mg):Fn P w K mg base 1 "_law_at" ["script","k"] Zcm:=by
 refine(fun h=>h:_->Fn P w K mg base 1 "_law_at" ["script","k"] (Zce 2 2 Zcs)) (Zcn (N:=["script","k"]) (k:=0) T.t_law_at Znq (by fail "~U2") ?_)
 intro f cdv A outer s H E hr
 unfold Zcs
 fail "~f n"
 refine Zau Zop (Zaa (pv 1)) ?_ (Zaw _)
 fail "~t a b h c a g o"
 exact Zbl ixf (Zaa (pv 0)) (Zaa (pv 1)) (fun _ _=>rfl)
 fail "~g o 2 P 3 t a b h c a"
theorem Ziz (T:Top K mg):Fn P w K mg base 1 "_law_kinds" ["some","many"] Zdw:=by
 refine(fun h=>h:_->Fn P w K mg base 1 "_law_kinds" ["some","many"] (Zce 2 5 Zb3)) (Zcn (N:=["some","many","found","k","kind"]) (k:=0) T.t_law_kinds Ze3 (by fail "~U2") ?_)
 intro f cdv A outer s H E hr
 unfold Zb3
 have nd:=Ze3.nd
 fail "~f u d a e z f l a E a b p c a U d a e f I d a e D r b q b q c a a m 1 aB f n aC m C g I d a e D r b q b q c a a m aD C f n aC m C g I d a e D r b q b q c a a ag a b"
 refine Zc3 Zfw ?_ Zad (Zaw _)
 fail "~m 1 aB c a g A af b J c a g o v a b w c a"
theorem Zlj (T:Top K mg):Fn P w K mg base 3 "_law_row" ["cell","many","wide"] Zfp:=by
 refine(fun h=>h:_->Fn P w K mg base 3 "_law_row" ["cell","many","wide"] (Zce 3 6 Zc2)) (Zcn (N:=["cell","many","wide","some","found","k"]) (k:=2) T.t_law_row Zgx (by fail "~U3") ?_)
 intro f cdv A outer s H E hr
 unfold Zc2
 have nd:=Zgx.nd
 fail "~f s d a e ah a b h b N c a a f I d a e z f l a E a b p c a 4 d a e g n"
 refine Zau Zop ?_ ?_ (Zaw _)
 fail "~aE aF aG N"
 refine Zak Zav (Zaa (pv 2)) ?_
 fail "~m"
 exact Zbl ixf (Zaa (pv 3)) Zad (fun _ _=>rfl)
 fail "~g A"
 refine Zft Ur Us Zcl (Zaa (pv 4)) ?_
 fail "~b D r b"
 exact Zak Zav (Zaa (pv 5)) Zad
 fail "~b"
 refine Zak Zdr ?_ Zad
 exact Zak Zdr Zad (Zaa (pv 5))
 fail "~c a a m"
 refine Zak Zd5 ?_ ?_
 fail "~aF aG N c a g o v a b J c a"
theorem Zis (T:Top K mg):Fn P w K mg base 4 "_law_claim" ["script","most"] Zdu:=by
 refine(fun h=>h:_->Fn P w K mg base 4 "_law_claim" ["script","most"] (Zce 2 7 Zb2)) (Zcn (N:=["script","most","some","many","kinds","size","rows"]) (k:=3) T.t_law_claim Zey (by fail "~U2") ?_)
 intro f cdv A outer s H E hr
 unfold Zb2
 have nd:=Zey.nd
 fail "~f u d a e ah a b ai a b h b k c a a b k c a a f s d a e D r b aE G N b"
 refine Zak Zdr (Zaa (pv 1)) ?_
 fail "~m G b p c a a a m G f I d a e"
 refine Za8 (Ziz T) (hr.mono (by decide)) ?_ ?_
 fail "~a b"
 refine Zcj (Zaa (pv 2)) ?_ Zdh
 exact Zdi Zad
 fail "~b"
 refine Zch (Zo9 (by rfl)) ?_ T.n_max Zwa ?_
 fail "~a b k b K c a a c a a f 0 d a e D r b m G b m G b aj m G c a a a m G f"
 refine Zin (i:=6) (cn:=["script","kinds"]) ?_ (Zed (x := "k") (cn:=["script","kinds"]) (ci:=[0,4]) (by decide +kernel)) ?_ ?_ ?_ ?_ ?_ ?_
 fail "~a E a b H c a i x i"
 refine Za8 (Zlj T) (hr.mono (by decide)) ?_ ?_
 fail "~a b ai a b p b"
 exact Zak Zav Zad (Zaa (pv 0))
 fail "~c a a b t a b w c a b k c a a a d a a f n ak m G g"
 refine Zin (i:=6) (cn:=[]) ?_ (Zed (x := "row") (cn:=[]) (ci:=[]) (by decide +kernel)) ?_ ?_ ?_ ?_ ?_ ?_
 fail "~a"
 exact Zcf (Zaa (pv 6))
 fail "~i"
 refine Zk5 ?_
 refine Zau (Zo6 hr.units) (Zaa (pv 0)) ?_ (Zaw _)
 fail "~y i h d a a g o j b J b v a b F c a c a a"
theorem Zdn (T:Top K mg):Fn P w K mg base 1 "_law_choices" ["many"] Zbg:=by
 refine(fun h=>h:_->Fn P w K mg base 1 "_law_choices" ["many"] (Zce 1 5 Zbf)) (Zcn (N:=["many","found","turn","both","one"]) (k:=0) T.t_law_choices Zdl (by fail "~U1") ?_)
 intro f cdv A outer s H E hr
 unfold Zbf
 have nd:=Zdl.nd
 fail "~f T d a e r b y c a f l a E a b h c a aH d a e f s d a e z f l a 6 V d a e g s d a e aD r b aI j b"
 exact Zfy
 fail "~c a b aI j b"
 exact Zfy
 fail "~c a c a a g"
 refine Za2 (i:=1) ?_ ?_ ?_ (Zaa (pv 3))
 fail "~d a e g"
 exact Zcw (Zaa (pv 1))
theorem ok_law_ahead (T:Top K mg):Fn P w K mg base 1 "_law_ahead" ["kinds","name","side"] Za3:=by
 refine(fun h=>h:_->Fn P w K mg base 1 "_law_ahead" ["kinds","name","side"] (Zce 3 3 Zbd)) (Zcn (N:=["kinds","name","side"]) (k:=0) T.t_law_ahead Zi0 (by fail "~U3") ?_)
 intro f cdv A outer s H E hr
 unfold Zbd
 fail "~g o"
 refine Ze2 (cn:=["kinds","side"]) ?_ (Zed (x := "one") (cn:=["kinds","side"]) (ci:=[0,2]) (by decide +kernel)) ?_ ?_ ?_
 fail "~a aJ a b k b p c a a i"
 refine Zk5 ?_
 refine Zau (Zda hr.units) ?_ (Zaa (pv 2)) (Zaw _)
 fail "~as"
 exact Zak Zdr (Zaa (pv 0)) Zad
 fail "~i h"
theorem Zjd (T:Top K mg):Fn P w K mg base 2 "_law_parts" ["kinds","side"] Zdt:=by
 refine(fun h=>h:_->Fn P w K mg base 2 "_law_parts" ["kinds","side"] (Zce 2 6 Zby)) (Zcn (N:=["kinds","side","other","found","name","choice"]) (k:=1) T.t_law_parts Zez (by fail "~U2") ?_)
 intro f cdv A outer s H E hr
 unfold Zby
 have nd:=Zez.nd
 fail "~f u d a e D r b q b q c a a ag a b"
 exact Zc3 (Zda hr.units) (Zaa (pv 1)) Zhj (Zaw _)
 fail "~c a f s d a e z f l a aJ a b k b P t a b h c a c a a V d a e g n"
 refine Zau (Zda hr.units) ?_ (Zaa (pv 1)) (Zaw _)
 fail "~1"
 exact Zak Zdr (Zaa (pv 4)) Zad
 fail "~g l a B aK a b t a b al a b h b J b w c a a a c a c a 4 d a e g A"
 refine Zft Ur Us Zcl (Zaa (pv 3)) ?_
 fail "~b j b J b H c a a c a g"
 exact Zcw (Zaa (pv 3))
theorem Zer (T:Top K mg):Fn P w K mg base 2 "_law_spread_row" ["kinds","parts","names","choice","row"] Zba:=by
 refine(fun h=>h:_->Fn P w K mg base 2 "_law_spread_row" ["kinds","parts","names","choice","row"] (Zce 5 10 Zaz)) (Zcn (N:=["kinds","parts","names","choice","row","chosen","found","literal","name","part"]) (k:=1) T.t_law_spread_row Zcg (by fail "~U5") ?_)
 intro f cdv A outer s H E hr
 unfold Zaz
 have nd:=Zcg.nd
 fail "~f 0 d a e"
 refine Ztl ?_ hr.units ?_ T.n_dict ?_ T.n_zip ?_
 fail "~a a a b w b K c a a f"
 refine Za2 (i:=6) ?_ ?_ ?_ ?_
 fail "~d a e z f l a"
 exact Zcf (Zaa (pv 4))
 fail "~ad d a e f 9 d a e 8 a b ac c a g aa"
 refine Zau iinf (Zaa (pv 8)) (Zaa (pv 5)) ?_
 with_unfolding_all rfl
 fail "~g n av"
 exact Zbl igetf (Zaa (pv 5)) (Zaa (pv 8)) (fun _ _=>rfl)
 fail "~aL g"
 exact Zcw Zhf
 fail "~f ab d a e j b am b"
 refine Zcj (Zaa (pv 3)) Zdh ?_
 fail "~an t a b al a b h b am b q c a a a c a c a a g A"
 refine Zft Ur Us Zcl (Zaa (pv 6)) ?_
 fail "~b ae D r b"
 exact Zna Zj8 Zad
 fail "~b k c a a ag a b aL c a P"
 exact Zbl (Zx4 hr.units) (Zaa (pv 1)) (Zaa (pv 9)) (fun _ _=>rfl)
 fail "~c a g o v a b F c a"
theorem Zhs (T:Top K mg):Fn P w K mg base 3 "_law_spread" ["claim"] Zdc:=by
 refine(fun h=>h:_->Fn P w K mg base 3 "_law_spread" ["claim"] (Zce 1 10 Zbs)) (Zcn (N:=["claim","told","parts","names","found","choice","kinds","rows","row","one"]) (k:=2) T.t_law_spread Zeh (by fail "~U1") ?_)
 intro f cdv A outer s H E hr
 unfold Zbs
 have nd:=Zeh.nd
 fail "~f aM X a Y 7 d a e Z ad d a e f T d a e"
 refine Za8 (Zjd T) (hr.mono (by decide)) ?_ ?_
 fail "~a b F b q c a a f u d a e aw a b"
 refine Zo0 (cn:=[]) ?_ (Znc (x := "k") (y0 := "part") (cn:=[]) (ci:=[]) (by decide +kernel)) ?_ ?_ ?_
 fail "~a"
 refine Zpb ?_ T.n_enumerate ?_
 fail "~a b p c a i x i j b p b h c a a c a f s d a e al a b F b P t a b F c a b q c a a a f"
 refine Za2 (i:=4) ?_ ?_ ?_ Zk8
 fail "~d a e f l a B aK a b t a b K c a c a 4 d a e g l a"
 exact Zcf (Zaa (pv 7))
 refine Za0 (i:=8) ?_ ?_ ?_
 fail "~d a e f ab d a e"
 refine Za8 (Zer T) (hr.mono (by decide)) ?_ ?_
 fail "~a b F b w b K b H b am c a a a a a g n"
 exact Zau Zoo (Zaa (pv 9)) Zhf (Zaw _)
 fail "~g"
 refine Zhw Zfy ?_
 exact Zpi (Zaa (pv 4)) (Zaa (pv 9)) (Zyh hr.units)
 fail "~g o j b v a b p c a b v a b ax a b J c a c a c a a"
theorem Zhn (T:Top K mg):Fn P w K mg base 1 "_law_formed" ["told"] Zdb:=by
 refine(fun h=>h:_->Fn P w K mg base 1 "_law_formed" ["told"] (Zce 1 4 Zbm)) (Zcn (N:=["told","row","name","choice"]) (k:=0) T.t_law_formed Zec (by fail "~U1") ?_)
 intro f cdv A outer s H E hr
 unfold Zbm
 have nd:=Zec.nd
 fail "~f n L Q W O M a b h b 5 a c a a R"
 refine Zau (Zo6 hr.units) ?_ Zad (Zaw _)
 fail "~t a b h c a g S f n L Q W O M a b C b 5 a c a a R W O M a b C b 5 a c a a g S f l a B C X a Y aH d a e Z U d a e g n L Q O M a b w b ao a c a a R aN"
 refine Ze2 (cn:=[]) ?_ (Zed (x := "one") (cn:=[]) (ci:=[]) (by decide +kernel)) ?_ ?_ ?_
 fail "~a"
 exact Zcf (Zaa (pv 3))
 fail "~i x i M a b h b ao a c a a"
 with_unfolding_all rfl
 fail "~g S f l a B C aO d a e g n L Q W O M a b p b 5 a c a a R aN"
 refine Ze2 (cn:=[]) ?_ (Zed (x := "one") (cn:=[]) (ci:=[]) (by decide +kernel)) ?_ ?_ ?_
 fail "~a 6 i x i M a b h b ao a c a a"
 with_unfolding_all rfl
 fail "~g S g S"
theorem Ze8 (T:Top K mg):Fn P w K mg base 1 "_law_many_rows" ["claim","one"] Zb0:=by
 refine(fun h=>h:_->Fn P w K mg base 1 "_law_many_rows" ["claim","one"] (Zce 2 5 Za4)) (Zcn (N:=["claim","one","turned_rows","kinds","rows"]) (k:=0) T.t_law_many_rows Zcx (by fail "~U2") ?_)
 intro f cdv A outer s H E hr
 unfold Za4
 have nd:=Zcx.nd
 fail "~f aM X a Y U d a e Z V d a e f n L Q ak ay R ak t a b K c a g"
 exact Zcw (Zaa (pv 0))
 fail "~f u d a e v a b"
 refine Ze2 (cn:=[]) ?_ (Zed (x := "row") (cn:=[]) (ci:=[]) (by decide +kernel)) ?_ ?_ ?_
 fail "~a B au an aj m aP i x i v a b"
 refine Ze2 (cn:=[]) ?_ (Zws (by decide +kernel)) ?_ ?_ ?_
 fail "~a"
 exact Zcf (Zaa (pv 0))
 fail "~i x i"
 exact Zna Zj8 (Zaa (pv 0))
 fail "~c a c a g o j b K b ae"
 exact Zak Zav (Zaa (pv 4)) (Zaa (pv 2))
 fail "~aj m aP c a a"
theorem Zwv (T:Top K mg):Fn P w K mg base 5 "law" ["script"] Zl1:=by
 refine(fun h=>h:_->Fn P w K mg base 5 "law" ["script"] (Zce 1 6 Zon)) (Zcn (N:=["script","k","claim","due","turn","told"]) (k:=4) T.t_law Zsx (by fail "~U1") ?_)
 intro f cdv A outer s H E hr
 unfold Zon
 have nd:=Zsx.nd
 fail "~f l a E a b k c a aO d a e f u d a e"
 refine Za8 (Zis T) (hr.mono (by decide)) ?_ ?_
 fail "~a b"
 refine Zcj (Zaa (pv 0)) ?_ Zdh
 fail "~an 3 b aR r b k b k c a a c a a f u d a e"
 refine Za8 (Ze8 T) (hr.mono (by decide)) ?_ ?_
 fail "~a b w b aS ah a b ai a b h b"
 exact Zak Zav Zad (Zaa (pv 1))
 fail "~c a a b k c a a c a a f s d a e"
 refine Za8 (Zhs T) (hr.mono (by decide)) ?_ ?_
 fail "~a b w c a g l a E a b k c a V d a e f 0 d a e ap a b w c a g n L Q W O"
 refine Za8 (Zhn T) (hr.mono (by decide)) ?_ ?_
 fail "~a b H c a R"
 exact Zau (Zo6 hr.units) (Zaa (pv 5)) (Zaa (pv 3)) (Zaw _)
 fail "~g S g o"
 refine Zto ?_ ?_
 fail "~aQ ap a b j b y b y c a a c a j b y b y c a a"
 refine Zuv ?_
 fail "~aQ ap a b j b j b q c a b j b j b k c a b y c a a c a a c a j b y b j b y c a c a a"
theorem Zwx (T:Top K mg):Fn P w K mg base 5 "law" ["script"] Zl1:=by
 exact Zwv T
end
theorem walk {l:Tbz} {q:Vl} {loose:List Str} {XP:(Str->Option Vb)->Uab->Prop} {YP:Vt->Uab->Prop} {d:DefRec} {K:Params->Xb} (hn:l.most=some 63) (hdf:d.params.defaults=[])
  (hd:d.name = "law") (hY:∀ (w:Vt) (h:Uab),YP w h->(K w.params).In h) (hT:∀ (w:Vt) (mg:Str->Option Vb) (h:Uab),(K w.params).In h->h.Ns Vw mg->Top (K w.params) mg)
  (pure:∀ ns:List Int,ns.length<=63->∃ Hd',Zl1 [.fl (ns.map .int)] []=some (.bl true,Hd')):Wfl q loose XP YP l.row.toRowW d [] (fun f vs=>Tct f vs):=by
 refine L2.walk_ofK (n:=63) (k:=5) (x := "script") (CX:=CX0) (sp:=Zvl Zl1) hn (by decide) hdf ⟨rfl,by decide,by decide,rfl⟩ hY (fun w mg fa h KX G hmg=>?_) (Zm5 pure) (fun _ _ _ _ z=>z)
 have T:=hT w mg h KX G
 obtain⟨f,fd,F,hm⟩:=T.t_law
 have e0:f=fa:=by rw[hd] at hmg; rw[hm] at hmg; cases hmg; rfl
 subst e0
 have B:=F.binds (ps:=["script"]) (fun _ _ _ _ _ _ us hl=>by obtain⟨_,rfl⟩:=us1 hl; rfl)
 refine⟨fd,fun s u=>?_,fun base kb nb=>?_⟩
 ·obtain⟨oc,od,kV,doc,pm,an,cdv,ct,osl,rfl,lk,hcd⟩:=F.ex
  exact .of_eq rfl
 ·obtain⟨f',fd',G1,hb,hk,hm',oc',od',osl',lk'⟩:=(Zwx (P:=l.prog) (w:=w) (base:=base) T).ex
  have e1:f'=f:=by rw[hm] at hm'; cases hm'; rfl
  subst e1
  have e2:fd'=fd:=by
   obtain⟨oc,od,kV,doc,pm,an,cdv,ct,osl,e3,lk,hcd⟩:=F.ex
   rw[lk] at lk'
   have e4:=Waa.inj lk'
   injection e4 with _ _ e5 _
   injection e5 with e6
   exact e6.symm
  subst e2
  exact G1
end K08
open PySem PySem.W PyProof.Rows L2 DL
local macro_rules | `(tactic| fail $s:str)=>do
 if s.getString.take 1 != "=" then Lean.Macro.throwUnsupported
 let i:=Lean.mkIdent
 match (s.getString.drop 1).toString with
  | "T" => `(tactic| (show Tf (L2.KOf $(i `KX)) _ _ _; dsimp only[L2.KOf]; refine' tf_mk $(i `KX) $(i `G) ?a ?l ?c ?k; (case a=>k_is); (case l=>k_is); (case c=>k_is); (case k=>k_is)))
  | "N" => `(tactic| (refine' PySem.W.mg_none_of $(i `KX) $(i `G) ?z; (case z=>k_is)))
  | _=>Lean.Macro.throwUnsupported
set_option maxRecDepth 100000 in
set_option maxHeartbeats 0 in
theorem PySem.Challenge.cw_allsome_k40_claims_spread_holds : PySem.Challenge.rw_allsome_k40_claims_spread.Holds := by
 w_on; o_law; refine holds_open (q:=(PySem.Challenge.vwOf PySem.Challenge.pw_allsome_k40_claims_spread)) (loose:=[]) (Xt:=PySem.Challenge.xt0) (XP:=XL (PySem.Challenge.vwOf PySem.Challenge.pw_allsome_k40_claims_spread) []) (Yf:=Hook.obs PySem.Challenge.hk0) (Ya:=Hook.val PySem.Challenge.hk0) (YP:=InK PySem.Challenge.mk0.heap_39) (N:=1330) PySem.Challenge.left0 (Hook.of PySem.Challenge.hk0) (Hook.keeps PySem.Challenge.hk0) (fun s e=>xl_of s (Wfg.mp e).1) XL.keeps (by rfl) (by rfl) (by rfl) (fun s e=>recFacts_of (Wfg.mp e).2) (by rfl) (by assumption) (by decide +kernel) ⟨rfl,rfl,rfl,rfl,rfl,by decide +kernel⟩ ?hw ?hc
 (case hw=>w_witness2)
 k_fill
 refine K08.walk (l:=PySem.Challenge.rw_allsome_k40_claims_spread) rfl rfl rfl (fun w h Y=>Y) ?T K08.pure_law
 case T =>
  intro w mg h KX G
  have c_TRUTHS:Gc (L2.KOf KX) mg "TRUTHS" K08.k_TRUTHS:=by
   dsimp only[L2.KOf]
   refine' Zob KX G ?a ?l
   (case a=>k_is); (case l=>k_is)
  exact⟨by fail "=T",by fail "=T",by fail "=T",by fail "=T",by fail "=T",by fail "=T",by fail "=T",by fail "=T",by fail "=T",by fail "=T",by fail "=T",by fail "=T",by fail "=T",by fail "=T",by fail "=T",by fail "=T",by fail "=T",by fail "=T",by fail "=T",by fail "=N",by fail "=N",by fail "=N",by fail "=N",by fail "=N",by fail "=N",by fail "=N",by fail "=N",by fail "=N",by fail "=N",by fail "=N",by fail "=N",c_TRUTHS⟩
