import PyProof.Rows.All
import Wide.All
import Wide.FinOn
import Lean
import PyProof.EqAt
import PyProof.EqKinds
import PyProof.TupleCall
import KE.KDictList
import KE.KDictOf
import KE.KIntText
import KE.KItemsList
import KE.KNest
import KE.KSortKey
import KE.KSortTup
import KE.KTryMore
import PyProof.AttrMissHeap
import PyProof.AutoSeq1
import PyProof.ExcAttrAll.ValueError
import PyProof.FitsBits
import PyProof.MeetsStr2
import PyProof.MinMaxWalk
import PyProof.P3Eq
import PyProof.P3In
import PyProof.ReprLen
import PyProof.Rows.DictRows
import PyProof.Rows.Own
import PyProof.Rows.RuleB_bool
import PyProof.Rows.SetFrom
import PyProof.Rows.TupIter
import PyProof.SeqI3
import PyProof.StrBlockG
import PyProof.StrOps2
import PyProof.StrWalks
import PyProof.SumWalkG
import PyProof.TupleOfSeq
import PyProof.WalkInts
import PyProof.WalksMore
import KE.KNest
import KE.KDictList
import KE.KSortTup
import KE.KTryMore
import PySem.Challenge.RW_allsome_k36_names_put_away
set_option Elab.async false
set_option compiler.extract_closed false
set_option bootstrap.genMatcherCode false
set_option linter.all false
set_option maxRecDepth 100000
open PyProof.Rows renaming numOf → Ua, slot_tuple_getitem → Ui, callWith_type1 → Tbc
open PySem.PyData renaming eqv → Ub, eqvAll → Ut, canLayAll0 → Tau, canLay0 → xG, depth → xE, strOk → Tcr, depthAll → Tcv, tuple → Tdn
open PySem.Value renaming ref → Uc, type → Ul, none → Uu, int → dG, builtin → xF, bool → xC, notImplemented → Tce
open PySem.Obj renaming mapSeq → Ud, data_mapFields → Ur, mapFields → Ux, isFreed_of_fields → xM, cls_mapFields → Tat, putSet → xB
open PySem.Str renaming ofString → Ue, empty → eQ
open PySem.SetTable renaming below → Uf, insertAt → Uo, has → xD, toList_insertAt → Tbp, bits → Tbu, insertAt_perm → Tby, slot → Tcj, fits → Tck, runEnd → Tcu
open PySem.NameKind renaming free → Ug, cell → jL
open False renaming elim → Uh
open Ne renaming symm → Uj
open PySem.Builtin.List renaming listExtendWith → Uk, listTooLong → Tan, listLengthHint → Tbe
open Classical renaming byContradiction → Um
open PySem.F renaming slot_dict_keyiterator_next → Uq, slot_list_append → Uv, type_list_append → Uw, slot_tuple_mul → xH, args_tuple_add_2 → Tam, entry_tuple_add → Tap, slot_tuple_add → Tas, slot_tuple_lt → Taw, args_dict_keyiterator_next_1 → Tax, slot_bool_hash → Tay, entry_dict_keyiterator_next → Taz, slot_int_rmul → Tbd, args_tuple_mul_2 → Tbk, entry_tuple_mul → Tbo, args_tuple_lt_2 → Tbr, entry_tuple_lt → Tbx, slot_dict_len → Tca, args_int_rmul_2 → Tcn
open PySem renaming mem_of_lookup → Us, sizeLine_eq → Uy, call → Tco, seqSlot_of → Tcs
open PySem.SetTable.probe renaming go → Uz
open ForInStep renaming yield → jM, done → Tdc
open PySem.Builtin.Slice renaming slicePlaces → Tac, sliceAdjust → Tak, sliceApplied → Tbg
open PySem.Calls renaming call_function_entry → Tad, Name_function_global → Tbf, evalArgs_plain → Tcf
open PySem.Around renaming under_plainId → xK
open PySem.Builtin.Tuple renaming tupleExact → Taf, tupleItemsOf → Tbh, tupleTooMany → Tbi, tupleIsExact → Tbj, tupleHashOf → Tbn
open PySem.Code renaming quiet_builtin → xJ
open PySem.SetTable.below renaming go → xI
open PySem.Builtin.ObjectAttr renaming dataDescriptor? → Tao, find → Tbs, getOf → Tdf
open PyProof.Rows.F renaming plain_set_update_loop → Tar, entry_set_update_loop → Tbv
open PySem.Builtin.Dict_items renaming ownsTuple → Tbb
open PySem.Builtin.Getset_descriptor renaming descrCheckInstance → Tbq, descrNameAndClass → Tbt, descrGetter → Tcg, descrGet → Tci
open PySem.AutoSeq1 renaming idx_int → Tbw
open PySem.W renaming OpenLaw → Tbz
open PySem.Builtin.Dict renaming showsAll → Tcb
open PySem.EntryCells renaming newEntry → Tch
open Sum renaming inl → lY, inr → lW
open List.Pairwise renaming nil → Tcp
open String renaming splitOnAux → Tcq, splitOn → Tdd
open PySem.Builtin.Frozenset renaming updateFrom → Tct, newClass → Tcz, sizeOf → Tdh, slot0 → Tdl
open Iff renaming rfl → pQ
open PySem.PassesOwn renaming never → Tcx
open PySem.SeqAt.EqAt renaming bool_bool → Tcy, int_bool → Tda, bool_int → Tdb
open True renaming intro → Tde
open PyProof.Rows.SortSt renaming mk' → Tdg
open PySem.Paired renaming length → Tdi
open PySem.W.Looks renaming andThen → Tdj, ld → Tdo
open PySem.Shared renaming TypeIs → Tdk
open PyProof.Rows.KskEnd renaming intro → Tdm
open Lean in
local macro_rules (kind:=Lean.Parser.Command.declaration) | d=>do
 if d[0].getArgs.any (fun x=>x[0].isOfKind `Lean.Parser.Command.nonrec) then return d.setArg 0 (<- `(command| noncomputable def a:=1)).raw[0]
 else Macro.throwUnsupported
open PySem renaming wpAny_bind → Va, Value → Vb, wpAny_pure → Vc, Shared → Vd, starEach → Vg, Addr → Vh, model → Vi, wpAny → Vk, Program → Vl, Paired → Vm, mainGlobals → Vn, Around → Vo, wpAny_holding → Vq, wpAny_mono → Vr, World → Vs, wpAny_call_entry → Vt, wpAny_newObj_type → Vu, bootBuiltins → Vv, sizeLine_eq → Vx, Expr → Vz, foldedSetIterable → eO, wpAny_callSpecial?_slot → lU, codeAny_builtin → dF, wpAny_ite_split → dE, Heap → C5, compareOp → S6, PyData → G3, binaryOp → Q3, wpAny_newList → dD, wpAny_loadPart' → jK, wpAny_typeNameOfWhole_keyiter → Ual, DictEntry → X5, sysModules → bC, backTo → K8, codeAny_mono → eM, wpAny_Call_Name_kw → pP, wpAny_setField → jJ, wpAny_passesOwn → lT, FuncData → X0, wpAny_attempt → jH, Stmt → D2, wpAny_askSetting → pO, assignEach → dC, wpAny_truthy_bool → xA, wpAny_rule → eI, wpAny_setState_of → wZ, swapsWith → dB, wpAny_execs_nil → wY, behindInMarks → pM, NameKind → bY, wpAny_field → lQ, sliceBounds → lP, call_meets → jG, wpAny_dictEntries → Ubn, isSubtype_type → wW, rawInt → U8, wpAny_Try_except → Ubu, codeAny_call_builtin → Ubx, SetTable → eG, intKind → bW, keywordEach → pI, wpAny_setEntries_of → Uce, Scope → P4, wpAny_typeOf → wV, wpAny_binaryOp_repeat_ref → Uci, wpAny_fieldsOf → Ucj, firstArgMember → Uck, wpAny_runValue → Ucl, tupleKind → lO, PassesOwn → lN, wpAny_call → pG, noteFrame → lM, wpAny_comprehension_free → Ucq, wpAny_pyIter_list → Ucr, wpAny_pyIter_slot → Ucs, checkCount → pF, wpAny_execs_cons → Ucw, noFill_tuple_add → Ucy, wpAny_isInstance → Ucz, wpAny_pyIter_tupleiter → Udb, holding → gG, pyNext → bU, letOwnedTupleGo → Udf, codeAny → gF, wpAny_specialOf → Udh, wpAny_dictEpoch → Udi, wpAny_isOneOf_keyiter → Udj, codeAny_handlers_test → Udl, isSubtype → pE, builtinLookup_eq_fast → Udn, pickOrder → pD, typeIs_int → wR, lookup_relabel_local → Udr, wpAny_pyIter_keyiter → Uds, wpAny_Expr_any → Udt, assign → cZ, getItem → jE, Keyword → jD, callerA → jB, wpAny_handleBy_cons → Udz, setNext → jA, wpAny_standAt → Uee, seq_tuple_add → Uef, IsPart → eE, backToKw → pC, wpAny_load → Uei, setsByText → Uek, pyIter → gE, concat_meets → Uen, compEnvC → wQ, hashInt → pB, Model → bT, wpAny_of_eq → Uex, setFlight → Uey, typeOf → lK, stored → lJ, BindsTo → wM, leaving → wL, newList → wK, storedH → wJ
open PyProof.Rows renaming Keyed → Ve, wpS_bind → Vf, wpS_pure → Vj, seqObj → Vp, IntsAre → Vw, wpS_forRange → Vy, SortSt → F7, get?_update_seq → pN, listUpdate_at → lR, wpS_mono → Z7, SortKind → bX, call_function_entry_kw → Ubj, wpS_modify → jF, plain_sorted → pL, entry_sorted → pK, listItems_at → pJ, entry_proto_collect' → Ubv, callWith_builtin_kwB → Ubw, AllBare → bV, kind_sorted → pH, wpAny_call_entry_kw → Ucd, IsTup → Q0, wpS_get → eF, arrOf → S5, envOfC → bB, entry_list_iadd' → Uda, subscriptTail_builtinR → Udc, boot_isinstance → Udk, wpS_lift → lL, args_list_sort → Udv, getElem?_mirror_all → Uea, wpS_reverse → Ueb, seqEpoch_at → Uec, size_push' → Uej, call_abs_int → Uem, evalArgs_kwB → Ueo, collect_list → Uep, args_sorted1 → Ues, failedOf → wP
open PySem.W renaming looks_findIn → Ueq, exmOne → gD, hideAll_get → Uez, nsIn → W9
open PySem.W renaming Frag → Xa, keepIn → cW, fnOf → fX, callWith_K → Wdn, Looks → oM, nsIn → vM, codeIn → Wes, methodObj → Wev, cellsFrom_some → Wfm, WalkO → Wgb, excIn → Wgc, kdl_extend → Wgd, kas_mapM → Wgv, kat_nil → Whc, kat_one → Whd, mg_of → Whj
open PySem.Heap renaming get?_push_of_some → Xb, lt_size → Xh, get?_push_size → Xi, SameBut → R5, get?_update_self → pA, get?_update_other → vZ, size_update → Wec, get?_update_ne → Wek, size_push → Wet
open Array renaming getElem?_eq_getElem → Xc, length_toList → Xw, getElem?_toList → bR, toList_append → bQ, getElem?_eq_none → iY, toList_push → dU, toList_extract → oZ, getD_eq_getD_getElem? → Wcj, getElem?_eq_some_iff → Wcn, getD → bM, getElem?_setIfInBounds → Wcy, toList_reverse → Wdd, eraseIdxIfInBounds → Wfa, Perm → vJ, append_assoc → Wfz, size_append → Wgj, toList_inj → Wha
open Nat renaming le_refl → Xd, lt_of_lt_of_le → Xo, ne_of_lt → Xp, le_trans → N2, zero_le → R4, lt_succ_of_lt → gA, lt_irrefl → cU, le_of_lt → iQ, min_eq_left → vQ, lt_succ_self → Web, pow_le_pow_right → Wef, not_lt_zero → Wej, ne_of_gt → vO, mul_comm → vN, lt_or_eq_of_le → Wep, zero_add → vL, sub_zero → vK, min_le_right → Wfi, succ_le_succ → Wfj, lt_trans → Wfp, lt_of_lt_of_eq → Wge, lt_of_succ_lt → Wgk, le_of_eq → Wgo, pow_succ → Wgp, min_eq_right → Wgt, max_eq_right → Wgy, mod_lt → Whi
open List renaming mem_singleton → Xe, mem_append → Xf, getElem?_eq_some_iff → Xg, length_map → Xj, size_toArray → Xk, replicate → Xl, mem_cons → Xn, append_nil → Xq, mem_map → Xr, getElem?_append_left → Xs, mem_append_right → Xu, mem_cons_of_mem → Xv, map_cons → Xx, getElem?_map → Xy, mem_iff_getElem → Xz, map_map → K7, append_assoc → T5, getElem?_eq_getElem → bS, getElem?_set_ne → Z6, take_append_drop → bA, getElem?_append_right → eD, length_append → Y4, pairwise_append → L9, map_append → U7, length_take → Z5, lookup_cons → Z4, singleton_append → eB, pairwise_iff_getElem → iZ, mem_of_getElem? → dZ, mem_filter → L8, drop_eq_getElem_cons → lI, mem_append_left → gC, take_of_length_le → iX, pairwise_cons → dX, filter_append → dW, replicate_succ → gB, length_cons → cX, mem_of_mem_drop → iW, cons → P9, map_congr_left → iV, length_filter_le → lH, mem_cons_self → iU, range → V4, length_drop → fZ, flatten_cons → iT, nodup_append → iS, extract_eq_take_drop → wF, nodup_cons → fY, exists_cons_of_length_eq_add_one → Wcb, mem_of_mem_take → oY, pairwise_mergeSort → wD, length_eq_zero_iff → wC, pairwise_map → lG, length_nil → iR, mergeSort_perm → oX, getElem?_set_self → wB, drop_of_length_le → vY, getD_eq_getElem?_getD → Wco, any_eq_true → lF, mem_filterMap → oW, Perm → Y3, getElem_take → oU, getElem_drop → oR, zip_cons_cons → vW, take_length_add_append → Wdb, getElem?_set → vV, mem_range → oO, getElem_append_right → Wdf, all_eq_true → vU, not_mem_nil → vT, take_length → vS, filterMap_cons → Wdj, length → iP, getElem?_take_of_lt → Wdm, of_mem_zip → vR, getElem?_replicate → Wdp, find?_cons → vP, any_cons → oN, pairwise_iff_forall_sublist → Wdu, drop_eq_nil_of_le → Wdv, find?_cons_of_pos → Wdw, find?_cons_of_neg → Wdx, reverse_perm → Wdy, length_replicate → Wdz, mem_iff_getElem? → Wea, take_append_of_le_length → Wed, getElem_zip → Wee, foldl_cons → Weg, nil_append → Weh, range_succ → Wel, getElem?_zip_eq_some → Weu, take_sublist → Wew, foldl → oK, mapM_toArray → Wey, getElem_append_left → Wfb, length_erase_of_mem → Wfc, take_add_one → Wfd, append_cancel_right → Wfe, getElem?_cons_succ → Wfg, pairwise_singleton → Wfh, filter_cons → Wfl, length_pos_of_mem → Wfn, getElem?_eq_none → Wfq, length_zip → Wfr, filter_map → Wfs, any_append → Wft, mem_erase_of_ne → Wfv, lookup → Wfx, reverse_append → Wfy, zip_nil_right → Wga, map_replicate → Wgf, zip_nil_left → Wgg, getElem?_inj → Wgh, any_eq_false → Wgi, ext_getElem? → Wgl, drop_sublist → Wgm, filter_congr → Wgn, Sublist → Wgq, any_map → Wgr, getElem_inj → Wgs, getElem_mem → Wgw, mem_reverse → Wgx, map_snd_zip → Wgz, mem_zipIdx → Whe, nodup_nil → Whf, map → Whk
open Option renaming none → B0
open Bool renaming true → B1, false → B2
open Option renaming some → B3, isSome_iff_exists → Wdl, map_some → Wfo, getD_none → Wgu, map → Whh
open Bool renaming and_eq_true → V6, false_ne_true → cY, false_eq_true → dY, eq_iff_iff → oQ, or_eq_true → Wei, not_eq_true' → Wez, not_eq_true → Wfk, and_eq_true_iff → Wfw, and_false → Whg
open Int renaming emod_lt_of_pos → bP, toNat_natCast → bO, emod_nonneg → bN, le_refl → V5, toNat_of_nonneg → vX, eq_ofNat_of_zero_le → Wff, min_eq_left → Whb
open Prod renaming mk → N9
theorem d7.{u}{c:Prop}{h:Decidable c}(x:c){α:Sort u}{a b:α}:ite c a b=a:=if_pos x
theorem d9.{u}{c:Prop}{h:Decidable c}(x:¬c){α:Sort u}{a b:α}:ite c a b=b:=if_neg x
theorem f6{p:Prop}[Decidable p](h:p):decide p=true:=decide_eq_true h
theorem f7{p:Prop}[Decidable p](h:¬p):decide p=false:=decide_eq_false h
local macro_rules|`(tactic|fail "F")=>`(tactic|first|exact .inl rfl|exact .inr rfl|assumption)
local macro_rules|`(f8)=>`(by omega)|`(g8)=>`(by simp)|`(g9)=>`(by decide)|`(h9)=>`(by simp;omega)|`(j0)=>`(by decide +kernel)|`(j5)=>`((List Int))|`(j6)=>`((.int 1))|`(j7)=>`((.int 0))
theorem Zo{α β:Type}{x:Option α}{f:α->Option β}{b:β}(h:x.bind f=B3 b):∃a,x=B3 a/\f a=B3 b:=Option.bind_eq_some_iff.1 h
theorem Zm{α β:Type}{x:Option α}{f:α->β}{b:β}(h:x.map f=B3 b):∃a,x=B3 a/\f a=b:=Option.map_eq_some_iff.1 h
theorem Zb{α β:Type}(a:α)(f:α->Option β):(B3 a).bind f=f a:=rfl
namespace PySem.W
open PySem
/-! the top run on a tree -/
def S9:List Obj->Nat->BT->Option BT
  |[],_,t=>B3 t
  |o::r,i,t=>match ((t.ins i o).get i).isSome with
    |true=>S9 r (i+1) (t.ins i o)
    |false=>B0
theorem O6{life}:∀(l:List Obj)(i:Nat)(t T:BT),S9 l i t=B3 T->absHeap T (i+l.length) life=⟨(absHeap t i life).objs++l.toArray,life⟩
  |[],i,t,T,h=>by cases h;simp[absHeap]
  |o::r,i,t,T,h=>by
    unfold S9 at h;cases e:((t.ins i o).get i).isSome with
    |false=>rw[e]at h;cases h
    |true=>
      rw[e]at h;have a:=O6 (life:=life) r (i+1) (t.ins i o) T h;rw[absHeap_ins e]at a;rw[List.length_cons,show i+(r.length+1)=i+1+r.length by omega,a];simp[Heap.push]
def O3(tb:String->Option Builtin)(p:Program)(w:World)(n₀:Nat)(ann:Option Value):Nat->SharedT->Thread->Option SharedT
  | 0,_,_=>B0
  |n+1,s,t=>match through t with
    |true=>B3 s
    |false=>match stepOk n₀ ann t with
      |false=>B0
      |true=>match stepT (denote tb) p w s t with
        |some (s',t')=>O3 tb p w n₀ ann n s' t'
        |none=>B0
theorem R8{tb:String->Option Builtin}{p:Program}{w:World}{n₀:Nat}{ann:Option Value}:∀{n:Nat}{s s':SharedT}{t:Thread},O3 tb p w n₀ ann n s t=B3 s'->topRun tb p w n₀ ann n s.abs t=B3 s'.abs
  | 0,_,_,_,h=>by cases h
  |n+1,s,s',t,h=>by
    unfold O3 at h;unfold topRun;cases he:through t with
    |true=>rw[he]at h;cases h;rfl
    |false=>
      rw[he]at h;cases hk:stepOk n₀ ann t with
      |false=>rw[hk]at h;cases h
      |true=>
        rw[hk]at h;cases hs:stepT (denote tb) p w s t with
        |none=>rw[hs]at h;cases h
        |some r=>obtain⟨s₂,t₂⟩:=r;rw[hs]at h;rw[stepT_spec hs];exact R8 h
def jR(tb:String->Option Builtin)(p:Program)(w:World)(N:Nat)(s₀:Shared):Option Shared :=
  match s₀.heap.isNs mainGlobals&&s₀.gens.size==0 with
  |true=>(S9 s₀.heap.objs.toList 0 .nil).bind λT=>(O3 tb p w s₀.heap.objs.size (s₀.heap.nsMap mainGlobals "__annotations__") N ⟨T,s₀.heap.objs.size,s₀.heap.life,s₀.gens,s₀.drawn,s₀.toks,s₀.os⟩ (topStub p)).bind λs₁ =>
    match staticsOk (importedModules p.main.body) s₀.heap s₁.abs.heap&&namesBound p s₁.abs.heap&&gensDone s₁.abs&&laidKept s₀.heap s₁.abs.heap with
    |true=>B3 s₁.abs
    |false=>B0
  |false=>B0
theorem eU{tb:String->Option Builtin}{p:Program}{w:World}{N:Nat}{s₀ r:Shared}(h:jR tb p w N s₀=B3 r):topFrom tb p w N s₀=B3 r:=by
  unfold jR at h;unfold topFrom;cases e:(s₀.heap.isNs mainGlobals&&s₀.gens.size==0)with
  |false=>rw[e]at h;cases h
  |true=>
    rw[e]at h;obtain⟨T,h1,h⟩:=Option.bind_eq_some_iff.mp h;obtain⟨s₁,h2,h⟩:=Option.bind_eq_some_iff.mp h;have a:=O6 (life:=s₀.heap.life) _ _ _ _ h1;have b:=R8 h2;have c:(SharedT.mk T s₀.heap.objs.size s₀.heap.life s₀.gens s₀.drawn s₀.toks s₀.os).abs=s₀:=by
      unfold SharedT.abs;have z:absHeap T s₀.heap.objs.size s₀.heap.life=s₀.heap:=by
        have a':=a;rw[Nat.zero_add]at a';rw[show s₀.heap.objs.size=s₀.heap.objs.toList.length by simp,a'];obtain⟨⟨objs,life⟩,g,d,t,o⟩:=s₀;simp[absHeap,BT.list]
      show Shared.mk (absHeap T s₀.heap.objs.size s₀.heap.life) s₀.gens s₀.drawn s₀.toks s₀.os=s₀;rw[z]
    rw[c]at b;rw[b];exact h
end PySem.W
section
open PySem PySem.W PyProof.Rows
nonrec def PySem.Challenge.vwOf(p:Vl):Vl:={ p with main:={ p.main with body:=[1,2,3,4,5,6,7,8,9,11,13,14,15,16,17,18,19,21,22,23,24,25,26,27,28,29,30,31,32,33,34].filterMap λi=>p.main.body[i]? } }
local macro_rules | `(tactic| o_head $_) => `(tactic| exact Uh (by assumption))
set_option maxRecDepth 100000 in
set_option maxHeartbeats 0 in
nonrec def PySem.W.Fast.tp0:(q:Program)×'(PySem.Challenge.pw_allsome_k36_names_put_away=q):=by
 refine⟨?q,?h⟩
 case h=>conv=>lhs;reduce
nonrec def PySem.W.Fast.tw3727892862412600363:Program:=PySem.W.Fast.tp0.1
theorem PySem.W.Fast.te3727892862412600363:PySem.Challenge.pw_allsome_k36_names_put_away=PySem.W.Fast.tw3727892862412600363:=PySem.W.Fast.tp0.2
set_option maxRecDepth 100000 in
set_option maxHeartbeats 0 in
theorem PySem.Challenge.mk0:False->PySem.Challenge.rw_allsome_k36_names_put_away.Holds:=by
 intro f;w_on;o_law;k_head
nonrec def PySem.Challenge.hk0:Hook:=kHook PySem.Challenge.mk0.heap_39 [2,3,15,22,23,24,25,28,35,37,38,40,41,42,43,44,47,54,56,57,59,60,61,62,63,66,73,74,75,78,85,86,87,90,97,98,99,102,109,110,111,114,121,122,123,126,133,134,135,138,140,141,143,144,145,147,148,150,151,152,154,155,157,158,159,161,162,164,165,166,168,169,171,172,173,176,177,178,181,182,183,185,186,188,189,190,192,193,195,196,197,199,200,202,203,204,206,207,209,210,211,213,214,216,217,218,220,221,223,224,225,228,229,230,232,233,235,236,237,240,241,242,245,246,247,249,250,252,253,254,256,257,259,260,261,263,264,266,267,268,271,272,273,275,276,278,279] (λ_=>by kernel_rfl)
nonrec def PySem.Challenge.xt0(s:Vd):Bool:=xlAt (PySem.Challenge.vwOf PySem.Challenge.pw_allsome_k36_names_put_away) [] s&&recOk (RowW.records (OpenRow.toRowW (OpenLaw.row PySem.Challenge.rw_allsome_k36_names_put_away))) s
set_option maxRecDepth 100000
namespace PySem.Challenge
nonrec abbrev oV:=(vwOf pw_allsome_k36_names_put_away)
nonrec abbrev oP:=(OpenLaw.row rw_allsome_k36_names_put_away).prog
nonrec abbrev oS:=openSeen oV [] (importedModules oP.main.body) xt0 B1
nonrec abbrev oG:=openGood oV []
nonrec abbrev oT:=jR treeTable oP
local macro_rules|`(tactic|fail "K")=>`(tactic|(delta oS oG oT oP oV xt0; (try rewrite[PySem.W.Fast.te4187177175401517315]); (try rewrite[PySem.W.Fast.te5923862056798008813]); (try rewrite[PySem.W.Fast.te2368527892694137696]); (try rewrite[PySem.W.Fast.te6185786265282122723]); (try rewrite[PySem.W.Fast.te3727892862412600363]); (try rewrite[PySem.W.Fast.te14364793385576792824]); (kernel_rfl)))
theorem rT(w:World)(os:OsState):(oT w 5476 ⟨boot_heap w.params,Array.mk [],boot_drawn,boot_toks,os⟩).map (λs=>(oS s).1)=B3 (oG.1):=by
 fail "K"
theorem rS(w:World)(os:OsState):(oT w 5476 ⟨boot_heap w.params,Array.mk [],boot_drawn,boot_toks,os⟩).map (λs=>(oS s).2.1)=B3 (oG.2.1):=by
 fail "K"
theorem rQ(w:World)(os:OsState):(oT w 5476 ⟨boot_heap w.params,Array.mk [],boot_drawn,boot_toks,os⟩).map (λs=>(oS s).2.2.1)=B3 (oG.2.2.1):=by
 fail "K"
theorem X7(w:World)(os:OsState):(oT w 5476 ⟨boot_heap w.params,Array.mk [],boot_drawn,boot_toks,os⟩).map (λs=>((oS s).2.2.2.1,(oS s).2.2.2.2.1,(oS s).2.2.2.2.2.1,(oS s).2.2.2.2.2.2.1,(oS s).2.2.2.2.2.2.2.1,(oS s).2.2.2.2.2.2.2.2))=B3 ((oG.2.2.2.1,oG.2.2.2.2.1,oG.2.2.2.2.2.1,oG.2.2.2.2.2.2.1,oG.2.2.2.2.2.2.2.1,oG.2.2.2.2.2.2.2.2)):=by
 fail "K"
theorem rP(w:World)(os:OsState):(oT w 5476 ⟨boot_heap w.params,Array.mk [],boot_drawn,boot_toks,os⟩).map (λs=>hk0.obs s)=B3 (hk0.val w):=by
 fail "K"
theorem lx{A B:Type}{o:Option A}{f:A->B}{r b}(h:o=B3 r)(k:o.map f=B3 b):f r=b:=by subst h;exact Option.some.inj k
theorem left0:LeftO oP oV [] xt0 hk0.obs hk0.val 5476:=λw=>by
 obtain⟨⟨h,g,d,t,os⟩,hs,hv⟩:=Option.map_eq_some_iff.mp (boot_open (p:=oP) (N:=5476) (by kernel_rfl) (by kernel_rfl) (λs=>by kernel_rfl) w);obtain⟨e1,hv⟩:=Prod.mk.inj (show (h,g,d,t)=_ from hv);obtain⟨e2,hv⟩:=Prod.mk.inj hv;obtain⟨e3,e4⟩:=Prod.mk.inj hv;subst e1;subst e2;subst e3;subst e4;obtain⟨r,hr,hc⟩:=Option.map_eq_some_iff.mp (rP w os);have j1:=lx hr (rT w os);have j2:=lx hr (rS w os);have j3:=lx hr (rQ w os);have j456789:=lx hr (X7 w os);unfold openEnds;rw[hs,Option.bind_some,eU hr];exact congrArg B3 (Prod.ext (Prod.ext j1 (Prod.ext j2 (Prod.ext j3 (Prod.ext (congrArg (λz=>z.1) j456789) (Prod.ext (congrArg (λz=>z.2.1) j456789) (Prod.ext (congrArg (λz=>z.2.2.1) j456789) (Prod.ext (congrArg (λz=>z.2.2.2.1) j456789) (Prod.ext (congrArg (λz=>z.2.2.2.2.1) j456789) (congrArg (λz=>z.2.2.2.2.2) j456789))))))))) hc)
end PySem.Challenge
end
namespace L2
open PySem PySem.Spec PyProof.Rows
nonrec abbrev X6:=Sum Int Str
nonrec def Ybe:X6->Vb->Bool
 |.inl k,v=>Value.isInt k v
 |.inr x,v=>Value.isStrOf x v
nonrec def keyH(w:Vs):X6->Int
 |.inl k=>pB k
 |.inr x=>hashStr w x
theorem fV:∀{k:X6}{v:Vb},Ybe k v=B1->(∃i t,k=lY i/\v=dG i t)\/(∃x t,k=lW x/\v=Value.str x t)
 |.inl i,v,h=>by
  obtain⟨t,e⟩:=Value.isInt_shape (k:=i) (v:=v) h;exact .inl ⟨i,t,rfl,e⟩
 |.inr x,v,h=>by
  obtain⟨t,e⟩:=Value.isStrOf_shape (x:=x) (v:=v) h;exact .inr ⟨x,t,rfl,e⟩
theorem Ybk(a b:Int):decide ((lY a:X6)=lY b)=(a==b):=by
 by_cases e:a=b
 ·subst e;simp
 ·have h:¬ (lY a:X6)=lY b:=λq=>e (Sum.inl.inj q);rw[f7 h];exact(beq_eq_false_iff_ne.mpr e).symm
theorem Ybt(a b:Str):decide ((lW a:X6)=lW b)=decide (a=b):=by
 by_cases e:a=b
 ·subst e;simp
 ·have h:¬ (lW a:X6)=lW b:=λq=>e (Sum.inr.inj q);rw[f7 h,f7 e]
theorem Zz2(a:Int)(b:Str):decide ((lY a:X6)=lW b)=B2:=f7 (λq=>nomatch q)
theorem Yat(a:Str)(b:Int):decide ((lW a:X6)=lY b)=B2:=f7 (λq=>nomatch q)
nonrec def Zmk(prog:Vl)(w:Vs):PySem.KeyKind prog w X6 where
 is:=Ybe
 hash:=keyH w
 inj:=λv a b ha hb=>by
  rcases fV ha with ⟨i,t,rfl,rfl⟩ |⟨x,t,rfl,rfl⟩
  ·rcases fV hb with ⟨j,u,rfl,e⟩ |⟨y,u,rfl,e⟩
   ·injection e with e1 _;rw[e1]
   ·exact nomatch e
  ·rcases fV hb with ⟨j,u,rfl,e⟩ |⟨y,u,rfl,e⟩
   ·exact nomatch e
   ·injection e with e1 _;rw[e1]
 byValue:=λk v h=>by
  rcases fV h with ⟨i,t,rfl,rfl⟩ |⟨x,t,rfl,rfl⟩<;>rfl
 pyHash:=λhv h=>by
  rcases fV hv with ⟨i,t,rfl,rfl⟩ |⟨x,t,rfl,rfl⟩
  ·exact wpAny_pyHash_int h
  ·exact wpAny_pyHash_str h
 eqBool:=λhu hv h=>by
  rcases fV hu with ⟨i,t,rfl,rfl⟩ |⟨x,t,rfl,rfl⟩
  ·rcases fV hv with ⟨j,u,rfl,rfl⟩ |⟨y,u,rfl,rfl⟩
   ·rw[Ybk]at h;exact wpAny_eqBool_int h
   ·rw[Zz2]at h;exact SeqAt.EqAt.int_str i t y u _ _ _ _ h
  ·rcases fV hv with ⟨j,u,rfl,rfl⟩ |⟨y,u,rfl,rfl⟩
   ·rw[Yat]at h;exact SeqAt.EqAt.str_int x t j u _ _ _ _ h
   ·rw[Ybt]at h;exact wpAny_eqBool_str h
 «strs»:=λk x t v h=>by
  rcases fV h with ⟨i,u,rfl,e⟩ |⟨y,u,rfl,e⟩
  ·exact nomatch e
  ·injection e with e1 _;subst e1;cases v<;>rfl
inductive V where
 |non |bl (b:Bool) |int (i:Int) |str (x:Str) |byt (b:Array UInt8) |flt (b:UInt64) |ref (a:Vh) |ty (n:String)
nonrec def E4:V->Vb->Prop
 |.non,u=>u=Uu
 |.bl b,u=>u=xC b
 |.int i,u=>∃t,u=dG i t
 |.str x,u=>∃t,u=Value.str x t
 |.byt b,u=>∃t,u=Value.bytes b t
 |.flt b,u=>∃t,u=Value.float b t
 |.ref a,u=>u=Uc a
 |.ty n,u=>u=Ul n
nonrec abbrev D5:List V->List Vb->Prop:=Vm E4
theorem D5.length{xs:List V}{us:List Vb}(r:D5 xs us):xs.length=us.length:=Tdi r
theorem D5.get:∀{xs:List V}{us:List Vb}{i:Nat}{x:V},D5 xs us->xs[i]? = B3 x->∃u,us[i]? = B3 u/\E4 x u
 |_,_,_,_,.nil,e=>by simp at e
 |_,_,0,_,.cons r _,e=>by simp at e;subst e;exact⟨_,rfl,r⟩
 |_,_,i+1,x,.cons _ t,e=>by
  obtain⟨u,h1,h2⟩:=D5.get (i:=i) (x:=x) t (by simpa using e);exact⟨u,by simpa using h1,h2⟩
theorem D5.append:∀{xs ys:List V}{us ws:List Vb},D5 xs us->D5 ys ws->D5 (xs++ys) (us++ws)
 |_,_,_,_,.nil,s=>s
 |_,_,_,_,.cons r t,s=>.cons r (D5.append t s)
theorem D5.take:∀{xs:List V}{us:List Vb}(n:Nat),D5 xs us->D5 (xs.take n) (us.take n)
 |_,_,0,_=>.nil
 |_,_,_+1,.nil=>.nil
 |_,_,n+1,.cons r t=>.cons r (D5.take n t)
theorem D5.drop:∀{xs:List V}{us:List Vb}(n:Nat),D5 xs us->D5 (xs.drop n) (us.drop n)
 |_,_,0,r=>r
 |_,_,_+1,.nil=>.nil
 |_,_,n+1,.cons _ t=>D5.drop n t
nonrec def xN:Option V->Option Vb->Prop
 |some v,B3 u=>E4 v u
 |none,B0=>True
 |_,_=>False
nonrec def KV{κ:Type}:List (κ×V)->List (κ×Vb)->Prop:=Vm λ(p:κ×V)(q:κ×Vb)=>p.1=q.1/\E4 p.2 q.2
nonrec def kV:X6->V
 |.inl i=>.int i
 |.inr x=>.str x
inductive HO where
 |lst (xs:List V)
 |tup (xs:List V)
 |dK (b8:List (X6×V)) |dT (b8:List (List X6×V))
 |set (S:Int->Bool) (n:Nat)
 |ins (C dx:Vh) (fs:List (Str×V))
 |own (x:Vh)
 |xd (fs:List (Str×V))
 |met (f x:Vh)
 |rng (lo hi:Int)
 |frz (o:Obj) (u:HO)
 |tbl (ps:Array Vb)
 |ext (φ:C5->Prop)
nonrec abbrev Hp:=Vh->Option HO
nonrec def upd(H:Hp)(a:Vh)(o:HO):Hp:=λb=>if b=a then B3 o else H b
theorem T3{H:Hp}{a:Vh}{o:HO}:upd H a o a=B3 o:=by unfold upd;rw[d7 rfl]
theorem F3{H:Hp}{a b:Vh}{o:HO}(h:b≠a):upd H a o b=H b:=by unfold upd;rw[d9 h]
theorem iB{H:Hp}{a b:Vh}{o u:HO}(h:H a=B3 o)(h':H b=B3 u)(d:o≠u):a≠b:=by
 intro e;subst e;rw[h]at h';exact d (B3.inj h')
theorem S4{H:Hp}{a b:Vh}{o:HO}(h:H a=B3 o)(h':H b=B0):a≠b:=by
 intro e;subst e;rw[h]at h';cases h'
def fP(h:C5)(a:Vh)(items:Array Vb):Prop:=∃o,h.get? a=B3 o/\o.cls=.type "tuple" /\ (∃n,o.data=.seq items n)/\o.dict=B0
theorem fP.new(h:C5)(items:Array Vb):fP (h.push { cls:=.type "tuple",data:=.seq items }) h.objs.size items:=⟨_,Xi _ rfl,rfl,⟨_,rfl⟩,rfl⟩
theorem fP.tup{h:C5}{a:Vh}{items:Array Vb}(x:fP h a items):Q0 h a items:=let ⟨o,e,c,d,_⟩:=x;⟨o,e,c,d⟩
section
variable(P:Vl)(w:Vs)
nonrec def N1(H:Hp)(h:C5)(a:Vh):HO->Prop
 |.lst xs=>xs.length<=sizeLine/\∃(b9:List Vb)(n:Nat),D5 xs b9/\h.get? a=B3 { cls:=.type "list",data:=.seq b9.toArray n }
 |.tup xs=>xs.length<=sizeLine/\∃b9:List Vb,D5 xs b9/\fP h a b9.toArray
 |.dK b8=>b8.length<=sizeLine/\(a==bC)=B2/\∃vs,KV b8 vs/\h.DictOf (Zmk P w) a vs
 |.dT b8=>b8.length<=sizeLine/\(a==bC)=B2/\∃xs:List (List X6×Vh×Vb),
   Vm (λ(p:List X6×V)(q:List X6×Vh×Vb)=>p.1=q.1/\H q.2.1=B3 (.tup (p.1.map kV))/\E4 p.2 q.2.2) b8 xs /\
   ∃o es ep,h.get? a=B3 o/\o.ExactDict/\o.data=.dict es ep/\es.toList=xs.map (entryOfKey (lO (Zmk P w)))/\(xs.map (·.1)).Nodup
 |.set S n=>h.SetOf (bW P w) a S n
 |.ins C dx fs=>H dx=B3 (.own a)/\fs.length<=1000/\dx≠a/\h.get? a=B3 (PySem.W.instObj C dx) /\
   ∃mA,h.Ns1 dx mA/\(∀f,xN (fs.lookup f) (mA f))/\PySem.Within mA (fs.map (·.1))
 |.own _=>∃o,h.get? a=B3 o
 |.xd fs=>∃mA,h.Ns1 a mA/\∀f,xN (fs.lookup f) (mA f)
 |.rng lo hi=>∃t u v,h.get? a=B3 { cls:=.type "range",data:=.fields #[.int lo t,.int hi u,.int 1 v] }
 |.frz o u=>h.get? a=B3 o/\N1 H h a u
 |.tbl ps=>h.get? a=B3 { cls:=.none,data:=.fields ps }
 |.met f x=>h.get? a=B3 (Wev (.ref f) (.ref x))
 |.ext φ=>φ h/\(∃o,h.get? a=B3 o)/\∀h1 h2:C5,φ h1->(∀o,h1.get? a=B3 o->h2.get? a=B3 o)->φ h2
def M5(H:Hp)(h:C5):Prop:=∀a o,H a=B3 o->N1 P w H h a o
end
section
variable{P:Vl}{w:Vs}{H H':Hp}{h h':C5}{a:Vh}{o:HO}
theorem N1.lt(x:N1 P w H h a o):a<h.objs.size:=by
 cases o with
 |lst xs=>obtain⟨_,_,_,_,e⟩:=x;exact Xh e
 |tup xs=>obtain⟨_,_,_,p⟩:=x;exact p.tup.lt
 |dK b8=>obtain⟨_,_,_,_,o,_,_,e,_⟩:=x;exact Xh e
 |dT b8=>obtain⟨_,_,_,_,o,_,_,e,_⟩:=x;exact Xh e
 |set S n=>obtain⟨o,_,_,_,e,_⟩:=x;exact Xh e
 |ins C dx fs=>obtain⟨_,_,_,e,_⟩:=x;exact Xh e
 |own y=>obtain⟨_,e⟩:=x;exact Xh e
 |xd fs=>obtain⟨_,⟨_,_,_,e,_⟩,_⟩:=x;exact Xh e
 |rng lo hi=>obtain⟨_,_,_,e⟩:=x;exact Xh e
 |frz ob u=>obtain⟨e,_⟩:=x;exact Xh e
 |tbl ps=>exact Xh (show h.get? a=B3 _ from x)
 |met f y=>exact Xh (show h.get? a=B3 _ from x)
 |ext φ=>obtain⟨_,⟨_,e⟩,_⟩:=x;exact Xh e
theorem Paired.mapP{α β:Type}{F G:α->β->Prop}:∀{l₁:List α}{l₂:List β},Vm F l₁ l₂->(∀a b,F a b->G a b)->Vm G l₁ l₂
 |_,_,.nil,_=>.nil
 |_,_,.cons r t,f=>.cons (f _ _ r) (Paired.mapP t f)
theorem N1.stay(x:N1 P w H h a o)(k:∀b u,(b=a\/H b=B3 (.own a))->h.get? b=B3 u->h'.get? b=B3 u)
  (ho:∀b,H b=B3 (.own a)->H' b=B3 (.own a))(ht:∀b xs,H b=B3 (.tup xs)->H' b=B3 (.tup xs)):N1 P w H' h' a o:=by
 induction o with
 |lst xs=>obtain⟨z,b9,n,r,e⟩:=x;exact⟨z,b9,n,r,k _ _ (.inl rfl) e⟩
 |tup xs=>obtain⟨z,b9,r,ob,e,c⟩:=x;exact⟨z,b9,r,ob,k _ _ (.inl rfl) e,c⟩
 |dK b8=>obtain⟨z,y,vs,r,ob,es,ep,e,c⟩:=x;exact⟨z,y,vs,r,ob,es,ep,k _ _ (.inl rfl) e,c⟩
 |dT b8=>
  obtain⟨z,y,xs,r,ob,es,ep,e,c⟩:=x;exact⟨z,y,xs,Paired.mapP r λp q z=>⟨z.1,ht _ _ z.2.1,z.2.2⟩,ob,es,ep,k _ _ (.inl rfl) e,c⟩
 |set S n=>obtain⟨ob,es,ep,t,e,c⟩:=x;exact⟨ob,es,ep,t,k _ _ (.inl rfl) e,c⟩
 |ins C dx fs=>
  obtain⟨d,z,ne,e,mA,⟨od,es,ep,e2,c⟩,r⟩:=x;exact⟨ho _ d,z,ne,k _ _ (.inl rfl) e,mA,⟨od,es,ep,k _ _ (.inr d) e2,c⟩,r⟩
 |own y=>obtain⟨ob,e⟩:=x;exact⟨ob,k _ _ (.inl rfl) e⟩
 |xd fs=>obtain⟨mA,⟨od,es,ep,e,c⟩,r⟩:=x;exact⟨mA,⟨od,es,ep,k _ _ (.inl rfl) e,c⟩,r⟩
 |rng lo hi=>obtain⟨t,u,v,e⟩:=x;exact⟨t,u,v,k _ _ (.inl rfl) e⟩
 |frz ob u ih=>obtain⟨e,q⟩:=x;exact⟨k _ _ (.inl rfl) e,ih q⟩
 |tbl ps=>
  have e:h.get? a=B3 { cls:=.none,data:=.fields ps }:=x;show h'.get? a=B3 { cls:=.none,data:=.fields ps };exact k a _ (.inl rfl) e
 |met f y=>
  have e:h.get? a=B3 (Wev (.ref f) (.ref y)):=x;show h'.get? a=B3 (Wev (.ref f) (.ref y));exact k a _ (.inl rfl) e
 |ext φ=>obtain⟨p,⟨o,e⟩,st⟩:=x;exact⟨st _ _ p λo q=>k _ _ (.inl rfl) q,⟨o,k _ _ (.inl rfl) e⟩,st⟩
theorem M5.lt(x:M5 P w H h)(e:H a=B3 o):a<h.objs.size:=(x a o e).lt
theorem M5.fresh(x:M5 P w H h)(e:h.objs.size<=a):H a=B0:=by
 cases q:H a with
 |none=>rfl
 |some u=>exact absurd (Xo (x.lt q) e) (cU _)
theorem M5.kept(x:M5 P w H h)(k:∀b u,h.get? b=B3 u->h'.get? b=B3 u):M5 P w H h':=λa o e=>
 (x a o e).stay (λb u _ q=>k b u q) (λ_ q=>q) λ_ _ q=>q
theorem M5.laid(x:M5 P w H h)(k:∀b u,h.get? b=B3 u->h'.get? b=B3 u)(hp:h.objs.size<=a)(new:N1 P w (upd H a o) h' a o):M5 P w (upd H a o) h':=λb u e=>by
 have hn:=x.fresh hp;by_cases hb:b=a
 ·subst hb;rw[T3]at e;cases e;exact new
 ·rw[F3 hb]at e;exact(x b u e).stay (λc v _ q=>k c v q) (λc q=>by rw[F3 (S4 q hn)];exact q) λc xs q=>by rw[F3 (S4 q hn)];exact q
end
def Rd(H:Hp)(a:Vh)(u:HO):Prop:=H a=B3 u\/∃o,H a=B3 (.frz o u)
theorem Rd.ok{P:Vl}{w:Vs}{H:Hp}{h:C5}{a:Vh}{u:HO}(r:Rd H a u)(x:M5 P w H h):N1 P w H h a u:=by
 rcases r with r |⟨o,r⟩
 ·exact x a u r
 ·obtain⟨_,q⟩:=x a _ r;exact q
nonrec def Mut:Option HO->Prop
 |some (.lst _)=>True
 |some (.dK _)=>True
 |some (.dT _)=>True
 |some (.set _ _)=>True
 |some (.ins _ _ _)=>True
 |some (.ext _)=>True
 |_=>False
section
variable{P:Vl}{w:Vs}{H:Hp}{h h':C5}{x e:Vh}{o':HO}
theorem M5.write(ok:M5 P w H h)(mu:Mut (H x))(he:e=x\/H e=B3 (.own x))(k:∀b u,b≠e->h.get? b=B3 u->h'.get? b=B3 u)(heo:∃u,h'.get? e=B3 u)
  (new:N1 P w (upd H x o') h' x o'):M5 P w (upd H x o') h':=λb u q=>by
 have nown:∀c y,H c=B3 (.own y)->c≠x:=λc y r z=>by subst z;rw[r]at mu;exact mu
 have ntup:∀c xs,H c=B3 (.tup xs)->c≠x:=λc xs r z=>by subst z;rw[r]at mu;exact mu
 by_cases hb:b=x
 ·subst hb;rw[T3]at q;cases q;exact new
 ·rw[F3 hb]at q;by_cases hbe:b=e
  ·have q':H b=B3 (.own x):=by
    rcases he with z |z
    ·exact absurd (hbe.trans z) hb
    ·rw[hbe];exact z
   rw[q]at q';cases q';obtain⟨v,hv⟩:=heo;exact⟨v,by rw[hbe];exact hv⟩
  ·refine(ok b u q).stay (λc v hc r=>k c v ?_ r) (λc r=>by rw[F3 (nown c b r)];exact r) λc xs r=>by rw[F3 (ntup c xs r)];exact r
   rcases hc with rfl |hc
   ·exact hbe
   ·rintro rfl;rcases he with z |z
    ·exact nown c b hc z
    ·rw[hc]at z;cases z;exact hb rfl
end
structure Un(fs ex:List Vh)(H H':Hp)(h h':C5):Prop where
 keep:∀b o,h.get? b=B3 o->H b=B0->b∉fs->b∉ex->h'.get? b=B3 o
 slot:∀b o,h.get? b=B3 o->H b=B0->b∈fs->b∉ex->∃sl,h'.get? b=B3 { o with slots:=sl }
 free:∀b o,h.get? b=B3 o->H b=B0->b∉ex->H' b=B0
 there:∀b o,h.get? b=B3 o->b∉ex->∃o',h'.get? b=B3 o'
 tups:∀b xs,H b=B3 (.tup xs)->H' b=B3 (.tup xs)
 frzs:∀b o u,H b=B3 (.frz o u)->H' b=B3 (.frz o u)
 tbls:∀b ps,H b=B3 (.tbl ps)->∃more,H' b=B3 (.tbl (ps++more))
section
variable{fs fs' ex ex':List Vh}{H H1 H2:Hp}{h h1 h2 h':C5}{a x e:Vh}{o:HO}
theorem Un.any(u:Un fs ex H H1 h h1){b:Vh}{ob:Obj}(q:h.get? b=B3 ob)(n:H b=B0)(hx:b∉ex):∃sl,h1.get? b=B3 { ob with slots:=sl }:=by
 by_cases hb:b∈fs
 ·exact u.slot b ob q n hb hx
 ·exact⟨ob.slots,u.keep b ob q n hb hx⟩
theorem Un.trans(a:Un fs ex H H1 h h1)(b:Un fs ex H1 H2 h1 h2):Un fs ex H H2 h h2 where
 keep:=λc ob q n hc hx=>b.keep c ob (a.keep c ob q n hc hx) (a.free c ob q n hx) hc hx
 slot:=λc ob q n hc hx=>by
  obtain⟨sl,e1⟩:=a.slot c ob q n hc hx;obtain⟨sl',e2⟩:=b.slot c _ e1 (a.free c ob q n hx) hc hx;exact⟨sl',e2⟩
 free:=λc ob q n hx=>by
  obtain⟨o',e1⟩:=a.there c ob q hx;exact b.free c o' e1 (a.free c ob q n hx) hx
 there:=λc ob q hx=>by
  obtain⟨o',e1⟩:=a.there c ob q hx;exact b.there c o' e1 hx
 tups:=λc xs q=>b.tups c xs (a.tups c xs q)
 frzs:=λc ob xs q=>b.frzs c ob xs (a.frzs c ob xs q)
 tbls:=λc ps q=>by
  obtain⟨m1,e1⟩:=a.tbls c ps q;obtain⟨m2,e2⟩:=b.tbls c _ e1;exact⟨m1++m2,by rw[e2,Wfz]⟩
theorem Un.kept(k:∀b u,h.get? b=B3 u->h'.get? b=B3 u):Un fs ex H H h h' :=
 ⟨λb ob q _ _ _=>k b ob q,λb ob q _ _ _=>⟨ob.slots,k b ob q⟩,λ_ _ _ n _=>n,λb ob q _=>⟨ob,k b ob q⟩,λ_ _ q=>q,λ_ _ _ q=>q,λ_ ps q=>⟨#[],by rw[q];simp⟩⟩
theorem Un.refl:Un fs ex H H h h:=Un.kept λ_ _ q=>q
theorem Un.laid(k:∀b u,h.get? b=B3 u->h'.get? b=B3 u)(hp:h.objs.size<=a)(hn:H a=B0):Un fs ex H (upd H a o) h h' where
 keep:=λb u q _ _ _=>k b u q
 slot:=λb u q _ _ _=>⟨u.slots,k b u q⟩
 free:=λb u q n _=>by rw[F3 (Xp (Xo (Xh q) hp))];exact n
 there:=λb u q _=>⟨u,k b u q⟩
 tups:=λb xs q=>by rw[F3 (S4 q hn)];exact q
 frzs:=λb u xs q=>by rw[F3 (S4 q hn)];exact q
 tbls:=λb ps q=>⟨#[],by rw[F3 (S4 q hn),q];simp⟩
theorem Un.write(mu:Mut (H x))(he:e=x\/H e=B3 (.own x))(k:∀b u,b≠e->h.get? b=B3 u->h'.get? b=B3 u)(heo:∃u,h'.get? e=B3 u):Un fs ex H (upd H x o) h h':=by
 have hx:∀b,H b=B0->b≠x:=λb n z=>by subst z;rw[n]at mu;exact mu
 have hb:∀b,H b=B0->b≠e:=λb n z=>by
  subst z;rcases he with r |r
  ·exact hx b n r
  ·rw[n]at r;cases r
 have hm:∀b u,H b=B3 u->¬ Mut (B3 u)->b≠x:=λb u q nm z=>by subst z;rw[q]at mu;exact nm mu
 refine⟨λb u q n _ _=>k b u (hb b n) q,λb u q n _ _=>⟨u.slots,k b u (hb b n) q⟩,λb u q n _=>by rw[F3 (hx b n)];exact n,λb u q _=>?_,
  λb xs q=>by rw[F3 (hm b _ q λz=>z)];exact q,λb u xs q=>by rw[F3 (hm b _ q λz=>z)];exact q,λb ps q=>⟨#[],by rw[F3 (hm b _ q λz=>z),q];simp⟩⟩
 by_cases hbe:b=e
 ·subst hbe;exact heo
 ·exact⟨u,k b u hbe q⟩
theorem Un.mono(u:Un fs ex H H1 h h1)(hs:∀b∈fs,b∈fs')(hx:∀b∈ex,b∈ex'):Un fs' ex' H H1 h h1 :=
 ⟨λb ob q n hb he=>u.keep b ob q n (λz=>hb (hs b z)) λz=>he (hx b z),λ_ _ q n _ he=>u.any q n λz=>he (hx _ z),λb ob q n he=>u.free b ob q n λz=>he (hx b z),λb ob q he=>u.there b ob q λz=>he (hx b z),u.tups,u.frzs,u.tbls⟩
end
nonrec def trk(h:C5)(H:Hp):List Vh:=(V4 h.objs.size).filter λa=>(H a).isSome
nonrec def fI(h:C5)(H:Hp):C5:=PySem.W.hideAll h (trk h H)
theorem Zrx(h:C5)(H:Hp):(fI h H).objs.size=h.objs.size:=PySem.W.hideAll_size _ _
theorem Zu6{h:C5}{H:Hp}{b:Vh}{o:Obj}(e:h.get? b=B3 o)(n:H b=B0):(fI h H).get? b=B3 o :=
 PySem.W.hideAll_get _ e λhm=>by
  have q:(H b).isSome=B1:=(L8.mp hm).2;rw[n]at q;simp at q
theorem Zyj{h:C5}{H:Hp}{b:Vh}{o:Obj}(e:(fI h H).get? b=B3 o):h.get? b=B3 o/\H b=B0:=by
 have e':h.get? b=B3 o:=PySem.W.of_hideAll (trk h H) e;refine⟨e',?_⟩;cases q:H b with
 |none=>rfl
 |some x=>
  have hm:b∈trk h H:=L8.mpr ⟨oO.mpr (Xh e'),by simp[q]⟩;have z:(fI h H).get? b=B0:=PySem.W.hideAll_none (trk h H) hm;rw[z]at e;cases e
structure Mod(K:Xa)(mg:Str->Option Vb)(base:C5):Prop where
 kin:K.In base
 glob:base.Ns Vn mg
 blt:∃mb,base.Ns builtinsNs mb/\∀x:Str,x ≠ "__name__" -> mb x=Vv x
 nolimit:base.NoLimit
structure Cx where
 prog:Vl
 w:Vs
 K:Xa
 mg:Str->Option Vb
 base:C5
 A:Vo
 N:List Str
 s₀:Vd
 H₀:Hp
 env:Env
 outer:List Env
 stack:List Env
 ex:List Vh
 fn:Str->Bool
 calm:Bool
 pn:List (Vh×Obj)
 xe:Vb->Vd->Prop
nonrec def M7(l:List Env):List Vh:=l.filterMap (·.frame)
nonrec abbrev Cx.fs(X:Cx):List Vh:=M7 X.outer
def Vis(sc:P4)(x:Str):Prop:=sc.names.lookup x=B3 .local\/sc.names.lookup x=B3 .cell\/sc.names.lookup x=B3 .free
def mF(sc:P4)(x:Str):Prop:=sc.names.lookup x=B3 .local\/sc.names.lookup x=B3 .cell
def Look(env:Env)(h:C5)(m:Str->Option Vb)(x:Str)(u:Vb):Prop :=
 (env.kindOf x=B3 .local/\m x=B3 u)\/((env.kindOf x=B3 .cell\/env.kindOf x=B3 .free)/\∃c,env.cells.lookup x=B3 c/\h.IsCell c (B3 u))
structure Cx.Ok(X:Cx):Prop where
 mod:Mod X.K X.mg X.base
 kind:X.env.scope.kind=.function
 glob:X.env.globals=Vn
 blt:X.env.builtins=builtinsNs
 above:X.s₀.heap.objs.size<=X.env.locals
 inj:∀x y c,X.env.cells.lookup x=B3 c->X.env.cells.lookup y=B3 c->x=y
 has:∀x,(X.env.kindOf x=B3 .cell\/X.env.kindOf x=B3 .free)->∃c,X.env.cells.lookup x=B3 c
 cab:∀x c,X.fn x=B1->X.env.cells.lookup x=B3 c->X.s₀.heap.objs.size<=c
 hd:X.calm=B1->X.A.handled=B0
 frames:X.A.frames=B3 X.stack
 stk:X.stack=X.outer\/(X.stack=X.env::X.outer/\X.env.frame=B3 X.env.locals)
 exf:∀b∈X.ex,b≠X.env.locals/\∀x c,X.env.cells.lookup x=B3 c->c≠b
 bs:∀b o,X.base.get? b=B3 o->X.s₀.heap.get? b=B3 o/\X.H₀ b=B0
 bsz:X.base.objs.size<=X.s₀.heap.objs.size
 noex:∀b o,X.base.get? b=B3 o->b∉X.ex
 exfs:∀b∈X.ex,b∉X.fs
 funs:X.s₀.heap.FunFrames X.base X.outer
 frf:∀b∈X.fs,X.H₀ b=B0
structure B6(X:Cx)(b5:List (Vh×Obj))(σ:List (Option V))(H:Hp)(s:Vd):Prop where
 ok:X.Ok
 os:s.os=X.s₀.os
 bare:bV s.gens
 base:Un X.fs X.ex X.H₀ H X.s₀.heap s.heap
 loc:∃m,s.heap.Ns X.env.locals m/\∀(i:Nat)(x:Str)(v:V),X.N[i]? = B3 x->σ[i]? = B3 (B3 v)->Vis X.env.scope x->∃u,E4 v u/\Look X.env s.heap m x u
 cell:∀x c,X.env.cells.lookup x=B3 c->∃v,s.heap.IsCell c v
 free:H X.env.locals=B0
 freeC:∀x c,X.env.cells.lookup x=B3 c->H c=B0\/(X.fn x=B2/\∃o u,H c=B3 (.frz o u))
 pin:∀p∈X.pn++b5,s.heap.get? p.1=B3 p.2/\H p.1=B0/\p.1≠X.env.locals/\p.1∉X.fs/\∀v,p.2.data≠.cell v
 hok:M5 X.prog X.w H s.heap
 len:σ.length=X.N.length
section
variable{X:Cx}{b5:List (Vh×Obj)}{σ:List (Option V)}{H H':Hp}{s:Vd}{h':C5}
theorem Cx.Ok.nofr(ok:X.Ok){b:Vh}{o:Obj}(e:X.base.get? b=B3 o):b∉X.fs:=λhb=>by
 have:=(ok.funs.mem hb).1;rw[e]at this;cases this
theorem B6.bs(I:B6 X b5 σ H s):∀b o,X.base.get? b=B3 o->s.heap.get? b=B3 o/\H b=B0:=λb o e=>
 ⟨I.base.keep b o (I.ok.bs b o e).1 (I.ok.bs b o e).2 (I.ok.nofr e) (I.ok.noex b o e),I.base.free b o (I.ok.bs b o e).1 (I.ok.bs b o e).2 (I.ok.noex b o e)⟩
theorem B6.bk(I:B6 X b5 σ H s):∀b o,X.base.get? b=B3 o->s.heap.get? b=B3 o:=λb o e=>(I.bs b o e).1
theorem B6.mod(I:B6 X b5 σ H s):Mod X.K X.mg X.base:=I.ok.mod
theorem B6.kIn(I:B6 X b5 σ H s):X.K.In s.heap:=I.ok.mod.kin.keeps I.bk
theorem B6.lt(I:B6 X b5 σ H s):X.env.locals<s.heap.objs.size:=let ⟨_,hn,_⟩:=I.loc;hn.lt
theorem B6.sz(I:B6 X b5 σ H s):X.s₀.heap.objs.size<=s.heap.objs.size:=N2 I.ok.above (iQ I.lt)
theorem B6.nofs(I:B6 X b5 σ H s){a:Vh}(h:s.heap.objs.size<=a):a∉X.fs:=λhb=>by
 obtain⟨_,o,ho,_⟩:=I.ok.funs.mem hb;exact absurd (Xo (Xh ho) (N2 I.sz h)) (cU _)
theorem B6.cne(I:B6 X b5 σ H s):∀x c,X.env.cells.lookup x=B3 c->c≠X.env.locals:=λx c e z=>by
 obtain⟨v,o,ho,hd⟩:=I.cell x c e;obtain⟨m,⟨o',es,ep,ho',hd',_⟩,_⟩:=I.loc;rw[z,ho']at ho;cases ho;rw[hd']at hd;cases hd
theorem B6.funs(I:B6 X b5 σ H s):s.heap.FunFrames X.base X.outer:=by
 have all:∀(l:List Env),(∀b∈M7 l,b∈X.fs)->X.s₀.heap.FunFrames X.base l->s.heap.FunFrames X.base l:=by
  intro l
  induction l with
  |nil=>intro _ _;trivial
  |cons env r ih=>
   intro hs hl;obtain⟨hk,⟨L,o,hf,hn,ho,hd⟩,hr⟩:=hl;have hL:L∈X.fs:=hs L (by unfold M7;rw[Wdj,hf];exact iU);obtain⟨sl,e⟩:=I.base.slot L o ho (I.ok.frf L hL) hL λz=>I.ok.exfs L z hL;exact⟨hk,⟨L,_,hf,hn,e,hd⟩,ih (λb hb=>hs b (by unfold M7;rw[Wdj,hf];exact Xv _ hb)) hr⟩
 exact all X.outer (λ_ hb=>hb) I.ok.funs
theorem B6.stack(I:B6 X b5 σ H s):s.heap.FunFrames X.base X.stack:=by
 rcases I.ok.stk with e |⟨e,hf⟩
 ·rw[e];exact I.funs
 ·rw[e];obtain⟨m,hn,_⟩:=I.loc;refine .cons (by rw[I.ok.kind];decide) hf hn ?_ I.funs;exact Heap.get?_none_of_le (N2 I.ok.bsz I.ok.above)
theorem B6.stkSub(I:B6 X b5 σ H s):∀b∈M7 X.stack,b∈X.env.locals::X.fs:=λb hb=>by
 rcases I.ok.stk with e |⟨e,hf⟩
 ·rw[e]at hb;exact Xv _ hb
 ·rw[e]at hb;unfold M7 at hb;rw[Wdj,hf]at hb;exact hb
theorem B6.stkFree(I:B6 X b5 σ H s):∀b∈M7 X.stack,H b=B0:=λb hb=>by
 rcases Xn.mp (I.stkSub b hb)with e |hb
 ·rw[e];exact I.free
 ·obtain⟨_,o,ho,_⟩:=I.ok.funs.mem hb;exact I.base.free b o ho (I.ok.frf b hb) λz=>I.ok.exfs b z hb
theorem B6.step{g':Array GenState}{t':Nat}{d':Drawn}{ch:List Vh}(I:B6 X b5 σ H s)
  (hch:∀b∈ch,(b∈X.ex\/X.s₀.heap.objs.size<=b)/\b≠X.env.locals/\(∀x c,X.env.cells.lookup x=B3 c->c≠b)/\∀p∈X.pn++b5,p.1≠b)
  (keep:∀b o,b≠X.env.locals->b∉X.fs->b∉ch->s.heap.get? b=B3 o->H b=B0->h'.get? b=B3 o)
  (slot:∀b o,b≠X.env.locals->b∈X.fs->b∉ch->s.heap.get? b=B3 o->H b=B0->∃sl,h'.get? b=B3 { o with slots:=sl })(free:∀b o,b∉ch->s.heap.get? b=B3 o->H b=B0->H' b=B0)
  (there:∀b o,b∉ch->s.heap.get? b=B3 o->∃o',h'.get? b=B3 o')
  (tups:∀b xs,H b=B3 (.tup xs)->H' b=B3 (.tup xs))(frzs:∀b o u,H b=B3 (.frz o u)->H' b=B3 (.frz o u))(tbls:∀b ps,H b=B3 (.tbl ps)->∃more,H' b=B3 (.tbl (ps++more)))
  (ns:∀m,s.heap.Ns X.env.locals m->h'.Ns X.env.locals m)(hok:M5 X.prog X.w H' h')(hg:bV g') :
  B6 X b5 σ H' { s with heap:=h',gens:=g',drawn:=d',toks:=t' }:=by
 have neL:∀b o,X.s₀.heap.get? b=B3 o->b≠X.env.locals:=λb o e=>Xp (Xo (Xh e) I.ok.above);have neC:∀b o,X.s₀.heap.get? b=B3 o->b∉X.ex->b∉ch:=λb o e hx hb=>by
  rcases(hch b hb).1 with z |z
  ·exact hx z
  ·exact absurd (Xo (Xh e) z) (cU _)
 have cellK:∀x c,X.env.cells.lookup x=B3 c->∀v,s.heap.IsCell c v->h'.IsCell c v:=λx c e v⟨o,ho,hd⟩=>by
  have nch:c∉ch:=λz=>(hch c z).2.2.1 x c e rfl;rcases I.freeC x c e with fc |⟨_,o2,u2,fc⟩
  ·by_cases hc:c∈X.fs
   ·obtain⟨sl,q⟩:=slot c o (I.cne x c e) hc nch ho fc;exact⟨_,q,hd⟩
   ·exact⟨o,keep c o (I.cne x c e) hc nch ho fc,hd⟩
  ·have h1:=(I.hok c _ fc).1;have h2:=(hok c _ (frzs c o2 u2 fc)).1;rw[ho]at h1;cases h1;exact⟨o,h2,hd⟩
 refine⟨I.ok,I.os,hg,⟨λb o e n hb hx=>?_,λb o e n hb hx=>?_,λb o e n hx=>?_,λb o e hx=>?_,λb xs e=>tups b xs (I.base.tups b xs e),λb o xs e=>frzs b o xs (I.base.frzs b o xs e),λb ps e=>?_⟩,?_,λx c e=>?_,?_,λx c e=>?_,λp hp=>?_,hok,I.len⟩
 ·exact keep b o (neL b o e) hb (neC b o e hx) (I.base.keep b o e n hb hx) (I.base.free b o e n hx)
 ·obtain⟨sl,e1⟩:=I.base.slot b o e n hb hx;obtain⟨sl',e2⟩:=slot b _ (neL b o e) hb (neC b o e hx) e1 (I.base.free b o e n hx);exact⟨sl',e2⟩
 ·obtain⟨o',e1⟩:=I.base.there b o e hx;exact free b o' (neC b o e hx) e1 (I.base.free b o e n hx)
 ·obtain⟨o',e1⟩:=I.base.there b o e hx;exact there b o' (neC b o e hx) e1
 ·obtain⟨m1,e1⟩:=I.base.tbls b ps e;obtain⟨m2,e2⟩:=tbls b _ e1;exact⟨m1++m2,by rw[e2,Wfz]⟩
 ·obtain⟨m,hn,hl⟩:=I.loc;refine⟨m,ns m hn,λi x v e1 e2 e3=>?_⟩;obtain⟨u,r,l⟩:=hl i x v e1 e2 e3;refine⟨u,r,?_⟩;rcases l with l |⟨k,c,e,z⟩
  ·exact .inl l
  ·exact .inr ⟨k,c,e,cellK x c e _ z⟩
 ·obtain⟨v,z⟩:=I.cell x c e;exact⟨v,cellK x c e v z⟩
 ·obtain⟨m,⟨o,_,_,ho,_⟩,_⟩:=I.loc;exact free _ o (λz=>(hch _ z).2.1 rfl) ho I.free
 ·obtain⟨v,o,ho,hd⟩:=I.cell x c e;rcases I.freeC x c e with fc |⟨fn,o2,u2,fc⟩
  ·exact .inl (free c o (λz=>(hch c z).2.2.1 x c e rfl) ho fc)
  ·exact .inr ⟨fn,o2,u2,frzs c o2 u2 fc⟩
 ·obtain⟨e,n,ne,nf,d⟩:=I.pin p hp;have nch:p.1∉ch:=λz=>(hch p.1 z).2.2.2 p hp rfl;exact⟨keep p.1 p.2 ne nf nch e n,free p.1 p.2 nch e n,ne,nf,d⟩
theorem B6.un{t':Nat}(I:B6 X b5 σ H s)(u:Un X.fs [] H H' s.heap h')(hok:M5 X.prog X.w H' h'):B6 X b5 σ H' { s with heap:=h',toks:=t' }:=by
 obtain⟨m,⟨o,es,ep,ho,r⟩,_⟩:=id I.loc;obtain⟨sl,hL⟩:=u.any ho I.free g8;exact I.step (g':=s.gens) (d':=s.drawn) (ch:=[]) (λ_ z=>nomatch z) (λb o _ hb _ e n=>u.keep b o e n hb g8) (λb o _ hb _ e n=>u.slot b o e n hb g8) (λb o _ e n=>u.free b o e n g8) (λb o _ e=>u.there b o e g8) u.tups u.frzs u.tbls (λm' hm=>by
  obtain⟨o',es',ep',ho',r'⟩:=hm;rw[ho]at ho';cases ho';exact⟨_,es',ep',hL,r'⟩) hok I.bare
theorem B6.call{g':Array GenState}{t':Nat}{d':Drawn}{ch:List Vh}(I:B6 X b5 σ H s)(u:Un (M7 X.stack) ch H H' s.heap h')(hok:M5 X.prog X.w H' h')(hg:bV g')
  (hch:∀b∈ch,(b∈X.ex\/X.s₀.heap.objs.size<=b)/\b≠X.env.locals/\(∀x c,X.env.cells.lookup x=B3 c->c≠b)/\∀p∈X.pn++b5,p.1≠b) :
  B6 X b5 σ H' { s with heap:=h',gens:=g',drawn:=d',toks:=t' }:=by
 obtain⟨m,⟨o,es,ep,ho,r⟩,_⟩:=id I.loc;obtain⟨sl,hL⟩:=u.any ho I.free λz=>(hch _ z).2.1 rfl;exact I.step (ch:=ch) hch (λb o hL hb hc e n=>u.keep b o e n (λz=>(Xn.mp (I.stkSub b z)).elim hL hb) hc) (λb o _ _ hc e n=>u.any e n hc) (λb o hc e n=>u.free b o e n hc) (λb o hc e=>u.there b o e hc) u.tups u.frzs u.tbls (λm' hm=>by
  obtain⟨o',es',ep',ho',r'⟩:=hm;rw[ho]at ho';cases ho';exact⟨_,es',ep',hL,r'⟩) hok hg
theorem B6.turned{t':Nat}{it:Vh}(I:B6 X b5 σ H s)(k:∀b o,b≠it->s.heap.get? b=B3 o->h'.get? b=B3 o)(hn:H it=B0)(hL:it≠X.env.locals)
  (h1:it∈X.ex\/X.s₀.heap.objs.size<=it)(h2:∀x c,X.env.cells.lookup x=B3 c->c≠it)(h3:∀p∈X.pn++b5,p.1≠it):B6 X b5 σ H { s with heap:=h',toks:=t' }:=by
 have nit:∀b u,H b=B3 u->b≠it:=λb u e z=>by rw[z,hn]at e;cases e
 refine I.step (g':=s.gens) (d':=s.drawn) (ch:=[it]) (λb hb=>?_) (λb o _ _ hc e _=>k b o (λz=>hc (by simp[z])) e) (λb o _ _ hc e _=>⟨o.slots,k b o (λz=>hc (by simp[z])) e⟩) (λ_ _ _ _ n=>n)
  (λb o hc e=>⟨o,k b o (λz=>hc (by simp[z])) e⟩) (λ_ _ e=>e) (λ_ _ _ e=>e) (λb ps e=>⟨#[],by rw[e];simp⟩) (λm hm=>?_) (λb u e=>?_) I.bare
 ·have e:b=it:=by simpa using hb
  subst e;exact⟨h1,hL,h2,h3⟩
 ·obtain⟨o,es,ep,ho,r⟩:=hm;exact⟨o,es,ep,k _ o (Uj hL) ho,r⟩
 ·refine(I.hok b u e).stay (λc v hc q=>k c v ?_ q) (λ_ q=>q) λ_ _ q=>q;rcases hc with z |z
  ·rw[z];exact nit b u e
  ·exact nit c _ z
theorem B6.tok(I:B6 X b5 σ H s)(t:Nat):B6 X b5 σ H { s with toks:=t }:=I.un (h':=s.heap) (t':=t) Un.refl I.hok
theorem B6.kept{t':Nat}(I:B6 X b5 σ H s)(k:∀b u,s.heap.get? b=B3 u->h'.get? b=B3 u):B6 X b5 σ H { s with heap:=h',toks:=t' }:=I.un (Un.kept k) (I.hok.kept k)
theorem B6.laid{a:Vh}{o:HO}{t':Nat}(I:B6 X b5 σ H s)(k:∀b u,s.heap.get? b=B3 u->h'.get? b=B3 u)(hp:s.heap.objs.size<=a)(new:N1 X.prog X.w (upd H a o) h' a o) :
  B6 X b5 σ (upd H a o) { s with heap:=h',toks:=t' }:=I.un (Un.laid k hp (I.hok.fresh hp)) (I.hok.laid k hp new)
theorem B6.write{x e:Vh}{o:HO}{t':Nat}(I:B6 X b5 σ H s)(mu:Mut (H x))(he:e=x\/H e=B3 (.own x))(k:∀b u,b≠e->s.heap.get? b=B3 u->h'.get? b=B3 u)(heo:∃u,h'.get? e=B3 u)
  (new:N1 X.prog X.w (upd H x o) h' x o):B6 X b5 σ (upd H x o) { s with heap:=h',toks:=t' }:=I.un (Un.write mu he k heo) (I.hok.write mu he k heo new)
theorem B6.pins_of{pins':List (Vh×Obj)}(I:B6 X b5 σ H s)(h:∀p∈pins',s.heap.get? p.1=B3 p.2/\H p.1=B0/\p.1≠X.env.locals/\p.1∉X.fs/\∀v,p.2.data≠.cell v):B6 X pins' σ H s :=
 ⟨I.ok,I.os,I.bare,I.base,I.loc,I.cell,I.free,I.freeC,λp hp=>(Xf.mp hp).elim (λz=>I.pin p (gC _ z)) (h p),I.hok,I.len⟩
theorem Zi5{N:List Str}(hN:N.Nodup){i j:Nat}{x:Str}(a:N[i]? = B3 x)(b:N[j]? = B3 x):i=j:=by
 obtain⟨h1,e1⟩:=Xg.mp a;obtain⟨h2,e2⟩:=Xg.mp b;exact(Wgs hN).mp (e1.trans e2.symm)
theorem Zk6{M:bT}{A:Vo}{E:Vb->Vd->Prop}{i:Nat}{x:Str}{v:V}{u:Vb}{Q:Unit->Vd->Prop}(I:B6 X b5 σ H s)(hN:X.N.Nodup)(hi:X.N[i]? = B3 x)(hx:mF X.env.scope x)(r:E4 v u)
  (h:∀s',B6 X b5 (σ.set i (B3 v)) H s'->(∃a,R5 a s.heap s'.heap/\(a=X.env.locals\/X.env.cells.lookup x=B3 a))->Q () s')(hf:X.fn x=B1\/X.env.scope.names.lookup x=B3 .local:=by fail "F"):Vk M A (storeName X.env x u) Q E s:=by
 obtain⟨m,hn,hl⟩:=id I.loc;have hcls:(X.env.scope.kind==.class||(X.env.scope.kind==.module&&X.env.locals != X.env.globals))=B2:=by rw[I.ok.kind];rfl
 have hiσ:i<σ.length:=by rw[I.len];exact(Xg.mp hi).1
 have cne:=I.cne;have tracked:∀{a:Vh}{h':C5},(∃o,s.heap.get? a=B3 o/\H a=B0)->R5 a s.heap h'->M5 X.prog X.w H h':=λ{a h'}ha hs b ob e=>by
  obtain⟨_,_,hfree⟩:=ha;refine(I.hok b ob e).stay (λc w' hc q=>(hs.2 c ?_).trans q) (λ_ q=>q) λ_ _ q=>q;rintro rfl;rcases hc with rfl |hc
  ·rw[hfree]at e;cases e
  ·rw[hfree]at hc;cases hc
 rcases hx with hk |hk
 ·refine wpAny_storeName_local hk hn (λh' hn' hs=>?_) hcls;obtain⟨oL,_,_,hoL,_⟩:=id hn;refine h _ ⟨I.ok,I.os,I.bare,⟨λb o e n hb hx=>?_,λb o e n hb hx=>?_,I.base.free,λb o e hx=>?_,I.base.tups,I.base.frzs,I.base.tbls⟩,⟨_,hn',λj y v' e1 e2 e3=>?_⟩,λy c e=>?_,I.free,I.freeC,λp hp=>?_,tracked ⟨oL,hoL,I.free⟩ hs,by simpa using I.len⟩ ⟨_,hs,.inl rfl⟩
  ·exact(hs.2 b (Xp (Xo (Xh e) I.ok.above))).trans (I.base.keep b o e n hb hx)
  ·obtain⟨sl,e1⟩:=I.base.slot b o e n hb hx;exact⟨sl,(hs.2 b (Xp (Xo (Xh e) I.ok.above))).trans e1⟩
  ·obtain⟨o',e1⟩:=I.base.there b o e hx;exact⟨o',(hs.2 b (Xp (Xo (Xh e) I.ok.above))).trans e1⟩
  ·by_cases hj:j=i
   ·subst hj;rw[hi]at e1;cases e1;rw[wB hiσ]at e2;cases e2;exact⟨u,r,.inl ⟨hk,by simp⟩⟩
   ·rw[Z6 (Uj hj)]at e2;obtain⟨u',r',q⟩:=hl j y v' e1 e2 e3;refine⟨u',r',?_⟩;rcases q with ⟨k,e⟩ |⟨k,c,e,z⟩
    ·refine .inl ⟨k,?_⟩;have:y≠x:=λe=>hj (Zi5 hN e1 (e ▸ hi));simp[this,e]
    ·exact .inr ⟨k,c,e,z.sameBut hs (cne y c e)⟩
  ·obtain⟨w',z⟩:=I.cell y c e;exact⟨w',z.sameBut hs (cne y c e)⟩
  ·obtain⟨e,n,ne,nf,d⟩:=I.pin p hp;exact⟨(hs.2 p.1 ne).trans e,n,ne,nf,d⟩
 ·have hfn:X.fn x=B1:=by
   rcases hf with z |z
   ·exact z
   ·rw[z]at hk;cases hk
  obtain⟨c,hc⟩:=I.ok.has x (.inl hk);obtain⟨w',z⟩:=I.cell x c hc;refine wpAny_storeName_cell I.ok.kind hk hc z (λh' hc' hs=>?_);obtain⟨oc,hoc,hocd⟩:=id z;refine h { s with heap:=h' } ⟨I.ok,I.os,I.bare,⟨λb o e n hb hx=>?_,λb o e n hb hx=>?_,I.base.free,λb o e hx=>?_,I.base.tups,I.base.frzs,I.base.tbls⟩,⟨m,hn.sameBut hs (Uj (cne x c hc)),λj y v' e1 e2 e3=>?_⟩,λy c' e=>?_,I.free,I.freeC,λp hp=>?_,tracked ⟨oc,hoc,(I.freeC x c hc).resolve_right (λz=>by rw[hfn]at z;cases z.1)⟩ hs,by simpa using I.len⟩ ⟨c,hs,.inr hc⟩
  ·exact(hs.2 b (Xp (Xo (Xh e) (I.ok.cab x c hfn hc)))).trans (I.base.keep b o e n hb hx)
  ·obtain⟨sl,e1⟩:=I.base.slot b o e n hb hx;exact⟨sl,(hs.2 b (Xp (Xo (Xh e) (I.ok.cab x c hfn hc)))).trans e1⟩
  ·obtain⟨o',e1⟩:=I.base.there b o e hx;exact⟨o',(hs.2 b (Xp (Xo (Xh e) (I.ok.cab x c hfn hc)))).trans e1⟩
  ·by_cases hj:j=i
   ·subst hj;rw[hi]at e1;cases e1;rw[wB hiσ]at e2;cases e2;exact⟨u,r,.inr ⟨.inl hk,c,hc,hc'⟩⟩
   ·rw[Z6 (Uj hj)]at e2;obtain⟨u',r',q⟩:=hl j y v' e1 e2 e3;refine⟨u',r',?_⟩;rcases q with q |⟨k,c',e,z'⟩
    ·exact .inl q
    ·refine .inr ⟨k,c',e,z'.sameBut hs ?_⟩;rintro rfl;exact hj (Zi5 hN e1 (I.ok.inj _ _ _ e hc ▸ hi))
  ·by_cases hcc:c'=c
   ·subst hcc;exact⟨_,hc'⟩
   ·obtain⟨w2,z2⟩:=I.cell y c' e;exact⟨w2,z2.sameBut hs hcc⟩
  ·obtain⟨e,n,ne,nf,d⟩:=I.pin p hp;refine⟨(hs.2 p.1 ?_).trans e,n,ne,nf,d⟩;intro q;rw[q,hoc]at e;have q':oc=p.2:=B3.inj e;exact d w' (by rw[<- q'];exact hocd)
theorem Zja{M:bT}{A:Vo}{E:Vb->Vd->Prop}{i:Nat}{x:Str}{v:V}{u:Vb}{Q:Unit->Vd->Prop}(I:B6 X b5 σ H s)(hN:X.N.Nodup)(hi:X.N[i]? = B3 x)(hx:mF X.env.scope x)(r:E4 v u)
  (h:∀s',B6 X b5 (σ.set i (B3 v)) H s'->Q () s')(hf:X.fn x=B1\/X.env.scope.names.lookup x=B3 .local:=by fail "F"):Vk M A (storeName X.env x u) Q E s :=
 Zk6 I hN hi hx r (λs' I' _=>h s' I') hf
theorem B6.call'{s':Vd}{ch:List Vh}(I:B6 X b5 σ H s)(ho:s'.os=s.os)(u:Un (M7 X.stack) ch H H' s.heap s'.heap)(hok:M5 X.prog X.w H' s'.heap)(hg:bV s'.gens)
  (hch:∀b∈ch,(b∈X.ex\/X.s₀.heap.objs.size<=b)/\b≠X.env.locals/\(∀x c,X.env.cells.lookup x=B3 c->c≠b)/\∀p∈X.pn++b5,p.1≠b):B6 X b5 σ H' s':=by
 obtain⟨h',g',d',t',o'⟩:=s';have e:o'=s.os:=ho;subst e;exact I.call (g':=g') (t':=t') (d':=d') u hok hg hch
end
nonrec abbrev XK:=Vb->Option Vh->Hp->Prop
nonrec abbrev St:=List (Option V)
nonrec abbrev VK:=V->Hp->Prop
nonrec abbrev TE:=St->Hp->VK->Prop
nonrec abbrev TT:=St->Hp->(Bool->Hp->Prop)->Prop
nonrec abbrev TA:=St->Hp->(List V->Hp->Prop)->Prop
structure W0 where
 nx:St->Hp->Prop
 rt:VK
 bk:St->Hp->Prop:=λ_ _=>False
 ct:St->Hp->Prop:=λ_ _=>False
nonrec abbrev TS:=W0->St->Hp->Prop
def EP(X:Cx)(b5:List (Vh×Obj))(σ:St)(Q:VK)(u:Vb)(s':Vd):Prop:=∃v H',B6 X b5 σ H' s'/\E4 v u/\Q v H'
def TP(X:Cx)(b5:List (Vh×Obj))(σ:St)(Q:Bool->Hp->Prop)(b:Bool)(s':Vd):Prop:=∃H',B6 X b5 σ H' s'/\Q b H'
def AP(X:Cx)(b5:List (Vh×Obj))(σ:St)(Q:List V->Hp->Prop)(us:List Vb)(s':Vd):Prop:=∃vs H',B6 X b5 σ H' s'/\D5 vs us/\Q vs H'
def SP(X:Cx)(b5:List (Vh×Obj))(D:W0)(f:Flow)(s':Vd):Prop :=
 match f with
 |.next=>∃σ' H',B6 X b5 σ' H' s'/\D.nx σ' H'
 |.brk=>∃σ' H',B6 X b5 σ' H' s'/\D.bk σ' H'
 |.cont=>∃σ' H',B6 X b5 σ' H' s'/\D.ct σ' H'
 |.ret u=>∃v σ' H',B6 X b5 σ' H' s'/\E4 v u/\D.rt v H'
def PE(X:Cx)(e:Vz)(t:TE):Prop :=
 ∀(b5:List (Vh×Obj))(s:Vd)(σ:St)(H:Hp)(Q:VK),B6 X b5 σ H s->t σ H Q->Vk (Vi X.prog X.w) X.A (eval e X.env) (EP X b5 σ Q) X.xe s
def PT(X:Cx)(e:Vz)(t:TT):Prop :=
 ∀(b5:List (Vh×Obj))(s:Vd)(σ:St)(H:Hp)(Q:Bool->Hp->Prop),B6 X b5 σ H s->t σ H Q->Vk (Vi X.prog X.w) X.A (isTrue e X.env (eval e X.env)) (TP X b5 σ Q) X.xe s
def PW(X:Cx)(e:Vz)(t:TT):Prop :=
 ∀(whole:Sem Vb)(b5:List (Vh×Obj))(s:Vd)(σ:St)(H:Hp)(Q:Bool->Hp->Prop),B6 X b5 σ H s->t σ H Q->Vk (Vi X.prog X.w) X.A (isTrue e X.env whole) (TP X b5 σ Q) X.xe s
def PA(X:Cx)(es:List Vz)(t:TA):Prop :=
 ∀(pos:Pos)(b5:List (Vh×Obj))(s:Vd)(σ:St)(H:Hp)(Q:List V->Hp->Prop),B6 X b5 σ H s->t σ H Q->Vk (Vi X.prog X.w) X.A (spliced (K8 pos (Vg es X.env))) (AP X b5 σ Q) X.xe s
def PS(X:Cx)(st:D2)(t:TS):Prop :=
 ∀(b5:List (Vh×Obj))(s:Vd)(σ:St)(H:Hp)(D:W0),B6 X b5 σ H s->t D σ H->Vk (Vi X.prog X.w) X.A (exec st X.env) (SP X b5 D) X.xe s
def T6(X:Cx)(st:List D2)(t:TS):Prop :=
 ∀(b5:List (Vh×Obj))(s:Vd)(σ:St)(H:Hp)(D:W0),B6 X b5 σ H s->t D σ H->Vk (Vi X.prog X.w) X.A (execs st X.env) (SP X b5 D) X.xe s
theorem D7{α:Type}{t:Sem α}{Q Q':α->Vd->Prop}{M:bT}{A:Vo}{E:Vb->Vd->Prop}{s:Vd}(h:Vk M A t Q E s)(hQ:∀a s,Q a s->Q' a s):Vk M A t Q' E s:=Vr h hQ λ_ _ x=>x
section
variable{X:Cx}
nonrec def jS(i:Nat):TE:=λσ H Q=>∃v,σ[i]? = B3 (B3 v)/\Q v H
nonrec def tC(v:V):TE:=λ_ H Q=>Q v H
theorem Ycg{i:Nat}{x:Str}{pos:Pos}(hN:X.N[i]? = B3 x)(hv:Vis X.env.scope x)(hd:(x==("__debug__" : Str))=B2:=by decide)(hcd:(x==("__classdict__" : Str))=B2:=by decide):PE X (.Name x pos) (jS i):=by
 intro b5 s σ H Q I h;obtain⟨v,e,h⟩:=h;obtain⟨m,hn,hl⟩:=I.loc;obtain⟨u,r,l⟩:=hl i x v hN e hv;have fin:EP X b5 σ Q u s:=⟨v,H,I,r,h⟩
 rcases l with ⟨hk,hm⟩ |⟨hk,c,hc,hcell⟩
 ·exact wpAny_Name (wpAny_loadName_local I.ok.kind hk hn hm fin) hd
 ·rcases hk with hk |hk
  ·exact wpAny_Name (wpAny_loadName_cell I.ok.kind hk hc hcell fin) hd
  ·exact wpAny_Name (wpAny_loadName_free I.ok.kind hk hc hcell fin hcd) hd
theorem Ybg{i j pos}:PE X (.Constant (.int i) j pos) (tC (.int i)):=λ_ _ _ H _ I h=>wpAny_Constant_int ⟨.int i,H,I.tok _,⟨_,rfl⟩,h⟩
theorem rE{b j pos}:PE X (.Constant (.bool b) j pos) (tC (.bl b)):=λ_ _ _ H _ I h=>Constant_bool ⟨.bl b,H,I,rfl,h⟩
theorem Yag{j pos}:PE X (.Constant .none j pos) (tC .non):=λ_ _ _ H _ I h=>Constant_none ⟨.non,H,I,rfl,h⟩
theorem Zvz{x j pos}:PE X (.Constant (.str x) j pos) (tC (.str x)):=λ_ _ _ H _ I h=>Calls.Constant_str ⟨.str x,H,I.tok _,⟨_,rfl⟩,h⟩
def Gl(X:Cx)(x:Str):Prop:=X.env.kindOf x=B3 .globalImplicit
theorem iI{E:Vb->Vd->Prop}{b5:List (Vh×Obj)}{s:Vd}{σ:St}{H:Hp}{x:Str}{u:Vb}{pos:Pos}{Q:Vb->Vd->Prop}(I:B6 X b5 σ H s)(hg:Gl X x)(hm:X.mg x=B3 u)(h:Q u s)
  (hd:(x==("__debug__" : Str))=B2:=by decide):Vk (Vi X.prog X.w) X.A (eval (.Name x pos) X.env) Q E s :=
 Tbf I.ok.kind hg (Calls.loadGlobal_global (by rw[I.ok.glob];exact I.mod.glob.keeps I.bk) hm h) hd
theorem dR{E:Vb->Vd->Prop}{b5:List (Vh×Obj)}{s:Vd}{σ:St}{H:Hp}{x:Str}{u:Vb}{pos:Pos}{Q:Vb->Vd->Prop}(I:B6 X b5 σ H s)(hg:Gl X x)(hm:X.mg x=B0)(hv:Vv x=B3 u)(h:Q u s)
  (hn:x ≠ "__name__" := by decide)(hd:(x==("__debug__" : Str))=B2:=by decide):Vk (Vi X.prog X.w) X.A (eval (.Name x pos) X.env) Q E s:=by
 obtain⟨mb,h1,h2⟩:=I.mod.blt;exact Tbf I.ok.kind hg (Calls.loadGlobal_builtin (by rw[I.ok.glob];exact I.mod.glob.keeps I.bk) hm (by rw[I.ok.blt];exact h1.keeps I.bk) ((h2 x hn).trans hv) h) hd
theorem Zsr{x:Str}{v:V}{u:Vb}{pos:Pos}(hg:Gl X x)(hm:X.mg x=B3 u)(r:E4 v u)(hd:(x==("__debug__" : Str))=B2:=by decide):PE X (.Name x pos) (tC v) :=
 λ_ _ _ H _ I h=>iI I hg hm ⟨v,H,I,r,h⟩ hd
theorem Zxy{x:Str}{v:V}{u:Vb}{pos:Pos}(hg:Gl X x)(hm:X.mg x=B0)(hv:Vv x=B3 u)(r:E4 v u)(hn:x ≠ "__name__" := by decide)(hd:(x==("__debug__" : Str))=B2:=by decide):PE X (.Name x pos) (tC v) :=
 λ_ _ _ H _ I h=>dR I hg hm hv ⟨v,H,I,r,h⟩ hn hd
variable{a b:Vz}{ta tb:TE}{pos:Pos}
variable{tA tB':TT}{rest:List Vz}
nonrec def tAnd(t u:TT):TT:=λσ H Q=>t σ H λc H1=>if c=B1 then u σ H1 Q else Q B2 H1
nonrec def tOr(t u:TT):TT:=λσ H Q=>t σ H λc H1=>if c=B1 then Q B1 H1 else u σ H1 Q
nonrec def tNot(t:TT):TT:=λσ H Q=>t σ H λc H1=>Q (!c) H1
theorem Zxg(ha:PT X a tA):PW X (.BoolOp .And [a] pos) tA:=by
 intro wh b5 s σ H Q I h;refine isTrue_and (D7 (ha b5 s σ H Q I h) λc s1 e=>?_);cases c with
 |true=>exact isTrue_and_nil e
 |false=>exact e
theorem Yak(ha:PT X a tA):PW X (.BoolOp .Or [a] pos) tA:=by
 intro wh b5 s σ H Q I h;refine isTrue_or (D7 (ha b5 s σ H Q I h) λc s1 e=>?_);cases c with
 |false=>exact isTrue_or_nil e
 |true=>exact e
theorem Zz1(ha:PT X a tA)(hb:PW X (.BoolOp .And (b::rest) pos) tB'):PW X (.BoolOp .And (a::b::rest) pos) (tAnd tA tB'):=by
 intro wh b5 s σ H Q I h;refine isTrue_and (D7 (ha b5 s σ H _ I h) λc s1 zz=>?_);obtain⟨H1,I1,q1⟩:=zz;cases c with
 |true=>exact hb wh b5 s1 σ H1 Q I1 q1
 |false=>exact⟨H1,I1,q1⟩
theorem qW(ha:PT X a tA)(hb:PW X (.BoolOp .Or (b::rest) pos) tB'):PW X (.BoolOp .Or (a::b::rest) pos) (tOr tA tB'):=by
 intro wh b5 s σ H Q I h;refine isTrue_or (D7 (ha b5 s σ H _ I h) λc s1 zz=>?_);obtain⟨H1,I1,q1⟩:=zz;cases c with
 |true=>exact⟨H1,I1,q1⟩
 |false=>exact hb wh b5 s1 σ H1 Q I1 q1
theorem Ycv(ha:PT X a tA):PT X (.UnaryOp .Not a pos) (tNot tA):=by
 intro b5 s σ H Q I h;exact isTrue_not (ha b5 s σ H (λc H1=>Q (!c) H1) I h)
nonrec def qN(ta tb:TE):TE:=λσ H Q=>ta σ H λx H1=>∃c,x=.bl c/\if c=B1 then tb σ H1 Q else Q (.bl B2) H1
theorem Yck{op}{t:TE}(h:PE X a t):PE X (.BoolOp op [a] pos) t:=λb5 s σ H Q I hw=>BoolOp_one (h b5 s σ H Q I hw)
theorem Ycx(ha:PE X a ta)(hb:PE X (.BoolOp .And (b::rest) pos) tb):PE X (.BoolOp .And (a::b::rest) pos) (qN ta tb):=by
 intro b5 s σ H Q I h;refine BoolOp_and (D7 (ha b5 s σ H _ I h) λv s1 zz=>?_);obtain⟨x,H1,I1,r1,q1⟩:=zz;obtain⟨c,rfl,q1⟩:=q1;cases r1;refine xA ?_;cases c with
 |true=>exact hb b5 s1 σ H1 Q I1 q1
 |false=>exact⟨.bl B2,H1,I1,rfl,q1⟩
nonrec def tIf(t:TT)(ta tb:TE):TE:=λσ H Q=>t σ H λc H1=>if c=B1 then ta σ H1 Q else tb σ H1 Q
theorem Zui{c:Vz}(hc:PT X c tA)(ha:PE X a ta)(hb:PE X b tb):PE X (.IfExp c a b pos) (tIf tA ta tb):=by
 intro b5 s σ H Q I h;refine wpAny_IfExp (D7 (hc b5 s σ H _ I h) λd s1 zz=>?_);obtain⟨H1,I1,q1⟩:=zz;cases d with
 |true=>exact ha b5 s1 σ H1 Q I1 q1
 |false=>exact hb b5 s1 σ H1 Q I1 q1
end
def G7(K:Xa)(H:Hp)(a:Vh)(xs:List V):Prop :=
 Rd H a (.lst xs) \/
  ∃(o:Obj)(b9:Array Vb)(n:Nat),K.lookup a=B3 o/\o.cls=.type "list" /\ o.dict=B0/\o.data=.seq b9 n/\b9.size<=sizeLine/\D5 xs b9.toList
def M4(K:Xa)(H:Hp)(a:Vh)(xs:List V):Prop :=
 Rd H a (.tup xs) \/
  ∃(o:Obj)(b9:Array Vb)(n:Nat),K.lookup a=B3 o/\o.cls=.type "tuple" /\ o.data=.seq b9 n/\b9.size<=sizeLine/\D5 xs b9.toList/\o.dict=B0
nonrec def absV:Vb->Option V
 |.none=>B3 .non
 |.bool b=>B3 (.bl b)
 |.int i _=>B3 (.int i)
 |.str x _=>B3 (.str x)
 |.bytes b _=>B3 (.byt b)
 |.float b _=>B3 (.flt b)
 |.ref a=>B3 (.ref a)
 |.type n=>B3 (.ty n)
 |_=>B0
theorem E4.abs{x:V}{u:Vb}(r:E4 x u):absV u=B3 x:=by
 cases x with
 |non=>cases r;rfl
 |bl _=>cases r;rfl
 |int _=>obtain⟨t,rfl⟩:=r;rfl
 |str _=>obtain⟨t,rfl⟩:=r;rfl
 |byt _=>obtain⟨t,rfl⟩:=r;rfl
 |flt _=>obtain⟨t,rfl⟩:=r;rfl
 |ref _=>cases r;rfl
 |ty _=>cases r;rfl
theorem E4.inj{x y:V}{u:Vb}(r:E4 x u)(q:E4 y u):x=y:=B3.inj (r.abs.symm.trans q.abs)
theorem D5.inj:∀{xs ys:List V}{us:List Vb},D5 xs us->D5 ys us->xs=ys:=by
 intro xs ys us h
 induction h generalizing ys with
 |nil=>intro h';cases h';rfl
 |cons r t ih=>
  intro h';cases h' with
  |cons r' t'=>rw[r.inj r',ih t']
section
variable{X:Cx}{b5:List (Vh×Obj)}{σ:St}{H:Hp}{s:Vd}{a:Vh}{xs ys:List V}
theorem G7.of{K:Xa}(h:H a=B3 (.lst xs)):G7 K H a xs:=.inl (.inl h)
theorem M4.of{K:Xa}(h:H a=B3 (.tup xs)):M4 K H a xs:=.inl (.inl h)
theorem B6.list(I:B6 X b5 σ H s)(h:G7 X.K H a xs):∃b9:List Vb,D5 xs b9/\PlainL s.heap a b9.toArray/\xs.length<=sizeLine:=by
 rcases h with h |⟨o,b9,n,hk,hc,hd,hs,hz,r⟩
 ·obtain⟨z,b9,n,r,e⟩:=h.ok I.hok;exact⟨b9,r,⟨_,n,e,rfl,rfl,rfl⟩,z⟩
 ·refine⟨b9.toList,r,⟨o,n,I.kIn a o hk,hc,hd,by simpa using hs⟩,?_⟩;have e:=r.length;simp only[Xw]at e;omega
theorem B6.tuple(I:B6 X b5 σ H s)(h:M4 X.K H a xs):∃b9:List Vb,D5 xs b9/\Q0 s.heap a b9.toArray/\xs.length<=sizeLine:=by
 rcases h with h |⟨o,b9,n,hk,hc,hs,hz,r,_⟩
 ·obtain⟨z,b9,r,p⟩:=h.ok I.hok;exact⟨b9,r,p.tup,z⟩
 ·refine⟨b9.toList,r,⟨o,I.kIn a o hk,hc,n,by simpa using hs⟩,?_⟩;have e:=r.length;simp only[Xw]at e;omega
theorem B6.list_inj(I:B6 X b5 σ H s)(h:G7 X.K H a xs)(h':G7 X.K H a ys):xs=ys:=by
 obtain⟨b9,r,⟨o,n,e,_,_,d⟩,_⟩:=I.list h;obtain⟨its',r',⟨o',n',e',_,_,d'⟩,_⟩:=I.list h';rw[e]at e';cases e';rw[d]at d';injection d' with d1 _;have:b9=its':=by simpa using congrArg Array.toList d1
 subst this;exact r.inj r'
theorem B6.tuple_inj(I:B6 X b5 σ H s)(h:M4 X.K H a xs)(h':M4 X.K H a ys):xs=ys:=by
 obtain⟨b9,r,⟨o,e,_,n,d⟩,_⟩:=I.tuple h;obtain⟨its',r',⟨o',e',_,n',d'⟩,_⟩:=I.tuple h';rw[e]at e';cases e';rw[d]at d';injection d' with d1 _;have:b9=its':=by simpa using congrArg Array.toList d1
 subst this;exact r.inj r'
end
nonrec abbrev Cx.wish(X:Cx)(E:Vb->Vd->Prop):Cx:={ X with xe:=E }
nonrec abbrev Cx.nox(X:Cx):Cx:=X.wish λ_ _=>False
theorem Cx.Ok.wish{X:Cx}(ok:X.Ok)(E:Vb->Vd->Prop):(X.wish E).Ok :=
 ⟨ok.mod,ok.kind,ok.glob,ok.blt,ok.above,ok.inj,ok.has,ok.cab,ok.hd,ok.frames,ok.stk,ok.exf,ok.bs,ok.bsz,ok.noex,ok.exfs,ok.funs,ok.frf⟩
theorem Cx.Ok.unwish{X:Cx}{E:Vb->Vd->Prop}(ok:(X.wish E).Ok):X.Ok :=
 ⟨ok.mod,ok.kind,ok.glob,ok.blt,ok.above,ok.inj,ok.has,ok.cab,ok.hd,ok.frames,ok.stk,ok.exf,ok.bs,ok.bsz,ok.noex,ok.exfs,ok.funs,ok.frf⟩
section
variable{X:Cx}{b5:List (Vh×Obj)}{σ:St}{H:Hp}{s:Vd}{E:Vb->Vd->Prop}
theorem B6.wish(I:B6 X b5 σ H s)(E:Vb->Vd->Prop):B6 (X.wish E) b5 σ H s:=⟨I.ok.wish E,I.os,I.bare,I.base,I.loc,I.cell,I.free,I.freeC,I.pin,I.hok,I.len⟩
theorem B6.unwish(I:B6 (X.wish E) b5 σ H s):B6 X b5 σ H s:=⟨I.ok.unwish,I.os,I.bare,I.base,I.loc,I.cell,I.free,I.freeC,I.pin,I.hok,I.len⟩
theorem SP.unwish{D:W0}{f:Flow}{s':Vd}(h:SP (X.wish E) b5 D f s'):SP X b5 D f s':=by
 cases f with
 |next=>obtain⟨σ',H',I,q⟩:=h;exact⟨σ',H',I.unwish,q⟩
 |brk=>obtain⟨σ',H',I,q⟩:=h;exact⟨σ',H',I.unwish,q⟩
 |cont=>obtain⟨σ',H',I,q⟩:=h;exact⟨σ',H',I.unwish,q⟩
 |ret u=>obtain⟨v,σ',H',I,r,q⟩:=h;exact⟨v,σ',H',I.unwish,r,q⟩
theorem PT.nox{e:Vz}{t:TT}(h:PT X.nox e t):PT X e t:=λb5 s σ H Q I hw=>
 Vr (h b5 s σ H Q (I.wish _) hw) (λ_ _⟨H',I',q⟩=>⟨H',I'.unwish,q⟩) λ_ _ z=>Uh z
theorem T6.nox{st:List D2}{t:TS}(h:T6 X.nox st t):T6 X st t:=λb5 s σ H D I hw=>
 Vr (h b5 s σ H D (I.wish _) hw) (λ_ _ q=>q.unwish) λ_ _ z=>Uh z
end
section
variable{X:Cx}{st:D2}{rest:List D2}{t u:TS}{e:Vz}{te:TE}{pos:Pos}
nonrec def tNext:TS:=λD σ H=>D.nx σ H
nonrec def tSeq(t u:TS):TS:=λD σ H=>t { D with nx:=u D } σ H
theorem Zxx:T6 X [] tNext:=λ_ _ σ H _ I h=>wY ⟨σ,H,I,h⟩
theorem Zjt(h1:PS X st t)(h2:T6 X rest u):T6 X (st::rest) (tSeq t u):=by
 intro b5 s σ H D I h;refine Ucw (D7 (h1 b5 s σ H { D with nx:=u D } I h) λf s1 q=>?_);cases f with
 |next=>
  obtain⟨σ',H',I',q⟩:=q;exact h2 b5 s1 σ' H' D I' q
 |ret v=>exact q
 |brk=>exact q
 |cont=>exact q
theorem B6.quiet{b5:List (Vh×Obj)}{σ:St}{H:Hp}{s:Vd}(I:B6 X b5 σ H s):interactive X.env=B2:=by simp[interactive,I.ok.kind]
nonrec def qK(te:TE):TS:=λD σ H=>te σ H λ_ H1=>D.nx σ H1
theorem Zpr(he:PE X e te)(hs:dB e B0 pos.line X.env=pure B2:=by rfl):PS X (.Expr e pos) (qK te):=by
 intro b5 s σ H D I h;exact Udt (D7 (he b5 s σ H _ I h) λv s1⟨x,H1,I1,r1,q1⟩=>⟨σ,H1,I1,q1⟩) I.quiet hs
nonrec def tRet(te:TE):TS:=λD σ H=>te σ H D.rt
theorem Yai(he:PE X e te):PS X (.Return (B3 e) pos) (tRet te):=by
 intro b5 s σ H D I h;exact wpAny_Return_some (D7 (he b5 s σ H _ I h) λv s1⟨x,H1,I1,r1,q1⟩=>⟨x,σ,H1,I1,r1,q1⟩)
nonrec def tIfS(c:TT)(t u:TS):TS:=λD σ H=>c σ H λb H1=>if b=B1 then t D σ H1 else u D σ H1
theorem Ybz{c:Vz}{a b:List D2}{tc:TT}(hc:PT X c tc)(ha:T6 X a t)(hb:T6 X b u):PS X (.If c a b pos) (tIfS tc t u):=by
 intro b5 s σ H D I h;refine wpAny_If (D7 (hc b5 s σ H _ I h) λd s1 zz=>?_);obtain⟨H1,I1,q1⟩:=zz;cases d with
 |true=>exact ha b5 s1 σ H1 D I1 q1
 |false=>exact hb b5 s1 σ H1 D I1 q1
end
nonrec abbrev TG:=V->St->Hp->(St->Hp->Prop)->Prop
nonrec abbrev gH:=List V->St->Hp->(St->Hp->Prop)->Prop
def PG(X:Cx)(target:Vz)(t:TG):Prop :=
 ∀(b5:List (Vh×Obj))(s:Vd)(σ:St)(H:Hp)(v:V)(u:Vb)(Q:St->Hp->Prop),B6 X b5 σ H s->E4 v u->t v σ H Q ->
  Vk (Vi X.prog X.w) X.A (cZ target X.env u) (λ_ s'=>∃σ' H',B6 X b5 σ' H' s'/\Q σ' H') X.xe s
def mC(X:Cx)(ts:List Vz)(t:gH):Prop :=
 ∀(b5:List (Vh×Obj))(s:Vd)(σ:St)(H:Hp)(vs:List V)(us:List Vb)(Q:St->Hp->Prop),B6 X b5 σ H s->D5 vs us->t vs σ H Q ->
  Vk (Vi X.prog X.w) X.A (assignInOrder ((dC ts X.env).map (·.2)) us) (λ_ s'=>∃σ' H',B6 X b5 σ' H' s'/\Q σ' H') X.xe s
nonrec abbrev TSet:=V->V->V->Hp->(Hp->Prop)->Prop
def xO(X:Cx)(t:TSet):Prop :=
 ∀(b5:List (Vh×Obj))(s:Vd)(σ:St)(H:Hp)(o i v:V)(ov iv u:Vb)(Q:Hp->Prop),B6 X b5 σ H s->E4 o ov->E4 i iv->E4 v u->t o i v H Q ->
  Vk (Vi X.prog X.w) X.A (setItem ov iv u) (λ_ s'=>∃H',B6 X b5 σ H' s'/\Q H') X.xe s
section
variable{X:Cx}{pos:Pos}
nonrec def sK(i:Nat):TG:=λv σ H Q=>Q (σ.set i (B3 v)) H
theorem Zqh{i:Nat}{x:Str}(hN:X.N.Nodup)(hi:X.N[i]? = B3 x)(hx:mF X.env.scope x)(hf:X.fn x=B1\/X.env.scope.names.lookup x=B3 .local:=by fail "F"):PG X (.Name x pos) (sK i):=by
 intro b5 s σ H v u Q I r h;exact wpAny_assign_Name (Zja I hN hi hx r (λs' I'=>⟨_,H,I',h⟩) hf)
nonrec def gNil:gH:=λvs σ H Q=>vs=[]/\Q σ H
nonrec def rZ(t:TG)(u:gH):gH:=λvs σ H Q=>∃v r,vs=v::r/\t v σ H λσ' H'=>u r σ' H' Q
theorem Zx2:mC X [] gNil:=by
 intro b5 s σ H vs us Q I r h;obtain⟨e,h⟩:=h;subst e;cases r;exact assignInOrder_nil ⟨σ,H,I,h⟩
theorem Ztj{e:Vz}{es:List Vz}{t:TG}{u:gH}(h1:PG X e t)(h2:mC X es u)
  (hs:(dC (e::es) X.env).map (·.2)=cZ e X.env::(dC es X.env).map (·.2):=by rfl):mC X (e::es) (rZ t u):=by
 intro b5 s σ H vs us Q I r h;obtain⟨v,vr,e1,h⟩:=h;subst e1;cases r with
 |cons r rr=>
  rw[hs];refine assignInOrder_cons (D7 (h1 b5 s σ H _ _ _ I r h) λ_ s1 zz=>?_);obtain⟨σ1,H1,I1,q1⟩:=zz;exact h2 b5 s1 σ1 H1 _ _ Q I1 rr q1
nonrec def gTup(K:Xa)(n:Nat)(t:gH):TG:=λv σ H Q=>∃a xs,v=.ref a/\M4 K H a xs/\xs.length=n/\t xs σ H Q
theorem Zz6{es:List Vz}{k:Nat}{t:gH}{n:Nat}(hc:X.calm=B1)(h:mC X es t)
  (hn:(dC es X.env).length=n:=by rfl)(hst:(dC es X.env).findIdx? (·.1)=B0:=by rfl):PG X (.Tuple es k pos) (gTup X.K n t):=by
 intro b5 s σ H v u Q I r hw;obtain⟨a,xs,e1,hq,hl,hw⟩:=hw;subst e1;cases r;obtain⟨b9,rv,ht,hz⟩:=I.tuple hq;refine assign_Tuple_tuple (I.ok.hd hc) ht (by simp[hn,<- hl,rv.length]) hst λh' hx=>?_;have I1:B6 X b5 σ H { s with heap:=h' }:=I.kept (t':=s.toks) λb o e=>hx b o (Xp (Xh e)) e;exact h b5 _ σ H xs _ Q I1 (by simpa using rv) hw
nonrec def gSub(to ti:TE)(t:TSet):TG:=λv σ H Q=>to σ H λo H1=>ti σ H1 λi H2=>t o i v H2 λH3=>Q σ H3
theorem Ych{o i:Vz}{to ti:TE}{t:TSet}(ho:PE X o to)(hi:PE X i ti)(hs:xO X t)
  (ha:∀v,cZ (.Subscript o i pos) X.env v=(do
   let ov<-gG [v] (eval o X.env)
   let iv<-gG [v,ov] (eval i X.env)
   standAt pos
   gG [v,ov,iv] (setItem ov iv v)
   release [v,ov,iv] []):=by intro _;rfl):PG X (.Subscript o i pos) (gSub to ti t):=by
 intro b5 s σ H v u Q I r h;rw[ha];refine Va (Vq (D7 (ho b5 s σ H _ I h) λov s1 zz=>?_));obtain⟨x,H1,I1,r1,q1⟩:=zz;refine Va (Vq (D7 (hi b5 s1 σ H1 _ I1 q1) λiv s2 zz=>?_));obtain⟨y,H2,I2,r2,q2⟩:=zz;refine Va (Uee (Va (Vq (D7 (hs b5 s2 σ H2 x y v ov iv u _ I2 r1 r2 r q2) λ_ s3 zz=>?_))));obtain⟨H3,I3,q3⟩:=zz;exact wpAny_release ⟨σ,H3,I3,q3⟩
nonrec def jT(te:TE)(g:TG):TS:=λD σ H=>te σ H λx H1=>g x σ H1 D.nx
theorem Ybj{tg e:Vz}{te:TE}{g:TG}(he:PE X e te)(hg:PG X tg g)(hs:swapsWithSole [tg] e pos.line X.env=pure B2:=by rfl)(hw:swappedStores [tg] e X.env=pure B0:=by rfl)
  (h1:(dC [tg] X.env).map (·.2)=[cZ tg X.env]:=by rfl):PS X (.Assign [tg] e pos) (jT te g):=by
 intro b5 s σ H D I h;refine wpAny_Assign_stores (D7 (he b5 s σ H _ I h) λv s1 zz=>?_) hs hw;obtain⟨x,H1,I1,r1,q1⟩:=zz;rw[h1];exact D7 (hg b5 s1 σ H1 x v _ I1 r1 q1) λ_ s2 q=>q
theorem Zwr{i:Nat}{x:Str}{e:Vz}{te:TE}{pos':Pos}(hN:X.N.Nodup)(hi:X.N[i]? = B3 x)(hx:mF X.env.scope x)(he:PE X e te)(hs:dB e (B3 (.Name x pos')) pos.line X.env=pure B2:=by rfl)(hf:X.fn x=B1\/X.env.scope.names.lookup x=B3 .local:=by fail "F") :
  PS X (.Assign [.Name x pos'] e pos) (jT te (sK i)):=by
 intro b5 s σ H D I h;refine wpAny_Assign_Name (D7 (he b5 s σ H _ I h) λv s1 zz=>?_) hs;obtain⟨y,H1,I1,r1,q1⟩:=zz;exact Zja I1 hN hi hx r1 (λs2 I2=>⟨_,H1,I2,q1⟩) hf
end
section
variable{X:Cx}{pos:Pos}
nonrec def Ybx(c:TT)(tb:TS):TS:=λD σ H=>∃W:Nat->St->Hp->Prop,(∃m,W m σ H)/\∀m σ H,W m σ H ->
 c σ H λb H1=>if b=B1 then ∃N:St->Hp->Prop,(∀σ' H',N σ' H'->∃m',m'<m/\W m' σ' H')/\tb { D with nx:=N,ct:=N,bk:=D.nx } σ H1 else D.nx σ H1
theorem Zt3{c:Vz}{body:List D2}{tc:TT}{tb:TS}(hp:lN (Vi X.prog X.w) X.A X.env X.xe)(hc:PT X c tc)(hb:T6 X body tb):PS X (.While c body [] pos) (Ybx tc tb):=by
 intro b5 s σ H D I h;obtain⟨W,⟨m0,w0⟩,turn⟩:=h;refine wpAny_While (codeAny_whileLoop (λn s'=>∃σ' H',B6 X b5 σ' H' s'/\W n σ' H') ?_ m0 ⟨σ,H,I,w0⟩);rintro n s1 ⟨σ1,H1,I1,w1⟩;refine lT hp (D7 (hc b5 s1 σ1 H1 _ I1 (turn n σ1 H1 w1)) λb s2 zz=>?_);obtain⟨H2,I2,q2⟩:=zz;cases b with
 |true=>
  obtain⟨N,hN,q2⟩:=q2;rw[d7 rfl];refine lT hp (D7 (hb b5 s2 σ1 H2 _ I2 q2) λf s3 q3=>?_);cases f with
  |next=>
   obtain⟨σ3,H3,I3,n3⟩:=q3;obtain⟨m',hm,w3⟩:=hN σ3 H3 n3;exact⟨m',hm,σ3,H3,I3,w3⟩
  |cont=>
   obtain⟨σ3,H3,I3,n3⟩:=q3;obtain⟨m',hm,w3⟩:=hN σ3 H3 n3;exact⟨m',hm,σ3,H3,I3,w3⟩
  |brk=>exact q3
  |ret v=>exact q3
 |false=>
  rw[d9 cY];exact wY ⟨σ1,H2,I2,q2⟩
end
structure It where
 go:Nat->Hp->Prop
 yld:Nat->Hp->V->Hp->Prop
 stop:Nat->Hp->Prop
def cI(X:Cx)(b5:List (Vh×Obj))(H:Hp)(b:Vh):Prop :=
 H b=B0/\b≠X.env.locals/\b∉X.fs/\(b∈X.ex\/X.s₀.heap.objs.size<=b)/\(∀x c,X.env.cells.lookup x=B3 c->c≠b)/\∀p∈X.pn++b5,p.1≠b
theorem B6.fpOk{X:Cx}{b5:List (Vh×Obj)}{σ:St}{H H':Hp}{s:Vd}{b:Vh}(I:B6 X b5 σ H s)(hb:s.heap.objs.size<=b)(hn:H' b=B0):cI X b5 H' b:=by
 refine⟨hn,vO (Xo I.lt hb),I.nofs hb,.inr (N2 I.sz hb),λx c e z=>?_,λp hp z=>?_⟩
 ·obtain⟨v,q⟩:=I.cell x c e;exact absurd (Xo q.lt (by rw[z];exact hb)) (cU _)
 ·exact absurd (Xo (Xh (I.pin p hp).1) (by rw[z];exact hb)) (cU _)
structure bD(P:Vl)(w:Vs)(K:Xa)(tg:Vz)(J:It)(fp:List Vh)(it:Vh)(tn:Nat->C5->Prop):Prop where
 mem:it∈fp
 obj:∀i h,tn i h->∀b∈fp,∃o,h.get? b=B3 o/\∀v,o.data≠.cell v
 keep:∀i h h',tn i h->(∀b∈fp,∀o,h.get? b=B3 o->h'.get? b=B3 o)->tn i h'
 item:∀(X:Cx),X.prog=P->X.w=w->X.K=K->X.calm=B1->∀(i:Nat)(b5:List (Vh×Obj))(s:Vd)(σ:St)(H:Hp)(E:Vb->Vd->Prop),B6 X b5 σ H s->(∀b∈fp,cI X b5 H b)->tn i s.heap->J.go i H ->
  Vk (Vi P w) X.A (bU (.ref it)) (λr s1=>∃u,r=B3 u /\
   Vk (Vi P w) X.A (Udf tg (.ref it) u) (λ_ s2=>∃x H',B6 X b5 σ H' s2/\E4 x u/\J.yld i H x H'/\tn (i+1) s2.heap/\∀b∈fp,H' b=B0) E s1) E s
 done:∀(X:Cx),X.prog=P->X.w=w->X.K=K->X.calm=B1->∀(i:Nat)(b5:List (Vh×Obj))(s:Vd)(σ:St)(H:Hp)(E:Vb->Vd->Prop),B6 X b5 σ H s->(∀b∈fp,cI X b5 H b)->tn i s.heap->J.stop i H ->
  Vk (Vi P w) X.A (bU (.ref it)) (λr s1=>r=B0/\B6 X b5 σ H s1) E s
 self:∀(A:Vo)(i:Nat)(s:Vd)(Q:Vb->Vd->Prop)(E:Vb->Vd->Prop),tn i s.heap->Q (.ref it) s->Vk (Vi P w) A (gE (.ref it)) Q E s
nonrec abbrev TI:=St->Hp->(It->Hp->Prop)->Prop
def PIE(X:Cx)(b5:List (Vh×Obj))(σ:St)(tg:Vz)(R:It->Hp->Prop)(itv:Vb)(s2:Vd):Prop :=
 ∃(it:Vh)(fp:List Vh)(tn:Nat->C5->Prop)(J:It)(H':Hp),itv=.ref it/\B6 X b5 σ H' s2/\bD X.prog X.w X.K tg J fp it tn/\tn 0 s2.heap/\(∀b∈fp,cI X b5 H' b)/\R J H'
def PI(X:Cx)(tg iter:Vz)(wi:TI):Prop :=
 ∀(b5:List (Vh×Obj))(s:Vd)(σ:St)(H:Hp)(R:It->Hp->Prop),B6 X b5 σ H s->wi σ H R ->
  Vk (Vi X.prog X.w) X.A (eval iter X.env) (λv s1=>Vk (Vi X.prog X.w) X.A (gE v) (PIE X b5 σ tg R) X.xe s1) X.xe s
theorem Zue{M:bT}{A:Vo}{E:Vb->Vd->Prop}{s:Vd}{tg:Vz}{it:Vh}{u:Vb}{o:Obj}{n:String}{vs:Array Vb}{Q:Unit->Vd->Prop}(ho:s.heap.get? it=B3 o)(hc:o.cls=.type n)(hd:o.data=.fields vs)
  (hn:["enumerate","zip","dict_itemiterator","dict_reverseitemiterator","odict_iterator","itertools.zip_longest","itertools.pairwise"].contains n=B2)(hQ:Q () s):Vk M A (Udf tg (.ref it) u) Q E s:=by
 unfold Udf;cases tg<;>first
  |exact Vc hQ
  |(cases u<;>first
    |exact Vc hQ
    |( refine Va (Uei ho ?_)
       rw[hc,hd];show Vk M A (if (["enumerate","zip","dict_itemiterator","dict_reverseitemiterator","odict_iterator","itertools.zip_longest","itertools.pairwise"].contains n&&vs[0]? == B3 (U8 _))=B1 then _ else _) Q E s;rw[d9 (by intro h;rw[hn,Bool.false_and]at h;cases h)];exact Vc hQ))
nonrec def Itl(K:Xa)(a:Vh):It :=
 ⟨λi H=>∃xs x,G7 K H a xs/\xs[i]? = B3 x,λi H x H'=>H'=H/\∀xs,G7 K H a xs->xs[i]? = B3 x,λi H=>∃xs,G7 K H a xs/\xs.length<=i⟩
nonrec def Itt(K:Xa)(a:Vh):It :=
 ⟨λi H=>∃xs x,M4 K H a xs/\xs[i]? = B3 x,λi H x H'=>H'=H/\∀xs,M4 K H a xs->xs[i]? = B3 x,λi H=>∃xs,M4 K H a xs/\xs.length<=i⟩
nonrec def Itr(lo:Int)(n:Nat):It:=⟨λi _=>i<n,λi H x H'=>H'=H/\x=.int (lo+i),λi _=>n<=i⟩
theorem Zq9{P:Vl}{w:Vs}{K:Xa}{tg:Vz}(a it:Vh):bD P w K tg (Itl K a) [it] it (λi h=>h.IsListIter it a i) where
 mem:=by simp
 obj:=λi h st b hb=>by
  have e:b=it:=by simpa using hb
  subst e;obtain⟨o,e,c,d⟩:=st;exact⟨o,e,λv z=>by rw[d]at z;cases z⟩
 keep:=λi h h' st k=>st.at λo e=>k it g8 o e
 item:=by
  intro X hP hw hK hc i b5 s σ H E I hf st hg;subst hP hw hK;obtain⟨xs,x,hq,hx⟩:=hg;obtain⟨b9,rv,p,hz⟩:=I.list hq;obtain⟨u,hu,ru⟩:=rv.get hx;obtain⟨f0,f1,f2,f3,f4,f5⟩:=hf it g8;refine wpAny_pyNext_list_item st p.isList (x:=u) (by simpa using hu) λh' st' sb=>?_;have I1:B6 X b5 σ H { s with heap:=h' }:=I.turned (t':=s.toks) (λb o hb e=>(sb.2 b hb).trans e) f0 f1 f3 f4 f5;obtain⟨o,e,c,d⟩:=id st';exact⟨u,rfl,Zue (s:={ s with heap:=h' }) e c d g9 ⟨x,H,I1,ru,⟨rfl,λys hy=>by rw[I.list_inj hy hq];exact hx⟩,st',λb hb=>(hf b hb).1⟩⟩
 done:=by
  intro X hP hw hK hc i b5 s σ H E I hf st hg;subst hP hw hK;obtain⟨xs,hq,hx⟩:=hg;obtain⟨b9,rv,p,hz⟩:=I.list hq;obtain⟨f0,f1,f2,f3,f4,f5⟩:=hf it g8;have hl:=rv.length;exact wpAny_pyNext_list_end (I.ok.hd hc) st p.isList h9 λh' eb=>⟨rfl,I.turned (t':=s.toks) (λb o hb e=>eb b o hb e) f0 f1 f3 f4 f5⟩
 self:=λ_ _ _ _ _ st h=>wpAny_pyIter_listiter st h
theorem Zpa{P:Vl}{w:Vs}{K:Xa}{tg:Vz}(a it:Vh):bD P w K tg (Itt K a) [it] it (λi h=>h.IsTupleIter it a i) where
 mem:=by simp
 obj:=λi h st b hb=>by
  have e:b=it:=by simpa using hb
  subst e;obtain⟨o,e,c,d⟩:=st;exact⟨o,e,λv z=>by rw[d]at z;cases z⟩
 keep:=λi h h' st k=>st.at λo e=>k it g8 o e
 item:=by
  intro X hP hw hK hc i b5 s σ H E I hf st hg;subst hP hw hK;obtain⟨xs,x,hq,hx⟩:=hg;obtain⟨b9,rv,p,hz⟩:=I.tuple hq;obtain⟨u,hu,ru⟩:=rv.get hx;obtain⟨f0,f1,f2,f3,f4,f5⟩:=hf it g8;refine wpAny_pyNext_tuple_item st (show s.heap.IsTuple a b9.toArray from p) (x:=u) (by simpa using hu) λh' st' sb=>?_;have I1:B6 X b5 σ H { s with heap:=h' }:=I.turned (t':=s.toks) (λb o hb e=>(sb.2 b hb).trans e) f0 f1 f3 f4 f5;obtain⟨o,e,c,d⟩:=id st';exact⟨u,rfl,Zue (s:={ s with heap:=h' }) e c d g9 ⟨x,H,I1,ru,⟨rfl,λys hy=>by rw[I.tuple_inj hy hq];exact hx⟩,st',λb hb=>(hf b hb).1⟩⟩
 done:=by
  intro X hP hw hK hc i b5 s σ H E I hf st hg;subst hP hw hK;obtain⟨xs,hq,hx⟩:=hg;obtain⟨b9,rv,p,hz⟩:=I.tuple hq;obtain⟨f0,f1,f2,f3,f4,f5⟩:=hf it g8;have hl:=rv.length;exact wpAny_pyNext_tuple_end (I.ok.hd hc) st (show s.heap.IsTuple a b9.toArray from p) h9 λh' eb=>⟨rfl,I.turned (t':=s.toks) (λb o hb e=>eb b o hb e) f0 f1 f3 f4 f5⟩
 self:=λ_ _ _ _ _ st h=>Udb st h
theorem Zoo{P:Vl}{w:Vs}{K:Xa}{tg:Vz}(it:Vh)(lo:Int)(n:Nat):bD P w K tg (Itr lo n) [it] it (λi h=>IsRangeIter h it (lo+(i:Nat)*1) ((n:Int)-(i:Nat)) 1) where
 mem:=by simp
 obj:=λi h st b hb=>by
  have e:b=it:=by simpa using hb
  subst e;exact⟨_,st,λv z=>by
   have z':Data.fields _=Data.cell v:=z;cases z'⟩
 keep:=λi h h' st k=>k it g8 _ st
 item:=by
  intro X hP hw hK hc i b5 s σ H E I hf st hg;subst hP hw hK;obtain⟨f0,f1,f2,f3,f4,f5⟩:=hf it g8;have W:=Walks.range (prog:=X.prog) (w:=X.w) (I.ok.hd hc) it lo 1 n;refine W.item i s _ _ hg st λv h' tk hv st' kk=>?_;obtain⟨t,rfl⟩:=hv;have I1:B6 X b5 σ H { s with heap:=h',toks:=tk }:=I.turned (λb o hb e=>kk b o (by simpa using hb) e) f0 f1 f3 f4 f5;refine⟨_,rfl,Zue (s:={ s with heap:=h',toks:=tk }) (n := "range_iterator") st' rfl rfl g9 ⟨.int (lo+i),H,I1,⟨t,?_⟩,⟨rfl,rfl⟩,st',λb hb=>(hf b hb).1⟩⟩;rw[Int.mul_one]
 done:=by
  intro X hP hw hK hc i b5 s σ H E I hf st hg;subst hP hw hK;obtain⟨f0,f1,f2,f3,f4,f5⟩:=hf it g8;exact wpAny_pyNext_range_end (I.ok.hd hc) st (by have:n<=i:=hg;omega) λh' eb=>⟨rfl,I.turned (t':=s.toks) (λb o hb e=>eb b o hb e) f0 f1 f3 f4 f5⟩
 self:=λ_ _ _ _ _ st h=>wpAny_pyIter_rangeiter st h
section
variable{X:Cx}{tg:Vz}
theorem Zvd{b5:List (Vh×Obj)}{σ:St}{H:Hp}{s:Vd}{R:It->Hp->Prop}{E:Vb->Vd->Prop}{lo hi:Int}{t u v:Tok}{tk:Nat}(I:B6 X b5 σ H s)(h1 : -(2 ^ 62)<=lo)(h2:lo<2 ^ 62)(h3 : -(2 ^ 62)<=hi)(h4:hi<2 ^ 62)
  (q:R (Itr lo (hi-lo).toNat) H):Vk (Vi X.prog X.w) X.A (gE (.ref s.heap.objs.size)) (PIE X b5 σ tg R) E { s with heap:=s.heap.push { cls:=.type "range",data:=.fields #[.int lo t,.int hi u,.int 1 v] },toks:=tk }:=by
 refine wpAny_pyIter_range (IsRange.new ..) (small_one h1 h2 h3 h4) ?_;have I1:B6 X b5 σ H { s with heap:=s.heap.push { cls:=.type "range",data:=.fields #[.int lo t,.int hi u,.int 1 v] },toks:=tk }:=I.kept λb o e=>Xb _ e;refine⟨(s.heap.push { cls:=.type "range",data:=.fields #[.int lo t,.int hi u,.int 1 v] }).objs.size,[(s.heap.push { cls:=.type "range",data:=.fields #[.int lo t,.int hi u,.int 1 v] }).objs.size],_,_,H,rfl,
  I1.kept (t':=tk) λb o e=>Xb _ e,Zoo _ lo (hi-lo).toNat,?_,λb hb=>?_,q⟩
 ·have e1:lo+((0:Nat):Int)*1=lo:=by simp
  have e2:(((hi-lo).toNat:Nat):Int)-((0:Nat):Int)=Builtin.Range.rangeSize lo hi 1:=by rw[rangeSize_one];split<;>omega
  show IsRangeIter _ _ (lo+((0:Nat):Int)*1) ((((hi-lo).toNat:Nat):Int)-((0:Nat):Int)) 1;rw[e1,e2];exact Xi _ rfl
 ·have e:b=(s.heap.push { cls:=.type "range",data:=.fields #[.int lo t,.int hi u,.int 1 v] }).objs.size:=by simpa using hb
  subst e;exact I1.fpOk (Xd _) (I1.hok.fresh (Xd _))
nonrec def rY(ta:TA):TI:=λσ H R=>ta σ H λvs H1=>∃j:Int,vs=[.int j] /\ -(2 ^ 62)<=j/\j<2 ^ 62/\R (Itr 0 j.toNat) H1
theorem Zro{a:Vz}{ta:TA}{p pos:Pos}(hg:Gl X "range")(hm:X.mg "range" = B0)(ha:PA X [a] ta)(hs:Vg [a] X.env=[(B2,eval a X.env)]:=by rfl):PI X tg (.Call (.Name "range" p) [a] [] pos) (rY ta):=by
 intro b5 s σ H R I h;refine Call_ (dR I hg hm boot_range (Tbc (D7 (ha pos b5 s σ H _ I h) λus s1 zz=>?_) hs rfl));obtain⟨vs,H1,I1,r1,q1⟩:=zz;obtain⟨j,e,q1,q2,q⟩:=q1;subst e;cases r1 with
 |cons r rr=>
  cases rr;obtain⟨t,rfl⟩:=r;exact call_range_1 (Zvd I1 f8 f8 q1 q2 (by simpa using q))
nonrec def tFor(wi:TI)(g:TG)(tb:TS):TS:=λD σ H=>wi σ H λJ H1=>∃W:Nat->Nat->St->Hp->Prop,(∃m,W 0 m σ H1)/\∀i m σ H,W i m σ H ->
 (J.stop i H/\D.nx σ H)\/(J.go i H/\∃N:St->Hp->Prop,(∀σ' H',N σ' H'->∃m',m'<m/\W (i+1) m' σ' H')/\∀x H',J.yld i H x H'->g x σ H' λσ2 H2=>tb { D with nx:=N,ct:=N,bk:=D.nx } σ2 H2)
nonrec def tB(fp:List Vh)(h:C5):List (Vh×Obj):=fp.filterMap λb=>(h.get? b).map λo=>(b,o)
theorem Zeo{fp:List Vh}{h:C5}{b:Vh}{o:Obj}(hb:b∈fp)(e:h.get? b=B3 o):(b,o)∈tB fp h:=oW.mpr ⟨b,hb,by rw[e];rfl⟩
theorem Zqv{fp:List Vh}{h:C5}{p:Vh×Obj}(hp:p∈tB fp h):p.1∈fp/\h.get? p.1=B3 p.2:=by
 obtain⟨b,hb,e⟩:=oW.mp hp;cases q:h.get? b with
 |none=>rw[q]at e;cases e
 |some o=>
  rw[q]at e;have e':(b,o)=p:=B3.inj e;subst e';exact⟨hb,q⟩
theorem B6.pinned{b5:List (Vh×Obj)}{σ:St}{H:Hp}{s:Vd}{fp:List Vh}(I:B6 X b5 σ H s)(hf:∀b∈fp,cI X b5 H b)(ho:∀b∈fp,∃o,s.heap.get? b=B3 o/\∀v,o.data≠.cell v):B6 X (b5++tB fp s.heap) σ H s :=
 I.pins_of λp hp=>(Xf.mp hp).elim (λz=>I.pin p (Xu _ z)) λz=>by
  obtain⟨hb,e⟩:=Zqv z;obtain⟨f0,f1,f2,_⟩:=hf p.1 hb;obtain⟨o,e',d⟩:=ho p.1 hb;rw[e]at e';cases e';exact⟨e,f0,f1,f2,d⟩
theorem B6.unpinned{b5 pl:List (Vh×Obj)}{σ:St}{H:Hp}{s:Vd}(I:B6 X (b5++pl) σ H s):B6 X b5 σ H s:=I.pins_of λp hp=>I.pin p (Xu _ (gC _ hp))
theorem Zv0{iter:Vz}{body:List D2}{wi:TI}{g:TG}{tb:TS}{pos:Pos}(hp:lN (Vi X.prog X.w) X.A X.env X.xe)(hc:X.calm=B1)(hi:PI X tg iter wi)(hg:PG X tg g)(hb:T6 X body tb)
  (hs:∀x,eO iter X.env x=pure x:=by intro _;rfl):PS X (.For tg iter body [] pos) (tFor wi g tb):=by
 intro b5 s σ H D I h;refine wpAny_For (D7 (hi b5 s σ H _ I h) λv s1 h1=>D7 h1 λitv s2 h2=>?_) hs;obtain⟨it,fp,tn,J,H2,e,I2,T,st2,f2,W,⟨m0,w0⟩,turn⟩:=h2;subst e
 -- what stays true of the iterator's objects through the loop
 have stat:∀{H':Hp},(∀b∈fp,H' b=B0)->∀b∈fp,cI X b5 H' b:=λhn b hb=>⟨hn b hb,(f2 b hb).2⟩
 refine codeAny_forLoop_any (λn s'=>∃i σ' H',B6 X b5 σ' H' s'/\tn i s'.heap/\(∀b∈fp,H' b=B0)/\W i n σ' H') ?_ m0 ⟨0,σ,H2,I2,st2,λb hb=>(f2 b hb).1,w0⟩;rintro n s3 ⟨i,σ3,H3,I3,st3,fr3,w3⟩;rcases turn i n σ3 H3 w3 with ⟨stop,qn⟩ |⟨go,N,hN,step⟩
 ·refine lT hp (D7 (T.done X rfl rfl rfl hc i b5 s3 σ3 H3 X.xe I3 (stat fr3) st3 stop) λr s4 zz=>?_);obtain⟨hr,I4⟩:=zz;subst hr;exact wY ⟨σ3,H3,I4,qn⟩
 ·refine lT hp (D7 (T.item X rfl rfl rfl hc i b5 s3 σ3 H3 X.xe I3 (stat fr3) st3 go) λr s4 zz=>?_);obtain⟨u,hr,h4⟩:=zz;subst hr;refine lT hp (D7 h4 λ_ s5 zz=>?_);obtain⟨x,H5,I5,r5,y5,st5,fr5⟩:=zz;have I5':=I5.pinned (stat fr5) (T.obj _ _ st5);refine lT hp (D7 (hg _ s5 σ3 H5 x u _ I5' r5 (step x H5 y5)) λ_ s6 zz=>?_);obtain⟨σ6,H6,I6,q6⟩:=zz;refine lT hp (D7 (hb _ s6 σ6 H6 _ I6 q6) λf s7 q7=>?_);have again:∀{σ7:St}{H7:Hp},B6 X (b5++tB fp s5.heap) σ7 H7 s7->N σ7 H7->∃m,m<n/\∃i σ' H',B6 X b5 σ' H' s7/\tn i s7.heap/\(∀b∈fp,H' b=B0)/\W i m σ' H':=λ{σ7 H7}I7 n7=>by
   obtain⟨m',hm,w7⟩:=hN σ7 H7 n7;refine⟨m',hm,i+1,σ7,H7,I7.unpinned,T.keep _ _ _ st5 λb hb o e=>(I7.pin (b,o) (Xu _ (Xu _ (Zeo hb e)))).1,λb hb=>?_,w7⟩;obtain⟨o,e,d⟩:=T.obj _ _ st5 b hb;exact(I7.pin (b,o) (Xu _ (Xu _ (Zeo hb e)))).2.1
  cases f with
  |next=>obtain⟨σ7,H7,I7,n7⟩:=q7;exact again I7 n7
  |cont=>obtain⟨σ7,H7,I7,n7⟩:=q7;exact again I7 n7
  |brk=>obtain⟨σ7,H7,I7,q7⟩:=q7;exact⟨σ7,H7,I7.unpinned,q7⟩
  |ret v=>obtain⟨x7,σ7,H7,I7,r7,q7⟩:=q7;exact⟨x7,σ7,H7,I7.unpinned,r7,q7⟩
end
nonrec abbrev R2:=V->V->Hp->VK->Prop
def N5(X:Cx)(f:Vb->Vb->Sem Vb)(r:R2):Prop :=
 ∀(b5:List (Vh×Obj))(s:Vd)(σ:St)(H:Hp)(x y:V)(v u:Vb)(Q:VK),B6 X b5 σ H s->E4 x v->E4 y u->r x y H Q ->
  Vk (Vi X.prog X.w) X.A (f v u) (EP X b5 σ Q) X.xe s
def UnR(X:Cx)(f:Vb->Sem Vb)(r:V->Hp->VK->Prop):Prop :=
 ∀(b5:List (Vh×Obj))(s:Vd)(σ:St)(H:Hp)(x:V)(v:Vb)(Q:VK),B6 X b5 σ H s->E4 x v->r x H Q ->
  Vk (Vi X.prog X.w) X.A (f v) (EP X b5 σ Q) X.xe s
def Y1(X:Cx)(f:Vb)(r:List V->Hp->VK->Prop):Prop :=
 ∀(b5:List (Vh×Obj))(s:Vd)(σ:St)(H:Hp)(xs:List V)(us:List Vb)(Q:VK),B6 X b5 σ H s->D5 xs us->r xs H Q ->
  Vk (Vi X.prog X.w) X.A (call f us) (EP X b5 σ Q) X.xe s
def TruR(X:Cx)(r:V->Hp->(Bool->Hp->Prop)->Prop):Prop :=
 ∀(b5:List (Vh×Obj))(s:Vd)(σ:St)(H:Hp)(x:V)(v:Vb)(Q:Bool->Hp->Prop),B6 X b5 σ H s->E4 x v->r x H Q ->
  Vk (Vi X.prog X.w) X.A (truthy v) (TP X b5 σ Q) X.xe s
nonrec def qJ(r:R2)(ta tb:TE):TE:=λσ H Q=>ta σ H λx H1=>tb σ H1 λy H2=>r x y H2 Q
nonrec def tUn(r:V->Hp->VK->Prop)(ta:TE):TE:=λσ H Q=>ta σ H λx H1=>r x H1 Q
nonrec def rI(C:Int->Int->Prop)(g:Int->Int->V):R2:=λx y H Q=>∃i j,x=.int i/\y=.int j/\C i j/\Q (g i j) H
nonrec def eV(g:Int->Int->V):R2:=λx y H Q=>∃i j,x=.int i/\y=.int j/\Q (g i j) H
nonrec def rU(g:Int->V):V->Hp->VK->Prop:=λx H Q=>∃i,x=.int i/\Q (g i) H
section
variable{X:Cx}{a b c:Vz}{ta tb tc:TE}{pos:Pos}
theorem kD(ha:PE X a ta)(hb:PE X b tb){b5:List (Vh×Obj)}{s:Vd}{σ:St}{H:Hp}{R:V->V->Hp->Prop}(I:B6 X b5 σ H s)
  (h:ta σ H λx H1=>tb σ H1 λy H2=>R x y H2){Q:Vb->Vd->Prop}{f:Vb->Vb->Sem Vb}
  (hf:∀v u s2 x y H2,B6 X b5 σ H2 s2->E4 x v->E4 y u->R x y H2->Vk (Vi X.prog X.w) X.A (f v u) Q X.xe s2) :
  Vk (Vi X.prog X.w) X.A (eval a X.env) (λv s₁=>Vk (Vi X.prog X.w) X.A (eval b X.env) (λu s₂=>Vk (Vi X.prog X.w) X.A (f v u) Q X.xe s₂) X.xe s₁) X.xe s:=by
 refine D7 (ha b5 s σ H _ I h) λv s1 zz=>?_;obtain⟨x,H1,I1,r1,q1⟩:=zz;refine D7 (hb b5 s1 σ H1 _ I1 q1) λu s2 zz=>?_;obtain⟨y,H2,I2,r2,q2⟩:=zz;exact hf v u s2 x y H2 I2 r1 r2 q2
theorem rA{op:Operator}{r:R2}(ho:N5 X (Q3 op) r)(ha:PE X a ta)(hb:PE X b tb):PE X (.BinOp a op b pos) (qJ r ta tb):=by
 intro b5 s σ H Q I h;exact wpAny_BinOp (kD ha hb I h λv u s2 x y H2 I2 rx ry q=>ho b5 s2 σ H2 x y v u Q I2 rx ry q)
theorem qZ{op:UnaryOp}{r:V->Hp->VK->Prop}(ho:UnR X (unaryOp op) r)(ha:PE X a ta):PE X (.UnaryOp op a pos) (tUn r ta):=by
 intro b5 s σ H Q I h;exact UnaryOp_ (D7 (ha b5 s σ H _ I h) λv s1⟨x,H1,I1,r1,q1⟩=>ho b5 s1 σ H1 x v Q I1 r1 q1)
theorem opI{f:Vb->Vb->Sem Vb}{C:Int->Int->Prop}{g:Int->Int->Int}
  (rule:∀(i j:Int)(t u:Tok)(s:Vd)(Q:Vb->Vd->Prop)(E:Vb->Vd->Prop),C i j->Q (.int (g i j) s.toks) { s with toks:=s.toks+1 }->Vk (Vi X.prog X.w) X.A (f (.int i t) (.int j u)) Q E s) :
  N5 X f (rI C λi j=>.int (g i j)):=by
 intro b5 s σ H x y v u Q I rx ry h;obtain⟨i,j,rfl,rfl,hc,q⟩:=h;obtain⟨t,rfl⟩:=rx;obtain⟨t',rfl⟩:=ry;exact rule i j t t' s _ _ hc ⟨.int (g i j),H,I.tok _,⟨_,rfl⟩,q⟩
theorem rM{f:Vb->Vb->Sem Vb}{g:Int->Int->Int}
  (rule:∀(i j:Int)(t u:Tok)(s:Vd)(Q:Vb->Vd->Prop)(E:Vb->Vd->Prop),Q (.int (g i j) s.toks) { s with toks:=s.toks+1 }->Vk (Vi X.prog X.w) X.A (f (.int i t) (.int j u)) Q E s) :
  N5 X f (eV λi j=>.int (g i j)):=by
 intro b5 s σ H x y v u Q I rx ry h;obtain⟨i,j,rfl,rfl,q⟩:=h;obtain⟨t,rfl⟩:=rx;obtain⟨t',rfl⟩:=ry;exact rule i j t t' s _ _ ⟨.int (g i j),H,I.tok _,⟨_,rfl⟩,q⟩
theorem jW{f:Vb->Vb->Sem Vb}{g:Int->Int->Bool}
  (rule:∀(i j:Int)(t u:Tok)(s:Vd)(Q:Vb->Vd->Prop)(E:Vb->Vd->Prop),Q (.bool (g i j)) s->Vk (Vi X.prog X.w) X.A (f (.int i t) (.int j u)) Q E s) :
  N5 X f (eV λi j=>.bl (g i j)):=by
 intro b5 s σ H x y v u Q I rx ry h;obtain⟨i,j,rfl,rfl,q⟩:=h;obtain⟨t,rfl⟩:=rx;obtain⟨t',rfl⟩:=ry;exact rule i j t t' s _ _ ⟨.bl (g i j),H,I,rfl,q⟩
def vB(i j:Int):Prop:=0<j/\j<1073741824
def vF(i j:Int):Prop:=0<=j/\j<=1000000/\i.natAbs<2 ^ 64
def gT(i j:Int):Prop:=(-(2 ^ 64)<i/\i<2 ^ 64)\/(-(2 ^ 64)<j/\j<2 ^ 64)
theorem gT.ok{i j:Int}(h:gT i j):IntMulOk i j:=by
 rcases h with ⟨h1,h2⟩ |⟨h1,h2⟩
 ·exact .of_left (intBits_le_64 h1 h2)
 ·exact .of_right (intBits_le_64 h1 h2)
theorem Yc8:N5 X (Q3 .Add) (eV λi j=>.int (i+j)):=rM λ_ _ _ _ _ _ _ q=>add_int q
theorem Yan:N5 X (Q3 .Sub) (eV λi j=>.int (i-j)):=rM λ_ _ _ _ _ _ _ q=>sub_int q
theorem Ybl:N5 X (Q3 .Mult) (rI gT λi j=>.int (i*j)):=opI λ_ _ _ _ _ _ _ hc q=>mul_int q hc.ok
theorem Zxc:N5 X (Q3 .FloorDiv) (rI vB λi j=>.int (i / j)):=opI λi j _ _ _ _ _ hc q=>by
 have h1:(0:Int)<j:=hc.1;have h2:j<1073741824:=hc.2;exact floordiv_int f8 (by rw[Int.fdiv_eq_ediv_of_nonneg i f8];exact q) (.inl (PyProof.noPylong_small f8))
theorem Yao:N5 X (Q3 .Mod) (rI (λ_ j=>0<j) λi j=>.int (i % j)):=opI λi j _ _ _ _ _ hc q=>by
 have h1:(0:Int)<j:=hc;exact mod_int' f8 (by rw[Int.fmod_eq_emod_of_nonneg i f8];exact q)
theorem Yav:N5 X (Q3 .Pow) (rI vF λi j=>.int (i ^ j.toNat)):=opI λ_ _ _ _ _ _ _ hc q=>pow_int_small hc.1 hc.2.1 hc.2.2 q
theorem unI{f:Vb->Sem Vb}{g:Int->Int}
  (rule:∀(i:Int)(t:Tok)(s:Vd)(Q:Vb->Vd->Prop)(E:Vb->Vd->Prop),Q (.int (g i) s.toks) { s with toks:=s.toks+1 }->Vk (Vi X.prog X.w) X.A (f (.int i t)) Q E s) :
  UnR X f (rU λi=>.int (g i)):=by
 intro b5 s σ H x v Q I rx h;obtain⟨i,rfl,q⟩:=h;obtain⟨t,rfl⟩:=rx;exact rule i t s _ _ ⟨.int (g i),H,I.tok _,⟨_,rfl⟩,q⟩
theorem Ydc:UnR X (unaryOp .USub) (rU λi=>.int (-i)):=unI λ_ _ _ _ _ q=>neg_int q
end
section
variable{X:Cx}{a b c:Vz}{ta tb tc:TE}{pos:Pos}
theorem rJ:N5 X (S6 .Lt) (eV λi j=>.bl (decide (i<j))):=jW λ_ _ _ _ _ _ _ q=>lt_int q
theorem rK:N5 X (S6 .Gt) (eV λi j=>.bl (decide (j<i))):=jW λ_ _ _ _ _ _ _ q=>gt_int q
theorem rL:N5 X (S6 .GtE) (eV λi j=>.bl (decide (j<=i))):=jW λ_ _ _ _ _ _ _ q=>ge_int q
theorem U5(b:Vz){op:CmpOp}(h:op≠.In:=by decide)(h2:op≠.NotIn:=by decide):pM op b=B2:=by
 have e1:(op==CmpOp.In)=B2:=by cases op<;>first |rfl |exact absurd rfl h
 have e2:(op==CmpOp.NotIn)=B2:=by cases op<;>first |rfl |exact absurd rfl h2
 cases b<;>simp[pM,e1,e2]
theorem Zx0{op:CmpOp}{r:R2}(ho:N5 X (S6 op) r)(ha:PE X a ta)(hb:PE X b tb)(hm:pM op b=B2):PE X (.Compare a [op] [b] pos) (qJ r ta tb):=by
 intro b5 s σ H Q I h;exact wpAny_Compare1 (kD ha hb I h λv u s2 x y H2 I2 rx ry q=>ho b5 s2 σ H2 x y v u Q I2 rx ry q) hm
nonrec def qH(t:TE):TT:=λσ H Q=>t σ H λx H'=>∃k,x=.bl k/\Q k H'
theorem Zxr{op:CmpOp}{r:R2}(ho:N5 X (S6 op) r)(ha:PE X a ta)(hb:PE X b tb)(hm:pM op b=B2):PT X (.Compare a [op] [b] pos) (qH (qJ r ta tb)):=by
 intro b5 s σ H Q I h;refine wpAny_isTrue_Compare1 (D7 (ha b5 s σ H _ I h) λv s1⟨x,H1,I1,r1,q1⟩=>D7 (hb b5 s1 σ H1 _ I1 q1) λu s2⟨y,H2,I2,r2,q2⟩=>
  D7 (ho b5 s2 σ H2 x y v u _ I2 r1 r2 q2) λc s3⟨z,H3,I3,r3,k,e,q3⟩=>?_) hm
 subst e;cases r3;exact xA ⟨H3,I3,q3⟩
def lV(K:Xa)(x:V)(H:Hp)(k:Bool):Prop :=
 match x with
 |.non=>k=B2
 |.bl b=>k=b
 |.int i=>k=(i != 0)
 |.str y=>y.length<=sizeLine/\k=((y.length:Int) != 0)
 |.byt y=>y.size<=sizeLine/\k=((y.size:Int) != 0)
 |.ref p=>(∃xs,G7 K H p xs/\k = !xs.isEmpty)\/(∃xs,M4 K H p xs/\k = !xs.isEmpty)\/∃b8,H p=B3 (.dK b8)/\k = !b8.isEmpty
 |_=>False
theorem Zok{κ:Type}{b8:List (κ×V)}{vs:List (κ×Vb)}(r:KV b8 vs):(!vs.isEmpty) = !b8.isEmpty:=by
 cases r<;>rfl
theorem Zix{xs:List V}{b9:List Vb}(r:D5 xs b9):(!b9.toArray.isEmpty) = !xs.isEmpty:=by
 cases r<;>simp
theorem tD:(sizeLine:Nat)<2 ^ 63:=by rw[Vx];decide
theorem Yb8:TruR X (λx H Q=>∃k,lV X.K x H k/\Q k H):=by
 intro b5 s σ H x v Q I rx h;obtain⟨k,e,q⟩:=h;have hl:=tD;have hs:sizeLine=16777216:=Vx;cases x with
 |non=>
  cases rx;have e':k=B2:=e;subst e';exact truthy_none ⟨H,I,q⟩
 |bl b=>
  cases rx;have e':k=b:=e;subst e';exact xA ⟨H,I,q⟩
 |int i=>
  obtain⟨t,rfl⟩:=rx;have e':k=(i != 0):=e;subst e';exact PySem.P.truthy_int ⟨H,I,q⟩
 |str y=>
  obtain⟨t,rfl⟩:=rx;obtain⟨hy,e'⟩:y.length<=sizeLine/\k=((y.length:Int) != 0):=e;subst e';exact PySem.P.truthy_str f8 ⟨H,I.tok _,q⟩
 |byt y=>
  obtain⟨t,rfl⟩:=rx;obtain⟨hy,e'⟩:y.size<=sizeLine/\k=((y.size:Int) != 0):=e;subst e';exact PySem.W.truthy_bytes f8 ⟨H,I.tok _,q⟩
 |ref p=>
  cases rx;have e':(∃xs,G7 X.K H p xs/\k = !xs.isEmpty)\/(∃xs,M4 X.K H p xs/\k = !xs.isEmpty)\/∃b8,H p=B3 (.dK b8)/\k = !b8.isEmpty:=e;rcases e' with ⟨xs,hx,e'⟩ |⟨xs,hx,e'⟩ |⟨b8,hx,e'⟩
  ·subst e';obtain⟨b9,r,pl,hz⟩:=I.list hx;have d4:=r.length;exact wpAny_truthy_list pl.isList (by simp only[Xk];omega) ⟨H,I.tok _,by rw[Zix r];exact q⟩
  ·subst e';obtain⟨b9,r,pl,hz⟩:=I.tuple hx;have d4:=r.length;exact truthy_tuple pl (by simp only[Xk];omega) ⟨H,I.tok _,by rw[Zix r];exact q⟩
  ·subst e';obtain⟨hz,hS,vs,r,m⟩:b8.length<=sizeLine/\(p==bC)=B2/\∃vs,KV b8 vs/\s.heap.DictOf (Zmk X.prog X.w) p vs:=I.hok p _ hx;have d4:b8.length=vs.length:=Tdi r;exact wpAny_truthy_dict hS m f8 ⟨H,I.tok _,by rw[Zok r];exact q⟩
 |_=>exact(show False from e).elim
theorem Zu7(ha:PE X a ta)(he:∀whole,isTrue a X.env whole=(do let v<-whole;standAt a.pos;gG [v] (truthy v))) :
  PT X a (λσ H Q=>ta σ H λx H'=>∃k,lV X.K x H' k/\Q k H'):=by
 intro b5 s σ H Q I h;exact isTrue_plain (D7 (ha b5 s σ H _ I h) λv s1⟨x,H1,I1,r1,q1⟩=>Yb8 b5 s1 σ H1 x v Q I1 r1 q1) (he _)
theorem Zoq:N5 X (Q3 .Add) (λx y H Q=>∃i j,x=.str i/\y=.str j/\i.length+j.length<=sizeLine/\Q (.str (i++j)) H):=by
 intro b5 s σ H x y v u Q I rx ry h;obtain⟨i,j,rfl,rfl,hz,q⟩:=h;obtain⟨t,rfl⟩:=rx;obtain⟨t',rfl⟩:=ry;exact add_str (λt' tk=>⟨.str (i++j),H,I.tok _,⟨_,rfl⟩,q⟩) hz
theorem bH{x:V}{us:List Vb}(r:D5 [x] us):∃u,us=[u]/\E4 x u:=by
 cases r with
 |cons r1 r2=>cases r2;exact⟨_,rfl,r1⟩
theorem Ztr{x y:V}{us:List Vb}(r:D5 [x,y] us):∃u w',us=[u,w']/\E4 x u/\E4 y w':=by
 cases r with
 |cons r1 r2=>
  cases r2 with
  |cons r3 r4=>cases r4;exact⟨_,_,rfl,r1,r3⟩
theorem Ztv:Y1 X (.builtin "abs") (λxs H Q=>∃i,xs=[.int i]/\Q (.int (if i<0 then -i else i)) H):=by
 intro b5 s σ H xs us Q I r h;obtain⟨i,rfl,q⟩:=h;obtain⟨u,rfl,t,rfl⟩:=bH r;exact Uem λu tk=>⟨.int (if i<0 then -i else i),H,I.tok _,⟨_,rfl⟩,q⟩
theorem Zsu(hc:X.calm=B1):Y1 X (.builtin "max") (λxs H Q=>∃i j,xs=[.int i,.int j]/\Q (.int (if j > i then j else i)) H):=by
 intro b5 s σ H xs us Q I r h;obtain⟨i,j,rfl,q⟩:=h;obtain⟨u,w',rfl,⟨t,rfl⟩,⟨t',rfl⟩⟩:=Ztr r;refine max_two_ints (I.ok.hd hc) λh' tk k=>⟨_,H,I.kept k,?_,q⟩
 by_cases hj:j > i
 ·rw[d7 hj,d7 hj];exact⟨_,rfl⟩
 ·rw[d9 hj,d9 hj];exact⟨_,rfl⟩
theorem Zpx(hc:X.calm=B1):Y1 X (.builtin "min") (λxs H Q=>∃i j,xs=[.int i,.int j]/\Q (.int (if j<i then j else i)) H):=by
 intro b5 s σ H xs us Q I r h;obtain⟨i,j,rfl,q⟩:=h;obtain⟨u,w',rfl,⟨t,rfl⟩,⟨t',rfl⟩⟩:=Ztr r;refine min_two_ints (I.ok.hd hc) λh' tk k=>⟨_,H,I.kept k,?_,q⟩
 by_cases hj:j<i
 ·rw[d7 hj,d7 hj];exact⟨_,rfl⟩
 ·rw[d9 hj,d9 hj];exact⟨_,rfl⟩
theorem Zlb:Y1 X (.type "int") (λxs H Q=>(∃i,xs=[.int i]/\Q (.int i) H)\/∃k,xs=[.bl k]/\Q (.int (if k then 1 else 0)) H):=by
 intro b5 s σ H xs us Q I r h;rcases h with ⟨i,rfl,q⟩ |⟨k,rfl,q⟩
 ·obtain⟨u,rfl,t,rfl⟩:=bH r;exact call_int_int ⟨.int i,H,I,⟨_,rfl⟩,q⟩
 ·obtain⟨u,rfl,r1⟩:=bH r;cases r1;exact call_int_bool ⟨.int (if k then 1 else 0),H,I.tok _,⟨_,rfl⟩,q⟩
end
structure E5(k:Nat)(A:Vo):Prop where
 hd:A.handled=B0
 dp:A.depth+3*k+5<recursionLimit
 un:A.units+16*k+200<cLine
 gd:A.guards=B3 []
theorem E5.mono{j k:Nat}{A:Vo}(r:E5 k A)(h:j<=k):E5 j A:=⟨r.hd,by have:=r.dp;omega,by have:=r.un;omega,r.gd⟩
theorem E5.deeper{k:Nat}{A:Vo}(r:E5 (k+1) A)(env:Env):E5 k (A.deeper env) :=
 ⟨r.hd,by have:=r.dp;show A.depth+1+3*k+5<_;omega,by have:=r.un;show A.units+3+16*k+200<_;omega,r.gd⟩
theorem E5.depth{k:Nat}{A:Vo}(r:E5 k A):A.depth<recursionLimit:=by have:=r.dp;omega
theorem E5.units{k:Nat}{A:Vo}(r:E5 k A):A.units+64<cLine:=by have:=r.un;omega
nonrec def tNil:TA:=λ_ H Q=>Q [] H
nonrec def qL(ta:TE)(tr:TA):TA:=λσ H Q=>ta σ H λx H1=>tr σ H1 λxs H2=>Q (x::xs) H2
section
variable{X:Cx}{e:Vz}{es:List Vz}{te:TE}{t:TA}{pos:Pos}
theorem nF:PA X [] tNil:=λ_ _ _ _ H Q I h=>Calls.spliced_nil ⟨[],H,I,.nil,h⟩
theorem fS(ha:PE X e te)(hr:PA X es t)(hs:Vg (e::es) X.env=(B2,eval e X.env)::Vg es X.env:=by rfl):PA X (e::es) (qL te t):=by
 intro pos b5 s σ H Q I h;rw[hs];show Vk _ _ (spliced ((B2,eval e X.env)::K8 pos (Vg es X.env))) _ _ s;refine Calls.spliced_cons (D7 (ha b5 s σ H _ I h) λu s1 zz=>?_);obtain⟨x,H1,I1,r1,q1⟩:=zz;exact D7 (hr pos b5 s1 σ H1 _ I1 q1) λus s2⟨xs,H2,I2,r2,q2⟩=>⟨x::xs,H2,I2,.cons r1 r2,q2⟩
nonrec def tTup(t:TA):TE:=λσ H Q=>t σ H λxs H1=>xs.length<=sizeLine/\∀p,H1 p=B0->Q (.ref p) (upd H1 p (.tup xs))
nonrec def tLst(t:TA):TE:=λσ H Q=>t σ H λxs H1=>xs.length<=sizeLine/\∀p,H1 p=B0->Q (.ref p) (upd H1 p (.lst xs))
theorem Zv9{x1}(h:PA X es t):PE X (.Tuple es x1 pos) (tTup t):=by
 intro b5 s σ H Q I hq;refine wpAny_Tuple_spliced (D7 (h pos b5 s σ H _ I hq) λus s1⟨xs,H1,I1,r,z,q⟩=>⟨by rw[<- r.length];exact z,?_⟩);have hf:H1 s1.heap.objs.size=B0:=I1.hok.fresh (Xd _);refine⟨.ref s1.heap.objs.size,upd H1 s1.heap.objs.size (.tup xs),I1.laid (t':=s1.toks) (λb u e=>Xb _ e) (Xd _) ?_,rfl,q _ hf⟩;exact⟨z,us,r,⟨_,Xi _ rfl,rfl,⟨_,rfl⟩,rfl⟩⟩
theorem Yda(h:PA X es t):PE X (.List es pos) (tLst t):=by
 intro b5 s σ H Q I hq;refine wpAny_List_spliced (D7 (h pos b5 s σ H _ I hq) λus s1⟨xs,H1,I1,r,z,q⟩=>⟨by rw[<- r.length];exact z,?_⟩);have hf:H1 s1.heap.objs.size=B0:=I1.hok.fresh (Xd _);refine⟨.ref s1.heap.objs.size,upd H1 s1.heap.objs.size (.lst xs),I1.laid (t':=s1.toks) (λb u e=>Xb _ e) (Xd _) ?_,rfl,q _ hf⟩;exact⟨z,us,0,r,Xi _ rfl⟩
end
nonrec abbrev Sp:=List V->Hp->VK->XK->Prop
nonrec abbrev CXT:=List Env->Hp->Vd->XK->Vb->Vd->Prop
structure gN(P:Vl)(w:Vs)(K:Xa)(mg:Str->Option Vb)(base:C5)(A:Vo)(outer:List Env)(s:Vd)(H:Hp):Prop where
 frames:A.frames=B3 outer
 mod:Mod K mg base
 bs:∀b o,base.get? b=B3 o->s.heap.get? b=B3 o/\H b=B0
 bsz:base.objs.size<=s.heap.objs.size
 funs:s.heap.FunFrames base outer
 frf:∀b∈M7 outer,H b=B0
 hok:M5 P w H s.heap
 bare:bV s.gens
def CE(outer:List Env)(P:Vl)(w:Vs)(H:Hp)(s:Vd)(Q:VK)(u:Vb)(s':Vd):Prop :=
 ∃v H',s'.os=s.os/\bV s'.gens/\Un (M7 outer) [] H H' s.heap s'.heap/\M5 P w H' s'.heap/\E4 v u/\Q v H'
def CR(CX:CXT)(outer:List Env)(P:Vl)(w:Vs)(H:Hp)(s:Vd)(Q:VK)(E:XK)(r:Result)(s':Vd):Prop :=
 match r with
 |.ok (.ret u)=>CE outer P w H s Q u s'
 |.ok _=>False
 |.error e=>CX outer H s E e s'
structure K2(P:Vl)(w:Vs)(K:Xa)(mg:Str->Option Vb)(base:C5)(CX:CXT)(k:Nat)(f:Vh)(fd:X0)(ps:List Str)(sp:Sp):Prop where
 len:∀vs H Q E,sp vs H Q E->vs.length=ps.length
 run:∀(A:Vo)(outer:List Env)(s:Vd)(H:Hp)(args:Args)(us:List Vb)(vs:List V)(Q:VK)(E:XK),E5 k A->gN P w K mg base A outer s H->wM s fd args (ps.zip us)->D5 vs us->sp vs H Q E ->
  gF (Vi P w) A (.call (.ref f) args) (CR CX outer P w H s Q E) s
section
variable{X:Cx}{b5:List (Vh×Obj)}{σ:St}{H:Hp}{s s':Vd}
theorem B6.env0(I:B6 X b5 σ H s):gN X.prog X.w X.K X.mg X.base X.A X.stack s H :=
 ⟨I.ok.frames,I.ok.mod,I.bs,N2 I.ok.bsz I.sz,I.stack,I.stkFree,I.hok,I.bare⟩
theorem B6.after{Q:VK}{u:Vb}(I:B6 X b5 σ H s)(h:CE X.stack X.prog X.w H s Q u s'):EP X b5 σ Q u s':=by
 obtain⟨v,H',os,bare,un,hok,r,q⟩:=h;obtain⟨hh,g,d,t,os'⟩:=s';obtain rfl:os'=s.os:=os;exact⟨v,H',I.call (h':=hh) (g':=g) (d':=d) (t':=t) (ch:=[]) un hok bare (λb z=>absurd z g8),r,q⟩
end
nonrec def qM(sp:Sp)(dvs:List V)(E:XK)(t:TA):TE:=λσ H Q=>t σ H λvs H1=>sp (vs++dvs) H1 Q E
def cP(K:Xa)(fd:X0)(ps:List Str)(ds:List Vb):Prop :=
 ∀(s:Vd)(us:List Vb),K.In s.heap->(us++ds).length=ps.length->wM s fd ⟨us,[]⟩ (ps.zip (us++ds))
theorem cP.all{K:Xa}{fd:X0}{ps:List Str}(h:∀us:List Vb,us.length=ps.length->bindArgs fd ⟨us,[]⟩=pure (ps.zip us)):cP K fd ps []:=λs us _ hl=>by
 rw[Xq]at hl ⊢;exact .of_eq (h us hl)
def Zsd(CX:CXT)(X:Cx)(E:XK):Prop:=∀(b5:List (Vh×Obj))(σ:St)(H:Hp)(s:Vd)(e:Vb)(s':Vd),B6 X b5 σ H s->CX X.stack H s E e s'->X.xe e s'
section
variable{X:Cx}{CX:CXT}{k:Nat}{f C:Vh}{fd:X0}{ps:List Str}{sp:Sp}{dvs:List V}{ds:List Vb}{E:XK}{x m:Str}{p pos apos:Pos}{e o:Vz}{es:List Vz}{ta:TE}{t:TA}
theorem Ya8{b5:List (Vh×Obj)}{σ:St}{H:Hp}{s:Vd}{Q:VK}{us:List Vb}{vs:List V}(F:K2 X.prog X.w X.K X.mg X.base CX k f fd ps sp)(hr:E5 k X.A)(hb:cP X.K fd ps ds)(hd:D5 dvs ds)(hx:Zsd CX X E)
  (I:B6 X b5 σ H s)(r:D5 vs us)(h:sp (vs++dvs) H Q E):Vk (Vi X.prog X.w) X.A (call (.ref f) us) (EP X b5 σ Q) X.xe s:=by
 have r2:D5 (vs++dvs) (us++ds):=r.append hd;have hl:(us++ds).length=ps.length:=by rw[<- r2.length];exact F.len _ _ _ _ h
 refine pG (eM (F.run X.A X.stack s H ⟨us,[]⟩ (us++ds) (vs++dvs) Q E hr I.env0 (hb s us I.kIn hl) r2 h) λr s' hq=>?_);cases r with
 |error e=>exact hx b5 σ H s e s' I hq
 |ok fl=>
  cases fl with
  |ret u=>exact I.after hq
  |next=>exact Uh hq
  |brk=>exact Uh hq
  |cont=>exact Uh hq
theorem Zy0(F:K2 X.prog X.w X.K X.mg X.base CX k f fd ps sp)(hr:E5 k X.A)(hg:Gl X x)(hm:X.mg x=B3 (.ref f))(hk:cW X.K (.ref f)=B1)(hb:cP X.K fd ps ds)(hd:D5 dvs ds)(hx:Zsd CX X E)
  (ha:PA X (e::es) t)(hdb:(x==("__debug__" : Str))=B2:=by decide)(he:Vg (e::es) X.env=(B2,eval e X.env)::Vg es X.env:=by rfl)(hpl:(K8 pos (Vg es X.env)).any (·.1)=B2:=by rfl) :
  PE X (.Call (.Name x p) (e::es) [] pos) (qM sp dvs E t):=by
 intro b5 s σ H Q I h;refine pP (iI I hg hm ?_ hdb);refine Wdn (h₀:=X.base) I.ok.mod.kin hk (D7 (ha pos b5 s σ H _ I h) λus s1⟨vs,H1,I1,r,q⟩=>⟨I1.kIn,?_⟩) he hpl;exact Ya8 F hr hb hd hx I1 r q
end
structure C3(N P:List Str)(sc:P4):Prop where
 kind:sc.kind=.function
 co:sc.isCoroutine=B2
 gen:sc.isGenerator=B2
 nd:N.Nodup
 pre:N.take P.length=P
 par:∀x∈P,sc.names.lookup x=B3 .local\/sc.names.lookup x=B3 .cell
 nofree:∀y∈sc.names,y.2≠.free
theorem Zkf{kindOf:Str->Option bY}{x:Str}:∀{binds:List (Str×Vb)}{m:Str->Option Vb},(∀v,(x,v)∉binds)->bindL kindOf binds m x=m x
 |[],_,_=>rfl
 |(n,v)::r,m,h=>by
  unfold bindL;rw[Zkf λw hw=>h w (Xv _ hw)];split
  ·have:x≠n:=by rintro rfl;exact h v iU
   simp[this]
  ·rfl
theorem Zk7{kindOf:Str->Option bY}{x:Str}:∀{binds:List (Str×Vb)}{m:Str->Option Vb},(∀v,(x,v)∉binds)->bindC kindOf binds m x=m x
 |[],_,_=>rfl
 |(n,v)::r,m,h=>by
  unfold bindC;rw[Zk7 λw hw=>h w (Xv _ hw)];split
  ·rfl
  ·have:x≠n:=by rintro rfl;exact h v iU
   simp[this]
theorem Zll{kindOf:Str->Option bY}{x:Str}{v:Vb}:∀{P:List Str}{vs:List Vb}{i:Nat}{m:Str->Option Vb},P.Nodup->P[i]? = B3 x->vs[i]? = B3 v->kindOf x=B3 .local ->
  bindL kindOf (P.zip vs) m x=B3 v
 |[],_,_,_,_,h,_,_=>by simp at h
 |_::_,[],_,_,_,_,h,_=>by simp at h
 |p::P,w::vs,0,m,nd,h1,h2,hk=>by
  simp at h1 h2;subst h1;subst h2;show bindL kindOf ((p,w)::P.zip vs) m p=_;unfold bindL;rw[Zkf λv hv=>(fY.mp nd).1 (vR hv).1,d7 hk];simp
 |p::P,w::vs,i+1,m,nd,h1,h2,hk=>by
  show bindL kindOf ((p,w)::P.zip vs) m x=_;unfold bindL;exact Zll (i:=i) (fY.mp nd).2 (by simpa using h1) (by simpa using h2) hk
theorem Zkj{kindOf:Str->Option bY}{x:Str}{v:Vb}:∀{P:List Str}{vs:List Vb}{i:Nat}{m:Str->Option Vb},P.Nodup->P[i]? = B3 x->vs[i]? = B3 v->kindOf x≠B3 .local ->
  bindC kindOf (P.zip vs) m x=B3 v
 |[],_,_,_,_,h,_,_=>by simp at h
 |_::_,[],_,_,_,_,h,_=>by simp at h
 |p::P,w::vs,0,m,nd,h1,h2,hk=>by
  simp at h1 h2;subst h1;subst h2;show bindC kindOf ((p,w)::P.zip vs) m p=_;unfold bindC;rw[Zk7 λv hv=>(fY.mp nd).1 (vR hv).1,d9 hk];simp
 |p::P,w::vs,i+1,m,nd,h1,h2,hk=>by
  show bindC kindOf ((p,w)::P.zip vs) m x=_;unfold bindC;exact Zkj (i:=i) (fY.mp nd).2 (by simpa using h1) (by simpa using h2) hk
nonrec def start(N:List Str)(vs:List V):St:=vs.map B3++Xl (N.length-vs.length) B0
nonrec def M8(CX:CXT)(P:Vl)(w:Vs)(K:Xa)(mg:Str->Option Vb)(base:C5)(N:List Str)(qual:Str)(scope:P4)(f:Vh)(cd:Vb)(A:Vo)(outer:List Env)(s:Vd)(H:Hp)(E:XK):Cx where
 prog:=P
 w:=w
 K:=K
 mg:=mg
 base:=base
 A:=A.deeper (bB qual scope s.heap.objs.size f cd)
 N:=N
 s₀:=s
 H₀:=H
 env:=bB qual scope s.heap.objs.size f cd
 outer:=outer
 stack:=bB qual scope s.heap.objs.size f cd::outer
 ex:=[]
 calm:=B1
 fn:=λ_=>B1
 pn:=[]
 xe:=λe s'=>Vk (Vi P w) (A.deeper (bB qual scope s.heap.objs.size f cd)) (wL (bB qual scope s.heap.objs.size f cd) e) (λ_ s''=>CX outer H s E e s'') (λe' s''=>CX outer H s E e' s'') s'
theorem Zjc{sc:P4}{n:Nat}{x:Str}(h:sc.names.lookup x=B3 .cell):∃c,(cellsFrom n sc.names []).lookup x=B3 c:=by
 have q:=Wfm sc.names n [] (.inl h);exact Wdl.mp q
theorem Zr0{CX:CXT}{P:Vl}{w:Vs}{K:Xa}{mg:Str->Option Vb}{base:C5}{N ps:List Str}{qual:Str}{scope:P4}{f:Vh}{cd:Vb}{A:Vo}{outer:List Env}{s s1:Vd}{H:Hp}{E:XK}{us:List Vb}{vs:List V}
  (S:C3 N ps scope)(hd:A.handled=B0)(e0:gN P w K mg base A outer s H)(hl:vs.length=ps.length)(r:D5 vs us)
  (x:InCallC s s.heap.objs.size (bindL (bB qual scope s.heap.objs.size f cd).kindOf (ps.zip us) λ_=>B0) (cellsFrom (s.heap.objs.size+1) scope.names []) (bindC (bB qual scope s.heap.objs.size f cd).kindOf (ps.zip us) λ_=>B0) s1) :
  B6 (M8 CX P w K mg base N qual scope f cd A outer s H E) [] (start N vs) H s1:=by
 have hpl:ps.length<=N.length:=by have:=congrArg iP S.pre;rw[Z5]at this;omega
 obtain⟨h1,tk,rfl,hk⟩:=x.done;have noA:∀b:Vh,b∉(M8 CX P w K mg base N qual scope f cd A outer s H E).ex:=λb z=>absurd (show b∈([]:List Vh)from z) g8;refine⟨⟨e0.mod,S.kind,rfl,rfl,Xd _,λy z c h1 h2=>?_,λy hy=>?_,λy c _ h=>?_,λ_=>hd,Around.frames_deeper e0.frames,.inr ⟨rfl,rfl⟩,λb z=>absurd z (noA b),e0.bs,e0.bsz,λb _ _=>noA b,λb z=>absurd z (noA b),e0.funs,e0.frf⟩,
  rfl,e0.bare,Un.kept hk,⟨_,x.toInCall.ns,λi y v h1 h2 h3=>?_⟩,λy c h=>⟨_,x.cell y c h⟩,e0.hok.fresh (Xd _),λy c h=>?_,λp hp=>absurd (show p∈([]:List (Vh×Obj))from hp) g8,e0.hok.kept hk,?_⟩
 ·exact name_of_addr x.apart (Us h1) (Us h2)
 ·have hy:scope.names.lookup y=B3 .cell\/scope.names.lookup y=B3 .free:=hy;rcases hy with hy |hy
  ·exact Zjc hy
  ·exact absurd rfl (S.nofree _ (Us hy))
 ·exact iQ (x.above y c (Us h))
 ·have hi:i<vs.length:=by
   unfold start at h2;by_cases hi:i<vs.length
   ·exact hi
   ·rw[eD (by simpa using hi)]at h2;rw[Wdp]at h2;split at h2<;>cases h2
  have ha:vs[i]? = B3 v:=by
   unfold start at h2;rw[Xs (by simpa using hi),Xy]at h2;cases e:vs[i]? with
   |none=>rw[e]at h2;cases h2
   |some a=>rw[e]at h2;cases h2;rfl
  obtain⟨u,hu,rv⟩:=r.get ha;have hp:ps[i]? = B3 y:=by
   rw[<- S.pre,Wdm f8];exact h1
  have ndP:ps.Nodup:=by rw[<- S.pre];exact S.nd.sublist (Wew _ _)
  refine⟨u,rv,?_⟩;rcases S.par y (dZ hp)with k |k
  ·exact .inl ⟨k,Zll ndP hp hu k⟩
  ·obtain⟨c,e⟩:=Zjc (n:=s.heap.objs.size+1) k;refine .inr ⟨.inl k,c,e,?_⟩;have q:=x.cell y c e;rw[Zkj ndP hp hu (by show scope.names.lookup y≠_;rw[k];decide)]at q;exact q
 ·exact .inl (e0.hok.fresh (iQ (x.above y c (Us h))))
 ·unfold start;show _=N.length;rw[Y4,Xj,Wdz];omega
theorem Yci{CX:CXT}{P:Vl}{w:Vs}{K:Xa}{mg:Str->Option Vb}{base:C5}{k:Nat}{f:Vh}{name qual:Str}{params:Arguments}{body:List D2}{scope:P4}{dV kV d6 pm cdv ct oc:Vb}{an od:Option Vh}
  {osl:Array (Option Vb)}{N ps:List Str}{sp:Sp}(lk:K.lookup f=B3 ⟨oc,od,.func (fX name qual params body scope dV kV d6 pm an cdv ct),osl⟩)(hcd:Wes K cdv qual=B1)(S:C3 N ps scope)
  (len:∀vs H Q E,sp vs H Q E->vs.length=ps.length)
  (hbody:∀(A:Vo)(outer:List Env)(s:Vd)(H:Hp)(vs:List V)(Q:VK)(E:XK),E5 k (A.deeper (bB qual scope s.heap.objs.size f cdv))->sp vs H Q E ->
   ∃t,T6 (M8 CX P w K mg base N qual scope f cdv A outer s H E) body t/\t { nx:=λ_ H'=>Q .non H',rt:=Q } (start N vs) H) :
  K2 P w K mg base CX (k+1) f (fX name qual params body scope dV kV d6 pm an cdv ct) ps sp:=by
 refine⟨len,λA outer s H args us vs Q E hr e0 hb r hsp=>?_⟩;have hl:=len _ _ _ _ hsp;have KX:K.In s.heap:=e0.mod.kin.keeps λb o e=>(e0.bs b o e).1;have lim:s.heap.NoLimit:=e0.mod.nolimit.keeps λb o e=>(e0.bs b o e).1;have hkind:∀y∈ps.zip us,scope.names.lookup y.1=B3 .local\/(scope.names.lookup y.1=B3 .cell/\((cellsFrom (s.heap.objs.size+1) scope.names []).lookup y.1).isSome=B1):=λ⟨n,v⟩hy=>by
  rcases S.par n (vR hy).1 with q |q
  ·exact .inl q
  ·exact .inr ⟨q,Wfm _ _ _ (.inl q)⟩
 refine codeAny_call_function hr.depth (KX _ _ lk) rfl S.co S.gen rfl (PySem.W.codeRec_of KX hcd) (hb _ _ _ _ ?_);refine wpAny_newFunctionEnv_cells S.kind hkind λenv he s1 x=>?_;subst he;refine⟨lim.keeps x.toInCall.keep,codeAny_func ?_⟩;obtain⟨t,ht,hq⟩:=hbody A outer s H vs Q E (hr.deeper _) hsp;have I:B6 (M8 CX P w K mg base N qual scope f cdv A outer s H E) [] (start N vs) H s1:=Zr0 S hr.hd e0 hl r x;refine Vr (ht [] s1 (start N vs) H _ I hq) (λfl s' hs=>?_) λe s' hs=>hs;have fin:∀{σ':St}{H':Hp}{v:V}{u:Vb},B6 (M8 CX P w K mg base N qual scope f cdv A outer s H E) [] σ' H' s'->E4 v u->Q v H'->CE outer P w H s Q u s' :=
  λ{σ' H' v u}J rv q=>⟨v,H',J.os,J.bare,J.base,J.hok,rv,q⟩
 cases fl with
 |ret u=>
  obtain⟨v,σ',H',J,rv,q⟩:=hs;exact fin J rv q
 |next=>
  obtain⟨σ',H',J,q⟩:=hs;exact fin (v:=V.non) (u:=Uu) J rfl q
 |brk=>
  obtain⟨_,_,_,q⟩:=hs;exact Uh q
 |cont=>
  obtain⟨_,_,_,q⟩:=hs;exact Uh q
section
variable{X:Cx}{x:Str}{p pos:Pos}{e:Vz}{es:List Vz}{t:TA}{id T:String}{r:List V->Hp->VK->Prop}
nonrec def tCB(r:List V->Hp->VK->Prop)(t:TA):TE:=λσ H Q=>t σ H λvs H1=>r vs H1 Q
theorem tW(hc:Y1 X (.builtin id) r)(hg:Gl X x)(hm:X.mg x=B0)(hv:Vv x=B3 (.builtin id))(ha:PA X (e::es) t)(hn:x ≠ "__name__" := by decide)(hdb:(x==("__debug__" : Str))=B2:=by decide)
  (he:Vg (e::es) X.env=(B2,eval e X.env)::Vg es X.env:=by rfl)(hpl:(K8 pos (Vg es X.env)).any (·.1)=B2:=by rfl):PE X (.Call (.Name x p) (e::es) [] pos) (tCB r t):=by
 intro b5 s σ H Q I h;refine pP (dR I hg hm hv ?_ hn hdb);exact PyProof.Rows.callWith_builtin1 (D7 (ha pos b5 s σ H _ I h) λus s1⟨vs,H1,I1,r1,q1⟩=>hc b5 s1 σ H1 vs us Q I1 r1 q1) he hpl
theorem Zld(hc:Y1 X (.type T) r)(hg:Gl X x)(hm:X.mg x=B0)(hv:Vv x=B3 (.type T))(ha:PA X (e::es) t)(hn:x ≠ "__name__" := by decide)(hdb:(x==("__debug__" : Str))=B2:=by decide)
  (he:Vg (e::es) X.env=(B2,eval e X.env)::Vg es X.env:=by rfl)(hpl:(K8 pos (Vg es X.env)).any (·.1)=B2:=by rfl):PE X (.Call (.Name x p) (e::es) [] pos) (tCB r t):=by
 intro b5 s σ H Q I h;refine pP (dR I hg hm hv ?_ hn hdb);exact Tbc (D7 (ha pos b5 s σ H _ I h) λus s1⟨vs,H1,I1,r1,q1⟩=>hc b5 s1 σ H1 vs us Q I1 r1 q1) he hpl
end
end L2
namespace HT
open PySem PyProof.Rows
nonrec def lexLt:List Int->List Int->Bool
 |[],[]=>B2
 |[],_::_=>B1
 |_::_,[]=>B2
 |x::xs,y::ys=>if x=y then lexLt xs ys else decide (x<y)
theorem lexLt_cons(x y:Int)(xs ys:List Int):lexLt (x::xs) (y::ys)=if x=y then lexLt xs ys else decide (x<y):=rfl
theorem Zjk:lexLt [] []=B2:=rfl
theorem Zid(y:Int)(ys:List Int):lexLt [] (y::ys)=B1:=rfl
theorem Zh8(x:Int)(xs:List Int):lexLt (x::xs) []=B2:=rfl
theorem eqAt_int(A:Vo)(s:Vd)(a:Int)(t:Tok)(c:Int)(u:Tok):∃e,SeqAt.EqAt A s (.int a t) (.int c u) e/\(e=B1 ↔ a=c) :=
 ⟨(a==c),SeqAt.EqAt.int_int a t c u,by simp⟩
theorem Zve(A:Vo)(s:Vd)(a:Int)(t:Tok)(c:Int)(u:Tok)(prog:Vl)(w:Vs)(E:Vb->Vd->Prop)(Q:Vb->Vd->Prop)(h:Q (.bool (decide (a<c))) s) :
  Vk (Vi prog w) A (richCompare .Lt (.int a t) (.int c u)) Q E s :=
 (PyProof.Rows.lt_int h:Vk (Vi prog w) A (S6 .Lt (.int a t) (.int c u)) Q E s)
section
open PySem.SeqAt
open PySem.AutoSeq1 (wpAny_loadPart')
open PySem.MeetsSeq PySem.MeetsSeq2 PySem.MeetsSeq3
theorem tuple_lt_ints(l b:Vh)(items items2:Array Vb)(n n2:Nat)(dd dd2:Option Vh)(sl sl2:Array (Option Vb))(ns ms:List Int)(hi:Vw items.toList ns)(hj:Vw items2.toList ms) :
  Meets (Builtin.«tuple.__lt__» ⟨[.ref l,.ref b],[]⟩)
   (λ_ R s=>s.heap.get? l=B3 { cls:=.type "tuple",dict:=dd,data:=.seq items n,slots:=sl }/\s.heap.get? b=B3 { cls:=.type "tuple",dict:=dd2,data:=.seq items2 n2,slots:=sl2 } /\
    R (.ok (.ret (.bool (lexLt ns ms)))) s) :=
 .of_wp λprog w A R s h=>by
  obtain⟨hp,g,d,tk,os⟩:=s;obtain⟨hl,hb,h⟩:=h;have f2:=AutoSeq1.sub_tuple_tuple;have z1:items.size=ns.length:=by rw[<- hi.length];simp
  have z2:items2.size=ms.length:=by rw[<- hj.length];simp
  wp_walk using jK hl,jK hb,wpAny_forIn_list _ (λrest b s'=>b.1=B0/\s'=⟨hp,g,d,tk,os⟩/\∃(vs ws:List Vb)(ns' ms':List Int),rest=vs.zip ws /\
   Vw vs ns'/\Vw ws ms'/\ns'.length+items2.size=ms'.length+items.size/\R (.ok (.ret (.bool (lexLt ns' ms')))) ⟨hp,g,d,tk,os⟩) _
  case turn=>
   rintro⟨y,x⟩ rest b s' ⟨hb',rfl,vs,ws,ns',ms',hz,hvi,hwi,d4,hR⟩;cases hvi with
   |nil=>rw[Wgg]at hz;cases hz
   |cons a t hvi'=>
    cases hwi with
    |nil=>rw[Wga]at hz;cases hz
    |cons c u hwi'=>
     rw[vW]at hz;injection hz with hyx hrest;injection hyx with hy hx;subst hy hx;rw[lexLt_cons]at hR;simp only[cX]at d4;obtain⟨e,he,hiff⟩:=eqAt_int A.in1 ⟨hp,g,d,tk,os⟩ a t c u;refine Va (he prog w _ _ ?_);cases e with
     |true=>
      rw[d7 (hiff.mp rfl)]at hR
      wp_walk
      exact⟨rfl,rfl,_,_,_,_,hrest,hvi',hwi',by omega,hR⟩
     |false=>
      rw[d9 (λq=>absurd (hiff.mpr q) cY)]at hR;have hri:=Zve A.in1 ⟨hp,g,d,tk,os⟩ a t c u prog w
      wp_walk using hri
      exact⟨_,rfl,by simpa using hR⟩
  case fin=>
   rintro⟨b1,b2⟩ s' ⟨hb',rfl,vs,ws,ns',ms',hz,hvi,hwi,d4,hR⟩;simp only at hb';subst hb';have hv:lexLt ns' ms'=decide (items.size<items2.size):=by
    cases hvi with
    |nil=>
     cases hwi with
     |nil=>
      simp only[iR]at d4;rw[Zjk];exact(f7 f8).symm
     |cons c u hw=>
      simp only[iR,cX]at d4;rw[Zid];exact(f6 f8).symm
    |cons a t hv=>
     cases hwi with
     |nil=>
      simp only[iR,cX]at d4;rw[Zh8];exact(f7 f8).symm
     |cons c u hw=>
      rw[vW]at hz;cases hz
   rw[hv]at hR
   wp_walk
   exact⟨_,rfl,by simpa [Builtin.Tuple.tupleCompareSizes]using hR⟩
  case h=>
   exact⟨rfl,rfl,items.toList,items2.toList,ns,ms,rfl,hi,hj,by omega,h⟩
end
section
variable{prog:Vl}{w:Vs}{A:Vo}{E:Vb->Vd->Prop}{s:Vd}
theorem lt_tupInts{l b:Vh}{items items2:Array Vb}{ns ms:List Int}{Q:Vb->Vd->Prop}(hl:Q0 s.heap l items)(hb:Q0 s.heap b items2)(hi:Vw items.toList ns)(hj:Vw items2.toList ms)
  (hu:A.units<cLine)(h:Q (.bool (lexLt ns ms)) s):Vk (Vi prog w) A (S6 .Lt (.ref l) (.ref b)) Q E s:=by
 obtain⟨⟨cls,dd,data,sl⟩,ho,hc,n,hd⟩:=id hl;obtain⟨⟨cls2,dd2,data2,sl2⟩,ho2,hc2,n2,hd2⟩:=id hb;simp only at hc hd hc2 hd2;subst hc hd hc2 hd2;exact richCompare_meets_room (op:=.Lt) ⟨_,ho,rfl⟩ ⟨_,ho2,rfl⟩ Taw Tbx (Tbr _ _) (tuple_lt_ints l b items items2 n n2 dd dd2 sl sl2 ns ms hi hj)
  ⟨ho,ho2,show xC (lexLt ns ms)≠Tce/\Q (.bool (lexLt ns ms)) s from⟨(λx=>nomatch x),h⟩⟩ hu
theorem cat_tup{t b:Vh}{vs ws:List Vb}{Q:Vb->Vd->Prop}(ht:Q0 s.heap t vs.toArray)(hb:Q0 s.heap b ws.toArray)(hv:vs≠[])
  (h1:ws=[]->Q (.ref t) s)(h2:ws≠[]->Q (.ref s.heap.objs.size) { s with heap:=s.heap.push { cls:=.type "tuple",data:=.seq (vs++ws).toArray } })
  (hsz:vs.length+ws.length<=sizeLine):Vk (Vi prog w) A (Q3 .Add (.ref t) (.ref b)) Q E s:=by
 obtain⟨⟨cls,dd,data,sl⟩,ho,hc,n,hd⟩:=id ht;obtain⟨⟨cls2,dd2,data2,sl2⟩,ho2,hc2,n2,hd2⟩:=id hb;simp only at hc hd hc2 hd2;subst hc hd hc2 hd2;have e:vs.toArray++ws.toArray=(vs++ws).toArray:=by simp
 by_cases hw:ws=[]
 ·exact Uen ⟨_,ho,rfl⟩ ⟨_,ho2,rfl⟩ Ucy Uef Tas Tap (Tam _ _)
   (tuple_addW1 t b vs.toArray ws.toArray n n2 dd dd2 sl sl2 (by simpa using hv) (by simp[hw])) ⟨ho,ho2,h1 hw⟩
 ·refine Uen ⟨_,ho,rfl⟩ ⟨_,ho2,rfl⟩ Ucy Uef Tas Tap (Tam _ _)
   (tuple_addW2 t b vs.toArray ws.toArray n n2 dd dd2 sl sl2 (by simpa using hv) (by simpa using hw) (by rw[Xk,Xk];exact hsz)) ⟨ho,ho2,?_⟩
  rw[e];exact h2 hw
nonrec def sIx(n d:Nat):Option Int->Nat
 |none=>d
 |some v=>if v<0 then (v+(n:Int)).toNat else min v.toNat n
theorem Yc6(n d:Nat)(hd:d<=n)(o:Option Int):sIx n d o<=n:=by
 cases o with
 |none=>exact hd
 |some v=>
  show (if v<0 then (v+(n:Int)).toNat else min v.toNat n)<=n;by_cases hv:v<0
  ·rw[d7 hv];omega
  ·rw[d9 hv];exact Wfi _ _
theorem mm0(i:Int)(n:Nat)(h:¬ i<0):min i (n:Int)=((min i.toNat n:Nat):Int):=by
 obtain⟨m,rfl⟩:=Wff (Int.not_lt.mp h);rw[bO];rcases Nat.le_total m n with z |z
 ·rw[vQ z,Whb (Int.ofNat_le.mpr z)]
 ·rw[Wgt z,Int.min_eq_right (Int.ofNat_le.mpr z)]
theorem mm1(i:Int)(n:Nat)(h:¬ i<0):max 0 (min i (n:Int))=((min i.toNat n:Nat):Int):=by
 rw[mm0 i n h];exact Int.max_eq_right (Int.natCast_nonneg _)
theorem mm2(i:Int)(n:Nat)(h:i<0):max 0 (min (i+(n:Int)) n)=((i+(n:Int)).toNat:Int):=by
 rw[Whb f8,Int.max_comm];exact(Int.toNat_eq_max _).symm
theorem Zqd(v:Int)(n d:Nat):(if v<0 then max (v+(n:Int)) 0 else min v (n:Int))=((sIx n d (B3 v):Nat):Int):=by
 show (if v<0 then max (v+(n:Int)) 0 else min v (n:Int))=(((if v<0 then (v+(n:Int)).toNat else min v.toNat n):Nat):Int)
 by_cases hv:v<0
 ·simp only[d7 hv];omega
 ·simp only[d9 hv];exact mm0 v n hv
theorem Zor(lo hi:Option Int)(n:Nat):Tak lo hi 1 (n:Int)=(((sIx n 0 lo:Nat):Int),((sIx n n hi:Nat):Int)):=by
 have h1:¬ ((1:Int)<0):=by omega
 unfold Tak;simp only[h1,if_false];refine Prod.ext ?_ ?_
 ·cases lo with
  |none=>rfl
  |some v=>exact Zqd v n 0
 ·cases hi with
  |none=>rfl
  |some v=>exact Zqd v n n
theorem Zoz(i j:Nat):Tac (i:Int) (j:Int) 1=j-i:=by
 unfold Tac;have h1:(1:Int) > 0:=by omega
 simp only[h1,if_true,Int.ediv_one];split<;>omega
theorem Zin{v:Vb}{o:Option Int}{Q:Option Int->Vd->Prop}(p:eE v o)(h:Q o s):Vk (Vi prog w) A (Builtin.Slice.slicePartIndex v) Q E s:=by
 cases p with
 |none=>exact slicePart_none h
 |int i t=>exact slicePart_int h
theorem sliceApplied_gen{sl:Vh}{vl vu:Vb}{lo hi:Option Int}{n:Nat}{Q:Int×Int×Nat->Vd->Prop}(hs:s.heap.IsSliceOf sl vl vu .none)(pl:eE vl lo)(pu:eE vu hi)
  (h:Q (((sIx n 0 lo:Nat):Int),1,sIx n n hi-sIx n 0 lo) s):Vk (Vi prog w) A (Tbg (.ref sl) (pure (n:Int))) Q E s:=by
 obtain⟨os,hos,hcs,hds⟩:=id hs;unfold Tbg Builtin.Slice.sliceFields;refine Va (Va (lQ hos hds (x:=vl) rfl (Va (lQ hos hds (x:=vu) rfl (Va (lQ hos hds (x:=.none) rfl (Vc ?_)))))));refine Va (slicePart_none ?_);show Vk _ _ (if ((1:Int)==0)=B1 then _ else _) _ _ s;rw[d9 g9];refine Va (Zin pl (Va (Zin pu (Va (Vc ?_)))));show Vk _ _ (match Tak lo hi 1 (n:Int)with |(lo,hi)=>pure (lo,(1:Int),Tac lo hi 1)) _ _ s;rw[Zor lo hi n];show Vk _ _ (pure (((sIx n 0 lo:Nat):Int),(1:Int),Tac ((sIx n 0 lo:Nat):Int) ((sIx n n hi:Nat):Int) 1)) _ _ s;rw[Zoz];exact Vc h
theorem Zty(xs:Array Vb)(i k:Nat):((V4 k).filterMap λ(m:Nat)=>xs[((i:Int)+(m:Int)*1).toNat]?).toArray=((xs.toList.drop i).take k).toArray:=by
 have e:(λ(m:Nat)=>xs[((i:Int)+(m:Int)*1).toNat]?)=λm=>xs[i+m]? := by
  funext m;have:((i:Int)+(m:Int)*1).toNat=i+m:=by omega
  rw[this]
 rw[e];have:=pick_run xs i k;rw[List.filterMap_map]at this;have e2:((λx=>xs[x]?) ∘ λx=>i+x)=λm=>xs[i+m]? := rfl;rw[e2]at this;rw[this]
theorem getItem_tuple_cut{t sl:Vh}{items:Array Vb}{vl vu:Vb}{lo hi:Option Int}{Q:Vb->Vd->Prop}(ht:Q0 s.heap t items)(hs:s.heap.IsSliceOf sl vl vu .none)(pl:eE vl lo)(pu:eE vu hi)
  (hw:¬ (sIx items.size 0 lo=0/\sIx items.size items.size hi=items.size))
  (h:Q (.ref s.heap.objs.size) { s with heap:=s.heap.push { cls:=.type "tuple",data:=.seq ((items.toList.drop (sIx items.size 0 lo)).take (sIx items.size items.size hi-sIx items.size 0 lo)).toArray } })
  (hsz:items.size<=sizeLine):Vk (Vi prog w) A (jE (.ref t) (.ref sl)) Q E s:=by
 have htake:sizeOk (.seq ((items.toList.drop (sIx items.size 0 lo)).take (sIx items.size items.size hi-sIx items.size 0 lo)).toArray):=by
  show ((items.toList.drop (sIx items.size 0 lo)).take (sIx items.size items.size hi-sIx items.size 0 lo)).toArray.size<=sizeLine;rw[Xk,Z5,fZ,Xw];exact N2 (Wfi _ _) (N2 (Nat.sub_le _ _) hsz)
 have hj:sIx items.size items.size hi<=items.size:=Yc6 _ _ (Xd _) hi;obtain⟨os,hos,hcs,hds⟩:=id hs;have hTs:s.TypeIs (.ref sl) "slice" := ⟨os,hos,hcs⟩
 unfold jE
 try with_reducible refine Vq ?_
 first |refine Va (Vc ?_) |skip
 refine Va (wpAny_sequenceKey ht.typeIs g9 ?_);refine Va (lU (name:=Ue "__getitem__") ht.typeIs Ui
  (Vt Ui ht.typeIs entry_tuple_getitem ?_ (args_tuple_getitem _ _)))
 show Vk _ _ (Tbh (.ref t) >>= _) _ _ s;refine Va (tupleItemsOf_ ht ?_);refine Va (wV hTs ?_);rw[d7 g9];refine Va (sliceApplied_gen hs pl pu ?_);have hno:¬ ((((sIx items.size 0 lo:Nat):Int)==0&&(1:Int)==1&&(sIx items.size items.size hi-sIx items.size 0 lo)==items.size)=B1):=by
  intro q;rw[V6,V6]at q;have q1:((sIx items.size 0 lo:Nat):Int)=0:=eq_of_beq q.1.1;have q2:sIx items.size items.size hi-sIx items.size 0 lo=items.size:=eq_of_beq q.2;exact hw ⟨by omega,by omega⟩
 show Vk _ _ (if (((sIx items.size 0 lo:Nat):Int)==0&&(1:Int)==1&&(sIx items.size items.size hi-sIx items.size 0 lo)==items.size)=B1 then _ else _) _ _ s;rw[d9 hno,Zty]
 first
  |exact Va (m:=Taf _) (Vu (Vc ⟨_,rfl,Vc h⟩) htake)
  |exact Va (m:=Taf _) (Vu (Va (Vc (Vc ⟨_,rfl,Vc h⟩))) htake)
  |exact Va (Va (m:=Taf _) (Vu (Vc (Vc ⟨_,rfl,Vc h⟩)) htake))
  |exact Va (Va (m:=Taf _) (Vu (Vc ⟨_,rfl,Vc h⟩) htake))
end
end HT
namespace L2
open PySem PySem.Spec PyProof.Rows
nonrec abbrev TO:=St->Hp->(Option Int->Hp->Prop)->Prop
def PO(X:Cx)(e:Option Vz)(t:TO):Prop :=
 ∀(b5:List (Vh×Obj))(s:Vd)(σ:St)(H:Hp)(Q:Option Int->Hp->Prop),B6 X b5 σ H s->t σ H Q ->
  Vk (Vi X.prog X.w) X.A (evalPart e X.env) (λu s'=>∃o H',B6 X b5 σ H' s'/\eE u o/\Q o H') X.xe s
nonrec def Zyy:TO:=λ_ H Q=>Q B0 H
nonrec def qI(t:TE):TO:=λσ H Q=>t σ H λx H1=>∃i,x=.int i/\Q (B3 i) H1
theorem oD{ns:List Int}:∀{us:List Vb},D5 (ns.map V.int) us->Vw us ns:=by
 induction ns with
 |nil=>intro us r;rw[List.map_nil]at r;cases r;exact .nil
 |cons n ns ih=>
  intro us r;rw[Xx]at r;cases r with
  |cons r1 r2=>
   obtain⟨t,e⟩:=r1;subst e;exact .cons n t (ih r2)
section
variable{X:Cx}{e:Vz}{te:TE}{lo hi:Option Vz}{tl th:TO}{pos p2:Pos}
theorem Zyt:PO X B0 Zyy:=by
 intro b5 s σ H Q I h;rw[evalPart_none];exact Vc ⟨B0,H,I,.none,h⟩
theorem Zxt(h:PE X e te):PO X (B3 e) (qI te):=by
 intro b5 s σ H Q I hw;rw[evalPart_some];refine D7 (h b5 s σ H _ I hw) λu s1 zz=>?_;obtain⟨x,H1,I1,r1,q1⟩:=zz;obtain⟨i,rfl,q⟩:=q1;obtain⟨t,rfl⟩:=r1;exact⟨B3 i,H1,I1,.int i t,q⟩
def SlR(X:Cx)(r:V->Option Int->Option Int->Hp->VK->Prop):Prop :=
 ∀(b5:List (Vh×Obj))(s:Vd)(σ:St)(H:Hp)(x:V)(v vl vu:Vb)(lo hi:Option Int)(sl:Vh)(Q:VK),B6 X b5 σ H s->E4 x v->s.heap.IsSliceOf sl vl vu .none->eE vl lo->eE vu hi->r x lo hi H Q ->
  ∃T id,typeLookup (.type T) "__getitem__" = pure (B3 (.builtin id))/\s.TypeIs v T/\Vk (Vi X.prog X.w) X.A (jE v (.ref sl)) (EP X b5 σ Q) X.xe s
nonrec def tSl(r:V->Option Int->Option Int->Hp->VK->Prop)(te:TE)(tl th:TO):TE:=λσ H Q=>te σ H λx H1=>tl σ H1 λl H2=>th σ H2 λu H3=>r x l u H3 Q
theorem Ztp{r:V->Option Int->Option Int->Hp->VK->Prop}(hr:SlR X r)(he:PE X e te)(hl:PO X lo tl)(hu:PO X hi th):PE X (.Subscript e (.Slice lo hi B0 p2) pos) (tSl r te tl th):=by
 intro b5 s σ H Q I h;refine Subscript_ (D7 (he b5 s σ H _ I h) λv s1 zz=>?_);obtain⟨x,H1,I1,r1,q1⟩:=zz;refine wpAny_Slice (D7 (hl b5 s1 σ H1 _ I1 q1) λvl s2⟨l,H2,I2,pl,q2⟩=>D7 (hu b5 s2 σ H2 _ I2 q2) λvu s3 zz=>?_);obtain⟨u,H3,I3,pu,q3⟩:=zz;rw[evalPart_none];refine Vc ?_;have I4:B6 X b5 σ H3 { s3 with heap:=s3.heap.push { cls:=.type "slice",data:=.fields #[vl,vu,.none] } }:=I3.kept (t':=s3.toks) λb ob q=>Xb _ q;obtain⟨T,id,hT,ht,hg⟩:=hr b5 { s3 with heap:=s3.heap.push { cls:=.type "slice",data:=.fields #[vl,vu,.none] } } σ H3 x v vl vu l u s3.heap.objs.size Q I4 r1 (Heap.IsSliceOf.new ..) pl pu q3;show Vk (Vi X.prog X.w) X.A (subscriptTail e (.Slice lo hi B0 p2) v (.ref s3.heap.objs.size)) (EP X b5 σ Q) X.xe { s3 with heap:=s3.heap.push { cls:=.type "slice",data:=.fields #[vl,vu,.none] } };exact tail_any (ops:=[.ref s3.heap.objs.size,v]) ht hT hg (by with_unfolding_all rfl)
nonrec def hJ(xs:List V)(lo hi:Option Int):List V:=(xs.drop (HT.sIx xs.length 0 lo)).take (HT.sIx xs.length xs.length hi-HT.sIx xs.length 0 lo)
theorem Zdn(xs:List V)(lo hi:Option Int):(hJ xs lo hi).length<=xs.length:=by
 unfold hJ;rw[Z5,fZ];exact N2 (Wfi _ _) (Nat.sub_le _ _)
nonrec def rSlT(K:Xa):V->Option Int->Option Int->Hp->VK->Prop:=λx lo hi H Q=>∃a xs,x=.ref a/\M4 K H a xs /\
 ¬ (HT.sIx xs.length 0 lo=0/\HT.sIx xs.length xs.length hi=xs.length)/\∀p,H p=B0->Q (.ref p) (upd H p (.tup (hJ xs lo hi)))
theorem Zz3:SlR X (rSlT X.K):=by
 intro b5 s σ H x v vl vu lo hi sl Q I rx hs pl pu h;obtain⟨a,xs,rfl,hx,hw,q⟩:=h;cases rx;obtain⟨b9,r,ht,hz⟩:=I.tuple hx;have d4:b9.toArray.size=xs.length:=by rw[Xk];exact r.length.symm
 refine⟨"tuple",_,Ui.lookup,ht.typeIs,?_⟩;refine HT.getItem_tuple_cut ht hs pl pu (by rw[d4];exact hw) ?_ (by rw[d4];exact hz);rw[d4];refine⟨.ref s.heap.objs.size,_,I.laid (t':=s.toks) (o:=.tup (hJ xs lo hi)) (λb ob q=>Xb _ q) (Xd _) ?_,rfl,q _ (I.hok.fresh (Xd _))⟩;exact⟨N2 (Zdn xs lo hi) hz,_,(r.drop (HT.sIx xs.length 0 lo)).take (HT.sIx xs.length xs.length hi-HT.sIx xs.length 0 lo),fP.new _ _⟩
nonrec def qT(K:Xa):R2:=λx y H Q=>∃a b xs ys,x=.ref a/\y=.ref b/\M4 K H a xs/\M4 K H b ys/\xs≠[]/\xs.length+ys.length<=sizeLine /\
 (ys=[]->Q (.ref a) H)/\(ys≠[]->∀p,H p=B0->Q (.ref p) (upd H p (.tup (xs++ys))))
theorem D5.nil_iff{xs:List V}{us:List Vb}(r:D5 xs us):us=[] ↔ xs=[]:=by
 cases r with
 |nil=>simp
 |cons _ _=>simp
theorem Zrp:N5 X (Q3 .Add) (qT X.K):=by
 intro b5 s σ H x y v u Q I rx ry h;obtain⟨a,b,xs,ys,rfl,rfl,ha,hb,hx,hz,q1,q2⟩:=h;cases rx;cases ry;obtain⟨b9,r1,p1,_⟩:=I.tuple ha;obtain⟨its2,r2,p2,_⟩:=I.tuple hb;refine HT.cat_tup p1 p2 (λz=>hx (r1.nil_iff.mp z)) (λz=>⟨.ref a,H,I,rfl,q1 (r2.nil_iff.mp z)⟩) (λz=>?_) (by rw[<- r1.length,<- r2.length];exact hz);refine⟨.ref s.heap.objs.size,_,I.laid (t':=s.toks) (o:=.tup (xs++ys)) (λb ob q=>Xb _ q) (Xd _) ?_,rfl,q2 (λw=>z (r2.nil_iff.mpr w)) _ (I.hok.fresh (Xd _))⟩;exact⟨by rw[Y4];exact hz,_,r1.append r2,fP.new _ _⟩
end
nonrec def gR(n:Nat)(i:Int):Option Nat:=if 0<=i then (if i<n then B3 i.toNat else B0)else if -(n:Int)<=i then B3 (i+n).toNat else B0
nonrec def M0{α:Type}(xs:List α)(i:Int):Option α:=(gR xs.length i).bind λj=>xs[j]?
theorem Zye{n:Nat}{i:Int}{j:Nat}(h:gR n i=B3 j):seqIndex? i n=B3 j/\j<n /\ -(n:Int)<=i/\i<n:=by
 unfold gR at h;by_cases h0:0<=i
 ·rw[d7 h0]at h;by_cases h1:i<n
  ·rw[d7 h1]at h;have e:i.toNat=j:=B3.inj h;exact⟨by rw[seqIndex_of h0 h1,e],by omega,by omega,h1⟩
  ·rw[d9 h1]at h;cases h
 ·rw[d9 h0]at h;by_cases h1 : -(n:Int)<=i
  ·rw[d7 h1]at h;have e:(i+n).toNat=j:=B3.inj h;exact⟨by rw[seqIndex_neg f8 h1,e],by omega,h1,by omega⟩
  ·rw[d9 h1]at h;cases h
theorem Zrg{α:Type}{xs:List α}{i:Int}{v:α}(h:M0 xs i=B3 v):∃j,seqIndex? i xs.length=B3 j/\xs[j]? = B3 v/\j<xs.length /\ -(xs.length:Int)<=i/\i<xs.length:=by
 unfold M0 at h;cases e:gR xs.length i with
 |none=>rw[e]at h;cases h
 |some j=>
  rw[e]at h;obtain⟨h1,h2,h3,h4⟩:=Zye e;exact⟨j,h1,h,h2,h3,h4⟩
theorem Zi8{α:Type}{xs:List α}{j:Nat}{v:α}(h:xs[j]? = B3 v):M0 xs (j:Int)=B3 v:=by
 have hj:j<xs.length:=(Xg.mp h).1;have e:gR xs.length (j:Int)=B3 j:=by
  unfold gR;rw[d7 f8,d7 f8];simp
 unfold M0;rw[e];exact h
theorem nU{α:Type}(xs:List α)(v:α):M0 (xs++[v]) (-1)=B3 v:=by
 have hl:(xs++[v]).length=xs.length+1:=by simp
 have e:gR (xs++[v]).length (-1)=B3 xs.length:=by
  unfold gR;rw[hl,d9 g9,d7 f8]
  congr 1
  omega
 unfold M0;rw[e];show (xs++[v])[xs.length]? = B3 v;simp
def Zrr(b:Vz):Prop:=∀o i,subscripted b B2 o i=operate [o,i] (jE o i)
def IxR(X:Cx)(r:R2):Prop :=
 ∀(value slice:Vz)(b5:List (Vh×Obj))(s:Vd)(σ:St)(H:Hp)(x y:V)(v u:Vb)(Q:VK),B6 X b5 σ H s->E4 x v->E4 y u->r x y H Q ->
  subscripted slice B2 v u=operate [v,u] (jE v u)->Vk (Vi X.prog X.w) X.A (subscriptTail value slice v u) (EP X b5 σ Q) X.xe s
def MtR(X:Cx)(id:String)(r:V->List V->Hp->VK->Prop):Prop :=
 ∀(b5:List (Vh×Obj))(s:Vd)(σ:St)(H:Hp)(x:V)(xs:List V)(v:Vb)(us:List Vb)(Q:VK),B6 X b5 σ H s->E4 x v->D5 xs us->r x xs H Q ->
  Vk (Vi X.prog X.w) X.A (call (.builtin id) (v::us)) (EP X b5 σ Q) X.xe s
section
variable{X:Cx}{a b:Vz}{ta tb:TE}{pos:Pos}
theorem rC{r:R2}(hr:IxR X r)(ha:PE X a ta)(hb:PE X b tb)(hs:Zrr b):PE X (.Subscript a b pos) (qJ r ta tb):=by
 intro b5 s σ H Q I h;exact Subscript_ (kD ha hb I h λv u s2 x y H2 I2 rx ry q=>hr a b b5 s2 σ H2 x y v u Q I2 rx ry q (hs _ _))
nonrec def rIxL(K:Xa):R2:=λx y H Q=>∃p xs i v,x=.ref p/\y=.int i/\G7 K H p xs/\M0 xs i=B3 v/\Q v H
nonrec def rIxT(K:Xa):R2:=λx y H Q=>∃p xs i v,x=.ref p/\y=.int i/\M4 K H p xs/\M0 xs i=B3 v/\Q v H
theorem Zxl:IxR X (rIxL X.K):=by
 intro value slice b5 s σ H x y v u Q I rx ry h hs;obtain⟨p,xs,i,z,rfl,rfl,hq,he,q⟩:=h;cases rx;obtain⟨t,rfl⟩:=ry;obtain⟨b9,r,pl,hz⟩:=I.list hq;obtain⟨j,h1,h2,h3,h4,h5⟩:=Zrg he;obtain⟨w,ew,rw'⟩:=r.get h2;have hl:=r.length;have hn:=tD;have fin:EP X b5 σ Q w s:=⟨z,H,I,rw',q⟩
 by_cases h0:0<=i
 ·have hj:i.toNat=j:=by
   rw[seqIndex_of h0 h5]at h1;exact B3.inj h1
  exact item_listR pl.isList h0 f8 (by rw[hj];simpa using ew) fin hs
 ·have hj:(i+(b9.toArray.size:Int)).toNat=j:=by
   rw[seqIndex_neg f8 h4]at h1;rw[Xk,<- hl];exact B3.inj h1
  exact Udc (x:=w) pl.isList.typeIs slot_list_getitem.lookup
   (wpAny_getItem_list_neg (Q:=λr s'=>r=w/\EP X b5 σ Q r s') pl.isList f8 (by rw[Xk]<;>omega) f8 (by rw[hj];simpa using ew) ⟨rfl,fin⟩) hs
theorem Ycs:IxR X (rIxT X.K):=by
 intro value slice b5 s σ H x y v u Q I rx ry h hs;obtain⟨p,xs,i,z,rfl,rfl,hq,he,q⟩:=h;cases rx;obtain⟨t,rfl⟩:=ry;obtain⟨b9,r,pl,hz⟩:=I.tuple hq;obtain⟨j,h1,h2,h3,h4,h5⟩:=Zrg he;obtain⟨w,ew,rw'⟩:=r.get h2;have hl:=r.length;have hn:=tD;have fin:EP X b5 σ Q w s:=⟨z,H,I,rw',q⟩
 exact Udc (x:=w) pl.typeIs slot_tuple_getitem.lookup
  (getItem_tuple (j:=j) (Q:=λr s'=>r=w/\EP X b5 σ Q r s') pl f8 f8 (by rw[Xk,<- hl];exact h1) (by simpa using ew) ⟨rfl,fin⟩) hs
theorem Zkp(lo hi:Option Int)(n:Nat):(lP lo hi B0 n).1=((HT.sIx n 0 lo:Nat):Int)/\(lP lo hi B0 n).2.1=((HT.sIx n n hi:Nat):Int)/\(lP lo hi B0 n).2.2=1:=by
 refine⟨?_,?_,rfl⟩
 ·cases lo with
  |none=>simp[lP,HT.sIx]
  |some i=>
   simp only[lP,HT.sIx,Wgu,show (1:Int) > 0 by decide,if_true];by_cases h:i<0
   ·simp only[h,if_true];exact HT.mm2 i n h
   ·simp only[h,if_false];exact HT.mm1 i n h
 ·cases hi with
  |none=>simp[lP,HT.sIx]
  |some i=>
   simp only[lP,HT.sIx,Wgu,show (1:Int) > 0 by decide,if_true];by_cases h:i<0
   ·simp only[h,if_true];exact HT.mm2 i n h
   ·simp only[h,if_false];exact HT.mm1 i n h
theorem Zjb(b9:List Vb)(lo hi:Option Int):slicePick b9.toArray lo hi B0=((b9.drop (HT.sIx b9.length 0 lo)).take (HT.sIx b9.length b9.length hi-HT.sIx b9.length 0 lo)).toArray:=by
 obtain⟨h1,h2,h3⟩:=Zkp lo hi b9.toArray.size;unfold slicePick;rw[h1,h2,h3];simp only[sliceRange_one,pick_run,Xk]<;>rfl
nonrec def rSlL(K:Xa):V->Option Int->Option Int->Hp->VK->Prop:=λx lo hi H Q=>∃a xs,x=.ref a/\G7 K H a xs/\∀p,H p=B0->Q (.ref p) (upd H p (.lst (hJ xs lo hi)))
theorem Zzi:SlR X (rSlL X.K):=by
 intro b5 s σ H x v vl vu lo hi sl Q I rx hs pl pu h;obtain⟨a,xs,rfl,hx,q⟩:=h;cases rx;obtain⟨b9,r,ht,hz⟩:=I.list hx;have d4:=r.length;refine⟨"list",_,slot_list_getitem.lookup,ht.isList.typeIs,?_⟩;refine wpAny_getItem_list_slice ht.isList hs pl pu .none g8 ?_ (by rw[Xk]<;>omega);rw[Zjb,<- d4];refine⟨.ref s.heap.objs.size,_,I.laid (t':=s.toks) (o:=.lst (hJ xs lo hi)) (λb ob q=>Xb _ q) (Xd _) ?_,rfl,q _ (I.hok.fresh (Xd _))⟩;exact⟨N2 (Zdn xs lo hi) hz,_,0,(r.drop (HT.sIx xs.length 0 lo)).take (HT.sIx xs.length xs.length hi-HT.sIx xs.length 0 lo),Xi _ rfl⟩
theorem Zku:Y1 X (.builtin "len") (λxs H Q=>∃p ys,xs=[.ref p]/\(G7 X.K H p ys\/M4 X.K H p ys)/\Q (.int ys.length) H):=by
 intro b5 s σ H xs us Q I r h;obtain⟨p,ys,rfl,hq,q⟩:=h;obtain⟨u,rfl,rx⟩:=bH r;cases rx;have hn:=tD;rcases hq with hq |hq
 ·obtain⟨b9,r',pl,hz⟩:=I.list hq;have d4:=r'.length;exact Calls.call_len_list pl.isList (by simp only[Xk]<;>omega) ⟨.int ys.length,H,I.tok _,⟨s.toks+1,by rw[Xk,d4]⟩,q⟩
 ·obtain⟨b9,r',pl,hz⟩:=I.tuple hq;have d4:=r'.length;exact len_tuple pl (by simp only[Xk]<;>omega) ⟨.int ys.length,H,I.tok _,⟨s.toks+1,by rw[Xk,d4]⟩,q⟩
theorem Zk2:Y1 X (.builtin "len") (λxs H Q=>∃z,xs=[.str z]/\z.length<=sizeLine/\Q (.int z.length) H):=by
 intro b5 s σ H xs us Q I r h;obtain⟨z,rfl,hz,q⟩:=h;obtain⟨u,rfl,t,rfl⟩:=bH r;have hn:=tD;exact len_str f8 ⟨.int z.length,H,I.tok _,⟨_,rfl⟩,q⟩
theorem Zkx:Y1 X (.type "list") (λxs H Q=>∃p ys,xs=[.ref p]/\(G7 X.K H p ys\/M4 X.K H p ys)/\∀l,H l=B0->Q (.ref l) (upd H l (.lst ys))):=by
 intro b5 s σ H xs us Q I r h;obtain⟨p,ys,rfl,hq,q⟩:=h;obtain⟨u,rfl,rx⟩:=bH r;cases rx;have fin:∀(b9:List Vb),D5 ys b9->ys.length<=sizeLine->∀(h':C5)(c':Nat),(∀b o',s.heap.get? b=B3 o'->h'.get? b=B3 o') ->
   h'.get? s.heap.objs.size=B3 { cls:=.type "list",dict:=B0,data:=.seq b9.toArray c',slots := #[] }->EP X b5 σ Q (.ref s.heap.objs.size) { s with heap:=h' }:=λb9 r' hz h' c' kp e=>
  ⟨.ref s.heap.objs.size,_,I.laid (t':=s.toks) kp (Xd _) (show N1 X.prog X.w _ h' _ (.lst ys)from⟨hz,b9,c',r',e⟩),rfl,q _ (I.hok.fresh (Xd _))⟩
 rcases hq with hq |hq
 ·obtain⟨b9,r',pl,hz⟩:=I.list hq;have d4:=r'.length;obtain⟨o,ho,hc,n,hd⟩:=pl.isList;exact call_list_seq p (.inl rfl) ho hc hd (λh' c' kp e=>fin b9 r' hz h' c' kp e) (by simp only[Xk]<;>omega)
 ·obtain⟨b9,r',pl,hz⟩:=I.tuple hq;have d4:=r'.length;obtain⟨o,ho,hc,n,hd⟩:=pl;exact call_list_seq p (.inr rfl) ho hc hd (λh' c' kp e=>fin b9 r' hz h' c' kp e) (by simp only[Xk]<;>omega)
theorem Zjg:Y1 X (.type "tuple") (λxs H Q=>∃p ys,xs=[.ref p]/\((G7 X.K H p ys/\∀l,H l=B0->Q (.ref l) (upd H l (.tup ys)))\/(M4 X.K H p ys/\Q (.ref p) H))):=by
 intro b5 s σ H xs us Q I r h;obtain⟨p,ys,rfl,h⟩:=h;obtain⟨u,rfl,rx⟩:=bH r;cases rx;rcases h with ⟨hq,q⟩ |⟨hq,q⟩
 ·obtain⟨b9,r',pl,hz⟩:=I.list hq;have d4:=r'.length;refine call_tuple_list pl.isList (λh' kp=>?_) (by simp only[Xk]<;>omega);have I1:B6 X b5 σ H { s with heap:=h' }:=I.kept (t':=s.toks) kp;have I2:B6 X b5 σ (upd H h'.objs.size (.tup ys)) { s with heap:=h'.push { cls:=.type "tuple",data:=.seq b9.toArray } } :=
   I1.laid (t':=s.toks) (λb o e=>Xb _ e) (Xd _) (show N1 X.prog X.w _ _ _ (.tup ys)from⟨hz,b9,r',fP.new _ _⟩)
  exact⟨.ref h'.objs.size,_,I2,rfl,q _ (I1.hok.fresh (Xd _))⟩
 ·obtain⟨b9,r',pl,hz⟩:=I.tuple hq;exact call_tuple_same pl ⟨.ref p,H,I,rfl,q⟩
def tyV(K:Xa)(T:String)(x:V)(H:Hp):Prop:=match x with
 |.str _=>T = "str"
 |.int _=>T = "int"
 |.ref p=>(T = "list" /\∃xs,G7 K H p xs)\/(T = "tuple" /\∃o,K.lookup p=B3 o/\o.cls=.type "tuple" /\ o.dict=B0) \/
   (T = "dict" /\ ((∃b8,H p=B3 (.dK b8))\/∃b8,H p=B3 (.dT b8)))\/(T = "set" /\∃S n,H p=B3 (.set S n))
 |_=>False
theorem Ybn{b5:List (Vh×Obj)}{σ:St}{H:Hp}{s:Vd}{T:String}{x:V}{v:Vb}(I:B6 X b5 σ H s)(r:E4 x v)(ty:tyV X.K T x H) :
  s.TypeIs v T/\∀a,v=.ref a->∃ob,s.heap.get? a=B3 ob/\ob.dict=B0:=by
 cases x with
 |str z=>
  obtain⟨t,rfl⟩:=r;cases (show T = "str" from ty);exact⟨typeIs_str s z t,λ_ e=>nomatch e⟩
 |int i=>
  obtain⟨t,rfl⟩:=r;cases (show T = "int" from ty);exact⟨wR s i t,λ_ e=>nomatch e⟩
 |ref p=>
  cases r;rcases ty with ⟨rfl,xs,hq⟩ |⟨rfl,o,hk,hc,hd⟩ |⟨rfl,hk⟩ |⟨rfl,S,n,hk⟩
  ·obtain⟨b9,_,pl,_⟩:=I.list hq;refine⟨pl.isList.typeIs,λa e=>?_⟩;cases e;obtain⟨o,n,e,c,hd,_⟩:=pl;exact⟨o,e,hd⟩
  ·refine⟨⟨o,I.kIn p o hk,hc⟩,λa e=>?_⟩;cases e;exact⟨o,I.kIn _ o hk,hd⟩
  ·have z:∃o,s.heap.get? p=B3 o/\o.ExactDict:=by
    rcases hk with ⟨b8,hk⟩ |⟨b8,hk⟩
    ·obtain⟨_,_,_,_,o,_,_,e,ex,_⟩:=I.hok p _ hk;exact⟨o,e,ex⟩
    ·obtain⟨_,_,_,_,o,_,_,e,ex,_⟩:=I.hok p _ hk;exact⟨o,e,ex⟩
   obtain⟨o,e,ex⟩:=z;refine⟨⟨o,e,ex.1⟩,λa e2=>?_⟩;cases e2;exact⟨o,e,ex.2.1⟩
  ·obtain⟨o,_,_,_,e,ex,_⟩:=I.hok p _ hk;refine⟨⟨o,e,ex.1⟩,λa e2=>?_⟩;cases e2;exact⟨o,e,ex.2.1⟩
 |_=>exact Uh ty
nonrec def tBM(K:Xa)(T:String)(r:V->List V->Hp->VK->Prop)(to:TE)(t:TA):TE:=λσ H Q=>to σ H λx H1=>tyV K T x H1/\t σ H1 λxs H2=>r x xs H2 Q
variable{o e:Vz}{es:List Vz}{to:TE}{t:TA}{name:Str}{apos d5:Pos}{T id:String}{r:V->List V->Hp->VK->Prop}
theorem rD(pa:PlainAttrs T)(slot:Slot T name id)(hty:lK (.builtin id)=pure (.type "method_descriptor"))(hm:MtR X id r)(ho:PE X o to)(ha:PA X (e::es) t)
  (hbase:attributeBase o name X.env (eval o X.env)=eval o X.env:=by rfl)
  (hfew:((K8 d5 (Vg (e::es) X.env)).all (λx=> !x.1)&&(pC d5 (pI [] X.env)).all (λx=>x.1.isSome)
   && decide ((e::es).length+([]:List jD).length+(if ([]:List jD).isEmpty then 0 else 1)<30))=B1:=by rfl)
  (hline:(apos.endLine==d5.line)=B1:=by rfl)(hs:Vg (e::es) X.env=(B2,eval e X.env)::Vg es X.env:=by rfl)(hplain:(K8 d5 (Vg es X.env)).any (·.1)=B2:=by rfl) :
  PE X (.Call (.Attribute o name apos) (e::es) [] d5) (tBM X.K T r to t):=by
 intro b5 s σ H Q I h;refine wpAny_Call_method_late hbase hfew hline rfl (D7 (ho b5 s σ H _ I h) λv s1 zz=>?_);obtain⟨x,H1,I1,r1,ty,q1⟩:=zz;obtain⟨h1,h2⟩:=Ybn I1 r1 ty;refine⟨T,id,pa,slot,hty,h1,h2,?_⟩;have hA:=ha d5 b5 s1 σ H1 _ I1 q1;rw[hs]at hA ⊢;refine Calls.callWith_builtin (by show (B2||(K8 d5 (Vg es X.env)).any (·.1))=B2;rw[hplain]<;>rfl) (Tcf ?_);exact D7 hA λus s2⟨vs,H2,I2,r2,q2⟩=>hm b5 s2 σ H2 x vs v us Q I2 r1 r2 q2
end
def MtM(X:Cx)(id:String)(r:V->List V->Hp->VK->Prop):Prop :=
 ∀(b5:List (Vh×Obj))(s:Vd)(σ:St)(H:Hp)(x:V)(xs:List V)(v:Vb)(us:List Vb)(Q:VK),B6 X b5 σ H s->E4 x v->D5 xs us->r x xs H Q ->
  Vk (Vi X.prog X.w) X.A (call (.builtin id) (v::us)) (EP X b5 σ Q) X.xe s
theorem D5.one:∀{x:V}{us:List Vb},D5 [x] us->∃u,us=[u]/\E4 x u:=by
 intro x us h;cases h with
 |cons r t=>cases t;exact⟨_,rfl,r⟩
theorem D5.rep{xs:List V}{us:List Vb}(h:D5 xs us):∀k:Nat,D5 (Xl k xs).flatten (Xl k us).flatten
 | 0=>.nil
 |k+1=>by
  rw[gB,gB,iT,iT];exact D5.append h (D5.rep h k)
theorem Zhk(b9:List Vb):∀(k:Nat)(c4:List Vb),
  oK (λx1 x2=>x1++x2) c4.toArray (Xl k b9.toArray)=(c4++(Xl k b9).flatten).toArray
 | 0,c4=>by simp
 |k+1,c4=>by
  have e:c4.toArray++b9.toArray=(c4++b9).toArray:=by simp
  have e2:(c4++b9)++(Xl k b9).flatten=c4++(Xl (k+1) b9).flatten:=by
   rw[gB,iT,T5]
  rw[<- e2,<- Zhk b9 k (c4++b9),<- e,gB,Weg]
section
variable{X:Cx}{b5:List (Vh×Obj)}{σ:St}{H:Hp}{s:Vd}{l b:Vh}{xs ys zs:List V}
theorem B6.lset{b9 its':List Vb}{n:Nat}{f:Array Vb->Array Vb}{t':Nat}(I:B6 X b5 σ H s)(hH:H l=B3 (.lst xs))
  (e:s.heap.get? l=B3 { cls:=.type "list",data:=.seq b9.toArray n })(hf:f b9.toArray=its'.toArray)(hv:D5 ys its')(hz:ys.length<=sizeLine) :
  B6 X b5 σ (upd H l (.lst ys)) { s with heap:=s.heap.update l (Ud f),toks:=t' }:=by
 have q:=PySem.IsL.update e f;rw[hf]at q;refine I.write (x:=l) (e:=l) (by rw[hH];exact trivial) (.inl rfl) (λb' u hb hu=>(vZ s.heap (Ud f) (Uj hb)).trans hu) ⟨_,q⟩ ?_;exact⟨hz,its',_,hv,q⟩
theorem B6.lnew{b9:List Vb}{t':Nat}(I:B6 X b5 σ H s)(hv:D5 ys b9)(hz:ys.length<=sizeLine) :
  B6 X b5 σ (upd H s.heap.objs.size (.lst ys)) { s with heap:=s.heap.push { cls:=.type "list",data:=.seq b9.toArray },toks:=t' } :=
 I.laid (λ_ _ q=>Xb _ q) (Xd _) ⟨hz,b9,0,hv,Xi _ rfl⟩
theorem B6.fresh(I:B6 X b5 σ H s):H s.heap.objs.size=B0:=I.hok.fresh (Xd _)
theorem B6.lstM(I:B6 X b5 σ H s)(hH:H l=B3 (.lst xs)):xs.length<=sizeLine/\∃(b9:List Vb)(n:Nat),D5 xs b9/\xs.length=b9.length/\s.heap.get? l=B3 { cls:=.type "list",data:=.seq b9.toArray n }:=by
 obtain⟨z,b9,n,r,e⟩:=I.hok l _ hH;exact⟨z,b9,n,r,r.length,e⟩
theorem Zs8{n:Nat}(h:n<=sizeLine):Tan n=B2:=by
 unfold Tan;exact f7 f8
end
section
variable{X:Cx}
nonrec def Zxo:V->List V->Hp->VK->Prop:=λx vs H Q=>∃l xs y,x=.ref l/\vs=[y]/\H l=B3 (.lst xs)/\xs.length<sizeLine/\Q .non (upd H l (.lst (xs++[y])))
theorem Zlc:MtM X "list.append" Zxo:=by
 intro b5 s σ H x vs v us Q I rx rv h;obtain⟨l,xs,y,rfl,rfl,hH,hz,q⟩:=h;cases rx;obtain⟨u,rfl,ru⟩:=rv.one;obtain⟨z,b9,n,r,hl,e⟩:=I.lstM hH;refine jG F.slot_list_append ⟨_,e,rfl⟩ F.entry_list_append (F.args_list_append_2 _ _) (PySem.list_append l b9.toArray n u (by rw[Xk];omega)) ⟨e,?_⟩;refine⟨.non,_,I.lset (its':=b9++[u]) hH e g8 (r.append (.cons ru .nil)) ?_,rfl,q⟩;rw[Y4,List.length_singleton];omega
nonrec def rCat:R2:=λx y H Q=>∃l b xs zs,x=.ref l/\y=.ref b/\H l=B3 (.lst xs)/\H b=B3 (.lst zs)/\xs.length+zs.length<=sizeLine/\∀p,H p=B0->Q (.ref p) (upd H p (.lst (xs++zs)))
theorem Yad:N5 X (Q3 .Add) rCat:=by
 intro b5 s σ H x y v u Q I rx ry h;obtain⟨l,b,xs,zs,rfl,rfl,hH,hB,hz,q⟩:=h;cases rx;cases ry;obtain⟨z,b9,n,r,hl,e⟩:=I.lstM hH;obtain⟨z2,its2,n2,r2,hl2,e2⟩:=I.lstM hB;refine PySem.P.add_list e e2 ?_ (by rw[Xk,Xk];omega);have ea:b9.toArray++its2.toArray=(b9++its2).toArray:=by simp
 rw[ea];exact⟨.ref _,_,I.lnew (t':=s.toks) (r.append r2) (by rw[Y4];omega),rfl,q _ I.fresh⟩
nonrec def rRep:R2:=λx y H Q=>∃l k xs,x=.ref l/\y=.int k/\H l=B3 (.lst xs) /\ -(2 ^ 63)<=k/\k<2 ^ 63/\xs.length*k.toNat<=sizeLine /\
 ∀p,H p=B0->Q (.ref p) (upd H p (.lst (Xl k.toNat xs).flatten))
theorem Zlv{α:Type}(xs:List α)(k:Nat):(Xl k xs).flatten.length=k*xs.length:=by
 induction k with
 |zero=>simp
 |succ k ih=>rw[gB,iT,Y4,ih,Nat.succ_mul,Nat.add_comm]
theorem Yau:N5 X (Q3 .Mult) rRep:=by
 intro b5 s σ H x y v u Q I rx ry h;obtain⟨l,k,xs,rfl,rfl,hH,h1,h2,hz,q⟩:=h;cases rx;obtain⟨t,rfl⟩:=ry;obtain⟨z,b9,n,r,hl,e⟩:=I.lstM hH;have d4:b9.toArray.size*k.toNat<=sizeLine:=by rw[Xk,<- hl];exact hz
 have hcap:¬ b9.toArray.size*k.toNat > (2 ^ 63-1) / 8:=by
  have:(sizeLine:Nat)<=(2 ^ 63-1) / 8:=by decide
  omega
 have hfit:¬ (!Builtin.List.listFitsIndex k)=B1:=by
  rw[fitsIndex_both h1 h2];exact cY
 have hlong:¬ Tan (b9.toArray.size*k.toNat)=B1:=by
  rw[Zs8 d4];exact cY
 have hnew:oK (λx1 x2=>x1++x2) #[] (Xl (if b9.toArray.isEmpty=B1 then 0 else k.toNat) b9.toArray)=(Xl k.toNat b9).flatten.toArray:=by
  have f0:∀m:Nat,oK (λx1 x2=>x1++x2) #[] (Xl m b9.toArray)=(Xl m b9).flatten.toArray:=λm=>by
   have:=Zhk b9 m [];rw[Weh]at this;exact this
  rw[f0];cases b9 with
  |nil=>simp
  |cons a r'=>rw[d9 g8]
 refine Uci (T := "list") (U := "int") g9 ⟨_,e,rfl⟩ (λs'=>wR s' k t) noFill_list_mul F.fills_int_mul Tbd repeat_list F.slot_int_index.lookup
  (jG Tbd (wR s k t) F.entry_int_rmul (Tcn _ _) (int___rmul___int_list k t l b9.toArray n)
   ⟨e,rfl,⟨_,e,rfl⟩,jG F.slot_list_mul ⟨_,e,rfl⟩ F.entry_list_mul (F.args_list_mul_2 _ _) (AutoListH.list___mul___list_int_3 l b9.toArray n k t hfit hcap hlong) ⟨e,?_⟩⟩)
 rw[hnew];exact⟨.ref _,_,I.lnew (t':=s.toks) (r.rep k.toNat) (by rw[Zlv,vN];exact hz),rfl,q _ I.fresh⟩
end
section
variable{prog:Vl}{w:Vs}{A:Vo}{E:Vb->Vd->Prop}{s:Vd}
set_option maxRecDepth 100000 in
end
end L2
namespace Att
open PySem PySem.W PySem.Calls PyProof.Rows
theorem Zhj{P:Params}{h:C5}:∀(ns:List Int)(vs:List Vb),WellAll P h vs (ns.map WData.int)->Vw vs ns:=by
 intro ns
 induction ns with
 |nil=>
  intro vs w;rw[List.map_nil]at w;cases w;exact .nil
 |cons n ns ih=>
  intro vs w;rw[Xx]at w;cases w with
  |cons a b=>
   cases a;exact .cons _ _ (ih _ b)
theorem Zpm{l:OpenLaw}{n:Nat}(hn:l.most=B3 n){P:Params}{h:C5}{args:List WData}{vals:List Vb}
  (hpre:l.row.toRowW.claim.pre args=B1)(hwl:WellAll P h vals args) :
  ∃a vs ns,vals=[Uc a]/\args=[WData.list (ns.map WData.int)]/\h.get? a=B3 { cls:=.type "list",data:=.seq vs.toArray }/\Vw vs ns/\ns.length<=n:=by
 have hsh:WShape.hasAll [] args [.list .int]=B1:=(pre_splitW hpre).1;have hc:l.pre.holds [] { args:=args }=B1:=(pre_splitW hpre).2;obtain⟨d,r,rfl,h1,h2⟩:=hasAllW_cons hsh;obtain rfl:=hasAllW_nil h2;obtain⟨xs,rfl,h3⟩:=hasW_list h1;obtain⟨ns,rfl⟩:=items_int h3;have d4:ns.length<=n:=by
  unfold OpenLaw.pre at hc;have h4:(WTm.not (.lt (.lit (.int (n:Int))) (.len (.arg 0)))).holds [] { args:=[.list (ns.map .int)] }=B1:=by
   have h4:=(holds_andW hc).1;rw[hn]at h4;exact h4
  have h5:=condW_of h4 (w_not (w_lt w_lit (w_len_list (w_arg rfl))));rw[Xj]at h5;refine Nat.le_of_not_lt λq=>?_;have q':(n:Int)<((ns.length:Nat):Int):=by omega
  first
   |(rw[f6 q']at h5;exact absurd h5 g9)
   |(simp at h5;omega)
 cases hwl with
 |cons w1 w2=>
  cases w2;cases w1 with
  |list ho hall=>exact⟨_,_,ns,rfl,rfl,ho,Zhj ns _ hall,d4⟩
theorem Zqq(l:OpenLaw)(args:List WData):l.row.toRowW.claim.post args (.bool B1) args=B1 :=
 postW_of (r:=l.row.toRowW) (X:=(B1==B1))
  (show WShape.has [] (.bool B1) .bool=B1 by first |rfl |decide |simp[WShape.has,WShape.arms,WShape.armsAll])
  (show (WTm.eq .res (.lit (.bool B1))).value [] { args:=args,res:=B3 (.bool B1),after:=args }=B3 (.bool (B1==B1))from w_eq_bool (w_res rfl) w_lit) rfl
theorem attach_call{l:OpenLaw}{n:Nat}{q:Vl}{loose:List Str}{XP:(Str->Option Vb)->C5->Prop}{YP:Vs->C5->Prop}{d:DefRec}
  (hn:l.most=B3 n)(hdf:d.params.defaults=[])
  (call:∀(w:Vs)(s₀ s₁:Vd)(mg mb:Str->Option Vb)(fa:Vh)(o:Obj)(pm cd d6:Vb)(a:Vh)(vs:List Vb)(ns:List Int),
   Ground q loose [] XP w s₀ mg mb s₁.heap->YP w s₁.heap ->
   s₁.heap.get? fa=B3 o->o.data=.func (docDef d.name d.params d.body d.scope pm cd d6)->s₁.heap.CodeRec cd d.name->mg d.name=B3 (.ref fa) ->
   s₁.heap.get? a=B3 { cls:=.type "list",data:=.seq vs.toArray }->Vw vs ns->ns.length<=n->s₁.gens = #[] ->
   gF (Vi l.prog w) jB (.call (.ref fa) ⟨[.ref a],[]⟩) (λr s'=>r=.ok (.ret (.bool B1))/\OldK s₁.heap s'.heap/\s'.os=s₁.os/\bV s'.gens) s₁) :
  WalkO q loose XP YP l.row.toRowW d [] (λf vs=>Tco f vs):=by
 intro w s₀ s₁ mg mb G Y fa o pm cd d6 dV kV ho hd hcd hD hmg hg args vals as hpre hlay hrd hwl hlo;obtain rfl:dV=.none:=Dflts.none hD hdf;obtain rfl:kV=.none:=Dflts.noKw hD;obtain⟨a,vs,ns,rfl,rfl,hobj,hints,d4⟩:=Zpm hn hpre hwl;refine enter_call (eM (call w s₀ s₁ mg mb fa o pm cd d6 a vs ns G Y ho (fd_plain hd) hcd hmg hobj hints d4 hg) λr s' hq=>?_);obtain⟨rfl,h2,h3,h4⟩:=hq;exact⟨.inl ⟨.bool B1,.bool B1,[],rfl,λ_=>rfl,.bool B1,Zqq l _,λ_=>⟨Tcp,λ_ hm=>(nomatch hm)⟩⟩,h2,h3,h4⟩
end Att
namespace L2
open PySem PySem.Spec PyProof.Rows
theorem Zkl:∀{vs:List Vb}{ns:List Int},Vw vs ns->D5 (ns.map V.int) vs
 |_,_,.nil=>.nil
 |_,_,.cons n t h=>.cons ⟨t,rfl⟩ (Zkl h)
def vI(H:Hp):Prop:=∀b,H b=B0\/∃o xs,H b=B3 (.frz o (.lst xs))
theorem Ztz{P:Vl}{w:Vs}{K:Xa}{mg mb:Str->Option Vb}{CX:CXT}{k:Nat}{fa a:Vh}{fd:X0}{x:Str}{sp:Sp}{s₁:Vd}{vs:List Vb}{ns:List Int}
  (KX:K.In s₁.heap)(hns:s₁.heap.Ns Vn mg)(hb:s₁.heap.Ns builtinsNs mb)(hbb:∀x:Str,x ≠ "__name__" -> mb x=Vv x)(hlim:s₁.heap.NoLimit)(hg:s₁.gens = #[])
  (ha:s₁.heap.get? a=B3 { cls:=.type "list",data:=.seq vs.toArray })(hi:Vw vs ns)(hl:ns.length<=sizeLine)(hr:E5 k jB)
  (F:∀base:C5,K.In base->base.Ns Vn mg->K2 P w K mg base CX k fa fd [x] sp)(hbind:∀(s:Vd)(u:Vb),wM s fd ⟨[u],[]⟩ [(x,u)])
  (hsp:∀H:Hp,vI H->G7 K H a (ns.map V.int)->sp [.ref a] H (λv _=>v=.bl B1) λ_ _ _=>False)
  (hCX:∀H e s',CX [] H s₁ (λ_ _ _=>False) e s'->False) :
  gF (Vi P w) jB (.call (.ref fa) ⟨[.ref a],[]⟩) (λr s'=>r=.ok (.ret (.bool B1))/\OldK s₁.heap s'.heap/\s'.os=s₁.os/\bV s'.gens) s₁:=by
 have rv:=Zkl hi;have lenV:=hi.length
 -- from an abstract heap in which nothing but the script may be tracked
 have core:∀H:Hp,vI H->G7 K H a (ns.map V.int)->M5 P w H s₁.heap->(∀b,H b≠B0->b=a)->(H a≠B0->K.lookup a=B0) ->
   gF (Vi P w) jB (.call (.ref fa) ⟨[.ref a],[]⟩) (λr s'=>r=.ok (.ret (.bool B1))/\OldK s₁.heap s'.heap/\s'.os=s₁.os/\bV s'.gens) s₁:=by
  intro H hO hS hok hA hK;have base_of:∀{b:Vh}{o:Obj},s₁.heap.get? b=B3 o->H b=B0->(fI s₁.heap H).get? b=B3 o:=λe n=>Zu6 e n;have noA:∀{b:Vh}{o:Obj}{es:Array X5}{ep:Nat},s₁.heap.get? b=B3 o->o.data=.dict es ep->H b=B0:=λ{b o es ep}e d=>by
   cases q:H b with
   |none=>rfl
   |some u=>
    have e':b=a:=hA b (by rw[q];simp);subst e';rw[ha]at e;cases e;have d':Data.seq vs.toArray _=Data.dict es ep:=d;cases d'
  have nsK:∀{b:Vh}{m:Str->Option Vb},s₁.heap.Ns b m->(fI s₁.heap H).Ns b m:=λ{b m}⟨o,es,ep,e,d,r⟩=>⟨o,es,ep,base_of e (noA e d),d,r⟩
  have hKb:K.In (fI s₁.heap H):=λb o e=>base_of (KX b o e) (by
   cases q:H b with
   |none=>rfl
   |some u=>
    have e':b=a:=hA b (by rw[q];simp);subst e';rw[hK (by rw[q];simp)]at e;cases e)
  have hM:Mod K mg (fI s₁.heap H):=⟨hKb,nsK hns,⟨mb,nsK hb,hbb⟩,let ⟨mc,h1,h2⟩:=hlim;⟨mc,nsK h1,h2⟩⟩
  have e0:gN P w K mg (fI s₁.heap H) jB [] s₁ H:=⟨rfl,hM,λb o e=>Zyj e,Wgo (Zrx _ _),trivial,λb hb=>absurd (show b∈([]:List Vh)from hb) g8,hok,.of_eq hg⟩
  refine eM ((F _ hKb (nsK hns)).run jB [] s₁ H ⟨[.ref a],[]⟩ [.ref a] [.ref a] _ _ hr e0 (hbind s₁ (.ref a)) (.cons rfl .nil) (hsp H hO hS)) λr s' h=>?_;cases r with
  |error e=>exact(hCX H e s' h).elim
  |ok fl=>
   cases fl with
   |next=>exact Uh h
   |brk=>exact Uh h
   |cont=>exact Uh h
   |ret u=>
    obtain⟨v,H',os,bare,un,hok',r',q⟩:=h;have q':v=.bl B1:=q;subst q';obtain rfl:u=xC B1:=r';refine⟨rfl,OldK.of_keep λb o e=>?_,os,bare⟩;cases q:H b with
    |none=>exact un.keep b o e q (by intro z;exact absurd (show b∈([]:List Vh)from z) g8) g8
    |some u=>
     rcases hO b with z |⟨ob,xs,z⟩
     ·rw[q]at z;cases z
     ·have z2:=un.frzs b ob _ z;obtain⟨e1,_⟩:=hok b _ z;obtain⟨e2,_⟩:=hok' b _ z2;rw[e]at e1;cases e1;exact e2
 cases hk:K.lookup a with
 |some o=>
  -- the script is one of the module's own objects
  have e:=KX a o hk;rw[ha]at e;cases e;refine core (λ_=>B0) (λ_=>.inl rfl) (.inr ⟨_,vs.toArray,_,hk,rfl,rfl,rfl,by rw[Xk,lenV];exact hl,by simpa using rv⟩) (λb u z=>by have z':(B0:Option HO)=B3 u:=z;cases z') (λb z=>absurd rfl z) λz=>absurd rfl z
 |none=>
  refine core (λb=>if b=a then B3 (.frz { cls:=.type "list",data:=.seq vs.toArray } (.lst (ns.map V.int)))else B0) (λb=>?_) (.inl (.inr ⟨{ cls:=.type "list",data:=.seq vs.toArray },d7 rfl⟩)) (λb u z=>?_) (λb z=>?_) λ_=>hk
  ·by_cases hb:b=a
   ·exact .inr ⟨_,_,d7 hb⟩
   ·exact .inl (d9 hb)
  ·by_cases hb:b=a
   ·have z':=(d7 hb).symm.trans z;cases z';subst hb;exact⟨ha,by rw[Xj];exact hl,vs,_,rv,ha⟩
   ·have z':=(d9 hb).symm.trans z;cases z'
  ·by_cases hb:b=a
   ·exact hb
   ·exact absurd (d9 hb) z
nonrec abbrev KOf{K:Xa}{h:C5}(_:K.In h):Xa:=K
theorem Zyw{l:Tbz}{n k:Nat}{q:Vl}{loose:List Str}{XP:(Str->Option Vb)->C5->Prop}{YP:Vs->C5->Prop}{d:DefRec}{K:Params->Xa}{CX:Vs->CXT}{sp:Vs->Sp}{x:Str}
  (hn:l.most=B3 n)(hn2:n<=sizeLine)(hdf:d.params.defaults=[])(hr:E5 k jB)
  (hY:∀(w:Vs)(h:C5),YP w h->(K w.params).In h)
  (F:∀(w:Vs)(mg:Str->Option Vb)(fa:Vh)(h:C5),(K w.params).In h->h.Ns Vn mg->mg d.name=B3 (.ref fa) ->
   ∃fd:X0,(∀(s:Vd)(u:Vb),wM s fd ⟨[u],[]⟩ [(x,u)]) /\
    ∀base:C5,(K w.params).In base->base.Ns Vn mg->K2 l.prog w (K w.params) mg base (CX w) k fa fd [x] (sp w))
  (hsp:∀(w:Vs)(H:Hp)(a:Vh)(ns:List Int),ns.length<=n->vI H->G7 (K w.params) H a (ns.map V.int)->sp w [.ref a] H (λv _=>v=.bl B1) λ_ _ _=>False)
  (hCX:∀(w:Vs)(H:Hp)(s:Vd)(e:Vb)(s':Vd),CX w [] H s (λ_ _ _=>False) e s'->False) :
  Wgb q loose XP YP l.row.toRowW d [] (λf vs=>Tco f vs):=by
 refine Att.attach_call hn hdf λw s₀ s₁ mg mb fa o pm cd d6 a vs ns G Y ho hd hcd hmg hobj hints d4 hg=>?_;have KX:=hY w _ Y;obtain⟨fd,hb,hF⟩:=F w mg fa _ KX G.T.g hmg;exact Ztz KX G.T.g G.T.b G.T.builtins G.T.nolimit hg hobj hints (N2 d4 hn2) hr hF hb (λH hO hS=>hsp w H a ns d4 hO hS) λH e s'=>hCX w H s₁ e s'
theorem walk_ofK{l:Tbz}{n k:Nat}{q:Vl}{loose:List Str}{XP:(Str->Option Vb)->C5->Prop}{YP:Vs->C5->Prop}{d:DefRec}{K:Params->Xa}{CX:CXT}{sp:Xa->Sp}{x:Str}
  (hn:l.most=B3 n)(hn2:n<=sizeLine)(hdf:d.params.defaults=[])(hr:E5 k jB)
  (hY:∀(w:Vs)(h:C5),YP w h->(K w.params).In h)
  (F:∀(w:Vs)(mg:Str->Option Vb)(fa:Vh)(h:C5),(K w.params).In h->h.Ns Vn mg->mg d.name=B3 (.ref fa) ->
   ∃fd:X0,(∀(s:Vd)(u:Vb),wM s fd ⟨[u],[]⟩ [(x,u)]) /\
    ∀base:C5,(K w.params).In base->base.Ns Vn mg->K2 l.prog w (K w.params) mg base CX k fa fd [x] (sp (K w.params)))
  (hsp:∀(K:Xa)(H:Hp)(a:Vh)(ns:List Int),ns.length<=n->vI H->G7 K H a (ns.map V.int)->sp K [.ref a] H (λv _=>v=.bl B1) λ_ _ _=>False)
  (hCX:∀(H:Hp)(s:Vd)(e:Vb)(s':Vd),CX [] H s (λ_ _ _=>False) e s'->False) :
  Wgb q loose XP YP l.row.toRowW d [] (λf vs=>Tco f vs) :=
 Zyw (K:=K) (CX:=λ_=>CX) (sp:=λw=>sp (K w.params)) hn hn2 hdf hr hY F (λw H a ns h1 h2 h3=>hsp (K w.params) H a ns h1 h2 h3) λ_ H s e s'=>hCX H s e s'
nonrec def iH(s:D2):Arguments:=match s with
 |.FunctionDef _ a _ _ _ _ _ _ _ _=>a
 |_=>{ posonlyargs:=[],args:=[],vararg:=B0,kwonlyargs:=[],kw_defaults:=[],kwarg:=B0,defaults:=[] }
nonrec def L4(s:D2):List D2:=match s with
 |.FunctionDef _ _ b _ _ _ _ _ _ _=>b
 |_=>[]
nonrec def F5(s:D2):P4:=match s with
 |.FunctionDef _ _ _ _ _ _ sc _ _ _=>sc
 |_=>{ kind:=.function,names:=[],isGenerator:=B2,isCoroutine:=B2 }
nonrec abbrev eS:CXT:=λ_ _ _ _ _ _=>False
nonrec abbrev E0:XK:=λ_ _ _=>False
theorem rF{X:Cx}:Zsd eS X E0:=λ_ _ _ _ _ _ _ h=>h.elim
structure jQ(K:Xa)(x qual:Str)(st:D2)(f:Vh)(fd:X0):Prop where
 ex:∃(oc:Vb)(od:Option Vh)(kV d6 pm:Vb)(an:Option Vh)(cdv ct:Vb)(osl:Array (Option Vb)),
  fd=fX x qual (iH st) (L4 st) (F5 st) .none kV d6 pm an cdv ct/\K.lookup f=B3 ⟨oc,od,.func fd,osl⟩/\Wes K cdv qual=B1
 kp:cW K (.ref f)=B1
section
variable{P:Vl}{w:Vs}{K:Xa}{mg:Str->Option Vb}{base:C5}
theorem jQ.ok{x qual:Str}{st:D2}{f:Vh}{fd:X0}{N ps:List Str}{k:Nat}{sp:Sp}(F:jQ K x qual st f fd)(S:C3 N ps (F5 st))(len:∀vs H Q E,sp vs H Q E->vs.length=ps.length)
  (hbody:∀(cdv:Vb)(A:Vo)(outer:List Env)(s:Vd)(H:Hp)(vs:List V)(Q:VK)(E:XK),E5 k (A.deeper (bB qual (F5 st) s.heap.objs.size f cdv))->sp vs H Q E ->
   ∃t,T6 (M8 eS P w K mg base N qual (F5 st) f cdv A outer s H E).nox (L4 st) t/\t { nx:=λ_ H'=>Q .non H',rt:=Q } (start N vs) H):K2 P w K mg base eS (k+1) f fd ps sp:=by
 obtain⟨oc,od,kV,d6,pm,an,cdv,ct,osl,rfl,lk,hcd⟩:=F.ex;refine Yci lk hcd S len λA outer s H vs Q E hr hsp=>?_;obtain⟨t,h,q⟩:=hbody cdv A outer s H vs Q E hr hsp;exact⟨t,h.nox,q⟩
theorem jQ.binds{x qual:Str}{st:D2}{f:Vh}{fd:X0}{ps:List Str}(F:jQ K x qual st f fd)
  (h:∀(kV d6 pm:Vb)(an:Option Vh)(cdv ct:Vb)(us:List Vb),us.length=ps.length->bindArgs (fX x qual (iH st) (L4 st) (F5 st) .none kV d6 pm an cdv ct) ⟨us,[]⟩=pure (ps.zip us)):cP K fd ps []:=by
 obtain⟨oc,od,kV,d6,pm,an,cdv,ct,osl,rfl,lk,hcd⟩:=F.ex;exact .all (h kV d6 pm an cdv ct)
theorem Yc2{x qual:Str}{st:D2}{f:Vh}{oc:Vb}{od an:Option Vh}{osl:Array (Option Vb)}{kV d6 pm cdv ct:Vb}(l:K.lookup f=B3 ⟨oc,od,.func (fX x qual (iH st) (L4 st) (F5 st) .none kV d6 pm an cdv ct),osl⟩)
  (c:Wes K cdv qual=B1)(k:cW K (.ref f)=B1):jQ K x qual st f (fX x qual (iH st) (L4 st) (F5 st) .none kV d6 pm an cdv ct):=⟨⟨oc,od,kV,d6,pm,an,cdv,ct,osl,rfl,l,c⟩,k⟩
end
section
variable{X:Cx}
theorem pv(i:Nat){x:Str}{pos:Pos}(hN:X.N[i]? = B3 x:=by rfl)(hv:Vis X.env.scope x:=by first |exact Or.inl rfl |exact Or.inr (Or.inl rfl) |exact Or.inr (Or.inr rfl))(hd:(x==("__debug__" : Str))=B2:=by decide)
  (hcd:(x==("__classdict__" : Str))=B2:=by decide):PE X (.Name x pos) (jS i):=Ycg hN hv hd hcd
end
end L2
set_option maxHeartbeats 4000000
set_option autoImplicit false
namespace DL
open PySem PySem.Spec PyProof.Rows L2
nonrec def numOf:Vb->Option Int
 |.int i _=>B3 i
 |.bool b=>B3 (if b then 1 else 0)
 |_=>B0
nonrec def iA(k:Int)(v:Vb):Bool:=numOf v==B3 k
theorem Zdq{k:Int}{v:Vb}(h:iA k v=B1):(∃t,v=.int k t)\/∃b,v=.bool b/\k=(if b then 1 else 0):=by
 have h:numOf v=B3 k:=eq_of_beq h;cases v with
 |int i t=>exact .inl ⟨t,by cases h;rfl⟩
 |bool b=>exact .inr ⟨b,rfl,(B3.inj h).symm⟩
 |_=>cases h
section
variable{prog:Vl}{w:Vs}{A:Vo}{E:Vb->Vd->Prop}{s:Vd}
theorem Zl2{b:Bool}{Q:Int->Vd->Prop}(h:Q (pB (if b then 1 else 0)) { s with toks:=s.toks+1 }):Vk (Vi prog w) A (pyHash (.bool b)) Q E s:=by
 have hr:=rawHash_range (if b then 1 else 0);have tb:s.TypeIs (.bool b) "bool" := rfl;unfold pyHash;have hv:[xC b].any Value.onHeap=B2:=rfl;refine Va ?_;rw[cRoomFor,d9 (by rw[hv];exact cY)];refine Vc ?_;refine Va (Udh tb Tay.lookup ?_);show Vk _ _ (if (B3 (xF "int.__hash__")==B3 Uu)=B1 then _ else _) Q E s;rw[d9 (by rw[beq_builtin_none];exact cY)];refine Va (Udh tb Tay.lookup ?_);show Vk _ _ (callSpecialIfBoundUnlessNone? (.bool b) "__hash__" _ >>= _) Q E s;refine Va (wpAny_callSpecialIfBoundUnlessNone?_slot tb Tay
  (Vt Tay tb entry_int_hash
   (show Vk _ _ (do ret (<- mkInt (rawHash (if b then 1 else 0)))) _ _ s from wpAny_ret_mkInt ?_) (args_int_hash _)))
 show Vk _ _ (if (decide (-(2:Int) ^ 63<=rawHash (if b then 1 else 0))&&decide (rawHash (if b then 1 else 0)<2 ^ 63))=B1 then _ else _) Q E _;rw[d7 (by rw[f6 hr.1,f6 hr.2];rfl)];exact Vc h
end
nonrec def cR(prog:Vl)(w:Vs):KeyKind prog w Int where
 is:=iA
 hash:=pB
 inj:=λv a b ha hb=>by
  unfold iA at ha hb;have:=(eq_of_beq ha).symm.trans (eq_of_beq hb);exact B3.inj this
 byValue:=λk v h=>by rcases Zdq h with ⟨t,rfl⟩ |⟨b,rfl,_⟩<;>rfl
 pyHash:=λhv h=>by
  rcases Zdq hv with ⟨t,rfl⟩ |⟨b,rfl,rfl⟩
  ·exact wpAny_pyHash_int h
  ·exact Zl2 h
 eqBool:=λ{A E s a b u v Q}hu hv h=>by
  rcases Zdq hu with ⟨t,rfl⟩ |⟨c,rfl,rfl⟩<;>rcases Zdq hv with ⟨t',rfl⟩ |⟨c',rfl,rfl⟩
  ·exact wpAny_eqBool_int h
  ·exact Tda _ _ _ prog w E Q h
  ·exact Tdb _ _ _ prog w E Q h
  ·refine Tcy _ _ prog w E Q ?_;have e:(c==c')=decide ((if c then (1:Int)else 0)=(if c' then 1 else 0)):=by cases c<;>cases c'<;>rfl
   rw[e];exact h
 «strs»:=λk x t v h=>by simp[iA,numOf]at h
nonrec def fC(k:Int)(v:Vb):Bool:=match v with
 |.int i _=>i==k
 |_=>B2
theorem Zip{k:Int}{v:Vb}(h:fC k v=B1):∃t,v=.int k t:=by
 cases v with
 |int i t=>exact⟨t,by rw[eq_of_beq (show (i==k)=B1 from h)]⟩
 |_=>cases h
theorem Zkq{k:Int}{t:Tok}:fC k (.int k t)=B1:=beq_self_eq_true k
theorem nV{k:Int}{v:Vb}(h:fC k v=B1):iA k v=B1:=by
 obtain⟨t,rfl⟩:=Zip h;exact beq_self_eq_true (B3 k)
nonrec def fG(prog:Vl)(w:Vs):KeyKind prog w Int where
 is:=fC
 hash:=pB
 inj:=λv a b ha hb=>(cR prog w).inj v a b (nV ha) (nV hb)
 byValue:=λk v h=>(cR prog w).byValue k v (nV h)
 pyHash:=λhv h=>(cR prog w).pyHash (nV hv) h
 eqBool:=λ{A E s a b u v Q}hu hv h=>(cR prog w).eqBool (a:=a) (b:=b) (nV hu) (nV hv) h
 «strs»:=λk x t v h=>by cases h
inductive D where
 |non |bl (b:Bool) |int (i:Int) |str (x:Str) |ty (n:String) |tup (xs:List D) |fl (xs:List D) |ref (n:Nat)
inductive DO where
 |lst (xs:List D) |dic (b8:List (D×D)) (fz:Bool) |dci (b8:List (Int×D)) |dcn (b8:List (D×D)) |obj (cn:Str) (fs:List (Str×D)) |exc (cn:Str) |clo (n:String) (x:Str) (d:D) |tab (n:String) (b:Bool)
nonrec abbrev HD:=List DO
nonrec abbrev SD:=List (Option D)
def jP(K:Xa)(H:Hp)(a:Vh)(xs:List V):Prop :=
 (∃o,H a=B3 (.frz o (.lst xs))) \/
  ∃(o:Obj)(b9:Array Vb)(n:Nat),K.lookup a=B3 o/\o.cls=.type "list" /\ o.dict=B0/\o.data=.seq b9 n/\b9.size<=sizeLine/\D5 xs b9.toList
theorem jP.sq{K:Xa}{H:Hp}{a:Vh}{xs:List V}(h:jP K H a xs):G7 K H a xs:=by
 rcases h with h |h
 ·exact .inl (.inr h)
 ·exact .inr h
nonrec def jY(n:String):Bool:=n == "bool" || n == "int" || n == "str" || n == "tuple" || n == "list"
mutual
noncomputable def Rep (K:Xa) (H:Hp) (ι:List Vh):D->V->Prop
 |.non,v=>v=.non
 |.bl b,v=>v=.bl b
 |.int i,v=>v=.int i
 |.str x,v=>v=.str x
 |.ty n,v=>(jY n=B1/\v=.ty n)\/(jY n=B2/\∃a,v=.ref a/\vM K Vn (Ue n)=B3 (B3 (.ref a)))
 |.tup ds,v=>∃a vs,v=.ref a/\M4 K H a vs/\Zki K H ι ds vs
 |.fl ds,v=>∃a vs,v=.ref a/\jP K H a vs/\Zki K H ι ds vs
 |.ref n,v=>∃a,v=.ref a/\ι[n]? = B3 a
noncomputable def Zki (K:Xa) (H:Hp) (ι:List Vh):List D->List V->Prop
 |[],vs=>vs=[]
 |d::ds,vs=>∃v r,vs=v::r/\Rep K H ι d v/\Zki K H ι ds r
end
section
variable{α β:Type}{F G:α->β->Prop}
theorem Prd.len:∀{xs:List α}{us:List β},Vm F xs us->xs.length=us.length
 |_,_,.nil=>rfl
 |_,_,.cons _ t=>by simp[Prd.len t]
theorem Prd.get:∀{xs:List α}{us:List β}{i:Nat}{x:α},Vm F xs us->xs[i]? = B3 x->∃u,us[i]? = B3 u/\F x u
 |_,_,_,_,.nil,e=>by simp at e
 |_,_,0,_,.cons r _,e=>by simp at e;subst e;exact⟨_,rfl,r⟩
 |_,_,i+1,x,.cons _ t,e=>by
  obtain⟨u,h1,h2⟩:=Prd.get (i:=i) (x:=x) t (by simpa using e);exact⟨u,by simpa using h1,h2⟩
theorem Prd.append:∀{xs ys:List α}{us ws:List β},Vm F xs us->Vm F ys ws->Vm F (xs++ys) (us++ws)
 |_,_,_,_,.nil,s=>s
 |_,_,_,_,.cons r t,s=>.cons r (Prd.append t s)
theorem Prd.take:∀{xs:List α}{us:List β}(n:Nat),Vm F xs us->Vm F (xs.take n) (us.take n)
 |_,_,0,_=>.nil
 |_,_,_+1,.nil=>.nil
 |_,_,n+1,.cons r t=>.cons r (Prd.take n t)
theorem Prd.drop:∀{xs:List α}{us:List β}(n:Nat),Vm F xs us->Vm F (xs.drop n) (us.drop n)
 |_,_,0,r=>r
 |_,_,_+1,.nil=>.nil
 |_,_,n+1,.cons _ t=>Prd.drop n t
theorem Prd.rep{xs:List α}{us:List β}(h:Vm F xs us):∀k:Nat,Vm F (Xl k xs).flatten (Xl k us).flatten
 | 0=>.nil
 |k+1=>by
  rw[gB,iT,gB,iT];exact Prd.append h (Prd.rep h k)
theorem Prd.imp:∀{xs:List α}{us:List β},Vm F xs us->(∀a b,a∈xs->F a b->G a b)->Vm G xs us
 |_,_,.nil,_=>.nil
 |_,_,.cons r t,f=>.cons (f _ _ g8 r) (Prd.imp t λa b h=>f a b (by simp[h]))
end
section
variable{K:Xa}{H H':Hp}{ι c7:List Vh}
theorem iL:∀{ds:List D}{vs:List V},Zki K H ι ds vs ↔ Vm (Rep K H ι) ds vs
 |[],vs=>by
  constructor
  ·intro h;rw[Zki]at h;subst h;exact .nil
  ·intro h;cases h;rw[Zki]
 |d::ds,vs=>by
  constructor
  ·intro h;rw[Zki]at h;obtain⟨v,r,rfl,h1,h2⟩:=h;exact .cons h1 (iL.mp h2)
  ·intro h;cases h with
   |cons h1 h2=>rw[Zki];exact⟨_,_,rfl,h1,iL.mpr h2⟩
@[simp]theorem rep_non{v:V}:Rep K H ι .non v ↔ v=.non:=by rw[Rep]
@[simp]theorem rep_bl{b:Bool}{v:V}:Rep K H ι (.bl b) v ↔ v=.bl b:=by rw[Rep]
@[simp]theorem rep_int{i:Int}{v:V}:Rep K H ι (.int i) v ↔ v=.int i:=by rw[Rep]
@[simp]theorem rep_str{x:Str}{v:V}:Rep K H ι (.str x) v ↔ v=.str x:=by rw[Rep]
theorem rep_ty{n:String}{v:V}(h:jY n=B1):Rep K H ι (.ty n) v ↔ v=.ty n:=by rw[Rep];simp[h]
theorem U6{ds:List D}{v:V}:Rep K H ι (.tup ds) v ↔∃a vs,v=.ref a/\M4 K H a vs/\Vm (Rep K H ι) ds vs:=by
 rw[Rep];constructor
 ·rintro⟨a,vs,h1,h2,h3⟩;exact⟨a,vs,h1,h2,iL.mp h3⟩
 ·rintro⟨a,vs,h1,h2,h3⟩;exact⟨a,vs,h1,h2,iL.mpr h3⟩
theorem iC{ds:List D}{v:V}:Rep K H ι (.fl ds) v ↔∃a vs,v=.ref a/\jP K H a vs/\Vm (Rep K H ι) ds vs:=by
 rw[Rep];constructor
 ·rintro⟨a,vs,h1,h2,h3⟩;exact⟨a,vs,h1,h2,iL.mp h3⟩
 ·rintro⟨a,vs,h1,h2,h3⟩;exact⟨a,vs,h1,h2,iL.mpr h3⟩
theorem N4{n:Nat}{v:V}:Rep K H ι (.ref n) v ↔∃a,v=.ref a/\ι[n]? = B3 a:=by rw[Rep]
structure Lw(K:Xa)(H:Hp)(ι:List Vh)(H':Hp)(c7:List Vh):Prop where
 tup:∀a xs,M4 K H a xs->M4 K H' a xs
 fz:∀a xs,jP K H a xs->jP K H' a xs
 pre:∃t,c7=ι++t
 fr:∀a o u,H a=B3 (.frz o u)->H' a=B3 (.frz o u)
structure Le(K:Xa)(H:Hp)(ι:List Vh)(H':Hp)(c7:List Vh):Prop extends Lw K H ι H' c7 where
 frame:∀a o,H a=B3 o->a∉ι->H' a=B3 o/\a∉c7
theorem Le.refl:Le K H ι H ι:=⟨⟨λ_ _ h=>h,λ_ _ h=>h,⟨[],by simp⟩,λ_ _ _ h=>h⟩,λ_ _ h n=>⟨h,n⟩⟩
theorem Le.trans{H1 H2:Hp}{ι1 ι2:List Vh}(a:Le K H ι H1 ι1)(b:Le K H1 ι1 H2 ι2):Le K H ι H2 ι2:=by
 refine⟨⟨λx xs h=>b.tup x xs (a.tup x xs h),λx xs h=>b.fz x xs (a.fz x xs h),?_,λx o u h=>b.fr x o u (a.fr x o u h)⟩,λx o h n=>?_⟩
 ·obtain⟨t,e⟩:=a.pre;obtain⟨u,e'⟩:=b.pre;exact⟨t++u,by rw[e',e,T5]⟩
 ·obtain⟨h1,n1⟩:=a.frame x o h n;exact b.frame x o h1 n1
theorem Lw.get(l:Lw K H ι H' c7){n:Nat}{a:Vh}(h:ι[n]? = B3 a):c7[n]? = B3 a:=by
 obtain⟨t,e⟩:=l.pre;rw[e,Xs (by exact(Xg.mp h).1),h]
mutual
theorem Rep.monoW(l:Lw K H ι H' c7):∀{d:D}{v:V},Rep K H ι d v->Rep K H' c7 d v
 |.non,v,h=>by rw[Rep]at h ⊢;exact h
 |.bl _,v,h=>by rw[Rep]at h ⊢;exact h
 |.int _,v,h=>by rw[Rep]at h ⊢;exact h
 |.str _,v,h=>by rw[Rep]at h ⊢;exact h
 |.ty _,v,h=>by rw[Rep]at h ⊢;exact h
 |.tup ds,v,h=>by
  rw[Rep]at h ⊢;obtain⟨a,vs,h1,h2,h3⟩:=h;exact⟨a,vs,h1,l.tup a vs h2,Zki.monoW l h3⟩
 |.fl ds,v,h=>by
  rw[Rep]at h ⊢;obtain⟨a,vs,h1,h2,h3⟩:=h;exact⟨a,vs,h1,l.fz a vs h2,Zki.monoW l h3⟩
 |.ref n,v,h=>by
  rw[Rep]at h ⊢;obtain⟨a,h1,h2⟩:=h;exact⟨a,h1,l.get h2⟩
theorem Zki.monoW(l:Lw K H ι H' c7):∀{ds:List D}{vs:List V},Zki K H ι ds vs->Zki K H' c7 ds vs
 |[],vs,h=>by rw[Zki]at h ⊢;exact h
 |d::ds,vs,h=>by
  rw[Zki]at h ⊢;obtain⟨v,r,h1,h2,h3⟩:=h;exact⟨v,r,h1,Rep.monoW l h2,Zki.monoW l h3⟩
end
theorem Rep.mono(l:Le K H ι H' c7){d:D}{v:V}(h:Rep K H ι d v):Rep K H' c7 d v:=Rep.monoW l.toLw h
theorem Prd.monoW(l:Lw K H ι H' c7){ds:List D}{vs:List V}(h:Vm (Rep K H ι) ds vs):Vm (Rep K H' c7) ds vs:=iL.mp (Zki.monoW l (iL.mpr h))
theorem Prd.mono(l:Le K H ι H' c7){ds:List D}{vs:List V}(h:Vm (Rep K H ι) ds vs):Vm (Rep K H' c7) ds vs:=Prd.monoW l.toLw h
nonrec def eY:D->Option Int
 |.int i=>B3 i
 |.bl b=>B3 (if b then 1 else 0)
 |_=>B0
nonrec def mY:List D->Option j5
 |[]=>B3 []
 |d::r=>(eY d).bind λk=>(mY r).map λks=>k::ks
nonrec def nk:D->Option j5
 |.tup ds=>mY ds
 |_=>B0
nonrec def Ydd(ks:List Int):Int:=reduceHash (Tbn (ks.map pB))
def N8(a:Vh)(xs:List (List Int×Vh×Vb))(h:C5):Prop :=
 ∃o es ep,h.get? a=B3 o/\o.ExactDict/\o.data=.dict es ep/\es.toList=xs.map (λx=>(⟨Ydd x.1,.ref x.2.1,x.2.2⟩:X5))/\(xs.map (·.1)).Nodup
theorem N8.keep{a:Vh}{xs:List (List Int×Vh×Vb)}{h1 h2:C5}(d:N8 a xs h1)(k:∀o,h1.get? a=B3 o->h2.get? a=B3 o):N8 a xs h2:=by
 obtain⟨o,es,ep,e,r⟩:=d;exact⟨o,es,ep,k o e,r⟩
def bF(K:Xa)(H:Hp)(ι:List Vh)(p:D×D)(x:List Int×Vh×Vb):Prop:=nk p.1=B3 x.1/\Rep K H ι p.1 (.ref x.2.1)/\∃v,E4 v x.2.2/\Rep K H ι p.2 v
def U4(a:Vh)(xs:List (Int×Vb))(h:C5):Prop:=∀(p:Vl)(w:Vs),h.DictOf (fG p w) a xs
theorem U4.keep{a:Vh}{xs:List (Int×Vb)}{h1 h2:C5}(d:U4 a xs h1)(k:∀o,h1.get? a=B3 o->h2.get? a=B3 o):U4 a xs h2:=λp w=>by
 obtain⟨o,es,ep,e,r⟩:=d p w;exact⟨o,es,ep,k o e,r⟩
def fF(K:Xa)(H:Hp)(ι:List Vh)(p:Int×D)(x:Int×Vb):Prop:=p.1=x.1/\∃v,E4 v x.2/\Rep K H ι p.2 v
nonrec def nk2:D->Option (Int×List Int)
 |.tup [a,b]=>(eY a).bind λi=>(nk b).map λks=>(i,ks)
 |_=>B0
nonrec def rO(k:Int×List Int):Int:=reduceHash (Tbn [pB k.1,Ydd k.2])
def xR(a:Vh)(xs:List ((Int×List Int)×Vh×Vb))(h:C5):Prop :=
 ∃o es ep,h.get? a=B3 o/\o.ExactDict/\o.data=.dict es ep/\es.toList=xs.map (λx=>(⟨rO x.1,.ref x.2.1,x.2.2⟩:X5))/\(xs.map (·.1)).Nodup
def NRep(K:Xa)(H:Hp)(ι:List Vh)(p:D×D)(x:(Int×List Int)×Vh×Vb):Prop:=nk2 p.1=B3 x.1/\Rep K H ι p.1 (.ref x.2.1)/\∃v,E4 v x.2.2/\Rep K H ι p.2 v
def FRep(K:Xa)(H:Hp)(ι:List Vh)(p:Str×D)(x:Str×V):Prop:=p.1=x.1/\Rep K H ι p.2 x.2
def A8(a C:Vh)(h:C5):Prop:=∃o,h.get? a=B3 o/\o.cls=.ref C
nonrec def fzO(a:Vh)(o:Obj):HO:=.frz o (.ext λh=>h.get? a=B3 o)
nonrec def Ybw:D2->Pos
 |.FunctionDef _ _ _ _ _ _ _ _ _ p=>p
 |_=>default
nonrec def Ya1:D2->Str
 |.FunctionDef n _ _ _ _ _ _ _ _ _=>n
 |_=>default
def Zwg(K:Xa)(n:String)(st:D2):Prop:=∃f0 o0 fd0 rest,vM K Vn (Ue n)=B3 (B3 (.ref f0))/\K.lookup f0=B3 o0/\o0.data=.func fd0/\fd0.body=.stmts (st::rest)
def sN(H:Hp)(c':Vh)(qual:Str):Prop:=∃o vs t,H c'=B3 (fzO c' o)/\o.data=.fields vs/\vs[1]? = B3 (.str qual t)
def Zvl(K:Xa)(H:Hp)(n:String)(x:Str)(a:Vh)(w:V):Prop :=
 ∃st nm qual d6 pm ct c c' oc uc u,Zwg K n st/\H a=B3 (fzO a (PySem.W.fnMade nm qual (iH st) (L4 st) (F5 st) [(x,c)] d6 pm c' ct))/\sN H c' qual/\H c=B3 (.frz oc uc)/\oc.data=.cell (B3 u)/\E4 w u
def xL(K:Xa)(H:Hp)(n:String)(a:Vh)(b:Bool):Prop :=
 ∃st c ps,Zwg K n st/\PySem.W.tabIn K (Ue n)=B3 (c,a)/\H a=B3 (.tbl ps)/\TriplesOk ps.toList/\(b=B2->codeAmong (Ybw st) ps.toList=B0) /\
  (b=B1->∃c',codeAmong (Ybw st) ps.toList=B3 (.ref c')/\sN H c' (Ue n ++ ".<locals>." ++ Ya1 st))
nonrec def A4(K:Xa)(H:Hp)(ι:List Vh)(a:Vh):DO->Prop
 |.lst ds=>∃vs,H a=B3 (.lst vs)/\Vm (Rep K H ι) ds vs
 |.dic b8 fz=>(a==bC)=B2/\b8.length<=sizeLine/\∃xs,(if fz=B1 then ∃o,H a=B3 (.frz o (.ext (N8 a xs)))else H a=B3 (.ext (N8 a xs)))/\Vm (bF K H ι) b8 xs
 |.dci b8=>(a==bC)=B2/\b8.length<=sizeLine/\∃xs,H a=B3 (.ext (U4 a xs))/\Vm (fF K H ι) b8 xs
 |.dcn b8=>(a==bC)=B2/\b8.length<=sizeLine/\∃xs,H a=B3 (.ext (xR a xs))/\Vm (NRep K H ι) b8 xs
 |.obj cn fs=>∃C dx xs,vM K Vn cn=B3 (B3 (.ref C))/\H a=B3 (.ins C dx xs)/\Vm (FRep K H ι) fs xs
 |.exc cn=>∃C,vM K Vn cn=B3 (B3 (.ref C))/\H a=B3 (.ext (A8 a C))
 |.clo n x d=>∃w,Zvl K H n x a w/\Rep K H ι d w
 |.tab n b=>xL K H n a b
structure C0(K:Xa)(H:Hp)(ι:List Vh)(Hd:HD):Prop where
 len:ι.length=Hd.length
 nd:ι.Nodup
 obj:∀(n:Nat)(a:Vh)(o:DO),ι[n]? = B3 a->Hd[n]? = B3 o->A4 K H ι a o
theorem A4.there{a:Vh}{o:DO}(h:A4 K H ι a o):H a≠B0:=by
 cases o with
 |lst ds=>obtain⟨vs,e,_⟩:=h;rw[e];simp
 |dic kv fz=>
  obtain⟨_,_,xs,e,_⟩:=h;cases fz with
  |true=>rw[d7 rfl]at e;obtain⟨ob,e⟩:=e;rw[e];simp
  |false=>rw[d9 g8]at e;rw[e];simp
 |dci kv=>obtain⟨_,_,xs,e,_⟩:=h;rw[e];simp
 |dcn kv=>obtain⟨_,_,xs,e,_⟩:=h;rw[e];simp
 |obj cn fs=>obtain⟨C,dx,xs,_,e,_⟩:=h;rw[e];simp
 |exc cn=>obtain⟨C,_,e⟩:=h;rw[e];simp
 |clo n x d=>obtain⟨w,⟨_,_,_,_,_,_,_,_,_,_,_,_,e,_⟩,_⟩:=h;rw[e];simp
 |tab n b=>obtain⟨_,_,_,_,_,e,_⟩:=h;rw[e];simp
theorem sN.step{c':Vh}{qual:Str}(h:sN H c' qual)(l:Lw K H ι H' c7):sN H' c' qual:=by
 obtain⟨o,vs,t,e,r⟩:=h;exact⟨o,vs,t,l.fr _ _ _ e,r⟩
theorem Zvl.step{n:String}{x:Str}{a:Vh}{w:V}(h:Zvl K H n x a w)(l:Lw K H ι H' c7):Zvl K H' n x a w:=by
 obtain⟨st,nm,qual,d6,pm,ct,c,c',oc,uc,u,h1,h2,h3,h4,h5⟩:=h;exact⟨st,nm,qual,d6,pm,ct,c,c',oc,uc,u,h1,l.fr _ _ _ h2,h3.step l,l.fr _ _ _ h4,h5⟩
theorem A4.step{a:Vh}{o:DO}(h:A4 K H ι a o)(l:Lw K H ι H' c7)(e:H' a=H a):A4 K H' c7 a o:=by
 cases o with
 |lst ds=>obtain⟨vs,q,r⟩:=h;exact⟨vs,by rw[e,q],Prd.monoW l r⟩
 |dic kv fz=>obtain⟨h1,h2,xs,q,r⟩:=h;exact⟨h1,h2,xs,by rw[e];exact q,Prd.imp r λp x _ z=>⟨z.1,Rep.monoW l z.2.1,let ⟨v,z1,z2⟩:=z.2.2;⟨v,z1,Rep.monoW l z2⟩⟩⟩
 |dci kv=>obtain⟨h1,h2,xs,q,r⟩:=h;exact⟨h1,h2,xs,by rw[e];exact q,Prd.imp r λp x _ z=>⟨z.1,let ⟨v,z1,z2⟩:=z.2;⟨v,z1,Rep.monoW l z2⟩⟩⟩
 |dcn kv=>obtain⟨h1,h2,xs,q,r⟩:=h;exact⟨h1,h2,xs,by rw[e];exact q,Prd.imp r λp x _ z=>⟨z.1,Rep.monoW l z.2.1,let ⟨v,z1,z2⟩:=z.2.2;⟨v,z1,Rep.monoW l z2⟩⟩⟩
 |obj cn fs=>obtain⟨C,dx,xs,h1,q,r⟩:=h;exact⟨C,dx,xs,h1,by rw[e];exact q,Prd.imp r λp x _ z=>⟨z.1,Rep.monoW l z.2⟩⟩
 |exc cn=>obtain⟨C,h1,q⟩:=h;exact⟨C,h1,by rw[e];exact q⟩
 |clo n x d=>obtain⟨w,h1,h2⟩:=h;exact⟨w,h1.step l,Rep.monoW l h2⟩
 |tab n b=>
  obtain⟨st,c,ps,h1,h2,h3,h4,h5,h6⟩:=h;refine⟨st,c,ps,h1,h2,by rw[e];exact h3,h4,h5,λhb=>?_⟩;obtain⟨c',h7,h8⟩:=h6 hb;exact⟨c',h7,h8.step l⟩
theorem C0.at{Hd:HD}(h:C0 K H ι Hd){n:Nat}{o:DO}(e:Hd[n]? = B3 o):∃a,ι[n]? = B3 a/\A4 K H ι a o:=by
 have hl:n<ι.length:=by rw[h.len];exact(Xg.mp e).1
 exact⟨ι[n],by simp[hl],h.obj n _ o (by simp[hl]) e⟩
theorem C0.has{Hd:HD}(h:C0 K H ι Hd){a:Vh}(hm:a∈ι):∃(n:Nat)(o:DO),ι[n]? = B3 a/\Hd[n]? = B3 o/\A4 K H ι a o:=by
 obtain⟨n,hn⟩:=Wea.mp hm;have hl:n<Hd.length:=by rw[<- h.len];exact(Xg.mp hn).1
 exact⟨n,Hd[n],hn,by simp[hl],h.obj n a Hd[n] hn (by simp[hl])⟩
theorem C0.fresh{Hd:HD}(h:C0 K H ι Hd){p:Vh}(hp:H p=B0):p∉ι:=λhm=>by
 obtain⟨_,_,_,_,o⟩:=h.has hm;exact o.there hp
theorem C0.keep{Hd:HD}(h:C0 K H ι Hd)(l:Lw K H ι H' ι)(e:∀a∈ι,H' a=H a):C0 K H' ι Hd :=
 ⟨h.len,h.nd,λn a o h1 h2=>(h.obj n a o h1 h2).step l (e a (dZ h1))⟩
theorem Lw.fresh{p:Vh}(hp:H p=B0)(o:HO):Lw K H ι (upd H p o) ι where
 tup:=λa xs h=>by
  rcases h with (h |⟨ob,h⟩) |h
  ·exact .inl (.inl (by rw[F3 (S4 h hp)];exact h))
  ·exact .inl (.inr ⟨ob,by rw[F3 (S4 h hp)];exact h⟩)
  ·exact .inr h
 fz:=λa xs h=>by
  rcases h with ⟨ob,h⟩ |h
  ·exact .inl ⟨ob,by rw[F3 (S4 h hp)];exact h⟩
  ·exact .inr h
 pre:=⟨[],by simp⟩
 fr:=λa ob u h=>by rw[F3 (S4 h hp)];exact h
theorem Le.fresh{p:Vh}(hp:H p=B0)(o:HO):Le K H ι (upd H p o) ι:=⟨Lw.fresh hp o,λa ob h n=>⟨by rw[F3 (S4 h hp)];exact h,n⟩⟩
theorem Le.fresh1{p:Vh}(hp:H p=B0)(o:HO):Le K H ι (upd H p o) (ι++[p]) where
 tup:=(Le.fresh (ι:=ι) hp o).tup
 fz:=(Le.fresh (ι:=ι) hp o).fz
 pre:=⟨[p],rfl⟩
 fr:=(Le.fresh (K:=K) (ι:=ι) hp o).fr
 frame:=λa ob h n=>⟨by rw[F3 (S4 h hp)];exact h,by
  have:=S4 h hp;simp[n,this]⟩
theorem C0.tup{Hd:HD}(h:C0 K H ι Hd){p:Vh}(hp:H p=B0)(o:HO):C0 K (upd H p o) ι Hd :=
 h.keep (Lw.fresh hp o) λa ha=>F3 λz=>by subst z;exact h.fresh hp ha
theorem C0.new{Hd:HD}(h:C0 K H ι Hd){p:Vh}(hp:H p=B0){u:HO}{o:DO}(ho:A4 K (upd H p u) (ι++[p]) p o):C0 K (upd H p u) (ι++[p]) (Hd++[o]):=by
 have hf:=h.fresh hp;refine⟨by simp[h.len],by simp only[iS,h.nd,true_and];exact⟨by simp,λa ha b hb e=>hf (by simp at hb;rw[<- hb,<- e];exact ha)⟩,λn a ob h1 h2=>?_⟩;by_cases hn:n<ι.length
 ·rw[Xs hn]at h1;rw[Xs (by rw[<- h.len];exact hn)]at h2;have ha:a∈ι:=dZ h1;exact(h.obj n a ob h1 h2).step (Le.fresh1 hp u).toLw (F3 λz=>by subst z;exact hf ha)
 ·rw[eD f8]at h1;rw[eD (by rw[<- h.len];omega)]at h2;rw[<- h.len]at h2;have:n - ι.length=0:=by
   have:=(Xg.mp h1).1;simp at this;omega
  rw[this]at h1 h2;simp at h1 h2;subst h1;subst h2;exact ho
nonrec def Ybq:HO->Prop
 |.lst _=>True
 |.ext _=>True
 |.ins _ _ _=>True
 |.tbl _=>True
 |_=>False
theorem Le.upd{a:Vh}(ha:a∈ι){o:HO}(e:H a=B3 o)(lo:Ybq o)(u:HO):Le K H ι (upd H a u) ι where
 tup:=λb xs h=>by
  rcases h with (h |⟨ob,h⟩) |h
  ·refine .inl (.inl ?_);rw[F3 (iB h e (by rintro rfl;exact lo))];exact h
  ·refine .inl (.inr ⟨ob,?_⟩);rw[F3 (iB h e (by rintro rfl;exact lo))];exact h
  ·exact .inr h
 fz:=λb xs h=>by
  rcases h with ⟨ob,h⟩ |h
  ·refine .inl ⟨ob,?_⟩;rw[F3 (iB h e (by rintro rfl;exact lo))];exact h
  ·exact .inr h
 pre:=⟨[],by simp⟩
 fr:=λb ob w h=>by rw[F3 (iB h e (by rintro rfl;exact lo))];exact h
 frame:=λb ob h n=>⟨by rw[F3 (by rintro rfl;exact n ha)];exact h,n⟩
theorem C0.upd{Hd:HD}(h:C0 K H ι Hd){n:Nat}{a:Vh}(hn:ι[n]? = B3 a){o u:HO}(e:H a=B3 o)(lo:Ybq o){ob:DO}(ho:A4 K (upd H a u) ι a ob):C0 K (upd H a u) ι (Hd.set n ob):=by
 refine⟨by simp[h.len],h.nd,λm b oc h1 h2=>?_⟩;by_cases hm:n=m
 ·subst hm;rw[hn]at h1;cases h1;rw[vV]at h2;rw[d7 rfl]at h2;split at h2
  ·cases h2;exact ho
  ·cases h2
 ·rw[Z6 hm]at h2;have hb:b≠a:=λz=>by
   subst z;have l1:=(Xg.mp hn).1;exact hm ((Wgh l1 h.nd).mp (hn.trans h1.symm))
  exact(h.obj m b oc h1 h2).step (Le.upd (dZ hn) e lo u).toLw (F3 hb)
theorem C0.add{Hd:HD}(h:C0 K H ι Hd){p:Vh}(hp:p∉ι){o:DO}(ho:A4 K H (ι++[p]) p o):C0 K H (ι++[p]) (Hd++[o]):=by
 refine⟨by simp[h.len],by simp only[iS,h.nd,true_and];exact⟨by simp,λa ha b hb e=>hp (by simp at hb;rw[<- hb,<- e];exact ha)⟩,λn a ob h1 h2=>?_⟩;by_cases hn:n<ι.length
 ·rw[Xs hn]at h1;rw[Xs (by rw[<- h.len];exact hn)]at h2;exact(h.obj n a ob h1 h2).step ⟨λ_ _ z=>z,λ_ _ z=>z,⟨[p],rfl⟩,λ_ _ _ z=>z⟩ rfl
 ·rw[eD f8]at h1;rw[eD (by rw[<- h.len];omega)]at h2;rw[<- h.len]at h2;have:n - ι.length=0:=by
   have:=(Xg.mp h1).1;simp at this;omega
  rw[this]at h1 h2;simp at h1 h2;subst h1;subst h2;exact ho
theorem Lw.side{p:Vh}{ys:List V}(hp:H p=B3 (.lst ys))(u:HO):Lw K H ι (L2.upd H p u) ι where
 tup:=λa xs h=>by
  rcases h with (h |⟨ob,h⟩) |h
  ·refine .inl (.inl ?_);rw[F3 (iB h hp (by intro z;cases z))];exact h
  ·refine .inl (.inr ⟨ob,?_⟩);rw[F3 (iB h hp (by intro z;cases z))];exact h
  ·exact .inr h
 fz:=λa xs h=>by
  rcases h with ⟨ob,h⟩ |h
  ·refine .inl ⟨ob,?_⟩;rw[F3 (iB h hp (by intro z;cases z))];exact h
  ·exact .inr h
 pre:=⟨[],by simp⟩
 fr:=λa ob w h=>by rw[F3 (iB h hp (by intro z;cases z))];exact h
theorem Lw.trans{H1 H2:Hp}{ι1 ι2:List Vh}(a:Lw K H ι H1 ι1)(b:Lw K H1 ι1 H2 ι2):Lw K H ι H2 ι2:=by
 refine⟨λx xs h=>b.tup x xs (a.tup x xs h),λx xs h=>b.fz x xs (a.fz x xs h),?_,λx o u h=>b.fr x o u (a.fr x o u h)⟩;obtain⟨t,e⟩:=a.pre;obtain⟨u,e'⟩:=b.pre;exact⟨t++u,by rw[e',e,T5]⟩
theorem Le.side{H1:Hp}{ι1:List Vh}{p:Vh}{ys:List V}(l:Le K H ι H1 ι1)(h0:H p=B0)(h1:H1 p=B3 (.lst ys))(u:HO):Le K H ι (L2.upd H1 p u) ι1 :=
 ⟨l.toLw.trans (Lw.side h1 u),λa o h n=>by
  obtain⟨q,m⟩:=l.frame a o h n;exact⟨by rw[F3 (S4 h h0)];exact q,m⟩⟩
structure D4(K:Xa)(H:Hp)(ι:List Vh)(σ:L2.St)(c6:SD):Prop where
 len:σ.length=c6.length
 var:∀(i:Nat)(d:D),c6[i]? = B3 (B3 d)->∃v,σ[i]? = B3 (B3 v)/\Rep K H ι d v
theorem D4.mono{σ:L2.St}{c6:SD}(s:D4 K H ι σ c6)(l:Le K H ι H' c7):D4 K H' c7 σ c6 :=
 ⟨s.len,λi d h=>let ⟨v,h1,h2⟩:=s.var i d h;⟨v,h1,h2.mono l⟩⟩
theorem D4.set{σ:L2.St}{c6:SD}{d:D}{v:V}(s:D4 K H ι σ c6)(r:Rep K H ι d v)(i:Nat):D4 K H ι (σ.set i (B3 v)) (c6.set i (B3 d)):=by
 refine⟨by simp[s.len],λj e h=>?_⟩;by_cases hj:i=j
 ·subst hj;rw[vV]at h ⊢;rw[d7 rfl]at h ⊢;split at h
  ·rename_i hl;rw[d7 (by rw[s.len];exact hl)];cases h;exact⟨v,rfl,r⟩
  ·cases h
 ·rw[Z6 hj]at h ⊢;exact s.var j e h
end
nonrec def Znk:Vz->Bool
 |.Starred _ _=>B2
 |_=>B1
theorem V3{e:Vz}{es:List Vz}{env:Env}(h:Znk e=B1):Vg (e::es) env=(B2,eval e env)::Vg es env:=by
 cases e<;>first |rfl |cases h
theorem cS{pos:Pos}{env:Env}:∀{es:List Vz},es.all Znk=B1->(K8 pos (Vg es env)).any (·.1)=B2
 |[],_=>rfl
 |e::es,h=>by
  rw[List.all_cons,V6]at h;rw[V3 h.1];show (B2||(K8 pos (Vg es env)).any (·.1))=B2;rw[cS h.2];rfl
theorem Ztm{pos:Pos}{env:Env}{es:List Vz}(h:es.all Znk=B1)(hl:es.length<30):((K8 pos (Vg es env)).all (λx=> !x.1)&&(pC pos (pI [] env)).all (λx=>x.1.isSome)
   && decide (es.length+([]:List jD).length+(if ([]:List jD).isEmpty then 0 else 1)<30))=B1:=by
 have h1:=cS (pos:=pos) (env:=env) h;have h2:(K8 pos (Vg es env)).all (λx=> !x.1)=B1:=by
  rw[vU];intro x hx;rw[Wgi]at h1;have:=h1 x hx;simpa using this
 have h3:decide (es.length+([]:List jD).length+(if ([]:List jD).isEmpty then 0 else 1)<30)=B1:=by
  rw[decide_eq_true_eq];simpa using hl
 rw[h2,h3];rfl
nonrec abbrev EF:=SD->HD->Option (D×HD)
nonrec abbrev TF:=SD->HD->Option (Bool×HD)
nonrec abbrev AF:=SD->HD->Option (List D×HD)
inductive FD where
 |nx |bk |ct |rt (d:D)
nonrec abbrev SF:=SD->HD->Option (FD×SD×HD)
nonrec abbrev GF:=D->SD->HD->Option (SD×HD)
nonrec abbrev FF:=List D->HD->Option (D×HD)
nonrec abbrev F2:=D->D->HD->Option (D×HD)
def QE(K:Xa)(H:Hp)(ι:List Vh)(d:D)(c5:HD)(Q:VK):Prop:=∀v H' c7,Le K H ι H' c7->C0 K H' c7 c5->Rep K H' c7 d v->Q v H'
nonrec def cD(K:Xa)(f:EF):TE:=λσ H Q=>∃ι c6 Hd d c5,D4 K H ι σ c6/\C0 K H ι Hd/\f c6 Hd=B3 (d,c5)/\QE K H ι d c5 Q
nonrec def mJ(K:Xa)(f:TF):TT:=λσ H Q=>∃ι c6 Hd b c5,D4 K H ι σ c6/\C0 K H ι Hd/\f c6 Hd=B3 (b,c5)/\∀H' c7,Le K H ι H' c7->C0 K H' c7 c5->Q b H'
nonrec def rdA(K:Xa)(f:AF):TA:=λσ H Q=>∃ι c6 Hd ds c5,D4 K H ι σ c6/\C0 K H ι Hd/\f c6 Hd=B3 (ds,c5)/\∀vs H' c7,Le K H ι H' c7->C0 K H' c7 c5->Vm (Rep K H' c7) ds vs->Q vs H'
def QS(K:Xa)(H:Hp)(ι:List Vh)(fl:FD)(c8:SD)(c5:HD)(E:W0):Prop:=∀σ' H' c7,Le K H ι H' c7->C0 K H' c7 c5->D4 K H' c7 σ' c8 ->
 match fl with
 |.nx=>E.nx σ' H'
 |.bk=>E.bk σ' H'
 |.ct=>E.ct σ' H'
 |.rt d=>∀v,Rep K H' c7 d v->E.rt v H'
nonrec def rdS(K:Xa)(f:SF):TS:=λE σ H=>∃ι c6 Hd fl c8 c5,D4 K H ι σ c6/\C0 K H ι Hd/\f c6 Hd=B3 (fl,c8,c5)/\QS K H ι fl c8 c5 E
nonrec def rdG(K:Xa)(g:GF):TG:=λv σ H Q=>∃ι c6 Hd d c8 c5,D4 K H ι σ c6/\C0 K H ι Hd/\Rep K H ι d v/\g d c6 Hd=B3 (c8,c5) /\
 ∀σ' H' c7,Le K H ι H' c7->C0 K H' c7 c5->D4 K H' c7 σ' c8->Q σ' H'
nonrec def rd2(K:Xa)(g:F2):R2:=λx y H Q=>∃ι dx dy Hd d c5,C0 K H ι Hd/\Rep K H ι dx x/\Rep K H ι dy y/\g dx dy Hd=B3 (d,c5)/\QE K H ι d c5 Q
nonrec def rd1(K:Xa)(g:D->HD->Option (D×HD)):V->Hp->VK->Prop:=λx H Q=>∃ι dx Hd d c5,C0 K H ι Hd/\Rep K H ι dx x/\g dx Hd=B3 (d,c5)/\QE K H ι d c5 Q
nonrec def rdC(K:Xa)(g:FF):List V->Hp->VK->Prop:=λvs H Q=>∃ι ds Hd d c5,C0 K H ι Hd/\Vm (Rep K H ι) ds vs/\g ds Hd=B3 (d,c5)/\QE K H ι d c5 Q
nonrec def rdM(K:Xa)(g:D->List D->HD->Option (D×HD)):V->List V->Hp->VK->Prop:=λv vs H Q=>∃ι x ds Hd d c5,C0 K H ι Hd/\Rep K H ι x v/\Vm (Rep K H ι) ds vs/\g x ds Hd=B3 (d,c5)/\QE K H ι d c5 Q
def D6(X:Cx)(e:Vz)(f:EF):Prop:=PE X e (cD X.K f)
def Y5(X:Cx)(e:Vz)(f:TF):Prop:=PT X e (mJ X.K f)
def gJ(X:Cx)(e:Vz)(f:TF):Prop:=PW X e (mJ X.K f)
def O2(X:Cx)(es:List Vz)(f:AF):Prop:=PA X es (rdA X.K f)
def V8(X:Cx)(st:D2)(f:SF):Prop:=PS X st (rdS X.K f)
def V2(X:Cx)(st:List D2)(f:SF):Prop:=T6 X st (rdS X.K f)
def jN(X:Cx)(tg:Vz)(g:GF):Prop:=PG X tg (rdG X.K g)
def R6(X:Cx)(f:Vb->Vb->Sem Vb)(g:F2):Prop:=N5 X f (rd2 X.K g)
def UnF(X:Cx)(f:Vb->Sem Vb)(g:D->HD->Option (D×HD)):Prop:=UnR X f (rd1 X.K g)
def A7(X:Cx)(f:Vb)(g:FF):Prop:=Y1 X f (rdC X.K g)
def IxF(X:Cx)(g:F2):Prop:=IxR X (rd2 X.K g)
def MtF(X:Cx)(id:String)(g:D->List D->HD->Option (D×HD)):Prop:=MtR X id (rdM X.K g)
section
variable{X:Cx}{e a b c:Vz}{es:List Vz}{pos:Pos}{st:D2}{sts:List D2}
theorem S7{t t':TE}(h:PE X e t)(i:∀σ H Q,t' σ H Q->t σ H Q):PE X e t':=λb5 s σ H Q I q=>h b5 s σ H Q I (i σ H Q q)
theorem PTi{t t':TT}(h:PT X e t)(i:∀σ H Q,t' σ H Q->t σ H Q):PT X e t':=λb5 s σ H Q I q=>h b5 s σ H Q I (i σ H Q q)
theorem PWi{t t':TT}(h:PW X e t)(i:∀σ H Q,t' σ H Q->t σ H Q):PW X e t':=λwh b5 s σ H Q I q=>h wh b5 s σ H Q I (i σ H Q q)
theorem PAi{t t':TA}(h:PA X es t)(i:∀σ H Q,t' σ H Q->t σ H Q):PA X es t':=λps b5 s σ H Q I q=>h ps b5 s σ H Q I (i σ H Q q)
theorem cA{t t':TS}(h:PS X st t)(i:∀E σ H,t' E σ H->t E σ H):PS X st t':=λb5 s σ H E I q=>h b5 s σ H E I (i E σ H q)
theorem gK{t t':TS}(h:T6 X sts t)(i:∀E σ H,t' E σ H->t E σ H):T6 X sts t':=λb5 s σ H E I q=>h b5 s σ H E I (i E σ H q)
theorem PGi{t t':TG}(h:PG X e t)(i:∀v σ H Q,t' v σ H Q->t v σ H Q):PG X e t':=λb5 s σ H v u Q I r q=>h b5 s σ H v u Q I r (i v σ H Q q)
theorem mD{f:Vb->Vb->Sem Vb}{t t':R2}(h:N5 X f t)(i:∀x y H Q,t' x y H Q->t x y H Q):N5 X f t':=λb5 s σ H x y v u Q I r1 r2 q=>h b5 s σ H x y v u Q I r1 r2 (i x y H Q q)
nonrec def B4(i:Nat):EF:=λσ H=>(σ[i]?).join.map λd=>(d,H)
nonrec def eC(d:D):EF:=λ_ H=>B3 (d,H)
theorem C6{i:Nat}{x:Str}(h:PE X (.Name x pos) (jS i)):D6 X (.Name x pos) (B4 i):=by
 refine S7 h λσ H Q zz=>?_;obtain⟨ι,c6,Hd,d,c5,s,hr,e,q⟩:=zz;unfold B4 at e;cases hx:c6[i]? with
 |none=>rw[hx]at e;cases e
 |some o=>
  cases o with
  |none=>rw[hx]at e;cases e
  |some d0=>
   rw[hx]at e;have e':(d0,Hd)=(d,c5):=B3.inj e;obtain⟨rfl,rfl⟩:=N9.inj e';obtain⟨v,h1,h2⟩:=s.var i d0 hx;exact⟨v,h1,q v H ι Le.refl hr h2⟩
theorem Zt9{v:V}{d:D}(h:PE X e (tC v))(r:∀H ι,Rep X.K H ι d v):D6 X e (eC d):=by
 refine S7 h λσ H Q zz=>?_;obtain⟨ι,c6,Hd,d',c5,s,hr,e,q⟩:=zz;cases e;exact q v H ι Le.refl hr (r H ι)
theorem G9{i j}:D6 X (.Constant (.int i) j pos) (eC (.int i)):=Zt9 Ybg λ_ _=>by simp
theorem Zgg{b j}:D6 X (.Constant (.bool b) j pos) (eC (.bl b)):=Zt9 rE λ_ _=>by simp
theorem Zjx{j}:D6 X (.Constant .none j pos) (eC .non):=Zt9 Yag λ_ _=>by simp
theorem Zqk{x j}:D6 X (.Constant (.str x) j pos) (eC (.str x)):=Zt9 Zvz λ_ _=>by simp
nonrec def B8(g:F2)(fa fb:EF):EF:=λσ H=>(fa σ H).bind λp=>(fb σ p.2).bind λq=>g p.1 q.1 q.2
theorem Zun{fa fb:EF}{g:F2}{σ:L2.St}{H:Hp}{Q:VK}{K:Xa}(h:cD K (B8 g fa fb) σ H Q):qJ (rd2 K g) (cD K fa) (cD K fb) σ H Q:=by
 obtain⟨ι,c6,Hd,d,c5,s,hr,e,q⟩:=h;obtain⟨⟨x,H1⟩,e1,e⟩:=Zo e;obtain⟨⟨y,H2⟩,e2,e⟩:=Zo e;exact⟨ι,c6,Hd,x,H1,s,hr,e1,λv1 H1' ι1 l1 h1 r1=>⟨ι1,c6,H1,y,H2,s.mono l1,h1,e2,λv2 H2' ι2 l2 h2 r2=>
  ⟨ι2,x,y,H2,d,c5,h2,r1.mono l2,r2,e,λv H' c7 l h r=>q v H' c7 ((l1.trans l2).trans l) h r⟩⟩⟩
theorem G2{op:Operator}{g:F2}{fa fb:EF}(ho:R6 X (Q3 op) g)(ha:D6 X a fa)(hb:D6 X b fb):D6 X (.BinOp a op b pos) (B8 g fa fb) :=
 S7 (rA ho ha hb) λ_ _ _ h=>Zun h
theorem nS{op:CmpOp}{g:F2}{fa fb:EF}(ho:R6 X (S6 op) g)(ha:D6 X a fa)(hb:D6 X b fb)(hm:pM op b=B2):D6 X (.Compare a [op] [b] pos) (B8 g fa fb) :=
 S7 (Zx0 ho ha hb hm) λ_ _ _ h=>Zun h
theorem Z2{g:F2}{fa fb:EF}(ho:IxF X g)(ha:D6 X a fa)(hb:D6 X b fb)(hs:Zrr b):D6 X (.Subscript a b pos) (B8 g fa fb) :=
 S7 (rC ho ha hb hs) λ_ _ _ h=>Zun h
nonrec def F8(g:D->HD->Option (D×HD))(fa:EF):EF:=λσ H=>(fa σ H).bind λp=>g p.1 p.2
theorem nJ{op:UnaryOp}{g:D->HD->Option (D×HD)}{fa:EF}(ho:UnF X (unaryOp op) g)(ha:D6 X a fa):D6 X (.UnaryOp op a pos) (F8 g fa):=by
 refine S7 (qZ ho ha) λσ H Q zz=>?_;obtain⟨ι,c6,Hd,d,c5,s,hr,e,q⟩:=zz;obtain⟨⟨x,H1⟩,e1,e⟩:=Zo e;exact⟨ι,c6,Hd,x,H1,s,hr,e1,λv1 H1' ι1 l1 h1 r1=>⟨ι1,x,H1,d,c5,h1,r1,e,λv H' c7 l h r=>q v H' c7 (l1.trans l) h r⟩⟩
nonrec def sE:D->Option Bool
 |.bl b=>B3 b
 |_=>B0
nonrec def E8(f:EF):TF:=λσ H=>(f σ H).bind λp=>(sE p.1).map λb=>(b,p.2)
theorem Zpz{K:Xa}{H:Hp}{ι:List Vh}{d:D}{b:Bool}{v:V}(e:sE d=B3 b)(r:Rep K H ι d v):v=.bl b:=by
 cases d<;>simp[sE]at e;subst e;simpa using r
theorem P0{op:CmpOp}{g:F2}{fa fb:EF}(ho:R6 X (S6 op) g)(ha:D6 X a fa)(hb:D6 X b fb)(hm:pM op b=B2):Y5 X (.Compare a [op] [b] pos) (E8 (B8 g fa fb)):=by
 refine PTi (Zxr ho ha hb hm) λσ H Q zz=>?_;obtain⟨ι,c6,Hd,bb,c5,s,hr,e,q⟩:=zz;obtain⟨⟨x,H1⟩,e1,e⟩:=Zo e;obtain⟨b',eb,e⟩:=Zm e;cases e;exact Zun ⟨ι,c6,Hd,x,H1,s,hr,e1,λv H' c7 l h r=>⟨bb,Zpz eb r,q H' c7 l h⟩⟩
nonrec def dP:D->HD->Option Bool
 |.non,_=>B3 B2
 |.bl b,_=>B3 b
 |.int i,_=>B3 (i != 0)
 |.tup xs,_=>B3 (!xs.isEmpty)
 |.fl xs,_=>B3 (!xs.isEmpty)
 |.str x,_=>if x.length<=sizeLine then B3 ((x.length:Int) != 0)else B0
 |.ref n,H=>match H[n]? with
  |some (.lst xs)=>B3 (!xs.isEmpty)
  |_=>B0
 |_,_=>B0
theorem Zhx{α β:Type}{F:α->β->Prop}{xs:List α}{us:List β}(r:Vm F xs us):(!us.isEmpty) = !xs.isEmpty:=by cases r<;>rfl
theorem Zy5{K:Xa}{H:Hp}{ι:List Vh}{Hd:HD}{d:D}{k:Bool}{v:V}(hr:C0 K H ι Hd)(r:Rep K H ι d v)(e:dP d Hd=B3 k):lV K v H k:=by
 cases d with
 |non=>simp at r;subst r;simp[dP]at e;subst e;exact rfl
 |bl b=>simp at r;subst r;simp[dP]at e;subst e;exact rfl
 |int i=>simp at r;subst r;simp[dP]at e;subst e;exact rfl
 |ty n=>simp[dP]at e
 |str x=>
  simp at r;subst r;simp only[dP]at e;split at e
  ·rename_i hl;cases e;exact⟨hl,rfl⟩
  ·cases e
 |tup xs=>
  obtain⟨ad,vs,rfl,h,p⟩:=U6.mp r;cases (show B3 (!xs.isEmpty)=B3 k from e);exact .inr (.inl ⟨vs,h,by rw[Zhx p]⟩)
 |fl xs=>
  obtain⟨ad,vs,rfl,h,p⟩:=iC.mp r;cases (show B3 (!xs.isEmpty)=B3 k from e);exact .inl ⟨vs,h.sq,by rw[Zhx p]⟩
 |ref n=>
  obtain⟨ad,rfl,h⟩:=N4.mp r;simp only[dP]at e;split at e
  ·rename_i xs ho;cases e;obtain⟨vs,h1,p⟩:=hr.obj n ad _ h ho;exact .inl ⟨vs,G7.of h1,by rw[Zhx p]⟩
  ·cases e
nonrec def cJ(f:EF):TF:=λσ H=>(f σ H).bind λp=>(dP p.1 p.2).map λb=>(b,p.2)
theorem uC{fa:EF}(ha:D6 X a fa)(he:∀whole,isTrue a X.env whole=(do let v<-whole;standAt a.pos;gG [v] (truthy v))):Y5 X a (cJ fa):=by
 refine PTi (Zu7 ha he) λσ H Q zz=>?_;obtain⟨ι,c6,Hd,bb,c5,s,hr,e,q⟩:=zz;obtain⟨⟨x,H1⟩,e1,e⟩:=Zo e;obtain⟨b',eb,e⟩:=Zm e;cases e;exact⟨ι,c6,Hd,x,H1,s,hr,e1,λv H' c7 l h r=>⟨bb,Zy5 h r eb,q H' c7 l h⟩⟩
nonrec def gO(t:TF):TF:=λσ H=>(t σ H).map λp=>(!p.1,p.2)
nonrec def dM(t u:TF):TF:=λσ H=>(t σ H).bind λp=>if p.1=B1 then u σ p.2 else B3 (B2,p.2)
nonrec def kH(t u:TF):TF:=λσ H=>(t σ H).bind λp=>if p.1=B1 then B3 (B1,p.2)else u σ p.2
theorem Zlz{t:TF}(h:Y5 X a t):Y5 X (.UnaryOp .Not a pos) (gO t):=by
 refine PTi (Ycv h) λσ H Q zz=>?_;obtain⟨ι,c6,Hd,bb,c5,s,hr,e,q⟩:=zz;obtain⟨⟨x,H1⟩,e1,e⟩:=Zm e;cases e;exact⟨ι,c6,Hd,x,H1,s,hr,e1,λH' c7 l h=>q H' c7 l h⟩
theorem Zjm{t:TF}(h:Y5 X a t):gJ X (.BoolOp .And [a] pos) t:=Zxg h
theorem Zx6{t:TF}(h:Y5 X a t):gJ X (.BoolOp .Or [a] pos) t:=Yak h
theorem Zl3{t u:TF}(h:Y5 X a t)(h2:gJ X (.BoolOp .And (b::es) pos) u):gJ X (.BoolOp .And (a::b::es) pos) (dM t u):=by
 refine PWi (Zz1 h h2) λσ H Q zz=>?_;obtain⟨ι,c6,Hd,bb,c5,s,hr,e,q⟩:=zz;obtain⟨⟨x,H1⟩,e1,e⟩:=Zo e;refine⟨ι,c6,Hd,x,H1,s,hr,e1,λH' c7 l h=>?_⟩;cases x with
 |true=>
  rw[d7 rfl];exact⟨c7,c6,H1,bb,c5,s.mono l,h,by simpa using e,λH2 ι2 l2 h2=>q H2 ι2 (l.trans l2) h2⟩
 |false=>
  rw[d9 g8];simp at e;obtain⟨rfl,rfl⟩:=e;exact q H' c7 l h
theorem Zz7{t u:TF}(h:Y5 X a t)(h2:gJ X (.BoolOp .Or (b::es) pos) u):gJ X (.BoolOp .Or (a::b::es) pos) (kH t u):=by
 refine PWi (qW h h2) λσ H Q zz=>?_;obtain⟨ι,c6,Hd,bb,c5,s,hr,e,q⟩:=zz;obtain⟨⟨x,H1⟩,e1,e⟩:=Zo e;refine⟨ι,c6,Hd,x,H1,s,hr,e1,λH' c7 l h=>?_⟩;cases x with
 |true=>
  rw[d7 rfl];simp at e;obtain⟨rfl,rfl⟩:=e;exact q H' c7 l h
 |false=>
  rw[d9 g8];exact⟨c7,c6,H1,bb,c5,s.mono l,h,by simpa using e,λH2 ι2 l2 h2=>q H2 ι2 (l.trans l2) h2⟩
theorem gJ.pt{t:TF}(h:gJ X a t):Y5 X a t:=h _
nonrec def eAn(f g:EF):EF:=λσ H=>(f σ H).bind λp=>(sE p.1).bind λb=>if b=B1 then g σ p.2 else B3 (.bl B2,p.2)
nonrec def mM(t:TF)(f g:EF):EF:=λσ H=>(t σ H).bind λp=>if p.1=B1 then f σ p.2 else g σ p.2
theorem Zxh{op}{f:EF}(h:D6 X a f):D6 X (.BoolOp op [a] pos) f:=Yck h
theorem Zyp{f g:EF}(h:D6 X a f)(h2:D6 X (.BoolOp .And (b::es) pos) g):D6 X (.BoolOp .And (a::b::es) pos) (eAn f g):=by
 refine S7 (Ycx h h2) λσ H Q zz=>?_;obtain⟨ι,c6,Hd,d,c5,s,hr,e,q⟩:=zz;obtain⟨⟨x,H1⟩,e1,e⟩:=Zo e;obtain⟨b',eb,e⟩:=Zo e;refine⟨ι,c6,Hd,x,H1,s,hr,e1,λv H' c7 l h r=>⟨b',Zpz eb r,?_⟩⟩;cases b' with
 |true=>
  rw[d7 rfl];exact⟨c7,c6,H1,d,c5,s.mono l,h,by simpa using e,λv2 H2 ι2 l2 h2 r2=>q v2 H2 ι2 (l.trans l2) h2 r2⟩
 |false=>
  rw[d9 g8];simp at e;obtain⟨rfl,rfl⟩:=e;exact q _ H' c7 l h g8
theorem Zsl{t:TF}{f g:EF}(hc:Y5 X c t)(ha:D6 X a f)(hb:D6 X b g):D6 X (.IfExp c a b pos) (mM t f g):=by
 refine S7 (Zui hc ha hb) λσ H Q zz=>?_;obtain⟨ι,c6,Hd,d,c5,s,hr,e,q⟩:=zz;obtain⟨⟨x,H1⟩,e1,e⟩:=Zo e;refine⟨ι,c6,Hd,x,H1,s,hr,e1,λH' c7 l h=>?_⟩;cases x with
 |true=>
  rw[d7 rfl];exact⟨c7,c6,H1,d,c5,s.mono l,h,by simpa using e,λv2 H2 ι2 l2 h2 r2=>q v2 H2 ι2 (l.trans l2) h2 r2⟩
 |false=>
  rw[d9 g8];exact⟨c7,c6,H1,d,c5,s.mono l,h,by simpa using e,λv2 H2 ι2 l2 h2 r2=>q v2 H2 ι2 (l.trans l2) h2 r2⟩
nonrec def C1:AF:=λ_ H=>B3 ([],H)
nonrec def B5(f:EF)(g:AF):AF:=λσ H=>(f σ H).bind λp=>(g σ p.2).map λq=>(p.1::q.1,q.2)
theorem Zf0:O2 X [] C1:=by
 refine PAi nF λσ H Q zz=>?_;obtain⟨ι,c6,Hd,d,c5,s,hr,e,q⟩:=zz;cases e;exact q [] H ι Le.refl hr .nil
theorem Zmv{f:EF}{g:AF}(ha:D6 X e f)(hr:O2 X es g)(hs:Vg (e::es) X.env=(B2,eval e X.env)::Vg es X.env:=by exact V3 rfl):O2 X (e::es) (B5 f g):=by
 refine PAi (fS ha hr hs) λσ H Q zz=>?_;obtain⟨ι,c6,Hd,d,c5,s,hr,e,q⟩:=zz;obtain⟨⟨x,H1⟩,e1,e⟩:=Zo e;obtain⟨⟨y,H2⟩,e2,e⟩:=Zm e;cases e;exact⟨ι,c6,Hd,x,H1,s,hr,e1,λv1 H1' ι1 l1 h1 r1=>⟨ι1,c6,H1,y,H2,s.mono l1,h1,e2,λvs H2' ι2 l2 h2 r2=>q _ H2' ι2 (l1.trans l2) h2 (.cons (r1.mono l2) r2)⟩⟩
nonrec def cE(xs:List D)(H:HD):Option (D×HD):=if xs.length<=sizeLine then B3 (.tup xs,H)else B0
nonrec def O7(xs:List D)(H:HD):Option (D×HD):=if xs.length<=sizeLine then B3 (.ref H.length,H++[.lst xs])else B0
theorem Zg1{xs:List D}{H:HD}{r:D×HD}(h:cE xs H=B3 r):xs.length<=sizeLine/\r=(.tup xs,H):=by
 unfold cE at h;split at h
 ·rename_i hl;cases h;exact⟨hl,rfl⟩
 ·cases h
theorem Zn8{xs:List D}{H:HD}{r:D×HD}(h:O7 xs H=B3 r):xs.length<=sizeLine/\r=(.ref H.length,H++[.lst xs]):=by
 unfold O7 at h;split at h
 ·rename_i hl;cases h;exact⟨hl,rfl⟩
 ·cases h
theorem tR{K:Xa}{H:Hp}{ι:List Vh}{Hd c5:HD}{xs:List D}{vs:List V}{d:D}{Q:VK}(hr:C0 K H ι Hd)(r:Vm (Rep K H ι) xs vs)(e:cE xs Hd=B3 (d,c5))(q:QE K H ι d c5 Q) :
  vs.length<=sizeLine/\∀p,H p=B0->Q (.ref p) (upd H p (.tup vs)):=by
 obtain⟨hl,e⟩:=Zg1 e;cases e;refine⟨by rw[<- Prd.len r];exact hl,λp hp=>?_⟩;exact q _ _ ι (Le.fresh hp _) (hr.tup hp _) (U6.mpr ⟨p,vs,rfl,M4.of T3,Prd.mono (Le.fresh hp _) r⟩)
theorem cQ{K:Xa}{H:Hp}{ι:List Vh}{Hd c5:HD}{xs:List D}{vs:List V}{d:D}{Q:VK}(hr:C0 K H ι Hd)(r:Vm (Rep K H ι) xs vs)(e:O7 xs Hd=B3 (d,c5))(q:QE K H ι d c5 Q) :
  vs.length<=sizeLine/\∀p,H p=B0->Q (.ref p) (upd H p (.lst vs)):=by
 obtain⟨hl,e⟩:=Zn8 e;cases e;refine⟨by rw[<- Prd.len r];exact hl,λp hp=>?_⟩;refine q _ _ (ι++[p]) (Le.fresh1 hp _) (hr.new hp ⟨vs,T3,Prd.mono (Le.fresh1 hp _) r⟩) (N4.mpr ⟨p,rfl,?_⟩);rw[<- hr.len];simp
nonrec def G4(f:AF):EF:=λσ H=>(f σ H).bind λp=>cE p.1 p.2
nonrec def N3(f:AF):EF:=λσ H=>(f σ H).bind λp=>O7 p.1 p.2
theorem Zjq{f:AF}{x1}(h:O2 X es f):D6 X (.Tuple es x1 pos) (G4 f):=by
 refine S7 (Zv9 h) λσ H Q zz=>?_;obtain⟨ι,c6,Hd,d,c5,s,hr,e,q⟩:=zz;obtain⟨⟨x,H1⟩,e1,e⟩:=Zo e;exact⟨ι,c6,Hd,x,H1,s,hr,e1,λvs H' c7 l h r=>tR h r e λv2 H2 ι2 l2 h2 r2=>q v2 H2 ι2 (l.trans l2) h2 r2⟩
theorem Zr7{f:AF}(h:O2 X es f):D6 X (.List es pos) (N3 f):=by
 refine S7 (Yda h) λσ H Q zz=>?_;obtain⟨ι,c6,Hd,d,c5,s,hr,e,q⟩:=zz;obtain⟨⟨x,H1⟩,e1,e⟩:=Zo e;exact⟨ι,c6,Hd,x,H1,s,hr,e1,λvs H' c7 l h r=>cQ h r e λv2 H2 ι2 l2 h2 r2=>q v2 H2 ι2 (l.trans l2) h2 r2⟩
nonrec def E9(g:FF)(f:AF):EF:=λσ H=>(f σ H).bind λp=>g p.1 p.2
theorem Ya4{f:AF}{g:FF}{σ:L2.St}{H:Hp}{Q:VK}{K:Xa}(h:cD K (E9 g f) σ H Q):tCB (rdC K g) (rdA K f) σ H Q:=by
 obtain⟨ι,c6,Hd,d,c5,s,hr,e,q⟩:=h;obtain⟨⟨x,H1⟩,e1,e⟩:=Zo e;exact⟨ι,c6,Hd,x,H1,s,hr,e1,λvs H' c7 l h r=>⟨c7,x,H1,d,c5,h,r,e,λv2 H2 ι2 l2 h2 r2=>q v2 H2 ι2 (l.trans l2) h2 r2⟩⟩
theorem iM{x:Str}{id:String}{g:FF}{f:AF}{p:Pos}(hc:A7 X (.builtin id) g)(hg:Gl X x)(hm:X.mg x=B0)(hv:Vv x=B3 (.builtin id))(ha:O2 X (e::es) f)(hn:x ≠ "__name__" := by decide)(hdb:(x==("__debug__" : Str))=B2:=by decide)
  (he:Vg (e::es) X.env=(B2,eval e X.env)::Vg es X.env:=by exact V3 rfl)(hpl:(K8 pos (Vg es X.env)).any (·.1)=B2:=by exact cS rfl):D6 X (.Call (.Name x p) (e::es) [] pos) (E9 g f) :=
 S7 (tW hc hg hm hv ha hn hdb he hpl) λ_ _ _ h=>Ya4 h
theorem Zf7{x:Str}{T:String}{g:FF}{f:AF}{p:Pos}(hc:A7 X (.type T) g)(hg:Gl X x)(hm:X.mg x=B0)(hv:Vv x=B3 (.type T))(ha:O2 X (e::es) f)(hn:x ≠ "__name__" := by decide)(hdb:(x==("__debug__" : Str))=B2:=by decide)
  (he:Vg (e::es) X.env=(B2,eval e X.env)::Vg es X.env:=by exact V3 rfl)(hpl:(K8 pos (Vg es X.env)).any (·.1)=B2:=by exact cS rfl):D6 X (.Call (.Name x p) (e::es) [] pos) (E9 g f) :=
 S7 (Zld hc hg hm hv ha hn hdb he hpl) λ_ _ _ h=>Ya4 h
nonrec def spF(K:Xa)(n:Nat)(F:FF):Sp:=λvs H Q _=>∃ι ds Hd d c5,ds.length=n/\C0 K H ι Hd/\Vm (Rep K H ι) ds vs/\F ds Hd=B3 (d,c5)/\QE K H ι d c5 Q
nonrec def D8(n:Nat)(F:FF)(f:AF):EF:=λσ H=>(f σ H).bind λp=>if p.1.length=n then F p.1 p.2 else B0
theorem Ztx{k n:Nat}{f:Vh}{fd:X0}{ps:List Str}{x:Str}{p:Pos}{F:FF}{fa:AF}(G:K2 X.prog X.w X.K X.mg X.base eS k f fd ps (spF X.K n F))(hr:E5 k X.A)(hg:Gl X x)(hm:X.mg x=B3 (.ref f))(hk:cW X.K (.ref f)=B1)
  (hb:cP X.K fd ps [])(ha:O2 X (e::es) fa)(hdb:(x==("__debug__" : Str))=B2:=by decide)(he:Vg (e::es) X.env=(B2,eval e X.env)::Vg es X.env:=by exact V3 rfl)(hpl:(K8 pos (Vg es X.env)).any (·.1)=B2:=by exact cS rfl) :
  D6 X (.Call (.Name x p) (e::es) [] pos) (D8 n F fa):=by
 refine S7 (Zy0 (E:=E0) G hr hg hm hk hb .nil rF ha hdb he hpl) λσ H Q zz=>?_;obtain⟨ι,c6,Hd,d,c5,s,hr,e,q⟩:=zz;obtain⟨⟨x,H1⟩,e1,e⟩:=Zo e;refine⟨ι,c6,Hd,x,H1,s,hr,e1,λvs H' c7 l h r=>?_⟩;dsimp only at e;split at e
 ·rename_i hl;exact⟨c7,x,H1,d,c5,hl,h,by simpa using r,e,λv2 H2 ι2 l2 h2 r2=>q v2 H2 ι2 (l.trans l2) h2 r2⟩
 ·cases e
nonrec def cM:D->HD->Bool
 |.ref n,H=>match H[n]? with
  |some (.lst _)=>B1
  |_=>B2
 |_,_=>B2
theorem Zth{K:Xa}{H:Hp}{ι:List Vh}{Hd:HD}{d:D}{v:V}(hr:C0 K H ι Hd)(r:Rep K H ι d v)(e:cM d Hd=B1):tyV K "list" v H:=by
 cases d with
 |ref n=>
  obtain⟨ad,rfl,h⟩:=N4.mp r;simp only[cM]at e;split at e
  ·rename_i xs ho;obtain⟨vs,h1,p⟩:=hr.obj n ad _ h ho;exact .inl ⟨rfl,vs,G7.of h1⟩
  ·cases e
 |_=>simp[cM]at e
nonrec def bE(g:D->List D->HD->Option (D×HD))(fo:EF)(f:AF):EF:=λσ H=>(fo σ H).bind λo=>if cM o.1 o.2=B1 then (f σ o.2).bind λp=>g o.1 p.1 p.2 else B0
theorem Zlm{o:Vz}{name:Str}{apos d5:Pos}{id:String}{g:D->List D->HD->Option (D×HD)}{fo:EF}{f:AF}(slot:Slot "list" name id)(hty:lK (.builtin id)=pure (.type "method_descriptor"))(hm:MtF X id g)(ho:D6 X o fo)(ha:O2 X (e::es) f)
  (hbase:attributeBase o name X.env (eval o X.env)=eval o X.env:=by rfl)
  (hfew:((K8 d5 (Vg (e::es) X.env)).all (λx=> !x.1)&&(pC d5 (pI [] X.env)).all (λx=>x.1.isSome)
   && decide ((e::es).length+([]:List jD).length+(if ([]:List jD).isEmpty then 0 else 1)<30))=B1:=by exact Ztm rfl g9)
  (hline:(apos.endLine==d5.line)=B1:=by rfl)(hs:Vg (e::es) X.env=(B2,eval e X.env)::Vg es X.env:=by exact V3 rfl)(hplain:(K8 d5 (Vg es X.env)).any (·.1)=B2:=by exact cS rfl) :
  D6 X (.Call (.Attribute o name apos) (e::es) [] d5) (bE g fo f):=by
 refine S7 (rD PySem.F.plainAttrs_list slot hty hm ho ha hbase hfew hline hs hplain) λσ H Q zz=>?_;obtain⟨ι,c6,Hd,d,c5,s,hr,e,q⟩:=zz;obtain⟨⟨x,H1⟩,e1,e⟩:=Zo e;dsimp only at e;split at e
 ·rename_i hl;obtain⟨⟨y,H2⟩,e2,e⟩:=Zo e;exact⟨ι,c6,Hd,x,H1,s,hr,e1,λv1 H1' ι1 l1 h1 r1=>⟨Zth h1 r1 hl,ι1,c6,H1,y,H2,s.mono l1,h1,e2,λvs H2' ι2 l2 h2 r2=>
   ⟨ι2,x,y,H2,d,c5,h2,r1.mono l2,r2,e,λv H' c7 l h r=>q v H' c7 ((l1.trans l2).trans l) h r⟩⟩⟩
 ·cases e
nonrec def C4:SF:=λσ H=>B3 (.nx,σ,H)
nonrec def B9(f g:SF):SF:=λσ H=>(f σ H).bind λr=>match r.1 with
 |.nx=>g r.2.1 r.2.2
 |_=>B3 r
theorem Zi9:V2 X [] C4:=by
 refine gK Zxx λE σ H zz=>?_;obtain⟨ι,c6,Hd,fl,c8,c5,s,hr,e,q⟩:=zz;cases e;exact q σ H ι Le.refl hr s
theorem Zhb{f g:SF}(h1:V8 X st f)(h2:V2 X sts g):V2 X (st::sts) (B9 f g):=by
 refine gK (Zjt h1 h2) λE σ H zz=>?_;obtain⟨ι,c6,Hd,fl,c8,c5,s,hr,e,q⟩:=zz;obtain⟨⟨f1,σ1,H1⟩,e1,e⟩:=Zo e;refine⟨ι,c6,Hd,f1,σ1,H1,s,hr,e1,λσ' H' c7 l h ss=>?_⟩;cases f1 with
 |nx=>exact⟨c7,σ1,H1,fl,c8,c5,ss,h,e,λσ2 H2 ι2 l2 h2 s2=>q σ2 H2 ι2 (l.trans l2) h2 s2⟩
 |bk=>cases e;exact q σ' H' c7 l h ss
 |ct=>cases e;exact q σ' H' c7 l h ss
 |rt d=>cases e;exact q σ' H' c7 l h ss
nonrec def G5(f:EF):SF:=λσ H=>(f σ H).map λp=>(.rt p.1,σ,p.2)
theorem iJ{f:EF}(he:D6 X e f):V8 X (.Return (B3 e) pos) (G5 f):=by
 refine cA (Yai he) λE σ H zz=>?_;obtain⟨ι,c6,Hd,fl,c8,c5,s,hr,e,q⟩:=zz;obtain⟨⟨x,H1⟩,e1,e⟩:=Zm e;cases e;exact⟨ι,c6,Hd,x,H1,s,hr,e1,λv H' c7 l h r=>q σ H' c7 l h (s.mono l) v r⟩
nonrec def N7(f:EF):SF:=λσ H=>(f σ H).map λp=>(.nx,σ,p.2)
theorem Zus{f:EF}(he:D6 X e f)(hs:dB e B0 pos.line X.env=pure B2:=by rfl):V8 X (.Expr e pos) (N7 f):=by
 refine cA (Zpr he hs) λE σ H zz=>?_;obtain⟨ι,c6,Hd,fl,c8,c5,s,hr,e,q⟩:=zz;obtain⟨⟨x,H1⟩,e1,e⟩:=Zm e;cases e;exact⟨ι,c6,Hd,x,H1,s,hr,e1,λv H' c7 l h r=>q σ H' c7 l h (s.mono l)⟩
nonrec def F4(t:TF)(f g:SF):SF:=λσ H=>(t σ H).bind λp=>if p.1=B1 then f σ p.2 else g σ p.2
theorem Zsx{t:TF}{f g:SF}{as bs:List D2}(hc:Y5 X c t)(ha:V2 X as f)(hb:V2 X bs g):V8 X (.If c as bs pos) (F4 t f g):=by
 refine cA (Ybz hc ha hb) λE σ H zz=>?_;obtain⟨ι,c6,Hd,fl,c8,c5,s,hr,e,q⟩:=zz;obtain⟨⟨x,H1⟩,e1,e⟩:=Zo e;refine⟨ι,c6,Hd,x,H1,s,hr,e1,λH' c7 l h=>?_⟩;cases x with
 |true=>
  rw[d7 rfl];exact⟨c7,c6,H1,fl,c8,c5,s.mono l,h,by simpa using e,λσ2 H2 ι2 l2 h2 s2=>q σ2 H2 ι2 (l.trans l2) h2 s2⟩
 |false=>
  rw[d9 g8];exact⟨c7,c6,H1,fl,c8,c5,s.mono l,h,by simpa using e,λσ2 H2 ι2 l2 h2 s2=>q σ2 H2 ι2 (l.trans l2) h2 s2⟩
nonrec def D3(i:Nat)(f:EF):SF:=λσ H=>(f σ H).map λp=>(.nx,σ.set i (B3 p.1),p.2)
theorem bL{i:Nat}{x:Str}{f:EF}{pos':Pos}(hN:X.N.Nodup)(hi:X.N[i]? = B3 x)(hx:mF X.env.scope x)(he:D6 X e f)(hs:dB e (B3 (.Name x pos')) pos.line X.env=pure B2:=by rfl)(hf:X.fn x=B1\/X.env.scope.names.lookup x=B3 .local:=by fail "F") :
  V8 X (.Assign [.Name x pos'] e pos) (D3 i f):=by
 refine cA (Zwr hN hi hx he hs hf) λE σ H zz=>?_;obtain⟨ι,c6,Hd,fl,c8,c5,s,hr,e,q⟩:=zz;obtain⟨⟨x,H1⟩,e1,e⟩:=Zm e;cases e;exact⟨ι,c6,Hd,x,H1,s,hr,e1,λv H' c7 l h r=>q _ H' c7 l h ((s.mono l).set r i)⟩
nonrec def F6(i:Nat):GF:=λd σ H=>B3 (σ.set i (B3 d),H)
theorem oJ{i:Nat}{x:Str}(hN:X.N.Nodup)(hi:X.N[i]? = B3 x)(hx:mF X.env.scope x)(hf:X.fn x=B1\/X.env.scope.names.lookup x=B3 .local:=by fail "F"):jN X (.Name x pos) (F6 i):=by
 refine PGi (Zqh hN hi hx hf) λv σ H Q zz=>?_;obtain⟨ι,c6,Hd,d,c8,c5,s,hr,r,e,q⟩:=zz;cases e;exact q _ H ι Le.refl hr (s.set r i)
nonrec abbrev kG:=D->D->D->HD->Option HD
nonrec def qR(K:Xa)(g:kG):TSet:=λo i v H Q=>∃ι od id vd Hd c5,C0 K H ι Hd/\Rep K H ι od o/\Rep K H ι id i/\Rep K H ι vd v/\g od id vd Hd=B3 c5/\∀H' c7,Le K H ι H' c7->C0 K H' c7 c5->Q H'
def Zxd(X:Cx)(g:kG):Prop:=xO X (qR X.K g)
nonrec def cF(fo fi:EF)(g:kG):GF:=λd σ H=>(fo σ H).bind λo=>(fi σ o.2).bind λi=>(g o.1 i.1 d i.2).map λH'=>(σ,H')
theorem nY{o i:Vz}{fo fi:EF}{g:kG}(ho:D6 X o fo)(hi:D6 X i fi)(hs:Zxd X g)
  (ha:∀v,cZ (.Subscript o i pos) X.env v=(do
   let ov<-gG [v] (eval o X.env)
   let iv<-gG [v,ov] (eval i X.env)
   standAt pos
   gG [v,ov,iv] (setItem ov iv v)
   release [v,ov,iv] []):=by intro _;rfl):jN X (.Subscript o i pos) (cF fo fi g):=by
 refine PGi (Ych ho hi hs ha) λv σ H Q zz=>?_;obtain⟨ι,c6,Hd,d,c8,c5,s,hr,r,e,q⟩:=zz;obtain⟨⟨x,H1⟩,e1,e⟩:=Zo e;obtain⟨⟨y,H2⟩,e2,e⟩:=Zo e;obtain⟨H3,e3,e⟩:=Zm e;obtain⟨rfl,rfl⟩:=N9.inj e;exact⟨ι,c6,Hd,x,H1,s,hr,e1,λv1 H1' ι1 l1 h1 r1=>⟨ι1,c6,H1,y,H2,s.mono l1,h1,e2,λv2 H2' ι2 l2 h2 r2=>
  ⟨ι2,x,y,d,H2,H3,h2,r1.mono l2,r2,r.mono (l1.trans l2),e3,λH' c7 l h=>q σ H' c7 ((l1.trans l2).trans l) h (s.mono ((l1.trans l2).trans l))⟩⟩⟩
nonrec abbrev GFs:=List D->SD->HD->Option (SD×HD)
nonrec def rdGs(K:Xa)(g:GFs):gH:=λvs σ H Q=>∃ι c6 Hd ds c8 c5,D4 K H ι σ c6/\C0 K H ι Hd/\Vm (Rep K H ι) ds vs/\g ds c6 Hd=B3 (c8,c5) /\
 ∀σ' H' c7,Le K H ι H' c7->C0 K H' c7 c5->D4 K H' c7 σ' c8->Q σ' H'
def gL(X:Cx)(ts:List Vz)(g:GFs):Prop:=mC X ts (rdGs X.K g)
nonrec def gNl:GFs:=λds σ H=>match ds with
 |[]=>B3 (σ,H)
 |_=>B0
nonrec def cG(g:GF)(h:GFs):GFs:=λds σ H=>match ds with
 |d::r=>(g d σ H).bind λp=>h r p.1 p.2
 |[]=>B0
theorem xP{ts:List Vz}{t t':gH}(h:mC X ts t)(i:∀v σ H Q,t' v σ H Q->t v σ H Q):mC X ts t':=λb5 s σ H v u Q I r q=>h b5 s σ H v u Q I r (i v σ H Q q)
theorem Zi6:gL X [] gNl:=by
 refine xP Zx2 λvs σ H Q zz=>?_;obtain⟨ι,c6,Hd,ds,c8,c5,s,hr,r,e,q⟩:=zz;cases r with
 |nil=>cases e;exact⟨rfl,q σ H ι Le.refl hr s⟩
 |cons _ _=>cases e
theorem Zdh{g:GF}{h:GFs}(h1:jN X e g)(h2:gL X es h)(hs:(dC (e::es) X.env).map (·.2)=cZ e X.env::(dC es X.env).map (·.2):=by rfl):gL X (e::es) (cG g h):=by
 refine xP (Ztj h1 h2 hs) λvs σ H Q zz=>?_;obtain⟨ι,c6,Hd,ds,c8,c5,s,hr,r,e,q⟩:=zz;cases r with
 |nil=>cases e
 |cons r rr=>
  obtain⟨⟨σ1,H1⟩,e1,e⟩:=Zo e;exact⟨_,_,rfl,ι,c6,Hd,_,σ1,H1,s,hr,r,e1,λσ' H' c7 l h ss=>⟨c7,σ1,H1,_,c8,c5,ss,h,Prd.mono l rr,e,λσ2 H2 ι2 l2 h2 s2=>q σ2 H2 ι2 (l.trans l2) h2 s2⟩⟩
nonrec def fD(n:Nat)(g:GFs):GF:=λd σ H=>match d with
 |.tup ds=>if ds.length=n then g ds σ H else B0
 |_=>B0
theorem Zlw{k n:Nat}{g:GFs}(hc:X.calm=B1)(h:gL X es g)(hn:(dC es X.env).length=n:=by rfl)(hst:(dC es X.env).findIdx? (·.1)=B0:=by rfl):jN X (.Tuple es k pos) (fD n g):=by
 refine PGi (Zz6 hc h hn hst) λv σ H Q zz=>?_;obtain⟨ι,c6,Hd,d,c8,c5,s,hr,r,e,q⟩:=zz;cases d with
 |tup ds=>
  obtain⟨a,vs,rfl,h1,p⟩:=U6.mp r;simp only[fD]at e;split at e
  ·rename_i hl;exact⟨a,vs,rfl,h1,by rw[<- Prd.len p];exact hl,ι,c6,Hd,ds,c8,c5,s,hr,p,e,q⟩
  ·cases e
 |_=>simp[fD]at e
nonrec def Y9(f:EF)(g:GF):SF:=λσ H=>(f σ H).bind λp=>(g p.1 σ p.2).map λq=>(.nx,q.1,q.2)
theorem Zjj{tg:Vz}{f:EF}{g:GF}(he:D6 X e f)(hg:jN X tg g)(hs:swapsWithSole [tg] e pos.line X.env=pure B2:=by rfl)(hw:swappedStores [tg] e X.env=pure B0:=by rfl)
  (h1:(dC [tg] X.env).map (·.2)=[cZ tg X.env]:=by rfl):V8 X (.Assign [tg] e pos) (Y9 f g):=by
 refine cA (Ybj he hg hs hw h1) λE σ H zz=>?_;obtain⟨ι,c6,Hd,fl,c8,c5,s,hr,e,q⟩:=zz;obtain⟨⟨x,H1⟩,e1,e⟩:=Zo e;obtain⟨⟨σ2,H2⟩,e2,e⟩:=Zm e;cases e;exact⟨ι,c6,Hd,x,H1,s,hr,e1,λv H' c7 l h r=>⟨c7,c6,H1,x,σ2,H2,s.mono l,h,r,e2,λσ3 H3 ι3 l3 h3 s3=>q σ3 H3 ι3 (l.trans l3) h3 s3⟩⟩
nonrec abbrev O4:=List (Nat×DO)
def O8(own:O4)(H:HD):Prop:=∀p∈own,H[p.1]? = B3 p.2
nonrec abbrev ItF:=SD->HD->Option ((List D×O4)×HD)
structure V9(K:Xa)(J:It)(xs:List D)(own:O4)(H0:Hp)(ι0:List Vh):Prop where
 go:∀i H ι Hd,Le K H0 ι0 H ι->C0 K H ι Hd->O8 own Hd->i<xs.length->J.go i H
 yld:∀i H ι Hd d x H',Le K H0 ι0 H ι->C0 K H ι Hd->O8 own Hd->xs[i]? = B3 d->J.yld i H x H'->∃c7,Le K H ι H' c7/\C0 K H' c7 Hd/\Rep K H' c7 d x
 stop:∀i H ι Hd,Le K H0 ι0 H ι->C0 K H ι Hd->O8 own Hd->xs.length<=i->J.stop i H
nonrec def rdI(K:Xa)(f:ItF):TI:=λσ H R=>∃ι c6 Hd xs own c5,D4 K H ι σ c6/\C0 K H ι Hd/\f c6 Hd=B3 ((xs,own),c5)/\∀J H' c7,Le K H ι H' c7->C0 K H' c7 c5->V9 K J xs own H' c7->R J H'
def eR(X:Cx)(tg iter:Vz)(f:ItF):Prop:=PI X tg iter (rdI X.K f)
theorem PIi{tg iter:Vz}{t t':TI}(h:PI X tg iter t)(i:∀σ H R,t' σ H R->t σ H R):PI X tg iter t':=λb5 s σ H R I q=>h b5 s σ H R I (i σ H R q)
open Classical in
nonrec def N6(own:O4)(g:GF)(body:SF):List D->SF
 |[],σ,H=>if O8 own H then B3 (.nx,σ,H)else B0
 |x::r,σ,H=>if O8 own H then (g x σ H).bind λp=>(body p.1 p.2).bind λq=>match q.1 with
   |.nx=>N6 own g body r q.2.1 q.2.2
   |.ct=>N6 own g body r q.2.1 q.2.2
   |.bk=>B3 (.nx,q.2.1,q.2.2)
   |.rt d=>B3 (.rt d,q.2.1,q.2.2)
  else B0
nonrec def K4(it:ItF)(g:GF)(body:SF):SF:=λσ H=>(it σ H).bind λp=>N6 p.1.2 g body p.1.1 σ p.2
theorem Zxf{tg iter:Vz}{body:List D2}{f:ItF}{g:GF}{b:SF}(hp:lN (Vi X.prog X.w) X.A X.env X.xe)(hc:X.calm=B1)(hi:eR X tg iter f)(hg:jN X tg g)(hb:V2 X body b)
  (hs:∀x,eO iter X.env x=pure x:=by intro _;rfl):V8 X (.For tg iter body [] pos) (K4 f g b):=by
 refine cA (Zv0 hp hc hi hg hb hs) λE σ H zz=>?_;obtain⟨ι,c6,Hd,fl,σf,Hf,s,hr,e,q⟩:=zz;obtain⟨⟨⟨xs,own⟩,H1⟩,e1,e⟩:=Zo e;refine⟨ι,c6,Hd,xs,own,H1,s,hr,e1,λJ H0 ι0 l0 h0 it=>?_⟩;refine⟨λi m σ H=>m=xs.length-i/\i<=xs.length/\∃ι c6 Hd,Le X.K H0 ι0 H ι/\D4 X.K H ι σ c6/\C0 X.K H ι Hd/\N6 own g b (xs.drop i) c6 Hd=B3 (fl,σf,Hf),
  ⟨xs.length,by simp,R4 _,ι0,c6,H1,Le.refl,s.mono l0,h0,by simpa using e⟩,?_⟩
 rintro i m σ2 H2 ⟨rfl,hi,ι2,σd2,c9,l2,s2,h2,e2⟩;by_cases hlt:i<xs.length
 ·have ed:xs.drop i=xs[i]::xs.drop (i+1):=lI hlt;rw[ed,N6]at e2;split at e2
  ·rename_i ok;obtain⟨⟨σ3,H3⟩,e3,e2⟩:=Zo e2;obtain⟨⟨f4,σ4,H4⟩,e4,e2⟩:=Zo e2;refine .inr ⟨it.go i H2 ι2 c9 l2 h2 ok hlt,λσ' H'=>(xs.length-(i+1)=xs.length-(i+1)/\i+1<=xs.length/\∃ι c6 Hd,Le X.K H0 ι0 H' ι/\D4 X.K H' ι σ' c6/\C0 X.K H' ι Hd/\N6 own g b (xs.drop (i+1)) c6 Hd=B3 (fl,σf,Hf)),
    λσ' H' p=>⟨_,by omega,p⟩,λx H' y=>?_⟩
   obtain⟨ι3,l3,h3,r3⟩:=it.yld i H2 ι2 c9 xs[i] x H' l2 h2 ok (by simp[hlt]) y;refine⟨ι3,σd2,c9,xs[i],σ3,H3,s2.mono l3,h3,r3,e3,λσ5 H5 ι5 l5 h5 s5=>?_⟩;refine⟨ι5,σ3,H3,f4,σ4,H4,s5,h5,e4,λσ6 H6 ι6 l6 h6 s6=>?_⟩;have L:Le X.K H0 ι0 H6 ι6:=((l2.trans l3).trans l5).trans l6;cases f4 with
   |nx=>exact⟨rfl,hlt,ι6,σ4,H4,L,s6,h6,e2⟩
   |ct=>exact⟨rfl,hlt,ι6,σ4,H4,L,s6,h6,e2⟩
   |bk=>cases e2;exact q σ6 H6 ι6 (l0.trans L) h6 s6
   |rt d=>cases e2;exact q σ6 H6 ι6 (l0.trans L) h6 s6
  ·cases e2
 ·have hi':i=xs.length:=by omega
  rw[Wdv f8,N6]at e2;split at e2
  ·rename_i ok;have e3:(FD.nx,σd2,c9)=(fl,σf,Hf):=B3.inj e2;obtain⟨rfl,e4⟩:=N9.inj e3;obtain⟨rfl,rfl⟩:=N9.inj e4;exact .inl ⟨it.stop i H2 ι2 _ l2 h2 ok f8,q σ2 H2 ι2 (l0.trans l2) h2 s2⟩
  ·cases e2
end
nonrec def F1(n N:Nat)(b:SF):FF:=λds H=>if ds.length=n then (b (ds.map B3++Xl (N-ds.length) B0) H).bind λr=>match r.1 with
  |.rt d=>B3 (d,r.2.2)
  |.nx=>B3 (.non,r.2.2)
  |_=>B0
 else B0
section
variable{P:Vl}{w:Vs}{K:Xa}{mg:Str->Option Vb}{base:C5}
theorem fn_f{x qual:Str}{st:D2}{f:Vh}{fd:X0}{N ps:List Str}{k:Nat}{b:SF}(F:jQ K x qual st f fd)(S:C3 N ps (F5 st))
  (hb:∀(cdv:Vb)(A:Vo)(outer:List Env)(s:Vd)(H:Hp)(E:XK),E5 k (A.deeper (bB qual (F5 st) s.heap.objs.size f cdv)) ->
   V2 (M8 eS P w K mg base N qual (F5 st) f cdv A outer s H E).nox (L4 st) b):K2 P w K mg base eS (k+1) f fd ps (spF K ps.length (F1 ps.length N.length b)):=by
 refine F.ok S (λvs H Q E h=>?_) (λcdv A outer s H vs Q E hr h=>?_)
 ·obtain⟨ι,ds,Hd,d,c5,hl,_,r,_⟩:=h;rw[<- Prd.len r];exact hl
 ·obtain⟨ι,ds,Hd,d,c5,hl,hh,r,e,q⟩:=h;refine⟨_,hb cdv A outer s H E hr,?_⟩;unfold F1 at e;rw[d7 hl]at e;obtain⟨⟨fl,σ1,H1⟩,e1,e⟩:=Zo e;refine⟨ι,_,Hd,fl,σ1,H1,?_,hh,e1,λσ' H' c7 l h ss=>?_⟩
  ·refine⟨by simp[L2.start,Prd.len r],λi d0 h0=>?_⟩;unfold L2.start;by_cases hi:i<ds.length
   ·rw[Xs (by simpa using hi),Xy]at h0;cases ed:ds[i]? with
    |none=>rw[ed]at h0;cases h0
    |some d1=>
     rw[ed]at h0;cases h0;obtain⟨v,hv,rv⟩:=Prd.get r ed;refine⟨v,?_,rv⟩;rw[Xs (by rw[Xj,<- Prd.len r];exact hi),Xy,hv];rfl
   ·rw[eD (by simpa using hi),Wdp]at h0;split at h0<;>cases h0
  ·cases fl with
   |rt d1=>cases e;exactλv rv=>q v H' c7 l h rv
   |nx=>cases e;exact q .non H' c7 l h g8
   |bk=>cases e
   |ct=>cases e
end
nonrec def T9(env:Env):List (Str×bY)->List (Str×Vh)->List (Str×Vh)
 |[],cs=>cs
 |(n,k)::r,cs=>T9 env r (if k=.free then (match env.cells.lookup n with |some a=>(n,a)::cs |none=>cs)else cs)
theorem Zii(env:Env)(scope:P4)(h:∀y∈scope.names,y.2=.free->(env.cells.lookup y.1).isSome=B1):closureFor scope env=pure (T9 env scope.names []):=by
 have key:∀(ns:List (Str×bY))(cs:List (Str×Vh)),(∀y∈ns,y.2=.free->(env.cells.lookup y.1).isSome=B1) ->
   (forIn ns cs λ(x:Str×bY)cs=>match x with
    |(name,kind)=>if (kind==.free)=B1 then (do let a<-cellOf env name;pure (jM ((name,a)::cs)))else pure (jM cs):Sem (List (Str×Vh)))=pure (T9 env ns cs):=by
  intro ns
  induction ns with
  |nil=>intro cs _;rfl
  |cons x r ih=>
   intro cs hh;obtain⟨n,k⟩:=x;have hr:=ih;rw[List.forIn_cons];by_cases hk:k=.free
   ·subst hk;have q:=hh (n,.free) g8 rfl;cases e:env.cells.lookup n with
    |none=>rw[e]at q;cases q
    |some a=>
     have e2:cellOf env n=pure a:=by unfold cellOf;rw[e]
     simp only[beq_self_eq_true,if_true,e2,pure_bind,T9,e];exact ih _ λy hy=>hh y (Xv _ hy)
   ·have hb:(k==Ug)=B2:=by simpa using hk
    simp only[hb,dY,if_false,pure_bind,T9,hk];exact ih _ λy hy=>hh y (Xv _ hy)
 have e:closureFor scope env=((forIn scope.names [] λ(x:Str×bY)cs=>match x with
    |(name,kind)=>if (kind==.free)=B1 then (do let a<-cellOf env name;pure (jM ((name,a)::cs)))else pure (jM cs):Sem (List (Str×Vh))) >>= pure):=rfl
 rw[e,bind_pure];exact key scope.names [] h
theorem Zjr(env:Env):∀(ns:List (Str×bY))(cs:List (Str×Vh)),(∀x c,cs.lookup x=B3 c->env.cells.lookup x=B3 c)->∀x c,(T9 env ns cs).lookup x=B3 c->env.cells.lookup x=B3 c
 |[],cs,h=>h
 |(n,k)::r,cs,h=>by
  unfold T9;refine Zjr env r _ ?_;split
  ·cases e:env.cells.lookup n with
   |none=>exact h
   |some a=>
    intro x c q;dsimp only at q;rw[Z4]at q;split at q
    ·rename_i hb;have hb':x=n:=by simpa using hb
     subst hb';cases q;exact e
    ·exact h x c q
  ·exact h
theorem Zji(env:Env):∀(ns:List (Str×bY))(cs:List (Str×Vh))(x:Str),((cs.lookup x).isSome=B1\/((x,Ug)∈ns/\(env.cells.lookup x).isSome=B1))->((T9 env ns cs).lookup x).isSome=B1
 |[],cs,x,h=>by
  rcases h with h |⟨h,_⟩
  ·exact h
  ·simp at h
 |(n,k)::r,cs,x,h=>by
  unfold T9;refine Zji env r _ x ?_;by_cases hk:k=.free
  ·rw[d7 hk];cases e:env.cells.lookup n with
   |none=>
    rcases h with h |⟨h,h2⟩
    ·exact .inl h
    ·rcases Xn.mp h with h |h
     ·cases h;rw[e]at h2;cases h2
     ·exact .inr ⟨h,h2⟩
   |some a=>
    dsimp only;rw[Z4];by_cases hx:x=n
    ·subst hx;simp
    ·have:(x==n)=B2:=by simpa using hx
     rw[this];rcases h with h |⟨h,h2⟩
     ·exact .inl h
     ·rcases Xn.mp h with h |h
      ·cases h;exact absurd rfl hx
      ·exact .inr ⟨h,h2⟩
  ·rw[d9 hk];rcases h with h |⟨h,h2⟩
   ·exact .inl h
   ·rcases Xn.mp h with h |h
    ·cases h;exact absurd rfl hk
    ·exact .inr ⟨h,h2⟩
theorem Zfd{env:Env}:∀{names:List (Str×bY)}{x:Str},names.lookup x=B3 .free ->
  ((names.map λ(n,k)=>if (k==Ug&&env.scope.kind==.function&&env.kindOf n==B3 .cell)then (n,jL)else (n,k)).lookup x=B3 .cell \/
   (names.map λ(n,k)=>if (k==Ug&&env.scope.kind==.function&&env.kindOf n==B3 .cell)then (n,jL)else (n,k)).lookup x=B3 .free)
 |[],_,h=>by simp at h
 |(n,k)::r,x,h=>by
  have ih:=@Zfd env r x;show Wfx x ((if (k==Ug&&env.scope.kind==.function&&env.kindOf n==B3 .cell)=B1 then (n,jL)else (n,k))::_)=_\/Wfx x ((if (k==Ug&&env.scope.kind==.function&&env.kindOf n==B3 .cell)=B1 then (n,jL)else (n,k))::_)=_;cases hx:x==n with
  |true=>
   simp only[Z4,hx]at h;cases h;by_cases hc:(Ug==Ug&&env.scope.kind==.function&&env.kindOf n==B3 .cell)=B1
   ·rw[d7 hc];simp only[Z4,hx];simp
   ·rw[d9 hc];simp only[Z4,hx];simp
  |false=>
   simp only[Z4,hx]at h;by_cases hc:(k==Ug&&env.scope.kind==.function&&env.kindOf n==B3 .cell)=B1
   ·rw[d7 hc];simp only[Z4,hx];exact ih h
   ·rw[d9 hc];simp only[Z4,hx];exact ih h
theorem Zgl{env:Env}:∀{names:List (Str×bY)}{x:Str},(∀y∈names,y.2≠.cell) ->
  ((names.map λ(n,k)=>if (k==Ug&&env.scope.kind==.function&&env.kindOf n==B3 .cell)then (n,jL)else (n,k)).lookup x=B3 .cell \/
   (names.map λ(n,k)=>if (k==Ug&&env.scope.kind==.function&&env.kindOf n==B3 .cell)then (n,jL)else (n,k)).lookup x=B3 .free)->(x,Ug)∈names
 |[],_,_,h=>by simp at h
 |(n,k)::r,x,hn,h=>by
  have ih:=@Zgl env r x (λy hy=>hn y (Xv _ hy));have h:Wfx x ((if (k==Ug&&env.scope.kind==.function&&env.kindOf n==B3 .cell)=B1 then (n,jL)else (n,k))::_)=_\/Wfx x ((if (k==Ug&&env.scope.kind==.function&&env.kindOf n==B3 .cell)=B1 then (n,jL)else (n,k))::_)=_:=h;cases hx:x==n with
  |true=>
   have hx':x=n:=by simpa using hx
   subst hx';by_cases hc:(k==Ug&&env.scope.kind==.function&&env.kindOf x==B3 .cell)=B1
   ·have hk:k=.free:=by
     rw[V6,V6]at hc;simpa using hc.1.1
    subst hk;simp
   ·rw[d9 hc]at h;simp only[Z4,hx]at h;rcases h with h |h
    ·cases h;exact absurd rfl (hn (x,.cell) g8)
    ·cases h;simp
  |false=>
   refine Xv _ (ih ?_);by_cases hc:(k==Ug&&env.scope.kind==.function&&env.kindOf n==B3 .cell)=B1
   ·rw[d7 hc]at h;simp only[Z4,hx]at h;exact h
   ·rw[d9 hc]at h;simp only[Z4,hx]at h;exact h
nonrec def P5(X:Cx)(scope:P4)(N:List Str)(cl:List (Str×Vh))(C:Vh)(s:Vd)(H:Hp)(fp:List Vh)(pn:List (Vh×Obj)):Cx where
 prog:=X.prog
 w:=X.w
 K:=X.K
 mg:=X.mg
 base:=X.base
 A:=X.A
 N:=N
 s₀:=s
 H₀:=H
 env:=wQ scope cl C X.env
 outer:=X.stack
 stack:=X.stack
 ex:=fp
 fn:=λ_=>B2
 calm:=X.calm
 pn:=pn
 xe:=λ_ _=>False
structure J4(X:Cx)(scope:P4)(x:Str)(cn:List Str)(ci:List Nat):Prop where
 kind:scope.kind=.function
 nocell:∀y∈scope.names,y.2≠.cell
 names:∀y∈scope.names,y.2=.local->scope.names.lookup y.1=B3 .local
 tgt:scope.names.lookup x=B3 .local
 free:∀y∈scope.names,y.2=.free->(X.env.cells.lookup y.1).isSome=B1
 nd:(x::cn).Nodup
 len:ci.length=cn.length
 cap:∀(j:Nat)(y:Str),cn[j]? = B3 y->∃i,ci[j]? = B3 i/\X.N[i]? = B3 y/\scope.names.lookup y=B3 .free/\(X.env.kindOf y=B3 .cell\/X.env.kindOf y=B3 .free)
nonrec def bG(ci:List Nat)(σ:L2.St):L2.St:=ci.map λi=>(σ[i]?).join
section
variable{X:Cx}{b5:List (Vh×Obj)}{σ:L2.St}{H:Hp}{s:Vd}{scope:P4}{x:Str}{cn:List Str}{ci:List Nat}{fp:List Vh}
theorem Zy9{h₁:C5}{tk:Nat}{o₁:Obj}(I:B6 X b5 σ H s)(B:J4 X scope x cn ci)(hf:∀b∈fp,cI X b5 H b)(hlt:∀b∈fp,b<s.heap.objs.size)
  (hns:h₁.Ns s.heap.objs.size (λ_=>B0))(hsb:R5 s.heap.objs.size (s.heap.push o₁) h₁) :
  B6 (P5 X scope (x::cn) (T9 X.env scope.names []) s.heap.objs.size s H fp (X.pn++b5)) [] (B0::bG ci σ) H { s with heap:=h₁,toks:=tk }:=by
 have old:∀b o,s.heap.get? b=B3 o->h₁.get? b=B3 o:=λb o e=>hsb.extBut b o (Xp (Xh e)) (Xb _ e);have sub:=Zjr X.env scope.names [] (by intro x c h;simp at h);have has:∀y,(y,Ug)∈scope.names->∃c,(T9 X.env scope.names []).lookup y=B3 c:=λy hy=>
  Wdl.mp (Zji X.env scope.names [] y (.inr ⟨hy,B.free _ hy rfl⟩))
 refine⟨⟨I.ok.mod,B.kind,I.ok.glob,I.ok.blt,Xd _,λy z c h1 h2=>I.ok.inj y z c (sub y c h1) (sub z c h2),λy hy=>has y (Zgl B.nocell hy),λy c hy=>absurd hy (by show ¬ (B2=B1);simp),I.ok.hd,I.ok.frames,.inl rfl,
   λb hb=>⟨Xp (hlt b hb),λy c e=>(hf b hb).2.2.2.2.1 y c (sub y c e)⟩,I.bs,N2 I.ok.bsz I.sz,λb o e hb=>?_,λb hb z=>?_,I.stack,I.stkFree⟩,
  rfl,I.bare,Un.kept old,⟨_,hns,λi y v h1 h2 h3=>?_⟩,λy c e=>?_,I.hok.fresh (Xd _),λy c e=>(I.freeC y c (sub y c e)).imp id λz=>⟨rfl,z.2⟩,λp hp=>?_,I.hok.kept old,?_⟩
 ·rcases(hf b hb).2.2.2.1 with z |z
  ·exact I.ok.noex b o e z
  ·exact absurd (Xo (Xh e) (N2 I.ok.bsz z)) (cU _)
 ·exact(Xn.mp (I.stkSub b z)).elim (hf b hb).2.1 (hf b hb).2.2.1
 ·cases i with
  |zero=>simp at h2
  |succ j=>
   have h1':cn[j]? = B3 y:=by simpa [P5]using h1
   have h2':(bG ci σ)[j]? = B3 (B3 v):=by simpa using h2
   obtain⟨i,e1,e2,e3,e4⟩:=B.cap j y h1';have e5:σ[i]? = B3 (B3 v):=by
    unfold bG at h2';rw[Xy,e1]at h2';simp at h2';cases e:σ[i]? with
    |none=>rw[e]at h2';cases h2'
    |some o=>rw[e]at h2';simp at h2';rw[h2']
   obtain⟨m,hn,hl⟩:=I.loc;have hv:Vis X.env.scope y:=by
    rcases e4 with e4 |e4
    ·exact .inr (.inl e4)
    ·exact .inr (.inr e4)
   obtain⟨u,r,l⟩:=hl i y v e2 e5 hv;refine⟨u,r,.inr ⟨Zfd e3,?_⟩⟩;obtain⟨c,ec⟩:=has y (Us e3);refine⟨c,ec,?_⟩;rcases l with ⟨l,_⟩ |⟨_,c',ec',hc⟩
   ·rcases e4 with e4 |e4<;>rw[e4]at l<;>cases l
   ·rw[sub y c ec]at ec';cases ec';obtain⟨ob,q1,q2⟩:=hc;exact⟨ob,old _ _ q1,q2⟩
 ·obtain⟨v,ob,q1,q2⟩:=I.cell y c (sub y c e);exact⟨v,ob,old _ _ q1,q2⟩
 ·have hp':p∈X.pn++b5:=by simpa [P5]using hp
  obtain⟨q1,q2,q3,q4,q5⟩:=I.pin p hp';refine⟨old _ _ q1,q2,Xp (Xh q1),λz=>?_,q5⟩;exact(Xn.mp (I.stkSub p.1 z)).elim q3 q4
 ·simp[P5,bG,B.len]
def mB(X:Cx)(ifs:List Vz)(t:TT):Prop :=
 ∀(b5:List (Vh×Obj))(s:Vd)(σ:L2.St)(H:Hp)(Q:Bool->Hp->Prop),B6 X b5 σ H s->t σ H Q ->
  Vk (Vi X.prog X.w) X.A (forIn ifs B1 λc r=>if r=B1 then do let ok<-isTrue c X.env (eval c X.env);pure (jM ok)else pure (jM r)) (TP X b5 σ Q) X.xe s
theorem Zxb:mB X [] (λ_ H Q=>Q B1 H):=λ_ _ _ H _ I h=>wpAny_tests_nil ⟨H,I,h⟩
theorem Zy7{c:Vz}{t:TT}(h:PT X c t):mB X [c] t:=λb5 s σ H Q I q=>wpAny_tests_one (h b5 s σ H Q I q)
def LcW(J:It)(ci:List Nat)(tt:TT)(te:TE)(σ:L2.St)(Q:VK)(H1:Hp):Prop:=∀p,H1 p=B0->∃W:Nat->Nat->List V->Hp->Prop,(∃m,W 0 m [] (upd H1 p (.lst [])))/\∀i m ys H,W i m ys H ->
 H p=B3 (.lst ys)/\((J.stop i H/\Q (.ref p) H)\/(J.go i H/\∀v H',J.yld i H v H'->tt (B3 v::bG ci σ) H' λb H2=>
  if b=B1 then te (B3 v::bG ci σ) H2 λy H3=>H3 p=B3 (.lst ys)/\ys.length<sizeLine/\∃m',m'<m/\W (i+1) m' (ys++[y]) (upd H3 p (.lst (ys++[y])))
  else ∃m',m'<m/\W (i+1) m' ys H2))
structure dI(X:Cx)(b5:List (Vh×Obj))(H:Hp)(s:Vd)(C:Vh):Prop where
 ns:∃m,s.heap.Ns C m
 free:H C=B0
 nl:C≠X.env.locals
 up:X.s₀.heap.objs.size<=C
 nc:∀x c,X.env.cells.lookup x=B3 c->c≠C
 np:∀p∈X.pn++b5,p.1≠C
theorem dI.go{σ:L2.St}{h':C5}{C:Vh}(g:dI X b5 H s C)(I:B6 X b5 σ H s)(hs:R5 C s.heap h'):B6 X b5 σ H { s with heap:=h' } :=
 I.turned (t':=s.toks) (λb o hb e=>hs.extBut b o hb e) g.free g.nl (.inr g.up) g.nc g.np
def bJ(scope:P4)(cl:List (Str×Vh)):Prop:=∀y∈scope.names,y.2=.free->(cl.lookup y.1).isSome=B1
theorem Znv{elt iter:Vz}{px pos:Pos}{ifs:List Vz}{tt:TT}{te:TE}{Q:VK}{E:Vb->Vd->Prop}{RR:Vb->Vh->Result->Vd->Prop}{it:Vh}{tn:Nat->C5->Prop}{J:It}
  (I:B6 X b5 σ H s)(hc:X.calm=B1)(B:J4 X scope x cn ci)(T:bD X.prog X.w X.K (.Name x px) J fp it tn)(st:tn 0 s.heap)(hf:∀b∈fp,cI X b5 H b)
  (ht:∀cl C s H fp pn,bJ scope cl->mB (P5 X scope (x::cn) cl C s H fp pn) ifs tt)(he:∀cl C s H fp pn,bJ scope cl->PE (P5 X scope (x::cn) cl C s H fp pn) elt te)
  (hw:LcW J ci tt te σ Q H)(hRR:∀p C H' s',B6 X b5 σ H' s'->dI X b5 H' s' C->Q (.ref p) H'->RR (.ref p) C (.ok .next) s') :
  Vk (Vi X.prog X.w) X.A (wK []) (λc4 s₃=>Vk (Vi X.prog X.w) X.A (newFunctionEnv scope X.env.globals (T9 X.env scope.names []) [] X.env.qual B0 .none (B3 X.env)) (λcenv s₄ =>
   gF (Vi X.prog X.w) X.A (.compStart (.ListComp elt [⟨.Name x px,iter,ifs,0⟩] scope pos) 0 (.ref it) c4 { cenv with scope:=relabel scope X.env }) (RR c4 cenv.locals) s₄) E s₃) E s:=by
 have hp0:H s.heap.objs.size=B0:=I.hok.fresh (Xd _);obtain⟨W,⟨m0,w0⟩,turn⟩:=hw _ hp0;refine Vu (wpAny_newFunctionEnv B.nocell (by intro y hy;simp at hy) (λh₁ hns₁ hsb₁=>?_) B.kind);dsimp only at hns₁ hsb₁ ⊢;have I3:B6 X b5 σ (upd H s.heap.objs.size (.lst [])) { s with heap:=s.heap.push { cls:=.type "list",dict:=B0,data:=.seq ([]:List Vb).toArray } } :=
  I.laid (t':=s.toks) (λb u e=>Xb _ e) (Xd _) ⟨R4 _,[],0,.nil,Xi _ rfl⟩
 generalize hH3:s.heap.push { cls:=.type "list",dict:=B0,data:=.seq ([]:List Vb).toArray }=hp3 at hns₁ hsb₁ I3 ⊢;have flt:∀b∈fp,b<s.heap.objs.size:=λb hb=>by
  obtain⟨o,e,_⟩:=T.obj 0 _ st b hb;exact Xh e
 have sz3:hp3.objs.size=s.heap.objs.size+1:=by rw[<- hH3,Wet]
 have f3:∀b∈fp,cI X b5 (upd H s.heap.objs.size (.lst [])) b:=λb hb=>⟨by rw[F3 (Xp (flt b hb))];exact(hf b hb).1,(hf b hb).2⟩
 have old3:∀b o,s.heap.get? b=B3 o->hp3.get? b=B3 o:=λb o e=>by rw[<- hH3];exact Xb _ e
 have I4:=Zy9 (s:={ s with heap:=hp3 }) (tk:=s.toks+([]:List (Str×Vb)).length) I3 B f3 (λb hb=>by show b<hp3.objs.size;rw[sz3];exact gA (flt b hb)) (by simpa using hns₁) hsb₁;have old4:∀b o,hp3.get? b=B3 o->h₁.get? b=B3 o:=λb o e=>hsb₁.extBut b o (Xp (Xh e)) (Xb _ e);generalize hX':P5 X scope (x::cn) (T9 X.env scope.names []) hp3.objs.size { s with heap:=hp3 } (upd H s.heap.objs.size (.lst [])) fp (X.pn++b5)=X' at I4;have ePr:X'.prog=X.prog:=by rw[<- hX'];rfl
 have eW:X'.w=X.w:=by rw[<- hX'];rfl
 have eK:X'.K=X.K:=by rw[<- hX'];rfl
 have eA:X'.A=X.A:=by rw[<- hX'];rfl
 have eEnv:X'.env=wQ scope (T9 X.env scope.names []) hp3.objs.size X.env:=by rw[<- hX'];rfl
 have eEx:X'.ex=fp:=by rw[<- hX'];rfl
 have hcl:bJ scope (T9 X.env scope.names []):=λy hy hf=>Zji X.env scope.names [] y.1 (.inr ⟨by rw[<- hf];exact hy,B.free y hy hf⟩);have ht':mB X' ifs tt:=by rw[<- hX'];exact ht _ _ _ _ _ _ hcl
 have he':PE X' elt te:=by rw[<- hX'];exact he _ _ _ _ _ _ hcl
 have eXe:X'.xe=λ_ _=>False:=by rw[<- hX'];rfl
 have hg':PG X' (.Name x px) (sK 0):=by
  rw[<- hX'];exact Zqh (X:=P5 X scope (x::cn) _ _ _ _ _ _) B.nd rfl (.inl (Udr B.tgt)) (.inr (Udr B.tgt))
 -- the iterator's objects, seen from the block
 have stat:∀{H':Hp},(∀b∈fp,H' b=B0)->∀b∈fp,cI X' [] H' b:=λ{H'}hn b hb=>by
  rw[<- hX'];refine⟨hn b hb,(by show b≠hp3.objs.size;rw[sz3];exact Xp (gA (flt b hb))),λz=>(Xn.mp (I3.stkSub b z)).elim (hf b hb).2.1 (hf b hb).2.2.1,.inl hb,λy c e=>?_,λp hp=>?_⟩
  ·exact(hf b hb).2.2.2.2.1 y c (Zjr X.env scope.names [] (by intro x c h;simp at h) y c e)
  ·exact(hf b hb).2.2.2.2.2 p (by simpa [P5]using hp)
 have back:∀{σ':L2.St}{H':Hp}{s':Vd},B6 X' [] σ' H' s'->B6 X b5 σ H' s'/\dI X b5 H' s' hp3.objs.size:=λ{σ' H' s'}I5=>by
  have u:Un (M7 X.stack) fp (upd H s.heap.objs.size (.lst [])) H' hp3 s'.heap:=by
   have:=I5.base;rw[<- hX']at this;exact this
  have hok:M5 X.prog X.w H' s'.heap:=by have:=I5.hok;rw[ePr,eW]at this;exact this
  have ho:s'.os=s.os:=by have:=I5.os;rw[<- hX']at this;exact this
  refine⟨I3.call' ho u hok I5.bare λb hb=>⟨(hf b hb).2.2.2.1,(hf b hb).2.1,(hf b hb).2.2.2.2.1,(hf b hb).2.2.2.2.2⟩,?_,?_,?_,?_,λy c e z=>?_,λp hp z=>?_⟩
  ·obtain⟨m,hn,_⟩:=I5.loc;rw[eEnv]at hn;exact⟨m,hn⟩
  ·have:=I5.free;rw[eEnv]at this;exact this
  ·exact vO (I3.lt)
  ·exact I3.sz
  ·obtain⟨v,q⟩:=I3.cell y c e;exact absurd (Xo q.lt (by rw[z];exact Xd _)) (cU _)
  ·have:=Xh (I3.pin p hp).1;rw[z]at this;exact cU _ this
 have loop:gF (Vi X.prog X.w) X.A (.compLoop (.ListComp elt [⟨.Name x px,iter,ifs,0⟩] scope pos) 0 (.ref it) (.ref s.heap.objs.size) (wQ scope (T9 X.env scope.names []) hp3.objs.size X.env))
   (RR (.ref s.heap.objs.size) hp3.objs.size) { s with heap:=h₁,toks:=s.toks+([]:List (Str×Vb)).length }:=by
  refine codeAny_loop rfl (λn s'=>∃i o ys H',B6 X' [] (o::bG ci σ) H' s'/\tn i s'.heap/\(∀b∈fp,H' b=B0)/\W i n ys H') (λn s' hI=>?_) m0
   ⟨0,B0,[],_,I4,T.keep _ _ _ st (λb hb o e=>old4 b o (old3 b o e)),λb hb=>(f3 b hb).1,w0⟩
  obtain⟨i,o,ys,H',I5,st5,fr5,w5⟩:=hI;show Vk _ X.A ((compTurn (.ListComp elt [⟨.Name x px,iter,ifs,0⟩] scope pos) 0 (.ref it) (.ref s.heap.objs.size) (wQ scope (T9 X.env scope.names []) hp3.objs.size X.env)).onRaise (λx=>do lM x (wQ scope (T9 X.env scope.names []) hp3.objs.size X.env);theTreesLotGoes x)) _ _ s';refine wpAny_noted ?_;rw[compTurn_list,<- eEnv,<- ePr,<- eW,<- eA];refine Vr (E:=λ_ _=>False) ?_ (λ_ _ q=>q) (λ_ _ z=>z.elim);obtain⟨hpl,wt⟩:=turn i n ys H' w5;refine Va (Uee (Va ?_));rcases wt with ⟨stop,q⟩ |⟨go,step⟩
  ·have z:=T.done X' ePr eW eK (by rw[<- hX'];exact hc) i [] s' _ H' (λ_ _=>False) I5 (stat fr5) st5 stop;rw[<- ePr,<- eW]at z;refine D7 z λr s6 zz=>?_;obtain⟨hr,I6⟩:=zz;subst hr;obtain⟨J1,g1⟩:=back I6;exact Vc (hRR _ _ H' s6 J1 g1 q)
  ·have z:=T.item X' ePr eW eK (by rw[<- hX'];exact hc) i [] s' _ H' (λ_ _=>False) I5 (stat fr5) st5 go;rw[<- ePr,<- eW]at z;refine D7 z λr s6 zz=>?_;obtain⟨u,hr,h6⟩:=zz;subst hr;refine Va (D7 h6 λ_ s7 zz=>?_);obtain⟨v,H7,I7,r7,y7,st7,fr7⟩:=zz;have I7':=I7.pinned (stat fr7) (T.obj _ _ st7);rw[<- eXe];refine Va (D7 (hg' _ s7 _ H7 v u _ I7' r7 (show sK 0 v (o::bG ci σ) H7 (λσ8 H8=>σ8=B3 v::bG ci σ/\H8=H7)from⟨rfl,rfl⟩)) λ_ s8 zz=>?_);obtain⟨σ8,H8,I8,e8,e8'⟩:=zz;subst e8 e8';refine Va (D7 (ht' _ s8 _ _ _ I8 (step v _ y7)) λb s9 zz=>?_);obtain⟨H9,I9,q9⟩:=zz;have tnK:∀{σ':L2.St}{H':Hp}{s':Vd},B6 X' (([]:List (Vh×Obj))++tB fp s7.heap) σ' H' s'->tn (i+1) s'.heap/\∀b∈fp,H' b=B0:=λ{σ' H' s'}I'=>
    ⟨T.keep _ _ _ st7 λb hb o e=>(I'.pin (b,o) (Xu _ (Xu _ (Zeo hb e)))).1,λb hb=>by
     obtain⟨ob,e,d⟩:=T.obj _ _ st7 b hb;exact(I'.pin (b,ob) (Xu _ (Xu _ (Zeo hb e)))).2.1⟩
   cases b with
   |false=>
    obtain⟨m',hm,w9⟩:=q9;obtain⟨t9,f9⟩:=tnK I9;exact Vc ⟨rfl,m',hm,i+1,_,ys,H9,I9.unpinned,t9,f9,w9⟩
   |true=>
    refine Va (Va (D7 (he' _ s9 _ _ _ I9 q9) λyv s10 zz=>?_));obtain⟨y,H10,I10,r10,hp10,hz10,m',hm,w10⟩:=zz;refine Va (D7 (Zlc (X:=X') _ s10 _ H10 (.ref s.heap.objs.size) [y] (.ref s.heap.objs.size) [yv] (λ_ H11=>H11=upd H10 s.heap.objs.size (.lst (ys++[y]))) I10 rfl (.cons r10 .nil) ⟨_,ys,y,rfl,rfl,hp10,hz10,rfl⟩) λ_ s11 zz=>?_);obtain⟨_,H11,I11,_,e11⟩:=zz;subst e11;obtain⟨t11,f11⟩:=tnK I11;exact Vc (Vc ⟨rfl,m',hm,i+1,_,ys++[y],_,I11.unpinned,t11,f11,w10⟩)
 exact codeAny_compStart_list loop (T.self _ 0 _ _ _ (T.keep _ _ _ st (λb hb o e=>old4 b o (old3 b o e))) loop)
nonrec def tLC(wi:TI)(ci:List Nat)(tt:TT)(te:TE):TE:=λσ H Q=>wi σ H λJ H1=>LcW J ci tt te σ Q H1
theorem rB{elt iter:Vz}{px pos:Pos}{ifs:List Vz}{wi:TI}{tt:TT}{te:TE}(hc:X.calm=B1)(B:J4 X scope x cn ci)(hi:PI X (.Name x px) iter wi)
  (ht:∀cl C s H fp pn,bJ scope cl->mB (P5 X scope (x::cn) cl C s H fp pn) ifs tt)(he:∀cl C s H fp pn,bJ scope cl->PE (P5 X scope (x::cn) cl C s H fp pn) elt te)
  (hs:∀x,eO iter X.env x=pure x:=by rintro _;rfl):PE X (.ListComp elt [⟨.Name x px,iter,ifs,0⟩] scope pos) (tLC wi ci tt te):=by
 intro b5 s σ H Q I h;rw[eval_ListComp];refine Ucq (use:=B0) rfl hs (Zii X.env scope B.free) B.kind B.names ?_;refine D7 (hi b5 s σ H _ I h) λv s1 h1=>D7 h1 λitv s2 h2=>?_;obtain⟨it,fp,tn,J,H2,e,I2,T,st2,f2,w2⟩:=h2;subst e;refine Znv (RR:=λc4 C=>compPost (Vi X.prog X.w) X.A X.xe B0 (EP X b5 σ Q) c4 C) I2 hc B T st2 f2 ht he w2 λp C H' s' I' g q=>?_;obtain⟨m,hn⟩:=g.ns;exact⟨m,hn,λh' hs'=>⟨.ref p,H',g.go I' hs',rfl,q⟩⟩
theorem Zt1{elt iter:Vz}{px py pos spos:Pos}{ifs:List Vz}{wi:TI}{tt:TT}{te:TE}{i:Nat}{y:Str}(hc:X.calm=B1)(B:J4 X scope x cn ci)(hi:PI X (.Name x px) iter wi)
  (ht:∀cl C s H fp pn,bJ scope cl->mB (P5 X scope (x::cn) cl C s H fp pn) ifs tt)(he:∀cl C s H fp pn,bJ scope cl->PE (P5 X scope (x::cn) cl C s H fp pn) elt te)
  (hN:X.N.Nodup)(hiN:X.N[i]? = B3 y)(hy:X.env.scope.names.lookup y=B3 .local)
  (hsw:dB (.ListComp elt [⟨.Name x px,iter,ifs,0⟩] scope pos) (B3 (.Name y py)) spos.line X.env=pure B1:=by rfl)
  (hs:∀x,eO iter X.env x=pure x:=by rintro _;rfl):PS X (.Assign [.Name y py] (.ListComp elt [⟨.Name x px,iter,ifs,0⟩] scope pos) spos) (jT (tLC wi ci tt te) (sK i)):=by
 intro b5 s σ H E I h;rw[exec_Assign_Name_used _ _ _ _ hsw];refine Va (Uee (Va ?_));show Vk _ X.A (do let _<-comprehension (.ListComp elt [⟨.Name x px,iter,ifs,0⟩] scope pos) scope X.env _ (wK []) B2 (eval iter X.env) (B3 (cZ (.Name y py) X.env))) _ _ s;refine Va (Vr (Ucq (use:=B3 (cZ (.Name y py) X.env)) (Q:=λ_ s'=>SP X b5 E .next s') rfl hs (Zii X.env scope B.free) B.kind B.names ?_) (λ_ s' hq=>Vc (Vc hq)) λ_ _ e=>e);refine D7 (hi b5 s σ H _ I h) λv s1 h1=>D7 h1 λitv s2 h2=>?_;obtain⟨it,fp,tn,J,H2,e,I2,T,st2,f2,w2⟩:=h2;subst e;refine Znv (RR:=λc4 C=>compPost (Vi X.prog X.w) X.A X.xe (B3 (cZ (.Name y py) X.env)) (λ_ s'=>SP X b5 E .next s') c4 C) I2 hc B T st2 f2 ht he w2 λp C H' s' I' g q=>?_;show Vk _ X.A (cZ (.Name y py) X.env (.ref p)) _ _ _;have hk:X.env.kindOf y=B3 .local:=hy;refine wpAny_assign_Name (Zk6 I' hN hiN (.inl hy) (v:=.ref p) (u:=.ref p) rfl (λs'' I'' ch=>?_) (.inr hy));obtain⟨m,hn⟩:=g.ns;obtain⟨a,hsb,ha⟩:=ch;have haC:C≠a:=by
  rcases ha with ha |ha
  ·rw[ha];exact g.nl
  ·exact Uj (g.nc y a ha)
 have hn2:s''.heap.Ns C m:=hn.sameBut hsb haC;exact⟨m,hn2,λh' hs'=>⟨_,H',dI.go ⟨⟨m,hn2⟩,g.free,g.nl,g.up,g.nc,g.np⟩ I'' hs',q⟩⟩
end
nonrec def mT(ci:List Nat)(c6:SD):SD:=ci.map λi=>(c6[i]?).join
open Classical in
nonrec def W5(own:O4)(c0:SD)(tt:TF)(te:EF):List D->HD->Option (List D×HD)
 |[],H=>if O8 own H then B3 ([],H)else B0
 |x::r,H=>if O8 own H then (tt (B3 x::c0) H).bind λt=>if t.1=B1 then (te (B3 x::c0) t.2).bind λe=>(W5 own c0 tt te r e.2).map λq=>(e.1::q.1,q.2)else W5 own c0 tt te r t.2 else B0
nonrec def W2(it:ItF)(ci:List Nat)(tt:TF)(te:EF):EF:=λσ H=>(it σ H).bind λp=>(W5 p.1.2 (mT ci σ) tt te p.1.1 p.2).bind λq=>O7 q.1 q.2
nonrec def gU:TF:=λ_ H=>B3 (B1,H)
def mO(X:Cx)(ifs:List Vz)(t:TF):Prop:=mB X ifs (mJ X.K t)
section
variable{X:Cx}{scope:P4}{x:Str}{cn:List Str}{ci:List Nat}
theorem Zuy:mO X [] gU:=by
 rintro b5 s σ H Q I ⟨ι,c6,Hd,b,c5,sr,hr,e,q⟩;cases e;exact Zxb b5 s σ H Q I (q H ι Le.refl hr)
theorem Zgv{c:Vz}{t:TF}(h:Y5 X c t):mO X [c] t:=Zy7 h
theorem D4.cap{K:Xa}{H:Hp}{ι:List Vh}{σ:L2.St}{c6:SD}{d:D}{v:V}(s:D4 K H ι σ c6)(r:Rep K H ι d v):D4 K H ι (B3 v::bG ci σ) (B3 d::mT ci c6):=by
 refine⟨by simp[bG,mT],λi e h=>?_⟩;cases i with
 |zero=>simp at h;subst h;exact⟨v,rfl,r⟩
 |succ j=>
  simp only[Wfg,bG,mT,Xy]at h ⊢;cases ej:ci[j]? with
  |none=>rw[ej]at h;simp at h
  |some i=>
   rw[ej]at h;simp only[Wfo,B3.injEq]at h ⊢;cases es:c6[i]? with
   |none=>rw[es]at h;simp at h
   |some o=>
    rw[es]at h;simp at h;subst h;obtain⟨u,h1,h2⟩:=s.var i e es;exact⟨u,by rw[h1];rfl,h2⟩
nonrec abbrev LcI(K:Xa)(H0:Hp)(ι0:List Vh)(p:Vh)(cp:List D->HD->Option (List D×HD))(xs ds:List D)(H2:HD)(i m:Nat)(ys:List V)(H:Hp):Prop:=m=xs.length-i/\i<=xs.length/\H p=B3 (.lst ys)/\∃ι Hd done rest,Le K H0 ι0 H ι/\p∉ι/\C0 K H ι Hd/\Vm (Rep K H ι) done ys/\cp (xs.drop i) Hd=B3 (rest,H2)/\ds=done++rest
theorem Yah{K:Xa}{it:ItF}{tt:TF}{te:EF}{σ:L2.St}{H:Hp}{Q:VK}(h:cD K (W2 it ci tt te) σ H Q):tLC (rdI K it) ci (mJ K tt) (cD K te) σ H Q:=by
 obtain⟨ι,c6,Hd,d,c5,s,hr,e,q⟩:=h;obtain⟨⟨⟨xs,own⟩,H1⟩,e1,e⟩:=Zo e;obtain⟨⟨ds,H2⟩,e2,e⟩:=Zo e;obtain⟨hz,e⟩:=Zn8 e;cases e;dsimp only at e2 hz;refine⟨ι,c6,Hd,xs,own,H1,s,hr,e1,λJ H0 ι0 l0 h0 itr p hp=>?_⟩;have s0:=s.mono l0;refine⟨LcI K H0 ι0 p (W5 own (mT ci c6) tt te) xs ds H2,
  ⟨xs.length,by simp,R4 _,T3,ι0,H1,[],ds,Le.fresh hp _,h0.fresh hp,h0.tup hp _,.nil,by simpa using e2,by simp⟩,?_⟩
 rintro i m ys H5 ⟨rfl,hi,hpl,ι5,Hd5,done,rest,l5,np5,h5,pd5,e5,eds⟩;refine⟨hpl,?_⟩;by_cases hlt:i<xs.length
 ·have ed:xs.drop i=xs[i]::xs.drop (i+1):=lI hlt;rw[ed,W5]at e5;split at e5
  ·rename_i ok;obtain⟨⟨b6,H6⟩,e6,e5⟩:=Zo e5;refine .inr ⟨itr.go i H5 ι5 Hd5 l5 h5 ok hlt,λv H' y=>?_⟩;obtain⟨ι6,l6,h6,r6⟩:=itr.yld i H5 ι5 Hd5 xs[i] v H' l5 h5 ok (by simp[hlt]) y;obtain⟨hp6,np6⟩:=l6.frame p _ hpl np5;have s6:=D4.cap (ci:=ci) (s0.mono (l5.trans l6)) r6;refine⟨ι6,_,Hd5,b6,H6,s6,h6,e6,λH7 ι7 l7 h7=>?_⟩;obtain⟨hp7,np7⟩:=l7.frame p _ hp6 np6;have L7:=(l5.trans l6).trans l7;cases b6 with
   |true=>
    rw[d7 rfl];dsimp only at e5;rw[d7 rfl]at e5;obtain⟨⟨d8,H8⟩,e8,e5⟩:=Zo e5;obtain⟨⟨r9,H9⟩,e9,e5⟩:=Zm e5;cases e5;refine⟨ι7,_,H6,d8,H8,s6.mono l7,h7,e8,λv8 H8' ι8 l8 h8 rr8=>?_⟩;obtain⟨hp8,np8⟩:=l8.frame p _ hp7 np7;have ly:ys.length<sizeLine:=by
     rw[<- Prd.len pd5];rw[eds]at hz;simp at hz;omega
    have w8:Lw K H8' ι8 (upd H8' p (.lst (ys++[v8]))) ι8:=Lw.side hp8 _;refine⟨hp8,ly,xs.length-(i+1),by omega,rfl,hlt,T3,ι8,H8,done++[d8],r9,(L7.trans l8).side hp hp8 _,np8,h8.keep w8 (λa ha=>F3 λz=>by subst z;exact np8 ha),?_,e9,by rw[eds];simp⟩;exact Prd.append (Prd.monoW w8 (Prd.mono ((l6.trans l7).trans l8) pd5)) (.cons (Rep.monoW w8 rr8) .nil)
   |false=>
    rw[d9 g8];dsimp only at e5;rw[d9 g8]at e5;exact⟨xs.length-(i+1),by omega,rfl,hlt,hp7,ι7,H6,done,rest,L7,np7,h7,Prd.mono (l6.trans l7) pd5,e5,eds⟩
  ·cases e5
 ·rw[Wdv f8,W5]at e5;split at e5
  ·rename_i ok;have e6:(([]:List D),Hd5)=(rest,H2):=B3.inj e5;obtain⟨rfl,rfl⟩:=N9.inj e6;refine .inl ⟨itr.stop i H5 ι5 _ l5 h5 ok f8,?_⟩;have w5:Lw K H5 ι5 H5 (ι5++[p]):=⟨λ_ _ z=>z,λ_ _ z=>z,⟨[p],rfl⟩,λ_ _ _ z=>z⟩
   have L:=l0.trans l5;simp at eds;subst eds;refine q _ H5 (ι5++[p]) ⟨L.toLw.trans w5,λa o ha na=>?_⟩ (h5.add np5 ⟨ys,hpl,Prd.monoW w5 pd5⟩) (N4.mpr ⟨p,rfl,by rw[<- h5.len];simp⟩);obtain⟨q1,q2⟩:=L.frame a o ha na;refine⟨q1,?_⟩;have:a≠p:=λz=>by
    subst z;have:=(l0.frame a o ha na).1;rw[hp]at this;cases this
   simp[q2,this]
  ·cases e5
theorem Zx7{elt iter:Vz}{px pos:Pos}{ifs:List Vz}{it:ItF}{tt:TF}{te:EF}(hc:X.calm=B1)(B:J4 X scope x cn ci)(hi:eR X (.Name x px) iter it)
  (ht:∀cl C s H fp pn,bJ scope cl->mO (P5 X scope (x::cn) cl C s H fp pn) ifs tt)(he:∀cl C s H fp pn,bJ scope cl->D6 (P5 X scope (x::cn) cl C s H fp pn) elt te)
  (hs:∀x,eO iter X.env x=pure x:=by rintro _;rfl):D6 X (.ListComp elt [⟨.Name x px,iter,ifs,0⟩] scope pos) (W2 it ci tt te) :=
 S7 (rB (tt:=mJ X.K tt) (te:=cD X.K te) hc B hi ht he hs) λ_ _ _ h=>Yah h
theorem Zih{elt iter:Vz}{px py pos spos:Pos}{ifs:List Vz}{it:ItF}{tt:TF}{te:EF}{i:Nat}{y:Str}(hc:X.calm=B1)(B:J4 X scope x cn ci)(hi:eR X (.Name x px) iter it)
  (ht:∀cl C s H fp pn,bJ scope cl->mO (P5 X scope (x::cn) cl C s H fp pn) ifs tt)(he:∀cl C s H fp pn,bJ scope cl->D6 (P5 X scope (x::cn) cl C s H fp pn) elt te)
  (hN:X.N.Nodup)(hiN:X.N[i]? = B3 y)(hy:X.env.scope.names.lookup y=B3 .local)
  (hsw:dB (.ListComp elt [⟨.Name x px,iter,ifs,0⟩] scope pos) (B3 (.Name y py)) spos.line X.env=pure B1:=by rfl)
  (hs:∀x,eO iter X.env x=pure x:=by rintro _;rfl):V8 X (.Assign [.Name y py] (.ListComp elt [⟨.Name x px,iter,ifs,0⟩] scope pos) spos) (D3 i (W2 it ci tt te)):=by
 refine cA (Zt1 (tt:=mJ X.K tt) (te:=cD X.K te) hc B hi ht he hN hiN hy hsw hs) λE σ H zz=>?_;obtain⟨ι,c6,Hd,fl,c8,c5,s,hr,e,q⟩:=zz;obtain⟨⟨x,H1⟩,e1,e⟩:=Zm e;cases e;exact Yah ⟨ι,c6,Hd,x,H1,s,hr,e1,λv H' c7 l h r=>q _ H' c7 l h ((s.mono l).set r i)⟩
theorem nD{elt iter:Vz}{px pos:Pos}{ifs:List Vz}{it:ItF}{tt:TF}{te:EF}(hc:X.calm=B1)(B:J4 X scope x cn ci)(hi:eR X (.Name x px) iter it)
  (ht:∀cl C s H fp pn,mO (P5 X scope (x::cn) cl C s H fp pn) ifs tt)(he:∀cl C s H fp pn,D6 (P5 X scope (x::cn) cl C s H fp pn) elt te)
  (hs:∀x,eO iter X.env x=pure x:=by rintro _;rfl):D6 X (.ListComp elt [⟨.Name x px,iter,ifs,0⟩] scope pos) (W2 it ci tt te) :=
 Zx7 hc B hi (λ_ _ _ _ _ _ _=>ht _ _ _ _ _ _) (λ_ _ _ _ _ _ _=>he _ _ _ _ _ _) hs
theorem Zln{elt iter:Vz}{px py pos spos:Pos}{ifs:List Vz}{it:ItF}{tt:TF}{te:EF}{i:Nat}{y:Str}(hc:X.calm=B1)(B:J4 X scope x cn ci)(hi:eR X (.Name x px) iter it)
  (ht:∀cl C s H fp pn,mO (P5 X scope (x::cn) cl C s H fp pn) ifs tt)(he:∀cl C s H fp pn,D6 (P5 X scope (x::cn) cl C s H fp pn) elt te)
  (hN:X.N.Nodup)(hiN:X.N[i]? = B3 y)(hy:X.env.scope.names.lookup y=B3 .local)
  (hsw:dB (.ListComp elt [⟨.Name x px,iter,ifs,0⟩] scope pos) (B3 (.Name y py)) spos.line X.env=pure B1:=by rfl)
  (hs:∀x,eO iter X.env x=pure x:=by rintro _;rfl):V8 X (.Assign [.Name y py] (.ListComp elt [⟨.Name x px,iter,ifs,0⟩] scope pos) spos) (D3 i (W2 it ci tt te)) :=
 Zih hc B hi (λ_ _ _ _ _ _ _=>ht _ _ _ _ _ _) (λ_ _ _ _ _ _ _=>he _ _ _ _ _ _) hN hiN hy hsw hs
end
theorem Zza:fillsNumberSlot (.type "tuple") "mul" = pure B2 :=
 PySem.fillsNumberSlot_seq (id := "tuple.__mul__") (r:=B3 (.builtin "tuple.__rmul__")) xH.lookup j0 F.slot_tuple_rmul.lookup j0
theorem repT:seqRepeat? (.type "tuple")=pure (B3 (.builtin "tuple.__mul__")):=by
 unfold seqRepeat?;rw[Tcs (T := "tuple") (name := "__mul__") (id := "tuple.__mul__") xH.lookup j0,Tcs (T := "tuple") (name := "__rmul__") (id := "tuple.__rmul__") F.slot_tuple_rmul.lookup j0];rfl
section
variable{dd:Option Vh}{sl:Array (Option Vb)}
theorem qQ(a:Int)(t:Tok)(l:Vh)(items:Array Vb)(n:Nat) :
  Meets (Builtin.«int.__rmul__» ⟨[.int a t,.ref l],[]⟩) (λ_ R s=>s.heap.get? l=B3 { cls:=.type "tuple",dict:=dd,data:=.seq items n,slots:=sl }/\R (.ok (.ret Tce)) s) :=
 .of_wp λprog w A R s h=>by obtain⟨hp,g,d,tk,os⟩:=s;obtain⟨hl,h⟩:=h;wp_walk;exact⟨_,rfl,h⟩
theorem Zpv(l:Vh)(items:Array Vb)(n:Nat)(x:Int)(u:Tok)(h1:(decide (x < -(2 ^ 63))||decide (x ≥ 2 ^ 63))=B2)(h2:(items.isEmpty||x==1)=B1) :
  Meets (Builtin.«tuple.__mul__» ⟨[.ref l,.int x u],[]⟩) (λ_ R s=>s.heap.get? l=B3 { cls:=.type "tuple",dict:=dd,data:=.seq items n,slots:=sl }/\R (.ok (.ret (.ref l))) s) :=
 .of_wp λprog w A R s h=>by
  obtain⟨hp,g,d,tk,os⟩:=s;obtain⟨hl,h⟩:=h;have f1:=Tbw
  wp_walk
  simp only[h1,dY,if_false]
  wp_walk using jK hl
  simp only[h2,if_true]
  wp_walk using jK hl
  exact⟨_,rfl,h⟩
theorem Zsw(l:Vh)(items:Array Vb)(n:Nat)(x:Int)(u:Tok)(h1:(decide (x < -(2 ^ 63))||decide (x ≥ 2 ^ 63))=B2)(h2:(items.isEmpty||x==1)=B2)(h3:(decide (x<=0)||items.isEmpty)=B1) :
  Meets (Builtin.«tuple.__mul__» ⟨[.ref l,.int x u],[]⟩) (λ_ R s=>s.heap.get? l=B3 { cls:=.type "tuple",dict:=dd,data:=.seq items n,slots:=sl }/\R (.ok (.ret (.ref s.heap.objs.size))) { s with heap:=s.heap.push { cls:=Ul "tuple",data:=Data.seq #[] } }) :=
 .of_wp λprog w A R s h=>by
  obtain⟨hp,g,d,tk,os⟩:=s;obtain⟨hl,h⟩:=h;have f1:=Tbw
  wp_walk
  simp only[h1,dY,if_false]
  wp_walk using jK hl
  try simp only[h2,h3,dY,if_false,if_true]
  try (wp_walk using jK hl)
  exact⟨_,rfl,h⟩
theorem Zuo(l:Vh)(items:Array Vb)(n:Nat)(x:Int)(u:Tok)(h1:(decide (x < -(2 ^ 63))||decide (x ≥ 2 ^ 63))=B2)(h2:(items.isEmpty||x==1)=B2)(h3:(decide (x<=0)||items.isEmpty)=B2)(h4:¬ (items.size*x:Int) > (2 ^ 63-1) / 8)(h5:Tbi (items.size*x)=B2)
  (hs:(oK (λx1 x2=>x1++x2) #[] (Xl x.toNat items)).size<=sizeLine) :
  Meets (Builtin.«tuple.__mul__» ⟨[.ref l,.int x u],[]⟩) (λ_ R s=>s.heap.get? l=B3 { cls:=.type "tuple",dict:=dd,data:=.seq items n,slots:=sl }/\R (.ok (.ret (.ref s.heap.objs.size))) { s with heap:=s.heap.push { cls:=Ul "tuple",data:=Data.seq (oK (λx1 x2=>x1++x2) #[] (Xl x.toNat items)) } }) :=
 .of_wp λprog w A R s h=>by
  obtain⟨hp,g,d,tk,os⟩:=s;obtain⟨hl,h⟩:=h;have f1:=Tbw
  wp_walk
  simp only[h1,dY,if_false]
  wp_walk using jK hl
  simp only[h2,h3,h5,dY,if_false,d9 h4]
  wp_walk using jK hl
  exact⟨_,rfl,h⟩
end
theorem Zio(b9:List Vb)(m:Nat):oK (λx1 x2=>x1++x2) #[] (Xl m b9.toArray)=(Xl m b9).flatten.toArray:=by
 have:=Zhk b9 m [];rw[Weh]at this;exact this
section
variable{prog:Vl}{w:Vs}{A:Vo}{E:Vb->Vd->Prop}{s:Vd}
theorem Zzr{l:Vh}{b9:List Vb}{k:Int}{t:Tok}{Q:Vb->Vd->Prop}(p:Q0 s.heap l b9.toArray)(h1 : -(2 ^ 63)<=k)(h2:k<2 ^ 63)(hz:b9.length*k.toNat<=sizeLine)
  (qs:(b9=[]\/k=1)->Q (.ref l) s)(qn:b9≠[]->k≠1->Q (.ref s.heap.objs.size) { s with heap:=s.heap.push { cls:=.type "tuple",data:=.seq (Xl k.toNat b9).flatten.toArray } }) :
  Vk (Vi prog w) A (Q3 .Mult (.ref l) (.int k t)) Q E s:=by
 obtain⟨o,e,hc,n,hd⟩:=p;obtain⟨c,dd,da,sl⟩:=o;have hc':c=.type "tuple" := hc;have hd':da=.seq b9.toArray n:=hd;subst hc' hd';have b1:(decide (k < -(2 ^ 63))||decide (k ≥ 2 ^ 63))=B2:=by simp;omega
 refine Uci (T := "tuple") (U := "int") g9 ⟨_,e,rfl⟩ (λs'=>wR s' k t) Zza F.fills_int_mul Tbd repT F.slot_int_index.lookup
  (jG Tbd (wR s k t) F.entry_int_rmul (Tcn _ _) (qQ k t l b9.toArray n) ⟨e,rfl,⟨_,e,rfl⟩,?_⟩)
 by_cases hs:b9=[]\/k=1
 ·exact jG xH ⟨_,e,rfl⟩ Tbo (Tbk _ _) (Zpv l b9.toArray n k t b1 (by rcases hs with h |h<;>simp[h])) ⟨e,qs hs⟩
 ·have hne:b9≠[]:=λh=>hs (.inl h);have hk:k≠1:=λh=>hs (.inr h);have b2:(b9.toArray.isEmpty||k==1)=B2:=by cases b9<;>simp_all
  have new:=qn hne hk;by_cases h0:k<=0
  ·have z:k.toNat=0:=by omega
   rw[z]at new;exact jG xH ⟨_,e,rfl⟩ Tbo (Tbk _ _) (Zsw l b9.toArray n k t b1 b2 (by simp[h0])) ⟨e,new⟩
  ·have sz:sizeLine=16777216:=Uy;have hm:(b9.toArray.size:Int)*k<=16777216:=by
    have e1:k=(k.toNat:Int):=by omega
    rw[Xk,e1,<- Int.natCast_mul];omega
   have b3:(decide (k<=0)||b9.toArray.isEmpty)=B2:=by cases b9<;>simp_all
   refine jG xH ⟨_,e,rfl⟩ Tbo (Tbk _ _) (Zuo l b9.toArray n k t b1 b2 b3 f8 (by simp only[Tbi,decide_eq_false_iff_not,sz];omega) ?_) ⟨e,?_⟩
   ·rw[Zio,Xk,Zlv,vN];exact hz
   ·rw[Zio];exact new
end
variable{X:Cx}
nonrec def qS(K:Xa):R2:=λx y H Q=>∃l k xs,x=.ref l/\y=.int k/\M4 K H l xs /\ -(2 ^ 63)<=k/\k<2 ^ 63/\xs.length*k.toNat<=sizeLine/\((xs=[]\/k=1)->Q (.ref l) H) /\
 (xs≠[]->k≠1->∀p,H p=B0->Q (.ref p) (upd H p (.tup (Xl k.toNat xs).flatten)))
theorem Zx1:N5 X (Q3 .Mult) (qS X.K):=by
 intro b5 s σ H x y v u Q I rx ry h;obtain⟨l,k,xs,rfl,rfl,ha,h1,h2,hz,q1,q2⟩:=h;cases rx;obtain⟨t,rfl⟩:=ry;obtain⟨b9,r1,p1,_⟩:=I.tuple ha;refine Zzr p1 h1 h2 (by rw[<- r1.length];exact hz) (λz=>⟨.ref l,H,I,rfl,q1 (z.imp r1.nil_iff.mp id)⟩) (λz zk=>?_);refine⟨.ref s.heap.objs.size,_,I.laid (t':=s.toks) (o:=.tup (Xl k.toNat xs).flatten) (λb ob q=>Xb _ q) (Xd _) ?_,rfl,q2 (λw=>z (r1.nil_iff.mpr w)) zk _ (I.hok.fresh (Xd _))⟩;exact⟨by rw[Zlv,vN];exact hz,_,r1.rep k.toNat,fP.new _ _⟩
section
variable{X:Cx}
nonrec def T8(C:Int->Int->Prop)[∀i j,Decidable (C i j)](g:Int->Int->D):F2:=λx y H=>match x,y with
 |.int i,.int j=>if C i j then B3 (g i j,H)else B0
 |_,_=>B0
theorem Zny{f:Vb->Vb->Sem Vb}{C:Int->Int->Prop}[∀i j,Decidable (C i j)]{g:Int->Int->Int}(h:N5 X f (rI C λi j=>.int (g i j))):R6 X f (T8 C λi j=>.int (g i j)):=by
 refine mD h λx y H Q zz=>?_;obtain⟨ι,dx,dy,Hd,d,c5,hr,r1,r2,e,q⟩:=zz;cases dx<;>cases dy<;>simp only[T8]at e<;>try cases e
 rename_i i j;split at e
 ·rename_i hc;cases e;simp at r1 r2;exact⟨i,j,r1,r2,hc,q _ H ι Le.refl hr g8⟩
 ·cases e
def CT(_ _:Int):Prop:=True
instance:∀i j,Decidable (CT i j):=λ_ _=>instDecidableTrue
theorem Ycp{f:Vb->Vb->Sem Vb}{g:Int->Int->V}(h:N5 X f (eV g)):N5 X f (rI CT g):=mD h λx y H Q⟨i,j,e1,e2,_,q⟩=>⟨i,j,e1,e2,q⟩
theorem Zre{f:Vb->Vb->Sem Vb}{g:Int->Int->Bool}(h:N5 X f (eV λi j=>.bl (g i j))):R6 X f (T8 CT λi j=>.bl (g i j)):=by
 refine mD h λx y H Q zz=>?_;obtain⟨ι,dx,dy,Hd,d,c5,hr,r1,r2,e,q⟩:=zz;cases dx<;>cases dy<;>simp only[T8]at e<;>try cases e
 rename_i i j;simp at r1 r2;exact⟨i,j,r1,r2,q _ H ι Le.refl hr g8⟩
instance(i j:Int):Decidable (vB i j):=by unfold vB;exact inferInstance
instance(i j:Int):Decidable (gT i j):=by unfold gT;exact inferInstance
instance(i j:Int):Decidable (vF i j):=by unfold vF;exact inferInstance
def vC(_ j:Int):Prop:=0<j
instance(i j:Int):Decidable (vC i j):=by unfold vC;exact inferInstance
nonrec def A5:F2:=T8 CT λi j=>.int (i-j)
nonrec def bI:F2:=T8 vB λi j=>.int (i / j)
nonrec def J2:F2:=T8 vC λi j=>.int (i % j)
nonrec def mQ:F2:=T8 vF λi j=>.int (i ^ j.toNat)
nonrec def ltD:F2:=T8 CT λi j=>.bl (decide (i<j))
nonrec def gtD:F2:=T8 CT λi j=>.bl (decide (j<i))
nonrec def geD:F2:=T8 CT λi j=>.bl (decide (j<=i))
theorem Zf4:R6 X (Q3 .Sub) A5:=Zny (Ycp Yan)
theorem uG:R6 X (Q3 .FloorDiv) bI:=Zny Zxc
theorem kX:R6 X (Q3 .Mod) J2:=Zny (C:=vC) Yao
theorem Zmr:R6 X (Q3 .Pow) mQ:=Zny Yav
theorem Zw4:R6 X (S6 .Lt) ltD:=Zre rJ
theorem Zlr:R6 X (S6 .Gt) gtD:=Zre rK
theorem Yaj:R6 X (S6 .GtE) geD:=Zre rL
nonrec def F9:D->HD->Option (D×HD):=λx H=>match x with
 |.int i=>B3 (.int (-i),H)
 |_=>B0
theorem nZ:UnF X (unaryOp .USub) F9:=by
 rintro b5 s σ H x v Q I rx ⟨ι,dx,Hd,d,c5,hr,r1,e,q⟩;cases dx<;>simp only[F9]at e<;>try cases e
 simp at r1;exact Ydc b5 s σ H x v Q I rx ⟨_,r1,q _ H ι Le.refl hr g8⟩
theorem Ztt{prog:Vl}{w:Vs}{A:Vo}{E:Vb->Vd->Prop}{s:Vd}{t b:Vh}{ws:List Vb}{Q:Vb->Vd->Prop}(ht:Q0 s.heap t #[])(hb:Q0 s.heap b ws.toArray)
  (h1:Q (.ref b) s):Vk (Vi prog w) A (Q3 .Add (.ref t) (.ref b)) Q E s:=by
 obtain⟨⟨cls,dd,data,sl⟩,ho,hc,n,hd⟩:=id ht;obtain⟨⟨cls2,dd2,data2,sl2⟩,ho2,hc2,n2,hd2⟩:=id hb;simp only at hc hd hc2 hd2;subst hc hd hc2 hd2;exact Uen ⟨_,ho,rfl⟩ ⟨_,ho2,rfl⟩ Ucy Uef Tas Tap (Tam _ _)
   (tuple_addW0 t b #[] ws.toArray n n2 dd dd2 sl sl2 g8) ⟨ho,ho2,h1⟩
nonrec def G0:F2:=λx y H=>match x,y with
 |.int i,.int j=>B3 (.int (i+j),H)
 |.str a,.str b=>if a.length+b.length<=sizeLine then B3 (.str (a++b),H)else B0
 |.tup a,.tup b=>cE (a++b) H
 |.ref n,.ref m=>match H[n]?,H[m]? with
  |some (.lst a),B3 (.lst b)=>O7 (a++b) H
  |_,_=>B0
 |_,_=>B0
theorem Y2:R6 X (Q3 .Add) G0:=by
 rintro b5 s σ H x y v u Q I rx ry ⟨ι,dx,dy,Hd,d,c5,hr,r1,r2,e,q⟩;cases dx<;>cases dy<;>simp only[G0]at e<;>try cases e
 ·simp at r1 r2;exact Yc8 b5 s σ H x y v u Q I rx ry ⟨_,_,r1,r2,q _ H ι Le.refl hr g8⟩
 ·simp at r1 r2;split at e
  ·rename_i hl;cases e;exact Zoq b5 s σ H x y v u Q I rx ry ⟨_,_,r1,r2,hl,q _ H ι Le.refl hr g8⟩
  ·cases e
 ·rename_i as bs;obtain⟨a,vs,rfl,h1,p1⟩:=U6.mp r1;obtain⟨b,ws,rfl,h2,p2⟩:=U6.mp r2;cases p1 with
  |nil=>
   obtain⟨hl,e⟩:=Zg1 e;simp only[Weh,N9.injEq]at e;obtain⟨rfl,rfl⟩:=e;cases rx;cases ry;obtain⟨b9,q1,t1,_⟩:=I.tuple h1;obtain⟨its2,q2,t2,_⟩:=I.tuple h2;cases q1;exact Ztt t1 t2 ⟨.ref b,H,I,rfl,q _ H ι Le.refl hr r2⟩
  |cons p p'=>
   have P:=Prd.append (.cons p p') p2;obtain⟨hl,e'⟩:=Zg1 e;cases p2 with
   |nil=>
    simp only[Xq,N9.injEq]at e';obtain⟨rfl,rfl⟩:=e';refine Zrp b5 s σ H _ _ v u Q I rx ry ⟨a,b,_,_,rfl,rfl,h1,h2,by simp,?_,λ_=>q _ H ι Le.refl hr r1,λz=>absurd rfl z⟩;have:=Prd.len P;simp only[Xq]at this hl;simp only[iR];omega
   |cons p3 p4=>
    obtain⟨k1,k2⟩:=tR hr P e q;refine Zrp b5 s σ H _ _ v u Q I rx ry ⟨a,b,_,_,rfl,rfl,h1,h2,by simp,?_,λz=>absurd z g8,λ_=>k2⟩;rw[<- Y4];exact k1
 ·rename_i n m;obtain⟨a,rfl,ha⟩:=N4.mp r1;obtain⟨b,rfl,hb⟩:=N4.mp r2;split at e
  ·rename_i as bs e1 e2;obtain⟨vs,h1,p1⟩:=hr.obj n a _ ha e1;obtain⟨ws,h2,p2⟩:=hr.obj m b _ hb e2;obtain⟨k1,k2⟩:=cQ hr (Prd.append p1 p2) e q;exact Yad b5 s σ H _ _ v u Q I rx ry ⟨a,b,vs,ws,rfl,rfl,h1,h2,by rw[<- Y4];exact k1,k2⟩
  ·cases e
nonrec def V1:F2:=λx y H=>match x,y with
 |.int i,.int j=>if gT i j then B3 (.int (i*j),H)else B0
 |.ref n,.int k=>match H[n]? with
  |some (.lst a)=>if -(2 ^ 63)<=k/\k<2 ^ 63/\a.length*k.toNat<=sizeLine then O7 (Xl k.toNat a).flatten H else B0
  |_=>B0
 |.tup a,.int k=>if -(2 ^ 63)<=k/\k<2 ^ 63/\a.length*k.toNat<=sizeLine then cE (Xl k.toNat a).flatten H else B0
 |_,_=>B0
theorem tY:R6 X (Q3 .Mult) V1:=by
 rintro b5 s σ H x y v u Q I rx ry ⟨ι,dx,dy,Hd,d,c5,hr,r1,r2,e,q⟩;cases dx<;>cases dy<;>simp only[V1]at e<;>try cases e
 ·simp at r1 r2;split at e
  ·rename_i hc;cases e;exact Ybl b5 s σ H x y v u Q I rx ry ⟨_,_,r1,r2,hc,q _ H ι Le.refl hr g8⟩
  ·cases e
 ·rename_i as k;obtain⟨a,vs,rfl,h1,p1⟩:=U6.mp r1;simp at r2;split at e
  ·rename_i hc;have d4:=Prd.len p1;obtain⟨k1,k2⟩:=tR hr (Prd.rep p1 k.toNat) e q;refine Zx1 b5 s σ H _ _ v u Q I rx ry ⟨a,k,vs,rfl,r2,h1,hc.1,hc.2.1,by rw[<- d4];exact hc.2.2,λz=>?_,λ_ _=>k2⟩;obtain⟨_,e'⟩:=Zg1 e;have hf:(Xl k.toNat as).flatten=as:=by
    rcases z with z |z
    ·have:as=[]:=List.eq_nil_of_length_eq_zero (by rw[d4,z];rfl);subst this;simp
    ·subst z;simp
   rw[hf]at e';cases e';exact q _ H ι Le.refl hr r1
  ·cases e
 ·rename_i n k;obtain⟨a,rfl,ha⟩:=N4.mp r1;simp at r2;split at e
  ·rename_i as e1;obtain⟨vs,h1,p1⟩:=hr.obj n a _ ha e1;split at e
   ·rename_i hc;obtain⟨k1,k2⟩:=cQ hr (Prd.rep p1 _) e q;exact Yau b5 s σ H _ _ v u Q I rx ry ⟨a,k,vs,rfl,r2,h1,hc.1,hc.2.1,by rw[<- Prd.len p1];exact hc.2.2,k2⟩
   ·cases e
  ·cases e
nonrec def P6:D->HD->Option (List D)
 |.tup xs,_=>B3 xs
 |.fl xs,_=>B3 xs
 |.ref n,H=>match H[n]? with
  |some (.lst xs)=>B3 xs
  |_=>B0
 |_,_=>B0
theorem iD{K:Xa}{H:Hp}{ι:List Vh}{Hd:HD}{d:D}{xs:List D}{v:V}(hr:C0 K H ι Hd)(r:Rep K H ι d v)(e:P6 d Hd=B3 xs):∃p vs,v=.ref p/\(G7 K H p vs\/M4 K H p vs)/\Vm (Rep K H ι) xs vs:=by
 cases d with
 |tup ys=>cases e;obtain⟨a,vs,rfl,h,p⟩:=U6.mp r;exact⟨a,vs,rfl,.inr h,p⟩
 |fl ys=>cases e;obtain⟨a,vs,rfl,h,p⟩:=iC.mp r;exact⟨a,vs,rfl,.inl h.sq,p⟩
 |ref n=>
  obtain⟨a,rfl,ha⟩:=N4.mp r;simp only[P6]at e;split at e
  ·rename_i ys e1;cases e;obtain⟨vs,h1,p1⟩:=hr.obj n a _ ha e1;exact⟨a,vs,rfl,.inl (G7.of h1),p1⟩
  ·cases e
 |_=>simp[P6]at e
theorem Zzs{α β:Type}{F:α->β->Prop}{xs:List α}{us:List β}{i:Int}{x:α}(r:Vm F xs us)(h:M0 xs i=B3 x):∃u,M0 us i=B3 u/\F x u:=by
 unfold M0 at h ⊢;rw[<- Prd.len r];obtain⟨j,h1,h2⟩:=Zo h;obtain⟨u,h3,h4⟩:=Prd.get r h2;exact⟨u,by rw[h1];exact h3,h4⟩
nonrec def ixD:F2:=λx y H=>match y with
 |.int i=>(P6 x H).bind λxs=>(M0 xs i).map λd=>(d,H)
 |_=>B0
theorem Y8:IxF X ixD:=by
 rintro va sl b5 s σ H x y v u Q I rx ry ⟨ι,dx,dy,Hd,d,c5,hr,r1,r2,e,q⟩ hs;cases dy<;>simp only[ixD]at e<;>try cases e
 rename_i i;simp at r2;obtain⟨xs,e1,e⟩:=Zo e;obtain⟨d',e2,e⟩:=Zm e;obtain⟨rfl,rfl⟩:=N9.inj e;obtain⟨p,vs,rfl,h,P⟩:=iD hr r1 e1;obtain⟨z,hz,rz⟩:=Zzs P e2;rcases h with h |h
 ·exact Zxl va sl b5 s σ H _ _ v u Q I rx ry ⟨p,vs,i,z,rfl,r2,h,hz,q _ H ι Le.refl hr rz⟩ hs
 ·exact Ycs va sl b5 s σ H _ _ v u Q I rx ry ⟨p,vs,i,z,rfl,r2,h,hz,q _ H ι Le.refl hr rz⟩ hs
nonrec def O0(xs:List D)(lo hi:Option Int):List D:=(xs.drop (HT.sIx xs.length 0 lo)).take (HT.sIx xs.length xs.length hi-HT.sIx xs.length 0 lo)
theorem Zj1{K:Xa}{H:Hp}{ι:List Vh}{xs:List D}{vs:List V}(P:Vm (Rep K H ι) xs vs)(lo hi:Option Int):Vm (Rep K H ι) (O0 xs lo hi) (hJ vs lo hi):=by
 unfold O0 hJ;rw[<- Prd.len P];exact Prd.take _ (Prd.drop _ P)
nonrec abbrev OF:=SD->HD->Option (Option Int×HD)
nonrec def rdO(K:Xa)(f:OF):TO:=λσ H Q=>∃ι c6 Hd o c5,D4 K H ι σ c6/\C0 K H ι Hd/\f c6 Hd=B3 (o,c5)/\∀H' c7,Le K H ι H' c7->C0 K H' c7 c5->Q o H'
def POf(X:Cx)(e:Option Vz)(f:OF):Prop:=PO X e (rdO X.K f)
nonrec def T1:OF:=λ_ H=>B3 (B0,H)
nonrec def R1(f:EF):OF:=λσ H=>(f σ H).bind λp=>match p.1 with
 |.int i=>B3 (B3 i,p.2)
 |_=>B0
theorem kW:POf X B0 T1:=by
 rintro b5 s σ H Q I ⟨ι,c6,Hd,o,c5,sr,hr,e,q⟩;cases e;exact Zyt b5 s σ H Q I (q H ι Le.refl hr)
theorem Znm{e:Vz}{f:EF}(h:D6 X e f):POf X (B3 e) (R1 f):=by
 rintro b5 s σ H Q I ⟨ι,c6,Hd,o,c5,sr,hr,e,q⟩;obtain⟨⟨d,H1⟩,e1,e⟩:=Zo e;cases d<;>try cases e
 rename_i i;exact Zxt h b5 s σ H Q I ⟨ι,c6,Hd,_,_,sr,hr,e1,λv H' c7 l h r=>⟨i,by simpa using r,q H' c7 l h⟩⟩
nonrec def W1(x:D)(lo hi:Option Int)(H:HD):Option (D×HD):=match x with
 |.tup xs=>B3 (.tup (O0 xs lo hi),H)
 |.fl xs=>B3 (.ref H.length,H++[.lst (O0 xs lo hi)])
 |.ref n=>match H[n]? with
  |some (.lst xs)=>B3 (.ref H.length,H++[.lst (O0 xs lo hi)])
  |_=>B0
 |_=>B0
theorem Ze3{prog:Vl}{w:Vs}{A:Vo}{E:Vb->Vd->Prop}{s:Vd}{t sl:Vh}{items:Array Vb}{vl vu:Vb}{lo hi:Option Int}{Q:Vb->Vd->Prop}(ht:Q0 s.heap t items)(hs:s.heap.IsSliceOf sl vl vu .none)(pl:eE vl lo)(pu:eE vu hi)
  (hw:HT.sIx items.size 0 lo=0/\HT.sIx items.size items.size hi=items.size)(h:Q (.ref t) s):Vk (Vi prog w) A (jE (.ref t) (.ref sl)) Q E s:=by
 obtain⟨os,hos,hcs,hds⟩:=id hs;have hTs:s.TypeIs (.ref sl) "slice" := ⟨os,hos,hcs⟩
 obtain⟨ot,hot,hct,nt,hdt⟩:=id ht;unfold jE
 try with_reducible refine Vq ?_
 first |refine Va (Vc ?_) |skip
 refine Va (wpAny_sequenceKey ht.typeIs g9 ?_);refine Va (lU (name:=Ue "__getitem__") ht.typeIs Ui
  (Vt Ui ht.typeIs entry_tuple_getitem ?_ (args_tuple_getitem _ _)))
 show Vk _ _ (Tbh (.ref t) >>= _) _ _ s;refine Va (tupleItemsOf_ ht ?_);refine Va (wV hTs ?_);rw[d7 g9];refine Va (HT.sliceApplied_gen hs pl pu ?_);show Vk _ _ (if (((HT.sIx items.size 0 lo:Nat):Int)==0&&(1:Int)==1&&(HT.sIx items.size items.size hi-HT.sIx items.size 0 lo)==items.size)=B1 then _ else _) _ _ s;rw[d7 (by rw[hw.1,hw.2];simp)];show Vk _ _ (Tbj (Uc t) >>= _) _ _ s;unfold Tbj;refine Va (Va (wV ht.typeIs (Vc ?_)));rw[d7 g9];exact Va (eI (Vc ⟨_,rfl,Vc h⟩))
theorem Zoi{xs:List D}{lo hi:Option Int}(h:HT.sIx xs.length 0 lo=0/\HT.sIx xs.length xs.length hi=xs.length):O0 xs lo hi=xs:=by
 unfold O0;rw[h.1,h.2];simp
nonrec def rdSl(K:Xa):V->Option Int->Option Int->Hp->VK->Prop:=λx lo hi H Q=>∃ι dx Hd d c5,C0 K H ι Hd/\Rep K H ι dx x/\W1 dx lo hi Hd=B3 (d,c5)/\QE K H ι d c5 Q
theorem slf:SlR X (rdSl X.K):=by
 rintro b5 s σ H x v vl vu lo hi sl Q I rx hs pl pu ⟨ι,dx,Hd,d,c5,hr,r,e,q⟩;have lists:∀{a:Vh}{xs:List D}{vs:List V},x=.ref a->G7 X.K H a vs->Vm (Rep X.K H ι) xs vs->(D.ref Hd.length,Hd++[DO.lst (O0 xs lo hi)])=(d,c5) ->
   ∃T id,typeLookup (.type T) "__getitem__" = pure (B3 (.builtin id))/\s.TypeIs v T/\Vk (Vi X.prog X.w) X.A (jE v (.ref sl)) (EP X b5 σ Q) X.xe s:=λ{a xs vs}ex h P e=>by
  obtain⟨_,_,_,hz⟩:=I.list h;have hz2:(O0 xs lo hi).length<=sizeLine:=by
   rw[Prd.len (Zj1 P lo hi)];exact N2 (Zdn vs lo hi) hz
  obtain⟨k1,k2⟩:=cQ hr (Zj1 P lo hi) (show O7 (O0 xs lo hi) Hd=B3 (d,c5)by unfold O7;rw[d7 hz2,e]) q;exact Zzi b5 s σ H x v vl vu lo hi sl Q I rx hs pl pu ⟨a,vs,ex,h,k2⟩
 cases dx with
 |tup xs=>
  obtain⟨a,vs,rfl,h,P⟩:=U6.mp r;simp only[W1,B3.injEq]at e;obtain⟨b9,rv,ht,hz⟩:=I.tuple h;have d4:b9.toArray.size=vs.length:=by rw[Xk];exact rv.length.symm
  by_cases hw:HT.sIx vs.length 0 lo=0/\HT.sIx vs.length vs.length hi=vs.length
  ·cases rx;refine⟨"tuple",_,Ui.lookup,ht.typeIs,Ze3 ht hs pl pu (by rw[d4];exact hw) ?_⟩;rw[Zoi (by rw[Prd.len P];exact hw)]at e;obtain⟨rfl,rfl⟩:=N9.inj e;exact⟨.ref a,H,I,rfl,q _ H ι Le.refl hr r⟩
  ·have hz2:(O0 xs lo hi).length<=sizeLine:=by
    rw[Prd.len (Zj1 P lo hi)];exact N2 (Zdn vs lo hi) hz
   obtain⟨k1,k2⟩:=tR hr (Zj1 P lo hi) (show cE (O0 xs lo hi) Hd=B3 (d,c5)by unfold cE;rw[d7 hz2,e]) q;exact Zz3 b5 s σ H _ v vl vu lo hi sl Q I rx hs pl pu ⟨a,vs,rfl,h,hw,k2⟩
 |fl xs=>
  obtain⟨a,vs,rfl,h,P⟩:=iC.mp r;simp only[W1,B3.injEq]at e;exact lists rfl h.sq P e
 |ref n=>
  obtain⟨a,rfl,ha⟩:=N4.mp r;simp only[W1]at e;split at e
  ·rename_i xs e1;obtain⟨vs,h1,P⟩:=hr.obj n a _ ha e1;exact lists rfl (G7.of h1) P (B3.inj e)
  ·cases e
 |_=>simp[W1]at e
nonrec def Q5(fe:EF)(fl fh:OF):EF:=λσ H=>(fe σ H).bind λp=>(fl σ p.2).bind λl=>(fh σ l.2).bind λh=>W1 p.1 l.1 h.1 h.2
theorem kY{e:Vz}{lo hi:Option Vz}{fe:EF}{fl fh:OF}{pos p2:Pos}(he:D6 X e fe)(hl:POf X lo fl)(hu:POf X hi fh):D6 X (.Subscript e (.Slice lo hi B0 p2) pos) (Q5 fe fl fh):=by
 refine S7 (Ztp slf he hl hu) λσ H Q zz=>?_;obtain⟨ι,c6,Hd,d,c5,s,hr,e,q⟩:=zz;obtain⟨⟨x,H1⟩,e1,e⟩:=Zo e;obtain⟨⟨y,H2⟩,e2,e⟩:=Zo e;obtain⟨⟨z,H3⟩,e3,e⟩:=Zo e;exact⟨ι,c6,Hd,x,H1,s,hr,e1,λv1 H1' ι1 l1 h1 r1=>⟨ι1,c6,H1,y,H2,s.mono l1,h1,e2,λH2' ι2 l2 h2=>⟨ι2,c6,H2,z,H3,s.mono (l1.trans l2),h2,e3,λH3' ι3 l3 h3=>
  ⟨ι3,x,H3,d,c5,h3,r1.mono (l2.trans l3),e,λv H' c7 l h r=>q v H' c7 (((l1.trans l2).trans l3).trans l) h r⟩⟩⟩⟩
nonrec def Q7:FF:=λds H=>match ds with
 |[.str x]=>if x.length<=sizeLine then B3 (.int x.length,H)else B0
 |[d]=>(P6 d H).map λxs=>(.int xs.length,H)
 |_=>B0
theorem U0{K:Xa}{H:Hp}{ι:List Vh}{d:D}{vs:List V}(P:Vm (Rep K H ι) [d] vs):∃v,vs=[v]/\Rep K H ι d v:=by
 cases P with
 |cons r t=>cases t;exact⟨_,rfl,r⟩
theorem qX{K:Xa}{H:Hp}{ι:List Vh}{d d':D}{vs:List V}(P:Vm (Rep K H ι) [d,d'] vs):∃v v',vs=[v,v']/\Rep K H ι d v/\Rep K H ι d' v':=by
 cases P with
 |cons r t=>obtain⟨v,rfl,r'⟩:=U0 t;exact⟨_,_,rfl,r,r'⟩
theorem Zqy:A7 X (.builtin "len") Q7:=by
 rintro b5 s σ H xs us Q I rv ⟨ι,ds,Hd,d,c5,hr,P,e,q⟩;unfold Q7 at e;split at e
 ·obtain⟨v,rfl,r⟩:=U0 P;simp at r;subst r;split at e
  ·rename_i hl;cases e;exact Zk2 b5 s σ H _ us Q I rv ⟨_,rfl,hl,q _ H ι Le.refl hr g8⟩
  ·cases e
 ·obtain⟨v,rfl,r⟩:=U0 P;obtain⟨ys,e1,e⟩:=Zm e;obtain⟨rfl,rfl⟩:=N9.inj e;obtain⟨p,vs,rfl,h,P2⟩:=iD hr r e1;exact Zku b5 s σ H _ us Q I rv ⟨p,vs,rfl,h,q _ H ι Le.refl hr (by simp[Prd.len P2])⟩
 ·cases e
nonrec def mS:FF:=λds H=>match ds with
 |[.int i]=>B3 (.int (if i<0 then -i else i),H)
 |_=>B0
theorem Zr5:A7 X (.builtin "abs") mS:=by
 rintro b5 s σ H xs us Q I rv ⟨ι,ds,Hd,d,c5,hr,P,e,q⟩;unfold mS at e;split at e
 ·obtain⟨v,rfl,r⟩:=U0 P;simp at r;subst r;cases e;exact Ztv b5 s σ H _ us Q I rv ⟨_,rfl,q _ H ι Le.refl hr g8⟩
 ·cases e
nonrec def kF:FF:=λds H=>match ds with
 |[.int i,.int j]=>B3 (.int (if j > i then j else i),H)
 |_=>B0
nonrec def minD:FF:=λds H=>match ds with
 |[.int i,.int j]=>B3 (.int (if j<i then j else i),H)
 |_=>B0
theorem Zsh(hc:X.calm=B1):A7 X (.builtin "max") kF:=by
 rintro b5 s σ H xs us Q I rv ⟨ι,ds,Hd,d,c5,hr,P,e,q⟩;unfold kF at e;split at e
 ·obtain⟨v,v',rfl,r,r'⟩:=qX P;simp at r r';subst r r';cases e;exact Zsu hc b5 s σ H _ us Q I rv ⟨_,_,rfl,q _ H ι Le.refl hr g8⟩
 ·cases e
theorem Zqo(hc:X.calm=B1):A7 X (.builtin "min") minD:=by
 rintro b5 s σ H xs us Q I rv ⟨ι,ds,Hd,d,c5,hr,P,e,q⟩;unfold minD at e;split at e
 ·obtain⟨v,v',rfl,r,r'⟩:=qX P;simp at r r';subst r r';cases e;exact Zpx hc b5 s σ H _ us Q I rv ⟨_,_,rfl,q _ H ι Le.refl hr g8⟩
 ·cases e
nonrec def intD:FF:=λds H=>match ds with
 |[.int i]=>B3 (.int i,H)
 |[.bl b]=>B3 (.int (if b then 1 else 0),H)
 |_=>B0
theorem Zpy:A7 X (.type "int") intD:=by
 rintro b5 s σ H xs us Q I rv ⟨ι,ds,Hd,d,c5,hr,P,e,q⟩;unfold intD at e;split at e
 ·obtain⟨v,rfl,r⟩:=U0 P;simp at r;subst r;cases e;exact Zlb b5 s σ H _ us Q I rv (.inl ⟨_,rfl,q _ H ι Le.refl hr g8⟩)
 ·obtain⟨v,rfl,r⟩:=U0 P;simp at r;subst r;cases e;exact Zlb b5 s σ H _ us Q I rv (.inr ⟨_,rfl,q _ H ι Le.refl hr g8⟩)
 ·cases e
nonrec def Zvx:FF:=λds H=>match ds with
 |[d]=>(P6 d H).map λxs=>(.ref H.length,H++[.lst xs])
 |_=>B0
theorem Zm8{b5:List (Vh×Obj)}{s:Vd}{σ:L2.St}{H:Hp}{p:Vh}{vs:List V}(I:B6 X b5 σ H s)(h:G7 X.K H p vs\/M4 X.K H p vs):vs.length<=sizeLine:=by
 rcases h with h |h
 ·obtain⟨_,_,_,z⟩:=I.list h;exact z
 ·obtain⟨_,_,_,z⟩:=I.tuple h;exact z
theorem Zo1:A7 X (.type "list") Zvx:=by
 rintro b5 s σ H xs us Q I rv ⟨ι,ds,Hd,d,c5,hr,P,e,q⟩;unfold Zvx at e;split at e
 ·obtain⟨v,rfl,r⟩:=U0 P;obtain⟨ys,e1,e⟩:=Zm e;obtain⟨p,vs,rfl,h,P2⟩:=iD hr r e1;obtain⟨k1,k2⟩:=cQ hr P2 (show O7 ys Hd=B3 (d,c5)by unfold O7;rw[d7 (by rw[Prd.len P2];exact Zm8 I h),e]) q;exact Zkx b5 s σ H _ us Q I rv ⟨p,vs,rfl,h,k2⟩
 ·cases e
nonrec def W7:FF:=λds H=>match ds with
 |[d]=>(P6 d H).map λxs=>(.tup xs,H)
 |_=>B0
theorem Zmf:A7 X (.type "tuple") W7:=by
 rintro b5 s σ H xs us Q I rv ⟨ι,ds,Hd,d,c5,hr,P,e,q⟩;unfold W7 at e;split at e
 ·rename_i d0;obtain⟨v,rfl,r⟩:=U0 P;obtain⟨ys,e1,e⟩:=Zm e;obtain⟨p,vs,rfl,h,P2⟩:=iD hr r e1;obtain⟨k1,k2⟩:=tR hr P2 (show cE ys Hd=B3 (d,c5)by unfold cE;rw[d7 (by rw[Prd.len P2];exact Zm8 I h),e]) q;refine Zjg b5 s σ H _ us Q I rv ⟨p,vs,rfl,?_⟩;rcases h with h |h
  ·exact .inl ⟨h,k2⟩
  ·obtain⟨rfl,rfl⟩:=N9.inj e;exact .inr ⟨h,q _ H ι Le.refl hr (U6.mpr ⟨p,vs,rfl,h,P2⟩)⟩
 ·cases e
nonrec def L3(x:D)(ds:List D)(H:HD):Option (D×HD):=match x,ds with
 |.ref n,[d]=>match H[n]? with
  |some (.lst xs)=>if xs.length<sizeLine then B3 (.non,H.set n (.lst (xs++[d])))else B0
  |_=>B0
 |_,_=>B0
theorem Zdk:MtF X "list.append" L3:=by
 rintro b5 s σ H x xs v us Q I rx rv ⟨ι,dx,ds,Hd,d,c5,hr,r1,P,e,q⟩;unfold L3 at e;split at e
 ·rename_i n d1;obtain⟨a,rfl,ha⟩:=N4.mp r1;obtain⟨z,rfl,rz⟩:=U0 P;split at e
  ·rename_i ys e1;split at e
   ·rename_i hl;cases e;obtain⟨vs,h1,P1⟩:=hr.obj n a _ ha e1;refine Zlc b5 s σ H _ _ v us Q I rx rv ⟨a,vs,z,rfl,rfl,h1,by rw[<- Prd.len P1];exact hl,?_⟩;have L:Le X.K H ι (upd H a (.lst (vs++[z]))) ι:=Le.upd (dZ ha) h1 trivial _;exact q _ _ ι L (hr.upd ha h1 trivial ⟨_,T3,Prd.append (Prd.mono L P1) (.cons (rz.mono L) .nil)⟩) g8
   ·cases e
  ·cases e
 ·cases e
end
mutual
noncomputable def toP (H:HD):Nat->D->Option G3
 |_,.non=>B3 .none
 |_,.bl b=>B3 (.bool b)
 |_,.int i=>B3 (.int i)
 |_,.str x=>B3 (.str x)
 |_,.ty _=>B0
 |n,.tup xs=>(Zog H n xs).map .tuple
 |n,.fl xs=>(Zog H n xs).map .list
 | 0,.ref _=>B0
 |n+1,.ref k=>match H[k]? with
  |some (.lst xs)=>(Zog H n xs).map .list
  |_=>B0
termination_by n d=>(n,sizeOf d)
noncomputable def Zog (H:HD):Nat->List D->Option (List G3)
 |_,[]=>B3 []
 |n,d::ds=>(toP H n d).bind λx=>(Zog H n ds).map λr=>x::r
termination_by n ds=>(n,sizeOf ds)
end
section
variable{X:Cx}{b5:List (Vh×Obj)}{σ:L2.St}{H:Hp}{s:Vd}{ι:List Vh}{Hd:HD}
theorem Zij(n:Nat)(h:∀(d:D){x:G3}{v:V}{u:Vb},toP Hd n d=B3 x->Rep X.K H ι d v->E4 v u->∃as,Reads s.heap u x as):∀(ds:List D){xs:List G3}{vs:List V}{us:List Vb},Zog Hd n ds=B3 xs->Vm (Rep X.K H ι) ds vs->D5 vs us->∃as,ReadsAll s.heap us xs as
 |[],xs,vs,us,e,P,q=>by
  rw[Zog]at e;cases e;cases P;cases q;exact⟨_,.nil⟩
 |d::ds,xs,vs,us,e,P,q=>by
  rw[Zog]at e;obtain⟨x,e1,e⟩:=Zo e;obtain⟨r,e2,rfl⟩:=Zm e;cases P with
  |cons p P=>
   cases q with
   |cons q Q=>
    obtain⟨as,ra⟩:=h d e1 p q;obtain⟨bs,rb⟩:=Zij n h ds e2 P Q;exact⟨_,.cons ra rb⟩
theorem Ziy(I:B6 X b5 σ H s)(hr:C0 X.K H ι Hd)(n:Nat)(ih:∀m,n=m+1->∀(d:D){x:G3}{v:V}{u:Vb},toP Hd m d=B3 x->Rep X.K H ι d v->E4 v u->∃as,Reads s.heap u x as)(d:D):∀{x:G3}{v:V}{u:Vb},toP Hd n d=B3 x->Rep X.K H ι d v->E4 v u->∃as,Reads s.heap u x as:=by
 refine D.rec (motive_1:=λd=>∀{x:G3}{v:V}{u:Vb},toP Hd n d=B3 x->Rep X.K H ι d v->E4 v u->∃as,Reads s.heap u x as) (motive_2:=λds=>∀{xs:List G3}{vs:List V}{us:List Vb},Zog Hd n ds=B3 xs->Vm (Rep X.K H ι) ds vs->D5 vs us->∃as,ReadsAll s.heap us xs as) ?_ ?_ ?_ ?_ ?_ ?_ ?_ ?_ ?_ ?_ d
 ·intro x v u e r q;rw[toP]at e;cases e;simp at r;subst r;cases q;exact⟨_,.none⟩
 ·intro b x v u e r q;rw[toP]at e;cases e;simp at r;subst r;cases q;exact⟨_,.bool b⟩
 ·intro i x v u e r q;rw[toP]at e;cases e;simp at r;subst r;obtain⟨t,rfl⟩:=q;exact⟨_,.int i t⟩
 ·intro z x v u e r q;rw[toP]at e;cases e;simp at r;subst r;obtain⟨t,rfl⟩:=q;exact⟨_,.str z t⟩
 ·intro _ x v u e r q;rw[toP]at e;cases e
 ·intro xs hxs x v u e r q;rw[toP]at e;obtain⟨ps,e1,rfl⟩:=Zm e;obtain⟨a,vs,rfl,h,P⟩:=U6.mp r;cases q;obtain⟨b9,rv,⟨o,ho,hc,m,hd⟩,hz⟩:=I.tuple h;obtain⟨as,ra⟩:=hxs e1 P rv;exact⟨_,.tuple ho hc hd ra⟩
 ·intro xs hxs x v u e r q;rw[toP]at e;obtain⟨ps,e1,rfl⟩:=Zm e;obtain⟨a,vs,rfl,h,P⟩:=iC.mp r;cases q;obtain⟨b9,rv,pl,hz⟩:=I.list h.sq;obtain⟨o,ho,hc,m,hd⟩:=pl.isList;obtain⟨as,ra⟩:=hxs e1 P rv;exact⟨_,.list ho hc hd ra⟩
 ·intro k x v u e r q;cases n with
  |zero=>rw[toP]at e;cases e
  |succ n=>
   rw[toP]at e;split at e
   ·rename_i xs eo;obtain⟨ps,e1,rfl⟩:=Zm e;obtain⟨a,rfl,ha⟩:=N4.mp r;cases q;obtain⟨vs,h1,P⟩:=hr.obj k a _ ha eo;obtain⟨b9,rv,pl,hz⟩:=I.list (G7.of h1);obtain⟨o,ho,hc,m,hd⟩:=pl.isList;obtain⟨as,ra⟩:=Zij n (ih n rfl) xs e1 P rv;exact⟨_,.list ho hc hd ra⟩
   ·cases e
 ·intro xs vs us e P q;rw[Zog]at e;cases e;cases P;cases q;exact⟨_,.nil⟩
 ·intro d ds hd hds xs vs us e P q;rw[Zog]at e;obtain⟨x,e1,e⟩:=Zo e;obtain⟨r,e2,rfl⟩:=Zm e;cases P with
  |cons p P=>
   cases q with
   |cons q Q=>
    obtain⟨as,ra⟩:=hd e1 p q;obtain⟨bs,rb⟩:=hds e2 P Q;exact⟨_,.cons ra rb⟩
theorem fU(I:B6 X b5 σ H s)(hr:C0 X.K H ι Hd):∀(n:Nat)(d:D){x:G3}{v:V}{u:Vb},toP Hd n d=B3 x->Rep X.K H ι d v->E4 v u->∃as,Reads s.heap u x as
 | 0=>Ziy I hr 0 λm h=>by cases h
 |n+1=>Ziy I hr (n+1) λm h=>by cases h;exact fU I hr n
nonrec def rN(x:G3):Bool:=x.canLay0&&decide (x.depth<=30)
nonrec def dat(d:D)(H:HD):Option G3:=(toP H 30 d).bind λx=>if rN x=B1 then B3 x else B0
theorem iK{d:D}{x:G3}(e:dat d Hd=B3 x):toP Hd 30 d=B3 x/\x.canLay0=B1/\x.depth<=30:=by
 obtain⟨y,e1,e⟩:=Zo e;split at e
 ·rename_i h;cases e;rw[rN,V6,decide_eq_true_eq]at h;exact⟨e1,h⟩
 ·cases e
nonrec def fL:D->D->Option (Str×Str)
 |.str a,.str b=>B3 (a,b)
 |_,_=>B0
theorem Zj9{x y:D}{a b:Str}(h:fL x y=B3 (a,b)):x=.str a/\y=.str b:=by
 unfold fL at h;split at h
 ·cases h;exact⟨rfl,rfl⟩
 ·cases h
nonrec def eqD:F2:=λx y H=>match fL x y with
 |some (a,b)=>B3 (.bl (a==b),H)
 |none=>(dat x H).bind λp=>(dat y H).map λq=>(.bl (Ub p q),H)
nonrec def neD:F2:=λx y H=>match fL x y with
 |some (a,b)=>B3 (.bl (a != b),H)
 |none=>(dat x H).bind λp=>(dat y H).map λq=>(.bl (!Ub p q),H)
theorem tM(hu:X.A.units+64<cLine):R6 X (S6 .Eq) eqD:=by
 rintro b5 s σ H x y v u Q I rx ry ⟨ι,dx,dy,Hd,d,c5,hr,r1,r2,e,q⟩;unfold eqD at e;split at e
 ·rename_i a b es;obtain⟨rfl,rfl⟩:=Zj9 es;obtain⟨rfl,rfl⟩:=N9.inj (B3.inj e);simp at r1 r2;subst r1 r2;obtain⟨t1,rfl⟩:=rx;obtain⟨t2,rfl⟩:=ry;exact PyProof.Rows.eq_str ⟨.bl _,H,I,rfl,q _ H ι Le.refl hr g8⟩
 ·obtain⟨p,e1,e⟩:=Zo e;obtain⟨p2,e2,e⟩:=Zm e;obtain⟨rfl,rfl⟩:=N9.inj e;obtain⟨t1,c1,d1⟩:=iK e1;obtain⟨t2,c2,d2⟩:=iK e2;obtain⟨as,ra⟩:=fU I hr _ _ t1 r1 rx;obtain⟨bs,rb⟩:=fU I hr _ _ t2 r2 ry;exact SeqAt.compareEq_reads ra rb c1 c2 f8 ⟨.bl _,H,I,rfl,q _ H ι Le.refl hr g8⟩
theorem Zm7(hu:X.A.units+64<cLine):R6 X (S6 .NotEq) neD:=by
 rintro b5 s σ H x y v u Q I rx ry ⟨ι,dx,dy,Hd,d,c5,hr,r1,r2,e,q⟩;unfold neD at e;split at e
 ·rename_i a b es;obtain⟨rfl,rfl⟩:=Zj9 es;obtain⟨rfl,rfl⟩:=N9.inj (B3.inj e);simp at r1 r2;subst r1 r2;obtain⟨t1,rfl⟩:=rx;obtain⟨t2,rfl⟩:=ry;exact PyProof.Rows.ne_str ⟨.bl _,H,I,rfl,q _ H ι Le.refl hr g8⟩
 ·obtain⟨p,e1,e⟩:=Zo e;obtain⟨p2,e2,e⟩:=Zm e;obtain⟨rfl,rfl⟩:=N9.inj e;obtain⟨t1,c1,d1⟩:=iK e1;obtain⟨t2,c2,d2⟩:=iK e2;obtain⟨as,ra⟩:=fU I hr _ _ t1 r1 rx;obtain⟨bs,rb⟩:=fU I hr _ _ t2 r2 ry;exact SeqAt.compareNe_reads ra rb c1 c2 f8 ⟨.bl _,H,I,rfl,q _ H ι Le.refl hr g8⟩
nonrec def Zn0:G3->Option (List G3)
 |.list xs=>B3 xs
 |.tuple xs=>B3 xs
 |_=>B0
nonrec def inD:F2:=λx y H=>(dat x H).bind λp=>(dat y H).bind λq=>(Zn0 q).map λxs=>(.bl (xs.any λz=>Ub z p),H)
nonrec def niD:F2:=λx y H=>(dat x H).bind λp=>(dat y H).bind λq=>(Zn0 q).map λxs=>(.bl (!xs.any λz=>Ub z p),H)
theorem Zn1(hu:X.A.units+64<cLine):R6 X (S6 .In) inD:=by
 rintro b5 s σ H x y v u Q I rx ry ⟨ι,dx,dy,Hd,d,c5,hr,r1,r2,e,q⟩;obtain⟨p,e1,e⟩:=Zo e;obtain⟨p2,e2,e⟩:=Zo e;obtain⟨xs,e3,e⟩:=Zm e;obtain⟨rfl,rfl⟩:=N9.inj e;obtain⟨t1,c1,d1⟩:=iK e1;obtain⟨t2,c2,d2⟩:=iK e2;obtain⟨as,ra⟩:=fU I hr _ _ t1 r1 rx;obtain⟨bs,rb⟩:=fU I hr _ _ t2 r2 ry;have fin:EP X b5 σ Q (.bool (xs.any λz=>Ub z p)) s:=⟨.bl _,H,I,rfl,q _ H ι Le.refl hr g8⟩
 cases p2 with
 |list ys=>
  cases e3;simp only[xG]at c2;simp only[xE]at d2;exact SeqAt.in_list_reads rb ra c2 c1 f8 fin
 |tuple ys=>
  cases e3;simp only[xG]at c2;simp only[xE]at d2;exact SeqAt.in_tuple_reads rb ra c2 c1 f8 fin
 |_=>simp[Zn0]at e3
theorem sY(hu:X.A.units+64<cLine):R6 X (S6 .NotIn) niD:=by
 rintro b5 s σ H x y v u Q I rx ry ⟨ι,dx,dy,Hd,d,c5,hr,r1,r2,e,q⟩;obtain⟨p,e1,e⟩:=Zo e;obtain⟨p2,e2,e⟩:=Zo e;obtain⟨xs,e3,e⟩:=Zm e;obtain⟨rfl,rfl⟩:=N9.inj e;obtain⟨t1,c1,d1⟩:=iK e1;obtain⟨t2,c2,d2⟩:=iK e2;obtain⟨as,ra⟩:=fU I hr _ _ t1 r1 rx;obtain⟨bs,rb⟩:=fU I hr _ _ t2 r2 ry;have fin:EP X b5 σ Q (.bool (!xs.any λz=>Ub z p)) s:=⟨.bl _,H,I,rfl,q _ H ι Le.refl hr g8⟩
 cases p2 with
 |list ys=>
  cases e3;simp only[xG]at c2;simp only[xE]at d2;exact SeqAt.notIn_list_reads rb ra c2 c1 f8 fin
 |tuple ys=>
  cases e3;simp only[xG]at c2;simp only[xE]at d2;exact SeqAt.notIn_tuple_reads rb ra c2 c1 f8 fin
 |_=>simp[Zn0]at e3
nonrec def rX(x y:D):Option Bool:=match y,x with
 |.non,.non=>B3 B1
 |.non,_=>B3 B2
 |.bl b,.bl c=>B3 (c==b)
 |.bl _,_=>B3 B2
 |_,_=>B0
nonrec def cH:F2:=λx y H=>(rX x y).map λb=>(.bl (!b),H)
theorem Zib{M:bT}{A:Vo}{E:Vb->Vd->Prop}{s:Vd}{Q:Vb->Vd->Prop}{v:Vb}{b:Bool}(hv:∀i,v≠.builtin i)(h:Q (.bool (!(v==.bool b))) s):Vk M A (S6 .IsNot v (.bool b)) Q E s:=by
 cases v<;>first |exact Vc h |exact absurd rfl (hv _)
theorem Zzn{x:V}{v:Vb}(r:E4 x v):∀i,v≠.builtin i:=by
 intro i;cases x with
 |non=>cases r;intro z;cases z
 |bl _=>cases r;intro z;cases z
 |int _=>obtain⟨t,rfl⟩:=r;intro z;cases z
 |str _=>obtain⟨t,rfl⟩:=r;intro z;cases z
 |byt _=>obtain⟨t,rfl⟩:=r;intro z;cases z
 |flt _=>obtain⟨t,rfl⟩:=r;intro z;cases z
 |ref _=>cases r;intro z;cases z
 |ty _=>cases r;intro z;cases z
theorem Zz4{dx dy:D}{x y:V}{v u:Vb}{b:Bool}(r1:Rep X.K H ι dx x)(r2:Rep X.K H ι dy y)(rx:E4 x v)(ry:E4 y u)(e:rX dx dy=B3 b) :
  (u=.none/\b=(v==.none))\/∃c,u=.bool c/\b=(v==.bool c):=by
 cases dy with
 |non=>
  simp at r2;subst r2;cases ry;refine .inl ⟨rfl,?_⟩;cases dx with
  |non=>simp at r1;subst r1;cases rx;cases e;rfl
  |bl _=>simp at r1;subst r1;cases rx;cases e;rfl
  |int _=>simp at r1;subst r1;obtain⟨t,rfl⟩:=rx;cases e;rfl
  |str _=>simp at r1;subst r1;obtain⟨t,rfl⟩:=rx;cases e;rfl
  |ty _=>rw[Rep]at r1;rcases r1 with ⟨_,rfl⟩ |⟨_,a,rfl,_⟩<;>(cases rx;cases e;rfl)
  |tup _=>obtain⟨a,_,rfl,_⟩:=U6.mp r1;cases rx;cases e;rfl
  |fl _=>obtain⟨a,_,rfl,_⟩:=iC.mp r1;cases rx;cases e;rfl
  |ref _=>obtain⟨a,rfl,_⟩:=N4.mp r1;cases rx;cases e;rfl
 |bl c=>
  simp at r2;subst r2;cases ry;refine .inr ⟨c,rfl,?_⟩;cases dx with
  |non=>simp at r1;subst r1;cases rx;cases e;rfl
  |bl z=>simp at r1;subst r1;cases rx;cases e;cases z<;>cases c<;>rfl
  |int _=>simp at r1;subst r1;obtain⟨t,rfl⟩:=rx;cases e;rfl
  |str _=>simp at r1;subst r1;obtain⟨t,rfl⟩:=rx;cases e;rfl
  |ty _=>rw[Rep]at r1;rcases r1 with ⟨_,rfl⟩ |⟨_,a,rfl,_⟩<;>(cases rx;cases e;rfl)
  |tup _=>obtain⟨a,_,rfl,_⟩:=U6.mp r1;cases rx;cases e;rfl
  |fl _=>obtain⟨a,_,rfl,_⟩:=iC.mp r1;cases rx;cases e;rfl
  |ref _=>obtain⟨a,rfl,_⟩:=N4.mp r1;cases rx;cases e;rfl
 |_=>simp[rX]at e
theorem Zp2:R6 X (S6 .IsNot) cH:=by
 rintro b5 s σ H x y v u Q I rx ry ⟨ι,dx,dy,Hd,d,c5,hr,r1,r2,e,q⟩;obtain⟨b,e1,e⟩:=Zm e;obtain⟨rfl,rfl⟩:=N9.inj e;have fin:EP X b5 σ Q (.bool (!b)) s:=⟨.bl _,H,I,rfl,q _ H ι Le.refl hr g8⟩
 rcases Zz4 r1 r2 rx ry e1 with ⟨rfl,rfl⟩ |⟨c,rfl,rfl⟩
 ·exact isnot_none_gen fin
 ·exact Zib (Zzn rx) fin
nonrec def R0:List D->Option j5
 |[]=>B3 []
 |.int i::r=>(R0 r).map λs=>i::s
 |_=>B0
nonrec def A9(ns:List Int):List Int:=ns.mergeSort (λa b=>decide (a<=b))
theorem Zew(ns:List Int):(A9 ns).Perm ns:=oX ns _
theorem Zug(ns:List Int):(A9 ns).Pairwise (· <= ·):=by
 have h:=wD (le:=λa b:Int=>decide (a<=b)) (by intro a b c h1 h2;simp at *;omega) (by intro a b;simp;omega) ns;exact h.imp (by intro a b h;simpa using h)
theorem Zh4:∀{xs ys:List Int},xs.Perm ys->xs.Pairwise (· <= ·)->ys.Pairwise (· <= ·)->xs=ys
 |[],ys,p,_,_=>by simpa using p.symm
 |x::xs,[],p,_,_=>by simpa using p
 |x::xs,y::ys,p,h1,h2=>by
  rw[dX]at h1 h2;have a1:y∈x::xs:=p.symm.subset g8;have a2:x∈y::ys:=p.subset g8;have e:x=y:=by
   rcases Xn.mp a1 with z |z
   ·exact z.symm
   ·rcases Xn.mp a2 with w |w
    ·exact w
    ·have:=h1.1 y z;have:=h2.1 x w;omega
  subst e;rw[Zh4 (Y3.cons_inv p) h1.2 h2.2]
theorem tZ{K:Xa}:∀{xs:List D}{ns:List Int}{vs:List V},R0 xs=B3 ns->Vm (Rep K H ι) xs vs->vs=ns.map V.int
 |[],ns,vs,e,P=>by cases P;cases e;rfl
 |.int i::r,ns,vs,e,P=>by
  simp only[R0]at e;obtain⟨s,e1,rfl⟩:=Zm e;cases P with
  |cons p P=>
   simp at p;subst p;rw[tZ e1 P];rfl
 |.non::_,_,_,e,_=>by simp[R0]at e
 |.bl _::_,_,_,e,_=>by simp[R0]at e
 |.str _::_,_,_,e,_=>by simp[R0]at e
 |.ty _::_,_,_,e,_=>by simp[R0]at e
 |.tup _::_,_,_,e,_=>by simp[R0]at e
 |.fl _::_,_,_,e,_=>by simp[R0]at e
 |.ref _::_,_,_,e,_=>by simp[R0]at e
theorem Zhd:∀{ns:List Int}{us:List Vb},Vw us ns->D5 (ns.map V.int) us:=by
 intro ns us h
 induction h with
 |nil=>exact .nil
 |cons n t _ ih=>exact .cons ⟨t,rfl⟩ ih
theorem Zh1{K:Xa}(ns:List Int):Vm (Rep K H ι) (ns.map D.int) (ns.map V.int):=by
 induction ns with
 |nil=>exact .nil
 |cons n r ih=>exact .cons g8 ih
end
section
variable{X:Cx}{tg:Vz}
nonrec def kO:D->HD->Option (List D×O4)
 |.tup xs,_=>B3 (xs,[])
 |.fl xs,_=>B3 (xs,[])
 |.ref n,H=>match H[n]? with
  |some (.lst xs)=>B3 (xs,[(n,.lst xs)])
  |_=>B0
 |_,_=>B0
def Zn4(i:Int):Prop := -(2 ^ 62)<=i/\i<2 ^ 62
instance(i:Int):Decidable (Zn4 i):=by unfold Zn4;exact inferInstance
nonrec def K6(lo:Int)(n:Nat):List D:=(V4 n).map λk:Nat=>.int (lo+(k:Int))
theorem Zod{lo:Int}{n i:Nat}{d:D}(h:(K6 lo n)[i]? = B3 d):i<n/\d=.int (lo+i):=by
 unfold K6 at h;rw[Xy]at h;obtain⟨k,h1,rfl⟩:=Zm h;rw[Xg]at h1;obtain⟨hl,h1⟩:=h1;simp at h1 hl;subst h1;exact⟨hl,rfl⟩
theorem Zrt{K:Xa}{H0:Hp}{ι0:List Vh}(lo:Int)(n:Nat):V9 K (Itr lo n) (K6 lo n) [] H0 ι0:=by
 refine⟨λi H2 ι2 c9 l2 h2 _ hi=>(show i<n by simpa [K6]using hi),λi H2 ι2 c9 d x H3 l2 h2 _ hd y=>?_,λi H2 ι2 c9 l2 h2 _ hi=>(show n<=i by simpa [K6]using hi)⟩;obtain⟨rfl,rfl⟩:=y;obtain⟨_,rfl⟩:=Zod hd;exact⟨ι2,Le.refl,h2,by simp⟩
nonrec def fB(f:AF):ItF:=λσ H=>(f σ H).bind λp=>match p.1 with
 |[.int j]=>if Zn4 j then B3 ((K6 0 j.toNat,[]),p.2)else B0
 |_=>B0
theorem Zob{a:Vz}{f:AF}{p pos:Pos}(hg:Gl X "range")(hm:X.mg "range" = B0)(ha:O2 X [a] f)(hs:Vg [a] X.env=[(B2,eval a X.env)]:=by rfl):eR X tg (.Call (.Name "range" p) [a] [] pos) (fB f):=by
 refine PIi (Zro hg hm ha hs) λσ H R zz=>?_;obtain⟨ι,c6,Hd,xs,own,c5,s,hr,e,q⟩:=zz;obtain⟨⟨ds,H1⟩,e1,e⟩:=Zo e;dsimp only at e;split at e
 ·rename_i j;split at e
  ·rename_i hj;cases e;refine⟨ι,c6,Hd,_,_,s,hr,e1,λvs H' c7 l h P=>?_⟩;obtain⟨v,rfl,r⟩:=U0 P;simp at r;subst r;exact⟨j,rfl,hj.1,hj.2,q _ H' c7 l h (Zrt 0 _)⟩
  ·cases e
 ·cases e
end
structure Fn(P:Vl)(w:Vs)(K:Xa)(mg:Str->Option Vb)(base:C5)(k:Nat)(x:Str)(ps:List Str)(F:FF):Prop where
 ex:∃f fd,K2 P w K mg base eS k f fd ps (spF K ps.length F)/\cP K fd ps []/\cW K (.ref f)=B1/\mg x=B3 (.ref f)/\∃(oc:Vb)(od:Option Vh)(osl:Array (Option Vb)),K.lookup f=B3 ⟨oc,od,.func fd,osl⟩
theorem R3{X:Cx}{k n:Nat}{ps:List Str}{x:Str}{p pos:Pos}{F:FF}{fa:AF}{e:Vz}{es:List Vz}(G:Fn X.prog X.w X.K X.mg X.base k x ps F)(hr:E5 k X.A)(hg:Gl X x)
  (ha:O2 X (e::es) fa)(hdb:(x==("__debug__" : Str))=B2:=by decide)(he:Vg (e::es) X.env=(B2,eval e X.env)::Vg es X.env:=by exact V3 rfl)(hpl:(K8 pos (Vg es X.env)).any (·.1)=B2:=by exact cS rfl)(hn:ps.length=n:=by rfl) :
  D6 X (.Call (.Name x p) (e::es) [] pos) (D8 n F fa):=by
 subst hn;obtain⟨f,fd,G1,hb,hk,hm,_⟩:=G.ex;exact Ztx G1 hr hg hm hk hb ha hdb he hpl
def Tf(K:Xa)(mg:Str->Option Vb)(x:Str)(st:D2):Prop:=∃f fd,jQ K x x st f fd/\mg x=B3 (.ref f)
theorem us0{us:List Vb}(h:us.length=0):us=[]:=wC.mp h
theorem us1{us:List Vb}(h:us.length=1):∃a,us=[a]:=by
 obtain⟨a,r⟩:=Wcb h;obtain⟨t,rfl⟩:=r;rw[us0 (us:=t) (by simpa using h)];exact⟨a,rfl⟩
theorem us2{us:List Vb}(h:us.length=2):∃a b,us=[a,b]:=by
 obtain⟨a,t,rfl⟩:=Wcb h;obtain⟨b,rfl⟩:=us1 (us:=t) (by simpa using h);exact⟨a,b,rfl⟩
theorem us3{us:List Vb}(h:us.length=3):∃a b c,us=[a,b,c]:=by
 obtain⟨a,t,rfl⟩:=Wcb h;obtain⟨b,c,rfl⟩:=us2 (us:=t) (by simpa using h);exact⟨a,b,c,rfl⟩
theorem qG{K:Xa}{h:C5}{mg:Str->Option Vb}{x:Str}{st:D2}{f:Vh}{oc:Vb}{od an:Option Vh}{osl:Array (Option Vb)}{kV d6 pm cdv ct:Vb}(X:K.In h)(G:h.Ns Vn mg)
  (a:vM K Vn x=B3 (B3 (.ref f)))(l:K.lookup f=B3 ⟨oc,od,.func (fX x x (iH st) (L4 st) (F5 st) .none kV d6 pm an cdv ct),osl⟩)
  (c:Wes K cdv x=B1)(k:cW K (.ref f)=B1):Tf K mg x st:=⟨f,_,Yc2 l c k,Whj X G a⟩
theorem P8{P:Vl}{w:Vs}{K:Xa}{mg:Str->Option Vb}{base:C5}{x:Str}{st:D2}{N ps:List Str}{k:Nat}{b:SF}(T:Tf K mg x st)(S:C3 N ps (F5 st))
  (hbd:∀(kV d6 pm:Vb)(an:Option Vh)(cdv ct:Vb)(us:List Vb),us.length=ps.length->bindArgs (fX x x (iH st) (L4 st) (F5 st) .none kV d6 pm an cdv ct) ⟨us,[]⟩=pure (ps.zip us))
  (hb:∀(f:Vh)(cdv:Vb)(A:Vo)(outer:List Env)(s:Vd)(H:Hp)(E:XK),E5 k (A.deeper (bB x (F5 st) s.heap.objs.size f cdv)) ->
   V2 (M8 eS P w K mg base N x (F5 st) f cdv A outer s H E).nox (L4 st) b):Fn P w K mg base (k+1) x ps (F1 ps.length N.length b):=by
 obtain⟨f,fd,F,hm⟩:=T;refine⟨f,fd,fn_f F S λcdv A outer s H E hr=>hb f cdv A outer s H E hr,F.binds hbd,F.kp,hm,?_⟩;obtain⟨oc,od,kV,d6,pm,an,cdv,ct,osl,rfl,lk,hcd⟩:=F.ex;exact⟨oc,od,osl,lk⟩
nonrec def sD(sc scope:P4)(N:List Str)(x:Str)(cn:List Str)(ci:List Nat):Bool :=
 (scope.kind==.function)&&scope.names.all (λy=>y.2 != .cell)&&scope.names.all (λy=>y.2 != .local||scope.names.lookup y.1==B3 .local)&&(scope.names.lookup x==B3 .local) &&
 scope.names.all (λy=>y.2 != .free||sc.names.lookup y.1==B3 .cell)&&decide (x::cn).Nodup&&(ci.length==cn.length) &&
 (cn.zip ci).all (λp=>N[p.2]? == B3 p.1&&scope.names.lookup p.1==B3 .free&&sc.names.lookup p.1==B3 .cell)
theorem kQ{P:Vl}{w:Vs}{K:Xa}{mg:Str->Option Vb}{base:C5}{N:List Str}{qual:Str}{sc scope:P4}{f:Vh}{cdv:Vb}{A:Vo}{outer:List Env}{s:Vd}{H:Hp}{E:XK}{x:Str}{cn:List Str}{ci:List Nat}
  (h:sD sc scope N x cn ci=B1):J4 (M8 eS P w K mg base N qual sc f cdv A outer s H E).nox scope x cn ci:=by
 unfold sD at h;simp only[V6,vU,Wei,bne_iff_ne,ne_eq,beq_iff_eq,decide_eq_true_eq]at h;obtain⟨⟨⟨⟨⟨⟨⟨h1,h2⟩,h3⟩,h4⟩,h5⟩,h6⟩,h7⟩,h8⟩:=h;refine⟨h1,λy hy=>h2 y hy,λy hy hl=>(h3 y hy).resolve_left λz=>z hl,h4,λy hy hf=>?_,h6,h7,λj y hj=>?_⟩
 ·have:=(h5 y hy).resolve_left λz=>z hf;obtain⟨c,hc⟩:=Zjc (n:=s.heap.objs.size+1) this;exact Wdl.mpr ⟨c,hc⟩
 ·have hl:j<ci.length:=by rw[h7];exact(Xg.mp hj).1
  have hm:(y,ci[j])∈cn.zip ci:=by
   refine Wea.mpr ⟨j,?_⟩;rw[Weu];exact⟨hj,by simp[hl]⟩
  obtain⟨⟨k1,k2⟩,k3⟩:=h8 _ hm;exact⟨ci[j],by simp[hl],k1,k2,.inl k3⟩
theorem Znl:Vv "len" = B3 (.builtin "len"):=by decide +kernel
theorem Zrv:Vv "abs" = B3 (.builtin "abs"):=by decide +kernel
theorem Yaf:Vv "min" = B3 (.builtin "min"):=by decide +kernel
theorem Yce:Vv "max" = B3 (.builtin "max"):=by decide +kernel
theorem oE:Vv "sorted" = B3 (.builtin "sorted"):=by decide +kernel
theorem Ya6:Vv "int" = B3 (.type "int"):=by decide +kernel
theorem Zux:Vv "tuple" = B3 (.type "tuple"):=by decide +kernel
theorem Zxj:Vv "list" = B3 (.type "list"):=by decide +kernel
section
variable{X:Cx}{tg:Vz}
theorem Zzj{K:Xa}{H0:Hp}{ι0:List Vh}{a:Vh}{xs:List D}{vs:List V}(hS:M4 K H0 a vs)(P:Vm (Rep K H0 ι0) xs vs):V9 K (Itt K a) xs [] H0 ι0:=by
 refine⟨λi H2 ι2 c9 l2 h2 _ hi=>?_,λi H2 ι2 c9 d x H3 l2 h2 _ hd y=>?_,λi H2 ι2 c9 l2 h2 _ hi=>⟨vs,l2.tup a vs hS,by rw[<- Prd.len P];exact hi⟩⟩
 ·exact⟨vs,vs[i]'(by rw[<- Prd.len P];exact hi),l2.tup a vs hS,by simp⟩
 ·obtain⟨rfl,y⟩:=y;obtain⟨u,hu,ru⟩:=Prd.get P hd;have:=y vs (l2.tup a vs hS);rw[hu]at this;cases this;exact⟨ι2,Le.refl,h2,ru.mono l2⟩
theorem Yb5{K:Xa}{H0:Hp}{ι0:List Vh}{a:Vh}{xs:List D}{vs:List V}(hS:jP K H0 a vs)(P:Vm (Rep K H0 ι0) xs vs):V9 K (Itl K a) xs [] H0 ι0:=by
 refine⟨λi H2 ι2 c9 l2 h2 _ hi=>?_,λi H2 ι2 c9 d x H3 l2 h2 _ hd y=>?_,λi H2 ι2 c9 l2 h2 _ hi=>⟨vs,(l2.fz a vs hS).sq,by rw[<- Prd.len P];exact hi⟩⟩
 ·exact⟨vs,vs[i]'(by rw[<- Prd.len P];exact hi),(l2.fz a vs hS).sq,by simp⟩
 ·obtain⟨rfl,y⟩:=y;obtain⟨u,hu,ru⟩:=Prd.get P hd;have:=y vs (l2.fz a vs hS).sq;rw[hu]at this;cases this;exact⟨ι2,Le.refl,h2,ru.mono l2⟩
theorem Zw9{K:Xa}{H0:Hp}{ι0:List Vh}{a:Vh}{n:Nat}{xs:List D}(ha:ι0[n]? = B3 a):V9 K (Itl K a) xs [(n,.lst xs)] H0 ι0:=by
 have now:∀{H2:Hp}{ι2:List Vh}{c9:HD},Le K H0 ι0 H2 ι2->C0 K H2 ι2 c9->O8 [(n,DO.lst xs)] c9->∃ws,H2 a=B3 (.lst ws)/\Vm (Rep K H2 ι2) xs ws:=λ{H2 ι2 c9}l2 h2 ok=>
  h2.obj n a _ (l2.get ha) (ok (n,.lst xs) g8)
 refine⟨λi H2 ι2 c9 l2 h2 ok hi=>?_,λi H2 ι2 c9 d x H3 l2 h2 ok hd y=>?_,λi H2 ι2 c9 l2 h2 ok hi=>?_⟩
 ·obtain⟨ws,h3,P3⟩:=now l2 h2 ok;exact⟨ws,ws[i]'(by rw[<- Prd.len P3];exact hi),G7.of h3,by simp⟩
 ·obtain⟨ws,h3,P3⟩:=now l2 h2 ok;obtain⟨rfl,y⟩:=y;obtain⟨u,hu,ru⟩:=Prd.get P3 hd;have:=y ws (G7.of h3);rw[hu]at this;cases this;exact⟨ι2,Le.refl,h2,ru⟩
 ·obtain⟨ws,h3,P3⟩:=now l2 h2 ok;exact⟨ws,G7.of h3,by rw[<- Prd.len P3];exact hi⟩
nonrec def K9(f:EF):ItF:=λσ H=>(f σ H).bind λp=>(kO p.1 p.2).map λr=>(r,p.2)
theorem nK{l:Vz}{f:EF}(hl:D6 X l f):eR X tg l (K9 f):=by
 rintro b5 s σ H R I ⟨ι,c6,Hd,xs,own,c5,sr,hr,e,q⟩;obtain⟨⟨d,H1⟩,e1,e⟩:=Zo e;obtain⟨⟨ys,ow⟩,e2,e⟩:=Zm e;obtain⟨e3,rfl⟩:=N9.inj e;obtain⟨rfl,rfl⟩:=N9.inj e3;refine D7 (hl b5 s σ H (λv H1=>∃a,v=.ref a/\(((∃xs,G7 X.K H1 a xs)/\R (Itl X.K a) H1)\/((∃xs,M4 X.K H1 a xs)/\R (Itt X.K a) H1))) I ⟨ι,c6,Hd,_,_,sr,hr,e1,λv H' c7 l h r=>?_⟩) λv s1 zz=>?_
 ·cases d with
  |tup zs=>
   cases e2;obtain⟨a,vs,rfl,hS,P⟩:=U6.mp r;exact⟨a,rfl,.inr ⟨⟨vs,hS⟩,q _ H' c7 l h (Zzj hS P)⟩⟩
  |fl zs=>
   cases e2;obtain⟨a,vs,rfl,hS,P⟩:=iC.mp r;exact⟨a,rfl,.inl ⟨⟨vs,hS.sq⟩,q _ H' c7 l h (Yb5 hS P)⟩⟩
  |ref n=>
   simp only[kO]at e2;split at e2
   ·rename_i zs eo;obtain⟨e5,e6⟩:=N9.inj (B3.inj e2);subst e5 e6;obtain⟨a,rfl,ha⟩:=N4.mp r;obtain⟨vs,h1,P⟩:=h.obj n a _ ha eo;exact⟨a,rfl,.inl ⟨⟨vs,G7.of h1⟩,q _ H' c7 l h (Zw9 ha)⟩⟩
   ·cases e2
  |_=>simp[kO]at e2
 ·obtain⟨x,H2,I2,r2,q2⟩:=zz;obtain⟨a,rfl,q2⟩:=q2;cases r2;have fp:∀b∈[s1.heap.objs.size],cI X b5 H2 b:=λb hb=>by
   have e:b=s1.heap.objs.size:=by simpa using hb
   subst e;exact I2.fpOk (Xd _) (I2.hok.fresh (Xd _))
  rcases q2 with ⟨⟨xs,hq⟩,q2⟩ |⟨⟨xs,hq⟩,q2⟩
  ·obtain⟨b9,rv,p,hz⟩:=I2.list hq;exact Ucr p.isList ⟨s1.heap.objs.size,[s1.heap.objs.size],_,_,H2,rfl,I2.kept (t':=s1.toks) λb o e=>Xb _ e,Zq9 a _,⟨_,Xi _ rfl,rfl,rfl⟩,fp,q2⟩
  ·obtain⟨b9,rv,p,hz⟩:=I2.tuple hq;exact wpAny_pyIter_tuple (show s1.heap.IsTuple a b9.toArray from p) ⟨s1.heap.objs.size,[s1.heap.objs.size],_,_,H2,rfl,I2.kept (t':=s1.toks) λb o e=>Xb _ e,Zpa a _,⟨_,Xi _ rfl,rfl,rfl⟩,fp,q2⟩
end
theorem rG{X:Cx}{e:Vz}{es:List Vz}{f:EF}{g:AF}(ha:D6 X e f)(hr:O2 X es g)(hs:Znk e=B1):O2 X (e::es) (B5 f g):=Zmv ha hr (V3 hs)
nonrec def Yaz(F:FF)(K:Xa):Sp:=spF K 1 F
theorem Zp0{F:FF}(h:∀ns:List Int,ns.length<=63->∃c5,F [.fl (ns.map .int)] []=B3 (.bl B1,c5)) :
  ∀(K:Xa)(H:Hp)(a:Vh)(ns:List Int),ns.length<=63->vI H->G7 K H a (ns.map V.int)->Yaz F K [.ref a] H (λv _=>v=.bl B1) λ_ _ _=>False:=by
 intro K H a ns hl hO hS;obtain⟨c5,e⟩:=h ns hl;have fz:jP K H a (ns.map V.int):=by
  rcases hS with (h |h) |h
  ·rcases hO a with z |⟨o,xs,z⟩
   ·rw[h]at z;cases z
   ·rw[h]at z;cases z
  ·exact .inl h
  ·exact .inr h
 have P:Vm (Rep K H []) (ns.map D.int) (ns.map V.int):=by
  generalize ns=ks
  induction ks with
  |nil=>exact .nil
  |cons k ks ih=>exact .cons g8 ih
 refine⟨[],[.fl (ns.map .int)],[],.bl B1,c5,rfl,⟨rfl,Whf,λn a o h1 h2=>by simp at h1⟩,.cons (iC.mpr ⟨a,_,rfl,fz,P⟩) .nil,e,λv H' c7 l h r=>by simpa using r⟩
variable{X:Cx}
nonrec def mU:List D->Option (List Bool)
 |[]=>B3 []
 |.bl b::r=>(mU r).map λx=>b::x
 |_::_=>B0
theorem Zk1{K:Xa}{H:Hp}{ι:List Vh}:∀{xs:List D}{bs:List Bool}{vs:List V}{us:List Vb},mU xs=B3 bs->Vm (Rep K H ι) xs vs->D5 vs us->us=bs.map .bool
 |[],bs,vs,us,e,P,q=>by cases e;cases P;cases q;rfl
 |d::r,bs,vs,us,e,P,q=>by
  cases P with
  |cons p P=>
   cases q with
   |cons q Q=>
    cases d<;>simp only[mU]at e<;>try cases e
    obtain⟨y,e1,rfl⟩:=Zm e;simp at p;subst p;cases q;rw[Zk1 e1 P Q];rfl
variable{X:Cx}
variable{X:Cx}
nonrec def cN(b8:List (D×D))(k:List Int):Option D:=(b8.find? λp=>nk p.1==B3 k).map (·.2)
nonrec def hG(b8:List (D×D))(kd:D)(k:List Int)(vd:D):List (D×D) :=
 if (cN b8 k).isSome then b8.map (λp=>if nk p.1=B3 k then (p.1,vd)else p)else b8++[(kd,vd)]
section
variable{K:Xa}{H:Hp}{ι:List Vh}
theorem Zri{b8:List (D×D)}{xs:List (List Int×Vh×Vb)}(h:Vm (bF K H ι) b8 xs)(k:List Int) :
  (cN b8 k=B0/\atKey xs k=B0)\/∃vd b u v,cN b8 k=B3 vd/\atKey xs k=B3 (b,u)/\E4 v u/\Rep K H ι vd v:=by
 unfold cN atKey
 induction h with
 |nil=>exact .inl ⟨rfl,rfl⟩
 |@cons p x ps ys r t ih=>
  obtain⟨r1,r2,v,r3,r4⟩:=r;by_cases hk:x.1=k
  ·have e1:(nk p.1==B3 k)=B1:=by rw[r1,hk];simp
   refine .inr ⟨p.2,x.2.1,x.2.2,v,?_,?_,r3,r4⟩
   ·rw[vP];simp only[e1];rfl
   ·rw[vP];simp only[hk,decide_true];rfl
  ·have e1:¬ (nk p.1==B3 k)=B1:=by rw[r1];simpa using hk
   have e1':(nk p.1==B3 k)=B2:=by simpa using e1
   have e2':decide (x.1=k)=B2:=f7 hk;rw[vP,vP];simp only[e1',e2'];exact ih
theorem Zvi{b8:List (D×D)}{xs:List (List Int×Vh×Vb)}{kd vd:D}{k:List Int}{b:Vh}{u:Vb}{v:V}(h:Vm (bF K H ι) b8 xs)(h1:nk kd=B3 k)(h2:Rep K H ι kd (.ref b))(rv:E4 v u)(r:Rep K H ι vd v) :
  Vm (bF K H ι) (hG b8 kd k vd) (wJ xs k b u):=by
 have all:∀{ls:List (D×D)}{ys:List (List Int×Vh×Vb)},Vm (bF K H ι) ls ys->Vm (bF K H ι) (ls.map (λp=>if nk p.1=B3 k then (p.1,vd)else p)) (ys.map (putAt k u)):=by
  intro ls ys q
  induction q with
  |nil=>exact .nil
  |@cons p x ps zs r' t ih=>
   refine .cons ?_ ih;obtain⟨r1,r2,r3⟩:=r';unfold putAt;by_cases hk:x.1=k
   ·have e:nk p.1=B3 k:=by rw[r1,hk]
    show bF K H ι (if nk p.1=B3 k then (p.1,vd)else p) (if x.1=k then (x.1,x.2.1,u)else x);rw[d7 hk,d7 e];exact⟨r1,r2,v,rv,r⟩
   ·have e:¬ nk p.1=B3 k:=by rw[r1];simpa using hk
    show bF K H ι (if nk p.1=B3 k then (p.1,vd)else p) (if x.1=k then (x.1,x.2.1,u)else x);rw[d9 hk,d9 e];exact⟨r1,r2,r3⟩
 unfold hG wJ;rcases Zri h k with ⟨e1,e2⟩ |⟨_,_,_,_,e1,e2,_⟩
 ·rw[e1,e2];exact Prd.append h (.cons ⟨h1,h2,v,rv,r⟩ .nil)
 ·rw[e1,e2];exact all h
theorem Zuk(b8:List (D×D))(kd:D)(k:List Int)(vd:D):(hG b8 kd k vd).length<=b8.length+1:=by
 unfold hG;split<;>simp
end
section
variable{b5:List (Vh×Obj)}{σ:L2.St}{H:Hp}{s:Vd}{ι:List Vh}{Hd:HD}
theorem Ycr{d:D}{v:V}{u:Vb}{k:Int}{K:Xa}(e:eY d=B3 k)(r:Rep K H ι d v)(q:E4 v u):iA k u=B1:=by
 cases d with
 |bl b=>cases e;simp at r;subst r;cases q;simp[iA,numOf]
 |int i=>cases e;simp at r;subst r;obtain⟨t,rfl⟩:=q;simp[iA,numOf]
 |_=>cases e
theorem Zlp{P:Vl}{w:Vs}{K:Xa}:∀{ds:List D}{vs:List V}{us:List Vb}{ks:List Int},mY ds=B3 ks->Vm (Rep K H ι) ds vs->D5 vs us->ItemsAre (cR P w) ks us
 |[],vs,us,ks,e,p,q=>by cases e;cases p;cases q;exact .nil
 |d::ds,vs,us,ks,e,p,q=>by
  cases p with
  |cons p1 p2=>
   cases q with
   |cons q1 q2=>
    simp only[mY]at e;obtain⟨k,e1,e⟩:=Zo e;obtain⟨r,e2,rfl⟩:=Zm e;exact .cons (Ycr e1 p1 q1) (Zlp e2 p2 q2)
theorem Zpq(I:B6 X b5 σ H s){d:D}{k:List Int}{b:Vh}(e:nk d=B3 k)(r:Rep X.K H ι d (.ref b)):(lO (cR X.prog X.w)).is s.heap k b:=by
 cases d<;>simp only[nk]at e<;>try cases e
 rename_i ds;obtain⟨a,vs,ea,h,P⟩:=U6.mp r;cases ea;obtain⟨b9,rv,ht,hz⟩:=I.tuple h;obtain⟨o,h1,h2,n,h3⟩:=ht;exact⟨o,b9.toArray,n,h1,h2,h3,by simpa using Zlp e P rv⟩
theorem tF(I:B6 X b5 σ H s){a:Vh}{b8:List (D×D)}{fz:Bool}(h:A4 X.K H ι a (.dic b8 fz)):(a==bC)=B2/\b8.length<=sizeLine/\∃xs,(if fz=B1 then ∃o,H a=B3 (.frz o (.ext (N8 a xs)))else H a=B3 (.ext (N8 a xs)))/\Vm (bF X.K H ι) b8 xs/\s.heap.DictOfH (lO (cR X.prog X.w)) a xs:=by
 obtain⟨h1,h2,xs,e,p⟩:=h;have rd:Rd H a (.ext (N8 a xs)):=by
  cases fz with
  |true=>rw[d7 rfl]at e;exact .inr e
  |false=>rw[d9 g8]at e;exact .inl e
 obtain⟨⟨o,es,ep,g1,g2,g3,g4,g5⟩,_⟩:=(show N1 X.prog X.w H s.heap a (.ext (N8 a xs))from rd.ok I.hok)
 refine⟨h1,h2,xs,e,p,o,es,ep,g1,g2,g3,g4,?_,g5⟩;have all:∀{l:List (D×D)}{m:List (List Int×Vh×Vb)},Vm (bF X.K H ι) l m->∀x∈m,(lO (cR X.prog X.w)).is s.heap x.1 x.2.1:=by
  intro l m q
  induction q with
  |nil=>intro x hx;exact nomatch hx
  |@cons p x ps qs hq t ih=>
   intro y hy;rcases Xn.mp hy with e |hy
   ·subst e;exact Zpq I hq.1 hq.2.1
   ·exact ih y hy
 exact all p
end
nonrec def mP(x:D)(H:HD):Option (List (D×D)):=match x with
 |.ref n=>match H[n]? with
  |some (.dic b8 _)=>B3 b8
  |_=>B0
 |_=>B0
theorem Zk9{x:D}{Hd:HD}{b8:List (D×D)}(e:mP x Hd=B3 b8):∃n fz,x=.ref n/\Hd[n]? = B3 (.dic b8 fz):=by
 cases x<;>simp only[mP]at e<;>try cases e
 rename_i n;split at e
 ·rename_i fz h;cases e;exact⟨n,fz,rfl,h⟩
 ·cases e
theorem Zwd{K:Xa}{H:Hp}{ι:List Vh}{d:D}{k:List Int}{v:V}(e:nk d=B3 k)(r:Rep K H ι d v):∃b,v=.ref b:=by
 cases d<;>simp only[nk]at e<;>try cases e
 obtain⟨a,vs,rfl,_⟩:=U6.mp r;exact⟨a,rfl⟩
nonrec def vH:F2:=λx y H=>(mP y H).bind λb8=>(nk x).map λk=>(.bl (cN b8 k).isSome,H)
theorem dinf(hu:X.A.units+64<cLine):R6 X (S6 .In) vH:=by
 rintro b5 s σ H x y v u Q I rx ry ⟨ι,dx,dy,Hd,d,c5,hr,r1,r2,e,q⟩;obtain⟨b8,e1,e⟩:=Zo e;obtain⟨k,e2,e⟩:=Zm e;obtain⟨rfl,rfl⟩:=N9.inj e;obtain⟨n,fz,rfl,hn⟩:=Zk9 e1;obtain⟨a,rfl,ha⟩:=N4.mp r2;obtain⟨b,rfl⟩:=Zwd e2 r1;cases rx;cases ry;obtain⟨h1,h2,xs,h3,P,dd⟩:=tF I (hr.obj n a _ ha hn);refine wpAny_in_heap (knd:=lO (cR X.prog X.w)) (tupleKind_room_in1 f8) (Zpq I e2 r1) h1 dd ?_;have e3:(atKey xs k).isSome=(cN b8 k).isSome:=by
  rcases Zri P k with ⟨z1,z2⟩ |⟨_,_,_,_,z1,z2,_⟩<;>rw[z1,z2]<;>rfl
 rw[e3];exact⟨.bl _,H,I.tok _,rfl,q _ H ι Le.refl hr g8⟩
nonrec def eDN:EF:=λ_ H=>B3 (.ref H.length,H++[.dic [] B2])
theorem Znd{pos:Pos}:D6 X (.Dict [] [] pos) eDN:=by
 rintro b5 s σ H Q I ⟨ι,c6,Hd,d,c5,sr,hr,e,q⟩;cases e;have hb:bC<s.heap.objs.size:=Wfp g9 (show Vn<s.heap.objs.size from(I.mod.glob.keeps I.bk).lt);have hp:=I.hok.fresh (Xd s.heap.objs.size);have ok:N1 X.prog X.w (upd H s.heap.objs.size (.ext (N8 s.heap.objs.size []))) (s.heap.push { cls:=.type "dict",data:=.dict #[] }) s.heap.objs.size (.ext (N8 s.heap.objs.size [])) :=
  ⟨⟨_,#[],0,Xi _ rfl,⟨rfl,rfl,rfl⟩,rfl,rfl,Whf⟩,⟨_,Xi _ rfl⟩,λh1 h2 d k=>N8.keep d k⟩
 refine wpAny_Dict_empty ⟨.ref s.heap.objs.size,_,I.laid (a:=s.heap.objs.size) (o:=.ext (N8 s.heap.objs.size [])) (t':=s.toks) (λ_ _ q=>Xb _ q) (Xd _) ok,rfl,?_⟩;have hl:ι.length=Hd.length:=hr.len;refine q _ _ (ι++[s.heap.objs.size]) (Le.fresh1 hp _) (hr.new hp ⟨beq_eq_false_iff_ne.mpr (Uj (Xp hb)),R4 _,[],by rw[d9 g8];exact T3,.nil⟩) (N4.mpr ⟨_,rfl,by rw[<- hl];simp⟩)
nonrec def cL:kG:=λo i v H=>match o with
 |.ref n=>match H[n]? with
  |some (.dic b8 B2)=>(nk i).bind λk=>if b8.length<sizeLine then B3 (H.set n (.dic (hG b8 i k v) B2))else B0
  |_=>B0
 |_=>B0
theorem Zrb{b5:List (Vh×Obj)}{σ:L2.St}{H:Hp}{s:Vd}{a:Vh}{xs xs':List (List Int×Vh×Vb)}{h':C5}{t':Nat}(I:B6 X b5 σ H s)(h3:H a=B3 (.ext (N8 a xs)))(dd:h'.DictOfH (lO (cR X.prog X.w)) a xs')(hs:R5 a s.heap h') :
  B6 X b5 σ (upd H a (.ext (N8 a xs'))) { s with heap:=h',toks:=t' }:=by
 obtain⟨o,es,ep,g1,g2,g3,g4,_,g5⟩:=dd;have ok:N1 X.prog X.w (upd H a (.ext (N8 a xs'))) h' a (.ext (N8 a xs')):=⟨⟨o,es,ep,g1,g2,g3,g4,g5⟩,⟨o,g1⟩,λh1 h2 d k=>N8.keep d k⟩
 exact I.write (x:=a) (e:=a) (by rw[h3];exact Tde) (.inl rfl) (λb q hb z=>(hs.2 b hb).trans z) ⟨o,g1⟩ ok
theorem Zxi{H:Hp}{ι:List Vh}{Hd:HD}{n:Nat}{a:Vh}{b8:List (D×D)}{xs:List (List Int×Vh×Vb)}{kd vd:D}{k:List Int}{b:Vh}{u:Vb}{v:V}(hr:C0 X.K H ι Hd)(ha:ι[n]? = B3 a)(h1:(a==bC)=B2)(hl:b8.length<sizeLine)(h3:H a=B3 (.ext (N8 a xs)))(P:Vm (bF X.K H ι) b8 xs)(e2:nk kd=B3 k)(r2:Rep X.K H ι kd (.ref b))(rv:E4 v u)(r3:Rep X.K H ι vd v) :
  Le X.K H ι (upd H a (.ext (N8 a (wJ xs k b u)))) ι/\C0 X.K (upd H a (.ext (N8 a (wJ xs k b u)))) ι (Hd.set n (.dic (hG b8 kd k vd) B2)):=by
 have L:Le X.K H ι (upd H a (.ext (N8 a (wJ xs k b u)))) ι:=Le.upd (dZ ha) h3 trivial _;refine⟨L,hr.upd ha h3 trivial ⟨h1,?_,_,by rw[d9 g8];exact T3,?_⟩⟩
 ·have:=Zuk b8 kd k vd;omega
 ·refine Zvi (Prd.imp P λp x _ z=>⟨z.1,z.2.1.mono L,let ⟨v,z1,z2⟩:=z.2.2;⟨v,z1,z2.mono L⟩⟩) e2 (r2.mono L) rv (r3.mono L)
theorem sQ(hu:X.A.units+64<cLine):Zxd X cL:=by
 rintro b5 s σ H o i v ov iv u Q I ro ri rv ⟨ι,od,id,vd,Hd,c5,hr,r1,r2,r3,e,q⟩;cases od<;>simp only[cL]at e<;>try cases e
 rename_i n;split at e
 ·rename_i b8 hn;obtain⟨k,e2,e⟩:=Zo e;split at e
  ·rename_i hl;cases e;obtain⟨a,rfl,ha⟩:=N4.mp r1;obtain⟨b,rfl⟩:=Zwd e2 r2;cases ro;cases ri;obtain⟨h1,h2,xs,h3,P,dd⟩:=tF I (hr.obj n a _ ha hn);rw[d9 g8]at h3;have hz:xs.length<=sizeLine:=by rw[<- Prd.len P];exact h2
   refine wpAny_setItem_heap (knd:=lO (cR X.prog X.w)) (hsz:=hz) (tupleKind_room_in1 f8) (Zpq I e2 r2) dd λh' dd' hs=>?_;obtain⟨L,hr'⟩:=Zxi hr ha h1 hl h3 P e2 r2 rv r3;exact⟨_,Zrb I h3 dd' hs,q _ ι L hr'⟩
  ·cases e
 ·cases e
nonrec def mW:FF:=λds H=>match ds with
 |[x]=>(mP x H).map λb8=>(.int b8.length,H)
 |_=>B0
theorem Zis:A7 X (.builtin "len") mW:=by
 rintro b5 s σ H xs us Q I rv ⟨ι,ds,Hd,d,c5,hr,P,e,q⟩;unfold mW at e;split at e
 ·rename_i x;obtain⟨b8,e1,e⟩:=Zm e;obtain⟨rfl,rfl⟩:=N9.inj e;obtain⟨n,fz,rfl,hn⟩:=Zk9 e1;obtain⟨v,rfl,r⟩:=U0 P;obtain⟨a,rfl,ha⟩:=N4.mp r;cases rv with
  |cons q1 rv=>
   cases rv;cases q1;obtain⟨h1,h2,ys,_,PK,dd⟩:=tF I (hr.obj n a _ ha hn);have ty:s.TypeIs (.ref a) "dict" := dd.typeIs;obtain⟨ob,es,ep,g1,g2,g3,g4,_⟩:=dd;have sz:es.size=b8.length:=by
    have a1:=size_of_entries g4;have a2:=Prd.len PK;omega
   have l63:(b8.length:Int)<2 ^ 63:=by rw[Uy]at h2;omega
   have ask:∀A' E',Vk (Vi X.prog X.w) A' (Builtin.«dict.__len__» ⟨[.ref a],[]⟩) (λfin s'=>∃r,fin=.done (.ret r)/\r=.int b8.length s.toks/\s'={ s with toks:=s.toks+1 }) E' s:=by
    intro A' E';show Vk _ _ (dictSize a >>= _) _ _ s;unfold dictSize;refine Va (Va (Ubn g1 g3 (Vc (Va (wpAny_pendingCount_other h1 (wpAny_ret_mkInt ?_))))));rw[Nat.add_zero,sz];exact⟨rfl,rfl⟩
   refine Tad kind_len plain_len entry_len (args_len1 _) ?_;unfold Builtin.«len»;refine Va (m:=oneArg "len" _) (Vc (Va (m:=callSpecial? (.ref a) (Ue "__len__")) (lU (name:=Ue "__len__") ty Tca
    (Vt Tca ty PySem.F.entry_dict_len (D7 (ask _ _) λfin s'⟨r,f1,f2,f3⟩=>⟨r,f1,?_⟩) (PySem.F.args_dict_len_1 _)))))
   subst f2 f3;refine Va (Vq (Vc (Va (wpAny_letGo ?_))));show Vk _ _ (if ((b8.length:Nat):Int)<0 then _ else if ((b8.length:Nat):Int) ≥ 2 ^ 63 then _ else _) _ _ _;rw[d9 f8,d9 f8];exact Va (wpAny_mkInt (Vc ⟨_,rfl,.int b8.length,H,I.tok _,⟨_,rfl⟩,q _ H ι Le.refl hr g8⟩))
 ·cases e
section
variable{prog:Vl}{w:Vs}{A:Vo}{E:Vb->Vd->Prop}{s:Vd}
theorem Znn{d:Vh}{ob:Obj}{es:Array X5}{ep:Nat}{Q:Vb->Vd->Prop}(h0:(d==bC)=B2)(g1:s.heap.get? d=B3 ob)(g2:ob.ExactDict)(g3:ob.data=.dict es ep)
  (q:Q (.ref s.heap.objs.size) { s with heap:=s.heap.push { cls:=.type "dict_keyiterator",data:=.fields #[.ref d,.int 0 0,.int es.size 0,.int ep 0] } }):Vk (Vi prog w) A (gE (.ref d)) Q E s:=by
 have ty:s.TypeIs (.ref d) "dict" := ⟨ob,g1,g2.1⟩
 refine Ucs ty F.slot_dict_iter (Vt F.slot_dict_iter ty F.entry_dict_iter ?_ (F.args_dict_iter_1 _));unfold Builtin.«dict.__iter__» Builtin.Dict.dictSlotNone;refine Va (Va (wpAny_notOrdered_dict ty (Vc ?_)));show Vk _ _ (Tcb d >>= _) _ _ s;unfold Tcb;rw[d9 (by rw[h0];decide)];refine Va (Vc (Va (Ubn g1 g3 (Va (Udi g1 g3 (Va (Vu (Vc ?_))))))));exact⟨_,rfl,"dict_keyiterator",_,⟨_,Xi _ rfl,rfl⟩,Uq.lookup,by simpa [U8]using q⟩
theorem Zrh{d it:Vh}{ob:Obj}{es:Array X5}{i ep:Nat}{Q:Option Vb->Vd->Prop}(hit:s.heap.IsKeyIter it d i es.size ep)(g1:s.heap.get? d=B3 ob)(g3:ob.data=.dict es ep)(lt:i<es.size)
  (q:∀h2,h2.IsKeyIter it d (i+1) es.size ep->R5 it s.heap h2->Q (B3 es[i].key) { s with heap:=h2 }):Vk (Vi prog w) A (bU (.ref it)) Q E s:=by
 have ty:=hit.typeIs;obtain⟨oi,i1,i2,i3⟩:=id hit;have own:Tbb "dict_keyiterator" = B2:=by decide
 unfold bU;refine Va (jH (lU (name:=Ue "__next__") ty Uq (Vt Uq ty Taz ?_ (Tax _))));refine Va (Vc (Va (Va ?_)));refine Va (Ual ty (Vc (Va (Ucj i1 i3 ?_))));simp only[own,dY,if_false];show Vk _ _ (if (Uc d==Uu)=B1 then _ else _) _ _ s;have nn:¬ ((Uc d==Uu)=B1):=cY;rw[d9 nn];refine Va (Vc (Va (Ubn g1 g3 ?_)));rw[d9 g8];refine Va (Vc (Va (Udi g1 g3 ?_)));rw[d9 g8];refine Vc ?_;have neg:¬ ((i:Int)<0):=by omega
 simp only[neg,if_false,bO,Xc lt];refine Va (Va (Ual ty (Vc (Va (Udj ty ?_)))));show Vk _ _ (setField (.ref it) 1 (U8 ((i:Int)+1)) >>= _) _ _ s
 let h2:=s.heap.update it (Ux (·.setIfInBounds 1 (U8 ((i:Int)+1))))
 have it2:h2.IsKeyIter it d (i+1) es.size ep :=
  ⟨_,pA _ i1 (xM (Ur i3 _)),(Tat ..).trans i2,by rw[Ur i3];simp[U8]⟩
 refine Va (jJ i1 i3 g8 (Va (Vq (Va (Udj (s:={ s with heap:=h2 }) it2.typeIs ?_)))));show Vk _ _ (pure es[i].key) _ _ _;exact Vc (Vc ⟨_,rfl,Vc (q h2 it2 (R5.update ..))⟩)
theorem Znj{d it:Vh}{ob:Obj}{es:Array X5}{i ep:Nat}{Q:Option Vb->Vd->Prop}(hh:A.handled=B0)(hit:s.heap.IsKeyIter it d i es.size ep)(g1:s.heap.get? d=B3 ob)(g3:ob.data=.dict es ep)(ge:es.size<=i)
  (q:∀h2,Heap.ExtBut it s.heap h2->Q B0 { s with heap:=h2 }):Vk (Vi prog w) A (bU (.ref it)) Q E s:=by
 have ty:=hit.typeIs;obtain⟨oi,i1,i2,i3⟩:=id hit;have own:Tbb "dict_keyiterator" = B2:=by decide
 unfold bU;refine Va (jH (lU (name:=Ue "__next__") ty Uq (Vt Uq ty Taz ?_ (Tax _))));refine Va (Vc (Va (Va ?_)));refine Va (Ual ty (Vc (Va (Ucj i1 i3 ?_))));simp only[own,dY,if_false];show Vk _ _ (if (Uc d==Uu)=B1 then _ else _) _ _ s;have nn:¬ ((Uc d==Uu)=B1):=cY;rw[d9 nn];refine Va (Vc (Va (Ubn g1 g3 ?_)));rw[d9 g8];refine Va (Vc (Va (Udi g1 g3 ?_)));rw[d9 g8];refine Vc ?_;have neg:¬ ((i:Int)<0):=by omega
 simp only[neg,if_false,bO,iY ge];refine Va (Va (Ual ty (Vc ?_)));show Vk _ _ (setField (.ref it) 0 .none >>= _) _ _ s;refine Va (jJ i1 i3 g8 ?_);show Vk _ _ (newExc (.type "StopIteration") [] >>= _) _ _ _;simp only[newExc,newTuple];refine Va (Va (Vu (Va (m:=Uck _ _) (Uex (a:=Uu) (by first |rfl |(simp only[Uck];rfl)) (Vu ?_ (by size_fits)))) (by size_fits)));simp only[raiseNew];refine Va (wpAny_handled ?_);have hh1:A.in1.handled=B0:=hh;rw[hh1];refine Va (Vc (wpAny_throw ?_));refine Va (Ucz (T := "StopIteration") (b:=B1) (by exact⟨_,Xi _ rfl,rfl⟩) isSubtype_stop ?_);exact Vc (q _ (((R5.update ..).extBut.push _).push _))
end
nonrec def Itd(a:Vh)(ob:Obj)(u:HO)(ks:List Vh):It :=
 ⟨λi H=>H a=B3 (.frz ob u)/\i<ks.length,λi H x H'=>H'=H/\∃b,ks[i]? = B3 b/\x=.ref b,λi H=>H a=B3 (.frz ob u)/\ks.length<=i⟩
theorem Ztn{P:Vl}{w:Vs}{K:Xa}{tg:Vz}(a it:Vh){ob:Obj}{u:HO}{es:Array X5}{ep:Nat}{ks:List Vh}(g3:ob.data=.dict es ep)(hk:es.toList.map (·.key)=ks.map Uc) :
  bD P w K tg (Itd a ob u ks) [it] it (λi h=>h.IsKeyIter it a i es.size ep) where
 mem:=by simp
 obj:=λi h st b hb=>by
  have e:b=it:=by simpa using hb
  subst e;obtain⟨o,e,c,d⟩:=st;exact⟨o,e,λv z=>by rw[d]at z;cases z⟩
 keep:=λi h h' st k=>st.at λo e=>k it g8 o e
 item:=by
  intro X hP hw hK hc i b5 s σ H E I hf st hg;subst hP hw hK;obtain⟨hq,hx⟩:=hg;obtain⟨g1,_⟩:=(show N1 X.prog X.w H s.heap a (.frz ob u)from I.hok a _ hq)
  obtain⟨f0,f1,f2,f3,f4,f5⟩:=hf it g8;have hl:es.size=ks.length:=by
   have:=congrArg iP hk;simpa using this
  have lt:i<es.size:=by omega
  have key:es[i].key=Uc ks[i]:=by
   have e1:(es.toList.map (·.key))[i]? = B3 es[i].key:=by simp[lt]
   rw[hk,Xy,bS hx]at e1;exact(B3.inj e1).symm
  refine Zrh st g1 g3 lt λh' st' sb=>?_;have I1:B6 X b5 σ H { s with heap:=h' }:=I.turned (t':=s.toks) (λb o hb e=>(sb.2 b hb).trans e) f0 f1 f3 f4 f5;obtain⟨o,e,c,d⟩:=id st';exact⟨_,rfl,Zue (s:={ s with heap:=h' }) e c d g9 ⟨.ref ks[i],H,I1,key,⟨rfl,ks[i],bS hx,rfl⟩,st',λb hb=>(hf b hb).1⟩⟩
 done:=by
  intro X hP hw hK hc i b5 s σ H E I hf st hg;subst hP hw hK;obtain⟨hq,hx⟩:=hg;obtain⟨g1,_⟩:=(show N1 X.prog X.w H s.heap a (.frz ob u)from I.hok a _ hq)
  obtain⟨f0,f1,f2,f3,f4,f5⟩:=hf it g8;have hl:es.size=ks.length:=by
   have:=congrArg iP hk;simpa using this
  exact Znj (I.ok.hd hc) st g1 g3 f8 λh' eb=>⟨rfl,I.turned (t':=s.toks) (λb o hb e=>eb b o hb e) f0 f1 f3 f4 f5⟩
 self:=λ_ _ _ _ _ st h=>Uds st h
variable{X:Cx}{tg:Vz}
nonrec def fK(f:EF):ItF:=λσ H=>(f σ H).bind λp=>match p.1 with
 |.ref n=>match p.2[n]? with
  |some (.dic b8 _)=>B3 ((b8.map (·.1),[(n,.dic b8 B1)]),p.2.set n (.dic b8 B1))
  |_=>B0
 |_=>B0
theorem Zko{K:Xa}{H:Hp}{ι:List Vh}{b8:List (D×D)}{xs:List (List Int×Vh×Vb)}(h:Vm (bF K H ι) b8 xs):Vm (Rep K H ι) (b8.map (·.1)) (xs.map λx=>V.ref x.2.1):=by
 induction h with
 |nil=>exact .nil
 |cons r t ih=>exact .cons r.2.1 ih
theorem Zfw{l:Vz}{f:EF}(hl:D6 X l f):eR X tg l (fK f):=by
 rintro b5 s σ H R I ⟨ι,c6,Hd,xs,own,c5,sr,hr,e,q⟩;obtain⟨⟨x,H1⟩,e1,e⟩:=Zo e;obtain⟨n,rfl⟩:∃n,x=.ref n:=by cases x<;>first |exact⟨_,rfl⟩ |cases e
 let P1:VK:=λv1 H1'=>∃ι1,Le X.K H ι H1' ι1/\C0 X.K H1' ι1 H1/\Rep X.K H1' ι1 (.ref n) v1
 refine D7 (hl b5 s σ H P1 I ⟨ι,c6,Hd,.ref n,H1,sr,hr,e1,λv1 H1' ι1 l1 h1 r1=>⟨ι1,l1,h1,r1⟩⟩) λv s1 zz=>?_;obtain⟨xv,H1',I1,rx,ι1,l1,h1,r1⟩:=zz;simp only at e;split at e
 ·rename_i b8 fz hn;cases e;obtain⟨a,rfl,ha⟩:=N4.mp r1;cases rx;obtain⟨z1,z2,ys,z3,PK,dd⟩:=tF I1 (h1.obj n a _ ha hn);obtain⟨ob,es,ep,g1,g2,g3,g4,g5,g6⟩:=dd;refine Znn z1 g1 g2 g3 ?_
  let u:HO:=.ext (N8 a ys)
  let H2:Hp:=upd H1' a (.frz ob u)
  have keys:es.toList.map (·.key)=(ys.map λx=>x.2.1).map Uc:=by rw[g4,K7,K7];rfl
  have da:N8 a ys s1.heap:=⟨ob,es,ep,g1,g2,g3,g4,g6⟩
  have okN:∀Hx,N1 X.prog X.w Hx s1.heap a (.frz ob u):=λHx=>⟨g1,da,⟨ob,g1⟩,λh1 h2 d k=>N8.keep d k⟩
  have froz:B6 X b5 σ H2 s1/\Le X.K H1' ι1 H2 ι1:=by
   cases fz with
   |false=>
    rw[d9 g8]at z3;exact⟨I1.write (t':=s1.toks) (h':=s1.heap) (x:=a) (e:=a) (by rw[z3];exact Tde) (.inl rfl) (λb q hb z=>z) ⟨ob,g1⟩ (okN _),Le.upd (dZ ha) z3 trivial _⟩
   |true=>
    rw[d7 rfl]at z3;obtain⟨o2,z3⟩:=z3;obtain⟨g1',_⟩:=(show N1 X.prog X.w H1' s1.heap a (.frz o2 (.ext (N8 a ys)))from I1.hok a _ z3)
    have eo:o2=ob:=B3.inj (g1'.symm.trans g1);have eH:H2=H1':=by
     funext b;by_cases hb:b=a
     ·subst hb;show upd H1' b (.frz ob u) b=H1' b;rw[T3,z3,eo]
     ·exact F3 hb
    rw[eH];exact⟨I1,Le.refl⟩
  obtain⟨I2,L2'⟩:=froz;have hr2:C0 X.K H2 ι1 (H1.set n (.dic b8 B1)):=by
   refine⟨by simp[h1.len],h1.nd,λm b oc m1 m2=>?_⟩;by_cases hm:n=m
   ·subst hm;rw[ha]at m1;cases m1;rw[vV]at m2;rw[d7 rfl]at m2;split at m2
    ·cases m2;exact⟨z1,z2,ys,by rw[d7 rfl];exact⟨ob,T3⟩,Prd.imp PK λp x _ z=>⟨z.1,z.2.1.mono L2',let ⟨v,w1,w2⟩:=z.2.2;⟨v,w1,w2.mono L2'⟩⟩⟩
    ·cases m2
   ·rw[Z6 hm]at m2;have hb:b≠a:=λz=>by
     subst z;exact hm ((Wgh (Xg.mp ha).1 h1.nd).mp (ha.trans m1.symm))
    exact(h1.obj m b oc m1 m2).step L2'.toLw (F3 hb)
  have I3:B6 X b5 σ H2 { s1 with heap:=s1.heap.push { cls:=.type "dict_keyiterator",data:=.fields #[.ref a,.int 0 0,.int es.size 0,.int ep 0] } }:=I2.kept (t':=s1.toks) λb o e=>Xb _ e;refine⟨s1.heap.objs.size,[s1.heap.objs.size],_,Itd a ob u (ys.map λx=>x.2.1),H2,rfl,I3,Ztn a _ g3 keys,⟨_,Xi _ rfl,rfl,rfl⟩,λb hb=>?_,?_⟩
  ·have e:b=s1.heap.objs.size:=by simpa using hb
   subst e;exact I2.fpOk (Xd _) (I2.hok.fresh (Xd _))
  ·have fa:H2 a=B3 (.frz ob u):=T3;have pk:=Zko PK;refine q _ H2 ι1 (l1.trans L2') hr2 ⟨λi H3 ι3 Hd3 l3 h3 _ hi=>⟨l3.fr _ _ _ fa,?_⟩,λi H3 ι3 Hd3 d x H4 l3 h3 _ hd y=>?_,λi H3 ι3 Hd3 l3 h3 _ hi=>⟨l3.fr _ _ _ fa,?_⟩⟩
   ·have:=Prd.len PK;simp only[Xj]at hi ⊢;omega
   ·obtain⟨rfl,b,hb,rfl⟩:=y;obtain⟨v,hv,rv⟩:=Prd.get pk hd;have ev:v=.ref b:=by
     rw[Xy]at hv hb;cases hy:ys[i]? with
     |none=>rw[hy]at hv;cases hv
     |some yv=>rw[hy]at hv hb;cases hv;cases hb;rfl
    subst ev;exact⟨ι3,Le.refl,h3,(rv.mono L2').mono l3⟩
   ·have:=Prd.len PK;simp only[Xj]at hi ⊢;omega
 ·cases e
variable{X:Cx}
variable{X:Cx}{tg:Vz}
nonrec def cC(t:TF)(b:SF):Nat->SF
 | 0=>λ_ _=>B0
 |n+1=>λσ H=>(t σ H).bind λp=>if p.1=B1 then (b σ p.2).bind λq=>match q.1 with
   |.nx=>cC t b n q.2.1 q.2.2
   |.ct=>cC t b n q.2.1 q.2.2
   |.bk=>B3 (.nx,q.2.1,q.2.2)
   |.rt d=>B3 (.rt d,q.2.1,q.2.2)
  else B3 (.nx,σ,p.2)
section
variable{X:Cx}{c:Vz}{pos:Pos}
theorem Zqt{body:List D2}{t:TF}{b:SF}{n:Nat}(hp:lN (Vi X.prog X.w) X.A X.env X.xe)(hc:Y5 X c t)(hb:V2 X body b):V8 X (.While c body [] pos) (cC t b n):=by
 refine cA (Zt3 hp hc hb) λE σ H zz=>?_;obtain⟨ι,c6,Hd,fl,σf,Hf,s,hr,e,q⟩:=zz;refine⟨λm σ' H'=>∃c7 c8 c5,Le X.K H ι H' c7/\D4 X.K H' c7 σ' c8/\C0 X.K H' c7 c5/\cC t b m c8 c5=B3 (fl,σf,Hf),⟨n,ι,c6,Hd,Le.refl,s,hr,e⟩,?_⟩;rintro m σ1 H1 ⟨ι1,σd1,Hd1,l1,s1,h1,e1⟩;cases m with
 |zero=>cases e1
 |succ m=>
  rw[cC]at e1;obtain⟨⟨x,H2⟩,e2,e1⟩:=Zo e1;refine⟨ι1,σd1,Hd1,x,H2,s1,h1,e2,λH3 ι3 l3 h3=>?_⟩;cases x with
  |true=>
   rw[d7 rfl];dsimp only at e1;rw[d7 rfl]at e1;obtain⟨⟨f4,σ4,H4⟩,e4,e1⟩:=Zo e1;refine⟨λσ' H'=>∃c7 c8 c5,Le X.K H ι H' c7/\D4 X.K H' c7 σ' c8/\C0 X.K H' c7 c5/\cC t b m c8 c5=B3 (fl,σf,Hf),λσ' H' p=>⟨m,Web m,p⟩,?_⟩;refine⟨ι3,σd1,H2,f4,σ4,H4,s1.mono l3,h3,e4,λσ6 H6 ι6 l6 h6 s6=>?_⟩;have L:Le X.K H ι H6 ι6:=(l1.trans l3).trans l6;cases f4 with
   |nx=>exact⟨ι6,σ4,H4,L,s6,h6,e1⟩
   |ct=>exact⟨ι6,σ4,H4,L,s6,h6,e1⟩
   |bk=>cases e1;exact q σ6 H6 ι6 L h6 s6
   |rt d=>cases e1;exact q σ6 H6 ι6 L h6 s6
  |false=>
   rw[d9 g8];dsimp only at e1;rw[d9 g8]at e1;cases e1;exact q σ1 H3 ι3 (l1.trans l3) h3 (s1.mono l3)
end
nonrec def Ycu(scope:P4)(x:Str):Bool :=
 (scope.kind==.function)&&scope.names.all (λy=>y.2 != .cell&&y.2 != .free)&&scope.names.all (λy=>y.2 != .local||scope.names.lookup y.1==B3 .local)&&(scope.names.lookup x==B3 .local)
theorem Ybh{X:Cx}{scope:P4}{x:Str}(h:Ycu scope x=B1):J4 X scope x [] []:=by
 unfold Ycu at h;simp only[V6,vU,Wei,bne_iff_ne,ne_eq,beq_iff_eq]at h;obtain⟨⟨⟨a,b⟩,c⟩,d⟩:=h;exact⟨a,λy hy=>(b y hy).1,λy hy hl=>(c y hy).resolve_left λz=>z hl,d,λy hy hf=>absurd hf (b y hy).2,by simp,rfl,λj y hj=>by simp at hj⟩
nonrec def nI(h:C5)(L:Vh):List (Vh×Obj):=(V4 h.objs.size).filterMap λa=>if a=L then B0 else (h.get? a).map λo=>(a,o)
theorem Zkv{h:C5}{L b:Vh}{o:Obj}(hb:b≠L)(e:h.get? b=B3 o):(b,o)∈nI h L:=by
 refine oW.mpr ⟨b,oO.mpr (Xh e),?_⟩;rw[d9 hb,e];rfl
theorem oC{h:C5}{L:Vh}{p:Vh×Obj}(hp:p∈nI h L):h.get? p.1=B3 p.2/\p.1≠L:=by
 obtain⟨a,_,e⟩:=oW.mp hp;split at e
 ·cases e
 ·rename_i ne;obtain⟨o,e1,rfl⟩:=Zm e;exact⟨e1,ne⟩
theorem nM(b:Vh):({}:C5).get? b=B0:=by
 cases e:({}:C5).get? b with
 |none=>rfl
 |some o=>exact absurd (Xh e) (Wej _)
nonrec def M9(i:Int):Int:=if i<0 then -i else i
section
variable{prog:Vl}{w:Vs}{A:Vo}{E:Vb->Vd->Prop}{s:Vd}
theorem Zvq{l L:Vh}{vs:List Vb}{ns:List Int}{m:Str->Option Vb}{Q:Vb->Vd->Prop}(hn:s.heap.Ns L m)(hI:Vw vs ns)(h64:vs.length<64)
  (hcol:∀R:List Vb->Vd->Prop,R vs { s with heap:=(s.heap.push (Vp "list" #[] 0)).update s.heap.objs.size (Ud (· ++ vs.toArray)) }->Vk (Vi prog w) A.in1 (collect (.ref l)) R E s)
  (h:∀h' tk out c,h'.Ns L m->(∀b o,b≠L->s.heap.get? b=B3 o->h'.get? b=B3 o)->h'.get? (s.heap.objs.size+1)=B3 (Vp "list" out c)->KskOut B2 (ns.map M9) vs out.toList->Q (.ref (s.heap.objs.size+1)) { s with heap:=h',toks:=tk }) :
  Vk (Vi prog w) A (call (.builtin "sorted") [.ref l] [(Ue "key",.builtin "abs")]) Q E s:=by
 have sl:vs.length<=sizeLine:=by rw[Vx];omega
 have le:ns.length=vs.length:=hI.length.symm;have lt:=hn.lt
 let h1:C5:=(s.heap.push (Vp "list" #[] 0)).update s.heap.objs.size (Ud (· ++ vs.toArray))
 have z1:h1.objs.size=s.heap.objs.size+1:=(Wec ..).trans (Uej ..);have at2:(h1.push (Vp "list" vs.toArray 0)).get? (s.heap.objs.size+1)=B3 (Vp "list" vs.toArray 0):=by rw[<- z1];exact Xi _ rfl
 have kp:∀b o,s.heap.get? b=B3 o->(h1.push (Vp "list" vs.toArray 0)).get? b=B3 o:=λb o q=>by
  have hb:b<s.heap.objs.size:=Xh q;refine Xb _ ?_;show Heap.get? (Heap.update _ _ _) b=B3 o;rw[Wek _ _ _ _ (Xp hb)];exact Xb _ q
 have F0:Fr {} L s.heap m:=⟨hn,λb o e=>absurd ((nM b).symm.trans e) g8,R4 _⟩
 have N0:News {} L s.heap (nI s.heap L):=λp hp=>⟨(oC hp).1,(oC hp).2,nM _⟩
 refine Ubj pH pL pK (ksk_s1 _ _) ?_;unfold Builtin.«sorted»;refine Va (m:=pF "sorted" 1 1 _) (Vc (Va (hcol _ (Va (dD ?_ sl)))));show Vk _ _ _ _ _ { s with heap:=h1.push (Vp "list" vs.toArray 0) };rw[show ((s.heap.push (Vp "list" #[] 0)).update s.heap.objs.size (Ud (· ++ vs.toArray))).objs.size=s.heap.objs.size+1 from z1];refine Va (Vq (Ucd slot_list_sort ⟨_,at2,rfl⟩ entry_list_sort ?body (ksk_l1 _ _)))
 case body=>
  show Vk (Vi prog w) A.in1.in1 (Builtin.«list.sort» ⟨[.ref (s.heap.objs.size+1)],[(Ue "key",.builtin "abs")]⟩) _ _ _;rw[ksk_t4];refine ksk_sort (s:={ s with heap:=h1.push (Vp "list" vs.toArray 0) }) (kz:=ns.map M9) (news:=nI s.heap L) (F0.kept kp) (N0.grown kp) at2 (vO (gA lt)) (nM _) (λp hp=>Xp (gA (Xh (oC hp).1)))
   (by rw[Xj];exact le) h64 (λi v k hv hk hh tk own F N=>?_) λh' tk out c F' N' K'=>⟨_,rfl,?_⟩
  ·obtain⟨n,t,rfl,e⟩:=hI.at i v hv;rw[Xy,e]at hk;cases hk;exact Uem λu tk'=>Tdm F N λp hp=>hp
  ·refine Vc ⟨_,rfl,h h' tk out c F'.ns (λb o hb e=>?_) ?_ K'⟩
   ·exact(N' _ (Xv _ (Zkv hb e))).1
   ·exact(N' _ (iU ..)).1
theorem Ze8{l:Vh}{vs:List Vb}{R:List Vb->Vd->Prop}(ht:Q0 s.heap l vs.toArray)(hz:vs.length<=sizeLine)
  (h:R vs { s with heap:=(s.heap.push (Vp "list" #[] 0)).update s.heap.objs.size (Ud (· ++ vs.toArray)) }):Vk (Vi prog w) A (collect (.ref l)) R E s:=by
 obtain⟨o,ho,hc,n,hd⟩:=ht;have ho2:(s.heap.push (Vp "list" #[] 0)).get? l=B3 o:=Xb _ ho;have hN:(s.heap.push (Vp "list" #[] 0)).get? s.heap.objs.size=B3 (Vp "list" #[] 0):=Xi _ rfl;unfold collect;refine Va (Ucl (dF Ubv (show Vk _ _ (do again (.builtin "list.__iadd__" ⟨[<- wK [],.ref l],[]⟩)) _ _ s from Va (dD (Vc ⟨xJ _ j0,dF Uda ?_⟩)))));show Vk _ _ (Uk (.ref s.heap.objs.size) (.ref l) (.ref s.heap.objs.size)) _ _ { s with heap:=_ };unfold Uk;refine Va (wV (T := "tuple") ⟨o,ho2,hc⟩ ?_);rw[d7 g8];refine Va (pJ ho2 hd (Va (pJ (xs := #[]) (n:=0) hN rfl ?_)));rw[d9 g8];refine Va (lR (xs := #[]) (n:=0) hN rfl (Vc ?_) (R4 _) (by show ((#[]:Array Vb)++vs.toArray).size<=sizeLine+1;rw[Wgj,Xk];exact N2 g8 (Nat.le_succ_of_le hz)));refine Va (Uei (pN hN _) ?_);show Vk _ _ (pure (((#[]:Array Vb)++vs.toArray).toList)) R E _;rw[Array.empty_append,List.toList_toArray];exact Vc h
end
theorem Zzh{vs:List Vb}{ns:List Int}(h:Vw vs ns):∀p∈(ns.map M9).zip vs,∃n t,p=(M9 n,.int n t):=by
 induction h with
 |nil=>intro p hp;simp at hp
 |cons n t _ ih=>
  intro p hp;rw[Xx,vW]at hp;rcases Xn.mp hp with rfl |hp
  ·exact⟨n,t,rfl⟩
  ·exact ih p hp
nonrec def mR(p:Int×Vb):Int:=match p.2 with
 |.int n _=>n
 |_=>0
theorem Zyg{vs:List Vb}{ns:List Int}(h:Vw vs ns):((ns.map M9).zip vs).map mR=ns:=by
 induction h with
 |nil=>rfl
 |cons n t _ ih=>rw[Xx,vW,Xx,ih];rfl
theorem Zmu:∀ps:List (Int×Vb),(∀p∈ps,∃n t,p=(M9 n,.int n t))->Vw (ps.map Prod.snd) (ps.map mR)/\(ps.map mR).map M9=ps.map Prod.fst
 |[],_=>⟨.nil,rfl⟩
 |p::ps,h=>by
  obtain⟨n,t,rfl⟩:=h p g8;obtain⟨a,b⟩:=Zmu ps λq hq=>h q (by simp[hq]);exact⟨.cons n t a,by rw[Xx,Xx,Xx,b];rfl⟩
nonrec def O5(ns:List Int):List Int:=ns.mergeSort λa b=>decide (M9 a<=M9 b)
theorem uH(ns:List Int):(O5 ns).Perm ns:=oX ..
theorem Zmy(ns:List Int):(O5 ns).Pairwise λa b=>M9 a<=M9 b:=by
 have h:=wD (le:=λa b:Int=>decide (M9 a<=M9 b)) (by intro a b c h1 h2;simp at *;omega) (by intro a b;simp;omega) ns;exact h.imp (by intro a b h;simpa using h)
theorem Zys{x y:List Int}(h:x.map M9=y.map M9)(hi:∀a∈x,∀b∈y,M9 a=M9 b->a=b):x=y:=by
 induction x generalizing y with
 |nil=>cases y with
  |nil=>rfl
  |cons _ _=>cases h
 |cons a x ih=>cases y with
  |nil=>cases h
  |cons b y=>
   rw[Xx,Xx]at h;obtain⟨h1,h2⟩:=P9.inj h;rw[hi a g8 b g8 h1,ih h2 λc hc d hd=>hi c (by simp[hc]) d (by simp[hd])]
theorem Zrq{ns:List Int}(h:(ns.map M9).Nodup):∀a∈ns,∀b∈ns,M9 a=M9 b->a=b:=by
 induction ns with
 |nil=>intro a ha;cases ha
 |cons n r ih=>
  rw[Xx,fY]at h;intro a ha b hb e;rcases Xn.mp ha with h1 |h1<;>rcases Xn.mp hb with h2 |h2
  ·rw[h1,h2]
  ·exact absurd (Xr.mpr ⟨b,h2,by rw[<- e,h1]⟩) h.1
  ·exact absurd (Xr.mpr ⟨a,h1,by rw[e,h2]⟩) h.1
  ·exact ih h.2 a h1 b h2 e
theorem Zwa{vs out:List Vb}{ns:List Int}(h:Vw vs ns)(hn:(ns.map M9).Nodup)(k:KskOut B2 (ns.map M9) vs out):Vw out (O5 ns):=by
 obtain⟨ps,hp,rfl,hw⟩:=k;obtain⟨a,b⟩:=Zmu ps λp hp'=>Zzh h p (hp.mem_iff.mp hp');have c:(ps.map mR).Perm ns:=by rw[<- Zyg h];exact hp.map mR
 have d:ps.map mR=O5 ns:=by
  refine Zys (Zh4 ((c.map M9).trans ((uH ns).map M9).symm) ?_ ?_) λx hx y hy e=>Zrq hn x (c.mem_iff.mp hx) y ((uH ns).mem_iff.mp hy) e
  ·rw[b,lG];simpa using hw
  ·rw[lG];exact Zmy ns
 rw[<- d];exact a
theorem uB{X:Cx}{b5:List (Vh×Obj)}{σ:L2.St}{H:Hp}{s:Vd}{h':C5}{a:Vh}{o:HO}{t':Nat}(I:B6 X b5 σ H s)(k:∀b u,b≠X.env.locals->s.heap.get? b=B3 u->h'.get? b=B3 u)
  (ns:∀m,s.heap.Ns X.env.locals m->h'.Ns X.env.locals m)(hp:s.heap.objs.size<=a)(new:N1 X.prog X.w (upd H a o) h' a o):B6 X b5 σ (upd H a o) { s with heap:=h',toks:=t' }:=by
 have hn:=I.hok.fresh hp;have there:∀b u,s.heap.get? b=B3 u->∃o',h'.get? b=B3 o':=λb u e=>by
  by_cases hb:b=X.env.locals
  ·subst hb;obtain⟨m,hm,_⟩:=I.loc;obtain⟨o,_,_,ho,_⟩:=ns m hm;exact⟨o,ho⟩
  ·exact⟨u,k b u hb e⟩
 refine I.step (g':=s.gens) (d':=s.drawn) (ch:=[]) (λ_ z=>nomatch z) (λb u hb _ _ e _=>k b u hb e) (λb u hb _ _ e _=>⟨u.slots,k b u hb e⟩) (λb u _ e n=>?_) (λb u _ e=>there b u e) (λb xs q=>?_) (λb u xs q=>?_) (λb ps q=>⟨#[],?_⟩) ns (λb u e=>?_) I.bare
 ·rw[F3 (Xp (Xo (Xh e) hp))];exact n
 ·rw[F3 (S4 q hn)];exact q
 ·rw[F3 (S4 q hn)];exact q
 ·rw[F3 (S4 q hn),q];simp
 ·by_cases hb:b=a
  ·subst hb;rw[T3]at e;cases e;exact new
  ·rw[F3 hb]at e;have nL:∀c,(c=b\/H c=B3 (.own b))->c≠X.env.locals:=λc hc z=>by
    subst z;have:=I.free;rcases hc with rfl |hc
    ·rw[this]at e;cases e
    ·rw[this]at hc;cases hc
   exact(I.hok b u e).stay (λc v hc q=>k c v (nL c hc) q) (λc q=>by rw[F3 (S4 q hn)];exact q) λc xs q=>by rw[F3 (S4 q hn)];exact q
nonrec def sS:FF:=λds H=>match ds with
 |[d]=>(P6 d H).bind λxs=>(R0 xs).bind λns=>if ns.length<64/\(ns.map M9).Nodup then B3 (.ref H.length,H++[.lst ((O5 ns).map .int)])else B0
 |_=>B0
theorem Zso{X:Cx}{a:Vz}{f:AF}{p p2 kp pos:Pos}(hg:Gl X "sorted")(hm:X.mg "sorted" = B0)(hg2:Gl X "abs")(hm2:X.mg "abs" = B0)(ha:O2 X [a] f)(hs:Vg [a] X.env=[(B2,eval a X.env)]:=by rfl) :
  D6 X (.Call (.Name "sorted" p) [a] [⟨B3 "key",.Name "abs" p2,kp⟩] pos) (E9 sS f):=by
 rintro b5 s σ H Q I ⟨ι,c6,Hd,d,c5,sr,hr,e,q⟩;obtain⟨⟨ds,H1⟩,e1,e⟩:=Zo e;dsimp only at e;unfold sS at e;split at e
 ·rename_i d0;obtain⟨ys,e2,e⟩:=Zo e;obtain⟨ns,e3,e⟩:=Zo e;split at e
  ·rename_i hc;show Vk _ _ (do callWith pos (<- eval (.Name "sorted" p) X.env) [] (K8 pos (Vg [a] X.env)) (pC pos (pI [⟨B3 "key",.Name "abs" p2,kp⟩] X.env))) _ _ _;refine Va (dR I hg hm oE (Ubw (by rw[hs];rfl) rfl ?_));have hA:=ha pos b5 s σ H (λvs H'=>∃c7,Le X.K H ι H' c7/\C0 X.K H' c7 H1/\Vm (Rep X.K H' c7) [d0] vs) I ⟨ι,c6,Hd,_,_,sr,hr,e1,λvs H' c7 l h P=>⟨c7,l,h,P⟩⟩;rw[hs]at hA ⊢;refine Ueo rfl (D7 hA λus s1⟨vs,H2,I2,r2,ι2,l2,h2,P2⟩=>kws_cons (dR I2 hg2 hm2 Zrv (kws_nil ?_)));obtain⟨v,rfl,r⟩:=U0 P2;obtain⟨u,rfl,ru⟩:=bH r2;obtain⟨ad,ws,rfl,hq,P3⟩:=iD h2 r e2;cases ru;have ev:=tZ e3 P3;subst ev;show Vk _ _ (call (.builtin "sorted") [.ref ad] [(Ue "key",.builtin "abs")]) _ _ _;obtain⟨m,hn,_⟩:=I2.loc;have hits:∃b9:List Vb,D5 (ns.map V.int) b9/\(∀R:List Vb->Vd->Prop,R b9 { s1 with heap:=(s1.heap.push (Vp "list" #[] 0)).update s1.heap.objs.size (Ud (· ++ b9.toArray)) }->Vk (Vi X.prog X.w) X.A.in1 (collect (.ref ad)) R X.xe s1):=by
    rcases hq with hq |hq
    ·obtain⟨b9,ri,pl,hz⟩:=I2.list hq;exact⟨b9,ri,λR hR=>Uep pl.isList hR (by rw[<- ri.length];exact hz)⟩
    ·obtain⟨b9,ri,pl,hz⟩:=I2.tuple hq;exact⟨b9,ri,λR hR=>Ze8 pl (by rw[<- ri.length];exact hz) hR⟩
   obtain⟨b9,ri,hcol⟩:=hits;have il:b9.length=ns.length:=by rw[<- ri.length,Xj]
   refine Zvq hn (oD ri) f8 hcol λh' tk out c hn' kk hat K'=>?_;have hO:=Zwa (oD ri) hc.2 K';have hl:((O5 ns).map V.int).length<=sizeLine:=by
    rw[Xj,(uH ns).length_eq];have:sizeLine=16777216:=Vx;omega
   have hp0:H2 (s1.heap.objs.size+1)=B0:=I2.hok.fresh (Nat.le_succ _);refine⟨.ref (s1.heap.objs.size+1),_,uB (o:=.lst ((O5 ns).map V.int)) I2 kk (λm' hm'=>by rw[hm'.eq_nsMap,<- hn.eq_nsMap];exact hn') (Nat.le_succ _) ⟨hl,out.toList,c,Zhd hO,by simpa using hat⟩,rfl,?_⟩;have hz2:((O5 ns).map D.int).length<=sizeLine:=by simpa using hl
   exact(cQ h2 (Zh1 (O5 ns)) (show O7 ((O5 ns).map D.int) H1=B3 (d,c5)by unfold O7;rw[d7 hz2,e]) (λv H' c7 l h r=>q v H' c7 (l2.trans l) h r)).2 _ hp0
  ·cases e
 ·cases e
section
variable{X:Cx}{e:Vz}{pos:Pos}
nonrec def sErr:SF:=λ_ _=>B0
theorem Zzc{st:D2}:V8 X st sErr:=by
 rintro b5 s σ H E I ⟨ι,c6,Hd,fl,c8,c5,_,_,e,_⟩;cases e
end
nonrec def dN(b8:List (Int×D))(k:Int)(v:D):List (Int×D):=if b8.any (λp=>p.1=k)=B1 then b8.map (λp=>if p.1=k then (p.1,v)else p)else b8++[(k,v)]
nonrec def hW(b8:List (Int×D))(k:Int):Option D:=(b8.find? λp=>p.1=k).map (·.2)
nonrec def fE(x:D)(H:HD):Option (List (Int×D)):=match x with
 |.ref n=>match H[n]? with
  |some (.dci b8)=>B3 b8
  |_=>B0
 |_=>B0
nonrec def iinD:F2:=λx y H=>(fE y H).bind λb8=>match x with
 |.int k=>B3 (.bl (hW b8 k).isSome,H)
 |_=>B0
theorem Zqp{x:D}{Hd:HD}{b8:List (Int×D)}(e:fE x Hd=B3 b8):∃n,x=.ref n/\Hd[n]? = B3 (.dci b8):=by
 cases x<;>simp only[fE]at e<;>try cases e
 rename_i n;split at e
 ·rename_i h;cases e;exact⟨n,rfl,h⟩
 ·cases e
section
variable{K:Xa}{H:Hp}{ι:List Vh}
theorem Zuf{b8:List (Int×D)}{xs:List (Int×Vb)}(h:Vm (fF K H ι) b8 xs)(k:Int):b8.any (λp=>p.1=k)=xs.any (λp=>p.1=k):=by
 induction h with
 |nil=>rfl
 |cons a b ih=>rw[oN,oN,ih,a.1]
theorem Zu3{b8:List (Int×D)}{xs:List (Int×Vb)}{k:Int}{d:D}{v:V}{u:Vb}(h:Vm (fF K H ι) b8 xs)(r:E4 v u)(q:Rep K H ι d v):Vm (fF K H ι) (b8.map (λp=>if p.1=k then (p.1,d)else p)) (xs.map (λp=>if p.1=k then (p.1,u)else p)):=by
 induction h with
 |nil=>exact .nil
 |cons a b ih=>
  refine .cons ?_ ih;dsimp only;rw[a.1];split
  ·exact⟨rfl,v,r,q⟩
  ·exact a
theorem Zud{b8:List (Int×D)}{xs:List (Int×Vb)}{k:Int}{d:D}{v:V}{u:Vb}(h:Vm (fF K H ι) b8 xs)(r:E4 v u)(q:Rep K H ι d v):Vm (fF K H ι) (dN b8 k d) (lJ xs k u):=by
 unfold dN lJ;rw[Zuf h k];split
 ·exact Zu3 h r q
 ·exact Prd.append h (.cons ⟨rfl,v,r,q⟩ .nil)
theorem Zs2{b8:List (Int×D)}{xs:List (Int×Vb)}(h:Vm (fF K H ι) b8 xs)(k:Int):(hW b8 k=B0/\valueAt xs k=B0)\/∃d v u,hW b8 k=B3 d/\valueAt xs k=B3 u/\E4 v u/\Rep K H ι d v:=by
 unfold hW valueAt
 induction h with
 |nil=>exact .inl ⟨rfl,rfl⟩
 |cons a b ih=>
  rename_i p x ps xs';by_cases e:p.1=k
  ·have e2:x.1=k:=by rw[<- a.1];exact e
   obtain⟨_,v,r,q⟩:=a;exact .inr ⟨p.2,v,x.2,by rw[Wdw (by simpa using e)];rfl,by rw[Wdw (by simpa using e2)];rfl,r,q⟩
  ·have e2:¬ x.1=k:=by rw[<- a.1];exact e
   rw[Wdx (by simpa using e),Wdx (by simpa using e2)];exact ih
end
theorem Zub{p p2:Vl}{w w2:Vs}{es:List X5}{xs:List (Int×Vb)}(e:Pairs (fG p w) es xs):Pairs (fG p2 w2) es xs:=by
 induction e with
 |nil=>exact .nil
 |cons a b c ih=>exact .cons a b ih
theorem Zpf{h:C5}{a:Vh}{xs:List (Int×Vb)}{p:Vl}{w:Vs}(d:h.DictOf (fG p w) a xs):U4 a xs h:=λp2 w2=>by
 obtain⟨o,es,ep,e1,e2,e3,e4,e5,e6⟩:=d;refine⟨o,es,ep,e1,e2,e3,e4,?_,e6⟩;exact Zub e5
section
variable{X:Cx}
theorem Zw3{b5:List (Vh×Obj)}{σ:L2.St}{H:Hp}{s:Vd}{ι:List Vh}(I:B6 X b5 σ H s){a:Vh}{b8:List (Int×D)}(h:A4 X.K H ι a (.dci b8)):(a==bC)=B2/\∃xs,Vm (fF X.K H ι) b8 xs/\s.heap.DictOf (fG X.prog X.w) a xs:=by
 obtain⟨h1,h2,xs,h3,P⟩:=h;exact⟨h1,xs,P,(I.hok a _ h3).1 X.prog X.w⟩
end
section
variable{X:Cx}
theorem iinf:R6 X (S6 .In) iinD:=by
 rintro b5 s σ H x y v u Q I rx ry ⟨ι,dx,dy,Hd,d,c5,hr,r1,r2,e,q⟩;obtain⟨b8,e1,e⟩:=Zo e;split at e
 ·rename_i k _;obtain⟨rfl,rfl⟩:=N9.inj (B3.inj e);obtain⟨n,rfl,hn⟩:=Zqp e1;obtain⟨a,rfl,ha⟩:=N4.mp r2;simp at r1;subst r1;obtain⟨tok,rfl⟩:=rx;cases ry;obtain⟨h1,xs,P,dd⟩:=Zw3 I (hr.obj n a _ ha hn);refine wpAny_in_of (knd:=fG X.prog X.w) (k:=k) (Zkq (k:=k) (t:=tok)) h1 dd.mapOf ?_;have e3:(valueAt xs k).isSome=(hW b8 k).isSome:=by
   rcases Zs2 P k with ⟨z1,z2⟩ |⟨_,_,_,z1,z2,_⟩<;>rw[z1,z2]<;>rfl
  rw[e3];exact⟨.bl _,H,I.tok _,rfl,q _ H ι Le.refl hr g8⟩
 ·cases e
end
end DL
namespace L2
open PySem PySem.Spec PyProof.Rows
theorem N1.here{P:Vl}{w:Vs}{H:Hp}{h:C5}{a:Vh}{o:HO}(x:N1 P w H h a o):∃ob,h.get? a=B3 ob:=by
 cases o with
 |lst xs=>obtain⟨_,b9,n,_,e⟩:=x;exact⟨_,e⟩
 |tup xs=>obtain⟨_,b9,_,ob,e,_⟩:=x;exact⟨_,e⟩
 |dK b8=>obtain⟨_,_,vs,_,ob,es,ep,e,_⟩:=x;exact⟨_,e⟩
 |dT b8=>obtain⟨_,_,xs,_,ob,es,ep,e,_⟩:=x;exact⟨_,e⟩
 |set S n=>obtain⟨ob,es,ep,t,e,_⟩:=x;exact⟨_,e⟩
 |ins C dx fs=>obtain⟨_,_,_,e,_⟩:=x;exact⟨_,e⟩
 |own y=>obtain⟨ob,e⟩:=x;exact⟨_,e⟩
 |xd fs=>obtain⟨mA,⟨od,es,ep,e,_⟩,_⟩:=x;exact⟨_,e⟩
 |rng lo hi=>obtain⟨t,u,v,e⟩:=x;exact⟨_,e⟩
 |frz ob u=>obtain⟨e,_⟩:=x;exact⟨_,e⟩
 |tbl ps=>exact⟨_,x⟩
 |met f y=>exact⟨_,x⟩
 |ext φ=>obtain⟨_,e,_⟩:=x;exact e
end L2
namespace DL
open PySem PySem.Spec PyProof.Rows L2 PySem.W
structure T7(K:Xa)(mg:Str->Option Vb)(x:Str)(C:Vh):Prop where
 bound:mg x=B3 (.ref C)
 kp:cW K (.ref C)=B1
 inK:∃(bm:List Vb)(B newId initId:String),Wgc K C bm newId=B1/\ExcBaseFacts B newId initId bm
theorem Yal{K:Xa}{h:C5}{mg:Str->Option Vb}{x:Str}{C:Vh}{bmB:List Vb}{newId:String}(X:K.In h)(e:mg x=B3 (.ref C))(q:Wgc K C bmB newId=B1):OwnCls x C bmB newId mg h:=by
 have z:=q;unfold Wgc at z;split at z<;>try cases z
 rename_i d1 c1 l1 look;split at z<;>try cases z
 rename_i D tl s0 s1 s2 s3 nid s5 e1 e2;rw[V6,V6,V6,V6,V6]at z;obtain⟨⟨⟨⟨⟨a1,a2⟩,a3⟩,a4⟩,a5⟩,a6⟩:=z;have a1:D=C:=beq_iff_eq.mp a1;have a2:nid=newId:=beq_iff_eq.mp a2;have a6:=beq_iff_eq.mp a6;subst a1 a2;have here:=X _ _ look;have a7:l1 = #[s0,s1,s2,s3,B3 (.builtin nid),s5]:=by rw[<- e2]
 have a8:c1.hasDel=B2:=by simpa using a3
 subst a7;refine⟨e,tl,c1.ns,c1.name,c1.qualname,c1.bases,c1.hasDict,c1.slotNames,c1.subclasses,c1.abstract,c1.collection,d1,s0,s1,s2,s3,s5,_,?_,.of_isNs (isNs_of_in X a5),nsMap_none_of_in X a5 a6,tail_of_in X a4⟩;rw[here];unfold excClassObj;rw[<- e1,<- a8]
theorem sV{P:Vl}{w:Vs}{l:List Env}{H H1:Hp}{h0 h1 h2 B:C5}(u:Un (M7 l) [] H H1 h0 h1)(ok:M5 P w H1 h1)(bo:∀b o,h0.get? b=B3 o->b∉M7 l->∃o',B.get? b=B3 o'/\(H b=B0->o'=o))(bt:∀b ho,H1 b=B3 ho->∃o,h1.get? b=B3 o/\B.get? b=B3 o)
  (st:B.StaysIn h2)(up:h1.UpToSlots h2)(ff:h1.FunFrames B l):Un (M7 l) [] H H1 h0 h2/\M5 P w H1 h2:=by
 have fram:∀b o,b∈M7 l->h1.get? b=B3 o->∃sl,h2.get? b=B3 { o with slots:=sl }:=λb o z eb=>by
  obtain⟨_,o',g1,g3⟩:=ff.mem z;rw[eb]at g1;cases g1;exact up b o eb g3
 refine⟨⟨λb o e n nb _=>?_,λb o e n hb hx=>?_,u.free,λb o e hx=>?_,u.tups,u.frzs,u.tbls⟩,λb ho e=>?_⟩
 ·obtain⟨o',g,z⟩:=bo b o e nb;rw[z n]at g;exact st b o g
 ·obtain⟨sl,g⟩:=u.slot b o e n hb hx;obtain⟨sl',g'⟩:=fram b _ hb g;exact⟨sl',g'⟩
 ·by_cases z:b∈M7 l
  ·obtain⟨o1,g⟩:=u.there b o e hx;obtain⟨sl,g'⟩:=fram b o1 z g;exact⟨_,g'⟩
  ·obtain⟨o',g,_⟩:=bo b o e z;exact⟨o',st b o' g⟩
 ·refine(ok b ho e).stay (λc v hc g=>?_) (λ_ z=>z) (λ_ _ z=>z);have tk:∃hc,H1 c=B3 hc:=by
   rcases hc with rfl |hc
   ·exact⟨_,e⟩
   ·exact⟨_,hc⟩
  obtain⟨hc',tk⟩:=tk;obtain⟨o,g1,g2⟩:=bt c hc' tk;rw[g]at g1;cases g1;exact st c v g2
section
variable{X:Cx}{C:Vh}{st:D2}{sts:List D2}{e c:Vz}{pos np d5:Pos}{x:Str}
theorem Yca:T6 X sts λ_ _ _=>False:=λ_ _ _ _ _ _ h=>h.elim
end
end DL
namespace L2
open PySem PySem.Spec PyProof.Rows
theorem Zxv{X:Cx}{b5:List (Vh×Obj)}{σ:St}{H:Hp}{s:Vd}{M:bT}{A:Vo}{E:Vb->Vd->Prop}{i:Nat}{x:Str}{pos:Pos}{Q:Unit->Vd->Prop}(I:B6 X b5 σ H s)(hN:X.N.Nodup)(hi:X.N[i]? = B3 x)(hl:X.env.kindOf x=B3 .local)
  (h:∀s',B6 X b5 (σ.set i B0) H s'->Q () s'):Vk M A (do bindName X.env x .none;unbindBehindTheSuite X.env x pos) Q E s:=by
 obtain⟨m,hn,hv⟩:=id I.loc;refine wpAny_nameGoes_keeps hl hn (by rw[I.ok.kind];rfl) λh' v hn' hs=>h _ ?_;have old:∀b o,X.s₀.heap.get? b=B3 o->b≠X.env.locals:=λb o e=>Xp (Xo (Xh e) I.ok.above);have tr:∀b ho,H b=B3 ho->b≠X.env.locals:=λb ho e z=>by rw[z,I.free]at e;cases e
 refine⟨I.ok,I.os,I.bare,⟨λb o e n hb hx=>(hs.2 b (old b o e)).trans (I.base.keep b o e n hb hx),λb o e n hb hx=>?_,I.base.free,λb o e hx=>?_,I.base.tups,I.base.frzs,I.base.tbls⟩,⟨_,hn',λj y w e1 e2 e3=>?_⟩,λy c e=>?_,I.free,I.freeC,λp hp=>?_,λb ho e=>?_,by simpa using I.len⟩
 ·obtain⟨sl,g⟩:=I.base.slot b o e n hb hx;exact⟨sl,(hs.2 b (old b o e)).trans g⟩
 ·obtain⟨o',g⟩:=I.base.there b o e hx;exact⟨o',(hs.2 b (old b o e)).trans g⟩
 ·by_cases hj:j=i
  ·subst hj;rw[vV]at e2;split at e2
   ·split at e2<;>cases e2
   ·rename_i z;exact absurd rfl z
  ·rw[Z6 (Uj hj)]at e2;obtain⟨u,r,q⟩:=hv j y w e1 e2 e3;refine⟨u,r,?_⟩;rcases q with ⟨k,z⟩ |⟨k,c,z,g⟩
   ·have ne:y≠x:=λz=>hj (Zi5 hN e1 (z ▸ hi));exact .inl ⟨k,(d9 ne).trans z⟩
   ·exact .inr ⟨k,c,z,g.sameBut hs (I.cne y c z)⟩
 ·obtain⟨w,g⟩:=I.cell y c e;exact⟨w,g.sameBut hs (I.cne y c e)⟩
 ·obtain⟨e,n,ne,nf,d⟩:=I.pin p hp;exact⟨(hs.2 p.1 ne).trans e,n,ne,nf,d⟩
 ·refine(I.hok b ho e).stay (λc u hc g=>(hs.2 c ?_).trans g) (λ_ z=>z) (λ_ _ z=>z);rcases hc with rfl |hc
  ·exact tr _ _ e
  ·exact tr _ _ hc
end L2
namespace DL
open PySem PySem.Spec PyProof.Rows L2 PySem.W
structure Y6(K:Xa)(C:Vh):Prop where
 ga:findIn K (.ref C) "__getattribute__" = B3 (B3 (.builtin "BaseException.__getattribute__"))
 gr:findIn K (.ref C) "__getattr__" = B3 B0
 cl:findIn K (.ref C) "__class__" = B3 (B3 (.builtin "object.__class__"))
 gt:specialIn K (.builtin "object.__class__") "__get__" = B3 (B3 (.builtin "getset_descriptor.__get__"))
 tk:takesIn K (.builtin "object.__class__")=B3 B1
 mr:mroIn K C (.type "object")=B3 B1
 sb:subIn K (.ref C) (.type "BaseException")=B3 B1
 cs:(clsIn K C).isSome=B1
section
variable{prog:Vl}{w:Vs}{A:Vo}{E:Vb->Vd->Prop}{s:Vd}{K:Xa}{x C:Vh}{ox:Obj}
structure dJ(h:C5)(x:Vh)(ox:Obj)(C:Vh):Prop where
 at_:h.get? x=B3 ox
 cls:ox.cls=.ref C
theorem dJ.type{M:bT}{h:C5}(I:dJ h x ox C):Looks M h (lK (.ref x)) (.ref C):=by rw[<- I.cls];exact(Tdo I.at_).andThen .now
theorem Zta{M:bT}{h:C5}(L:Y6 K C)(X:K.In h):Looks M h (Tbs (.ref x) (.ref C) "__class__") (.bind (.builtin "getset_descriptor.__get__") (.builtin "object.__class__")):=by
 have a1:=Ueq (M:=M) X L.cl;have a2:=looks_specialIn (M:=M) X L.gt;have a3:=looks_takesIn (M:=M) X L.tk;unfold Tbs;refine a1.andThen ?_;refine Tdj (t:=Tdf (B3 (.builtin "object.__class__"))) a2 ?_;refine Tdj (t:=Tao (B3 (.builtin "object.__class__")) (B3 (.builtin "getset_descriptor.__get__"))) (a:=B3 (.builtin "getset_descriptor.__get__",.builtin "object.__class__")) ?_ (Looks.tag .now);unfold Tao;exact a3.andThen .now
theorem Zzd{R:Result->Vd->Prop}{tp:Vb}(X:K.In s.heap)(I:dJ s.heap x ox C)(hm:mroIn K C (.type "object")=B3 B1)(z:R (.ok (.ret (.ref C))) s):gF (Vi prog w) A (.call (.builtin "getset_descriptor.__get__") ⟨[.builtin "object.__class__",.ref x,tp],[]⟩) R s:=by
 obtain⟨h1,g1,d1,t1,o1⟩:=s;have a0:=I.type (M:=Vi prog w);have a1:=looks_mroIn (M:=Vi prog w) X hm;refine Ubx KF.slot_gs.plain KF.entry_gs ?_;refine KF.slot_gs.check _ _ _ _ _ _ _ _ KF.type_class (KF.args_gs _ _ _) ?_
 (unfold Builtin.«getset_descriptor.__get__» Tci;rw[dga_obj];refine Va (Vc ?_);unfold Tcg Tbq Tbt isInstance;simp only[KF.owner_class];repeat lk)
 have e1:=KF.entry_class;refine⟨xJ _ j0,dF e1 ?_⟩
 (unfold Builtin.«object.__class__» shownTypeOf;repeat lk);exact z
theorem Zrw{Q:Option Vb->Vd->Prop}(L:Y6 K C)(X:K.In s.heap)(I:dJ s.heap x ox C)(q:Q (B3 (.ref C)) { s with toks:=s.toks+1 }):Vk (Vi prog w) A (getAttr? (.ref x) "__class__") Q E s:=by
 obtain⟨hh,g,d,t,os⟩:=s;have L0:=I.type (M:=Vi prog w);have L1:=Ueq (M:=Vi prog w) X L.ga;have L2:=Ueq (M:=Vi prog w) X L.gr;have LF:=Zta (x:=x) (M:=Vi prog w) L X;have LS:=looks_subIn (M:=Vi prog w) X L.sb;unfold getAttr? getAttrBy? getAttrBy;refine Va (wpAny_mkText (Va (jH (Vq (Va (L0.at (Va (L1.at ?_))))))));show Vk _ _ (if (onTheHeap (Uc C)&&(xF "BaseException.__getattribute__" == xF "object.__getattribute__"))=B1 then _ else _) _ _ _;have n2:(xF "BaseException.__getattribute__" == xF "object.__getattribute__")=B2:=by decide +kernel
 rw[d9 (by rw[n2,Whg];exact cY)];unfold getAttrByItsOwn hookBefore;rw[d7 (by rfl)];refine Va (L2.at (Va (jH (Vq ?_))));unfold callGetattribute;rw[d9 (by exact cY)];unfold boundAndCalled;have LI:Looks (Vi prog w) hh (isInstance (.ref x) (.type "BaseException")) B1:=L0.andThen LS;rw[PySem.F.attr_ValueError.ga.bind (.ref x)];refine Va (Vc ?_);show Vk _ _ (call (.builtin "BaseException.__getattribute__") [.ref x,.str (Ue "__class__") t]) _ _ _;refine pG (Ubx PySem.F.attr_ValueError.ga.plain PySem.F.entry_bexc_ga ?_);have b1:builtinKind "BaseException.__getattribute__" = B3 .slot:=by decide +kernel
 have b2:splitId "BaseException.__getattribute__" = B3 ("BaseException","__getattribute__"):=by decide +kernel
 have b3:=PySem.F.args_bexc_ga (.ref x) (.str (Ue "__class__") t);simp only[checkBuiltinCall,b1,b2];refine Va (LI.at ?_)
 repeat (first |(with_reducible refine L0.at ?_) |(with_reducible refine LF.at ?_) |wp_step)
 exact Zzd (ox:=ox) X I L.mr (Vc (handed_on rfl (Vc q)))
theorem Zsm(L:Y6 K C):∃c dd cd sl,K.lookup C=B3 ⟨c,dd,.cls cd,sl⟩:=by
 have z:=L.cs;unfold clsIn at z;split at z
 ·rename_i e;exact⟨_,_,_,_,e⟩
 ·cases z
theorem Znt(L:Y6 K C):KitX K (.ref x) (.ref C) (λh=>dJ h x ox C) where
 ty:=λ_ _ _ I=>I.type
 it:=λM h X _=>by
  obtain⟨c,dd,cd,sl,e⟩:=Zsm L;intro A1 Q1 E1 s1 kp z;show Vk M A1 (isType (.ref C)) Q1 E1 s1;unfold isType loadHead;refine Va (wpAny_loadPart (kp C _ (X C _ e)) ?_);exact Vc z
 ne:=λh tp dd b9 n sl X g=>by
  obtain⟨c,d1,cd,s1,e⟩:=Zsm L;cases z:(Uc C==Uc tp)with
  |false=>rfl
  |true=>
   have y:C=tp:=Value.ref.inj (beq_iff_eq.mp z);subst y;have y:=X C _ e;rw[g]at y;cases y
 ca:=λX I z=>Zrw L X I z
end
theorem Yb4{x:V}{r:List V}{l:List Vb}(h:D5 (x::r) l):∃b t,l=b::t/\E4 x b/\D5 r t:=by
 cases h with
 |cons p P=>exact⟨_,_,rfl,p,P⟩
section
variable{X:Cx}
theorem Zpl:∀{cs:List Vh}{b9:List Vb},D5 (cs.map .ref) b9->b9=cs.map .ref:=by
 intro cs
 induction cs with
 |nil=>intro b9 rv;cases rv;rfl
 |cons a r ih=>
  intro b9 rv;obtain⟨b,t,rfl,p1,p2⟩:=Yb4 rv;have p1:b=Uc a:=p1;rw[p1,ih p2];rfl
nonrec def Ztk(cs:List Vh):TA:=λ_ H Q=>Q (cs.map .ref) H
theorem Zp7:PA X [] (Ztk []):=nF
theorem nB{x:Str}{c:Vh}{cs:List Vh}{es:List Vz}{p:Pos}(hg:Gl X x)(hm:X.mg x=B3 (.ref c))(h:PA X es (Ztk cs))(hd:(x==("__debug__" : Str))=B2:=by decide)(hs:Vg (.Name x p::es) X.env=(B2,eval (.Name x p) X.env)::Vg es X.env:=by rfl):PA X (.Name x p::es) (Ztk (c::cs)) :=
 fS (Zsr (v:=.ref c) hg hm rfl hd) h hs
end
section
variable{X:Cx}
theorem Zv8{st:D2}{t:TS}(h:PS X.nox st t):PS X st t:=by
 intro b5 s σ H D I q;refine Vr (h b5 s σ H D (I.wish _) q) (λf s1 z=>?_) λ_ _ z=>z.elim;cases f with
 |next=>obtain⟨σ1,H1,I1,z⟩:=z;exact⟨σ1,H1,I1.unwish,z⟩
 |brk=>obtain⟨σ1,H1,I1,z⟩:=z;exact⟨σ1,H1,I1.unwish,z⟩
 |cont=>obtain⟨σ1,H1,I1,z⟩:=z;exact⟨σ1,H1,I1.unwish,z⟩
 |ret u=>obtain⟨v,σ1,H1,I1,r,z⟩:=z;exact⟨v,σ1,H1,I1.unwish,r,z⟩
theorem Yas{es:List Vz}{t:TA}(h:PA X.nox es t):PA X es t:=by
 intro pos b5 s σ H Q I q;refine Vr (h pos b5 s σ H Q (I.wish _) q) (λus s1 z=>?_) λ_ _ z=>z.elim;obtain⟨vs,H1,I1,r,z⟩:=z;exact⟨vs,H1,I1.unwish,r,z⟩
end
theorem kP{K:Xa}{hp:C5}{mg:Str->Option Vb}{n:Str}{c:Vh}(X:K.In hp)(G:hp.Ns Vn mg)(e:W9 K Vn n=B3 (B3 (.ref c))):mg n=B3 (.ref c):=Whj X G e
end DL
namespace DL
open PySem PySem.Spec PyProof.Rows L2
theorem Ztd(b8:List (Int×D))(k:Int)(v:D):(dN b8 k v).length<=b8.length+1:=by unfold dN;split<;>simp
nonrec def sP:kG:=λo i v H=>match o,i with
 |.ref n,.int k=>match H[n]? with
  |some (.dci b8)=>if b8.length<sizeLine then B3 (H.set n (.dci (dN b8 k v)))else B0
  |_=>B0
 |_,_=>B0
section
variable{X:Cx}
theorem rW:Zxd X sP:=by
 rintro b5 s σ H o i v ov iv u Q I ro ri rv ⟨ι,od,id,vd,Hd,c5,hr,r1,r2,r3,e,q⟩;have hx:∃n k b8,od=.ref n/\id=.int k/\Hd[n]? = B3 (.dci b8)/\b8.length<sizeLine/\c5=Hd.set n (.dci (dN b8 k vd)):=by
  unfold sP at e;split at e
  ·rename_i n k;split at e
   ·rename_i b8 hn;split at e
    ·rename_i hl;cases e;exact⟨n,k,b8,rfl,rfl,hn,hl,rfl⟩
    ·cases e
   ·cases e
  ·cases e
 obtain⟨n,k,b8,rfl,rfl,hn,hl,rfl⟩:=hx;obtain⟨a,rfl,ha⟩:=N4.mp r1;have r2:i=.int k:=by simpa using r2
 subst r2;cases ro;obtain⟨tk,rfl⟩:=ri;obtain⟨h1,h2,xs,h3,P⟩:=hr.obj n a _ ha hn;have dd:U4 a xs s.heap:=((show N1 X.prog X.w H s.heap a (.ext (U4 a xs))from I.hok a _ h3)).1;have hz:xs.length<=sizeLine:=by rw[<- Prd.len P];exact h2
 refine wpAny_setItem_pairs (knd:=fG X.prog X.w) (k:=k) (hsz:=hz) (Zkq (k:=k) (t:=tk)) (dd X.prog X.w) λh' dd' hs=>?_;have L:Le X.K H ι (upd H a (.ext (U4 a (lJ xs k u)))) ι:=Le.upd (dZ ha) h3 trivial _;have dA:U4 a (lJ xs k u) h':=Zpf dd';obtain⟨ob,es,ep,g1,_⟩:=id dd';have ok:N1 X.prog X.w (upd H a (.ext (U4 a (lJ xs k u)))) h' a (.ext (U4 a (lJ xs k u))):=⟨dA,⟨ob,g1⟩,λh1 h2 d k=>U4.keep d k⟩
 have hr':C0 X.K (upd H a (.ext (U4 a (lJ xs k u)))) ι (Hd.set n (.dci (dN b8 k vd))):=by
  refine hr.upd ha h3 trivial ⟨h1,?_,_,T3,?_⟩
  ·have:=Ztd b8 k vd;omega
  ·exact Zud (Prd.imp P λp x _ z=>⟨z.1,let ⟨v,z1,z2⟩:=z.2;⟨v,z1,z2.mono L⟩⟩) rv (r3.mono L)
 exact⟨_,I.write (x:=a) (e:=a) (by rw[h3];exact Tde) (.inl rfl) (λb q hb z=>(hs.2 b hb).trans z) ⟨ob,g1⟩ ok,q _ ι L hr'⟩
nonrec def eDI:EF:=λ_ H=>B3 (.ref H.length,H++[.dci []])
theorem Zpt{pos:Pos}:D6 X (.Dict [] [] pos) eDI:=by
 rintro b5 s σ H Q I ⟨ι,c6,Hd,d,c5,sr,hr,e,q⟩;cases e;have hb:bC<s.heap.objs.size:=Wfp g9 (show Vn<s.heap.objs.size from(I.mod.glob.keeps I.bk).lt);have hp:=I.hok.fresh (Xd s.heap.objs.size);have dn:U4 s.heap.objs.size [] (s.heap.push { cls:=.type "dict",data:=.dict #[] }):=λp w=>Heap.DictOf.new (knd:=fG p w) s.heap;have ok:N1 X.prog X.w (upd H s.heap.objs.size (.ext (U4 s.heap.objs.size []))) (s.heap.push { cls:=.type "dict",data:=.dict #[] }) s.heap.objs.size (.ext (U4 s.heap.objs.size [])):=⟨dn,⟨_,Xi _ rfl⟩,λh1 h2 d k=>U4.keep d k⟩
 refine wpAny_Dict_empty ⟨.ref s.heap.objs.size,_,I.laid (a:=s.heap.objs.size) (o:=.ext (U4 s.heap.objs.size [])) (t':=s.toks) (λ_ _ q=>Xb _ q) (Xd _) ok,rfl,?_⟩;have hl:ι.length=Hd.length:=hr.len;exact q _ _ (ι++[s.heap.objs.size]) (Le.fresh1 hp _) (hr.new hp ⟨beq_eq_false_iff_ne.mpr (Uj (Xp hb)),R4 _,[],T3,.nil⟩) (N4.mpr ⟨_,rfl,by rw[<- hl];simp⟩)
end
open PySem.W (KasT kas_rev kas_asc kas_desc kas_tail3 kas_descPart kas_count kas_place kas_bin kas_sort)
section
variable{n:Nat}
variable(h0:0<n)
include h0
end
open PySem.W (KatLex KatGo)
section
variable{prog:Vl}{w:Vs}{A:Vo}{E:Vb->Vd->Prop}{s:Vd}
def J5(h:C5)(v:Vb)(ns:List Int):Prop:=∃a items,v=.ref a/\Q0 h a items/\Vw items.toList ns
def Zv2(κ:bX):Prop:=κ=tuples' B1\/κ=general'\/κ=oneType'
theorem Zst{ns ms:List Int}(h:ns=[]\/ms=[]):HT.lexLt ns ms=decide (ns.length<ms.length):=by
 rcases h with rfl |rfl
 ·cases ms<;>simp[HT.lexLt]
 ·cases ns<;>simp[HT.lexLt]
theorem Zwf{fin:Bool}{Q:Bool->Vd->Prop}:∀{vs ws:List Vb}{ns ms:List Int}(i:Nat),Vw vs ns->Vw ws ms->fin=decide (ns.length<ms.length)->Q (HT.lexLt ns ms) s->KatLex prog w A B1 fin Q (vs.zip ws) i s
 |_,_,_,_,i,.nil,hw,hf,q=>by
  rw[Zst (.inl rfl),<- hf]at q;rw[Wgg];exact Whc q
 |_,_,_,_,i,.cons a t hv,.nil,hf,q=>by
  rw[Zst (.inr rfl),<- hf]at q;rw[Wga];exact Whc q
 |_,_,_,_,i,.cons a t hv,.cons c u hw,hf,q=>by
  rw[vW];refine PySem.W.kat_cons ?_;rw[HT.lexLt_cons]at q;obtain⟨e,he,hiff⟩:=HT.eqAt_int A s a t c u;refine he prog w _ _ ?_;cases e with
  |true=>
   rw[d7 (hiff.mp rfl)]at q;exact PySem.W.kat_yes (Zwf (i+1) hv hw (by rw[hf];simp) q)
  |false=>
   rw[d9 (λz=>absurd (hiff.mpr z) cY)]at q;refine PySem.W.kat_no ?_;cases i with
   |zero=>exact oneLt_int q
   |succ i=>exact Whd _ _ (lt_int q)
theorem Yct{κ:bX}{x y:Vb}{ns ms:List Int}{Q:Bool->Vd->Prop}(hu:A.units+1<cLine)(hk:Zv2 κ)(hx:J5 s.heap x ns)(hy:J5 s.heap y ms)(q:Q (HT.lexLt ns ms) s):Vk (Vi prog w) A (keyLt' κ x y) Q E s:=by
 obtain⟨a,b9,rfl,ha,ia⟩:=hx;obtain⟨b,jts,rfl,hb,ib⟩:=hy;rcases hk with rfl |rfl |rfl
 ·obtain⟨o,e1,_,n,e2⟩:=id ha;obtain⟨o',f1,_,n',f2⟩:=id hb;refine PySem.W.kat_lt e1 e2 f1 f2 (Zwf 0 ia ib ?_ q);rw[<- ia.length,<- ib.length];simp
 ·exact Whd (.ref a) (.ref b) (HT.lt_tupInts ha hb ia ib (Wgk hu) q)
 ·rw[keyLt'_oneType,oneLt'_eq];simp only[if_true];obtain⟨⟨cls,dd,data,sl⟩,e1,ec,n,e2⟩:=id ha;obtain⟨⟨cls',dd',data',sl'⟩,f1,fc,n',f2⟩:=id hb;simp only at ec e2 fc f2;subst ec e2 fc f2;refine Va (wpAny_cRoomFor_or (.inr (Wgk hu)) ?_);refine Va (wpAny_callSpecialIfBound?_slot (name:=Ue "__lt__") ha.typeIs Taw (jG Taw ha.typeIs Tbx (Tbr _ _) (HT.tuple_lt_ints a b b9 jts n n' dd dd' sl sl' ns ms ia ib) ⟨e1,f1,?_⟩));exact xA q
theorem Zi0{M:bT}:∀{vs:List Vb}{nss:List (List Int)},Vm (J5 s.heap) vs nss->∃os:List (Option Vb),os.length=vs.length/\(∀o∈os,o=B0\/∃n t,o=B3 (.int n t))/\∀(Q:List (Option Vb)->Vd->Prop),Q os s->Vk M A (vs.mapM firstOfTuple') Q E s
 |_,_,.nil=>⟨[],rfl,(λ_ h=>by cases h),λQ q=>by rw[List.mapM_nil];exact Vc q⟩
 |_,_,.cons h t=>by
  obtain⟨os,l,ho,go⟩:=Zi0 (M:=M) t;obtain⟨a,b9,rfl,⟨ob,e1,e2,n,e3⟩,hi⟩:=h;have first:b9[0]? = B0\/∃n t,b9[0]? = B3 (.int n t):=by
   rw[<- bR];generalize b9.toList=l at hi;cases hi with
   |nil=>exact .inl rfl
   |cons n t _=>exact .inr ⟨n,t,rfl⟩
  refine⟨b9[0]? :: os,by simp[l],λo hm=>?_,λQ q=>?_⟩
  ·rcases Xn.mp hm with z |z
   ·rw[z];exact first
   ·exact ho o z
  ·rw[List.mapM_cons,PySem.W.kas_first_eq];refine Va (Va (oM.here (show oM M s.heap (lK (.ref a)) ob.cls from(oM.ld e1).andThen .now) ?_));rw[e2,d9 (by first |decide |simp)];refine Va (pJ e1 e3 (Vc ?_));exact Va (go _ (Vc q))
theorem Zts{M:bT}{vs:List Vb}{nss:List (List Int)}{Q:bX->Vd->Prop}(hv:Vm (J5 s.heap) vs nss)(hne:0<vs.length)(q:∀κ,Zv2 κ->Q κ s):Vk M A (keyKind' vs.toArray) Q E s:=by
 obtain⟨os,l,ho,go⟩:=Zi0 (A:=A) (E:=E) (M:=M) hv;rw[keyKind'_eq,Wey,map_eq_pure_bind];refine Va (Va (go _ (Vc ?_)));by_cases ha:(os.toArray.all λx=>x.isSome)=B1
 ·rw[d7 ha];refine Va (eI ?_);obtain⟨f,fs,ef⟩:∃f fs,os.toArray.filterMap id=(f::fs).toArray:=by
   cases os with
   |nil=>simp at l;omega
   |cons o r=>
    cases o with
    |none=>simp at ha
    |some f=>exact⟨f,r.filterMap id,by simp⟩
  have fi:∀v∈f::fs,∃n t,v=.int n t:=λv hm=>by
   have:v∈(os.toArray.filterMap id).toList:=by rw[ef];exact hm
   simp only[Array.toList_filterMap,oW,id_eq]at this;obtain⟨o,h1,h2⟩:=this;subst h2;rcases ho _ h1 with z |⟨n,t,z⟩
   ·cases z
   ·cases z;exact⟨n,t,rfl⟩
  rw[ef,oneTypeOnly'_eq,Wey,map_eq_pure_bind];refine Va (Va (Va (Wgv (r:=Ul "int") _ (λv hm Q' hq=>?_) (Vc ?_))))
  ·obtain⟨n,t,rfl⟩:=fi v hm;exact Vc hq
  ·have h1:((Whk (λ_=>Ul "int") (f::fs)).toArray.all λx=>x==Ul "int")=B1:=by
    simp
   have h0:(Whk (λ_=>Ul "int") (f::fs)).toArray[0]? = B3 (Ul "int"):=by simp
   rw[h0];simp only[h1,if_true];exact Vc (Vc (q _ (.inl (by first |rfl |decide))))
 ·rw[d9 ha];by_cases hb:(os.toArray[0]?.bind id).isSome=B1
  ·rw[d7 hb];exact Vc (q _ (.inr (.inl rfl)))
  ·rw[d9 hb];have ty:∀{vs:List Vb}{nss:List (List Int)},Vm (J5 s.heap) vs nss->∀v∈vs,∃a ob,v=.ref a/\s.heap.get? a=B3 ob/\ob.cls=.type "tuple" := by
    intro vs nss h
    induction h with
    |nil=>intro v hv;cases hv
    |cons h t ih=>
     intro v hv;rcases Xn.mp hv with z |z
     ·subst z;obtain⟨a,b9,rfl,⟨ob,e1,e2,n,e3⟩,hi⟩:=h;exact⟨a,ob,rfl,e1,e2⟩
     ·exact ih v z
   have tv:=ty hv;obtain⟨v,r,rfl⟩:∃v r,vs=v::r:=by
    cases vs with
    |nil=>simp at hne
    |cons v r=>exact⟨v,r,rfl⟩
   rw[oneTypeOnly'_eq,Wey,map_eq_pure_bind];refine Va (Va (Va (Wgv (r:=Ul "tuple") _ (λv hm Q' hq=>?_) (Vc ?_))))
   ·obtain⟨a,ob,rfl,e1,e2⟩:=tv v hm;refine oM.here (show oM M s.heap (lK (.ref a)) ob.cls from(oM.ld e1).andThen .now) ?_;rw[e2];exact hq
   ·have h1:((Whk (λ_=>Ul "tuple") (v::r)).toArray.all λx=>x==Ul "tuple")=B1:=by simp
    have h0:(Whk (λ_=>Ul "tuple") (v::r)).toArray[0]? = B3 (Ul "tuple"):=by simp
    rw[h0];simp only[h1,if_true];exact Vc (Vc (q _ (.inr (.inr rfl))))
end
open PySem.W (KdlSrc)
def gV(d:Vh)(es:Array X5)(ep:Nat)(h:C5):Prop:=(d==bC)=B2/\∃o,h.get? d=B3 o/\o.ExactDict/\o.data=.dict es ep
theorem gV.mv{d:Vh}{es:Array X5}{ep:Nat}{h h':C5}(x:gV d es ep h)(k:∀o,h.get? d=B3 o->h'.get? d=B3 o):gV d es ep h':=let ⟨a,o,e,r⟩:=x;⟨a,o,k o e,r⟩
section
variable{prog:Vl}{w:Vs}{A:Vo}{E:Vb->Vd->Prop}{s:Vd}
theorem Zs9(hh:A.handled=B0)(I d:Vh)(ne:d≠I)(es:Array X5)(ep:Nat) :
  Walks prog w A I [I,d] [I] es.size (λi v=>∃e,es[i]? = B3 e/\v=e.key) (λi h=>h.IsKeyIter I d i es.size ep/\gV d es ep h) where
 sub:=λb hb=>by simp at hb;simp[hb]
 frame:=λ_ _ _ st hk=>⟨st.1.at λo e=>hk I g8 o e,st.2.mv λo e=>hk d g8 o e⟩
 item:=λi s _ _ hi st hQ=>by
  obtain⟨_,ob,g1,g2,g3⟩:=st.2;refine Zrh st.1 g1 g3 hi λh' hit' hs'=>?_;exact hQ _ h' s.toks ⟨es[i],by simp[hi],rfl⟩ ⟨hit',st.2.mv λo e=>hs'.extBut d o ne e⟩ λb o hb e=>hs'.extBut b o (λh=>hb (by simp[h])) e
 done:=λs Q E st hQ=>by
  obtain⟨_,ob,g1,g2,g3⟩:=st.2;exact Znj hh st.1 g1 g3 (Xd _) λh' he'=>hQ h' s.toks λb o hb e=>he' b o (λh=>hb (by simp[h])) e
 self:=λ_ _ _ _ st r=>Uds st.1 r
theorem Yb6{d:Vh}{es:Array X5}{ep:Nat}:KdlSrc prog w "dict" d d es.size (λi v=>∃e,es[i]? = B3 e/\v=e.key) (gV d es ep) where
 type:=λ_⟨_,o,e,x,_⟩=>⟨o,e,x.1⟩
 there:=λ_⟨_,o,e,_⟩=>⟨Xh e,Xh e⟩
 keep:=λ_ _ x k=>x.mv λo e=>k d (.inl rfl) o e
 notList:=by decide
 notTuple:=by decide
 hint:=λ_ _ _ _⟨_,o,e,x,_⟩r=>PySem.W.kdl_hint_dict ⟨o,e,x.1⟩ r
 iter:=λ_ s hh x=>by
  obtain⟨h0,ob,g1,g2,g3⟩:=id x;exact⟨_,_,(λ_ _ hq=>Znn h0 g1 g2 g3 hq),Zs9 hh _ d (Xp (Xh g1)) es ep,⟨⟨_,Xi _ rfl,rfl,rfl⟩,x.mv λo e=>Xb _ e⟩⟩
theorem Zhy{d:Vh}{es:Array X5}{ep:Nat}{R:List Vb->Vd->Prop}(hh:A.handled=B0)(x:gV d es ep s.heap)(hz:es.size<=sizeLine)
  (h:∀h' tk,(∀b o,s.heap.get? b=B3 o->h'.get? b=B3 o)->s.heap.objs.size<=h'.objs.size->R (es.toList.map (·.key)) { s with heap:=h',toks:=tk }):Vk (Vi prog w) A (collect (.ref d)) R E s:=by
 have hN:(s.heap.push (Vp "list" #[] 0)).get? s.heap.objs.size=B3 (Vp "list" #[] 0):=Xi _ rfl;have dl:d<s.heap.objs.size:=let ⟨_,_,e,_⟩:=x;Xh e;unfold collect;refine Va (Ucl (dF Ubv (show Vk _ _ (do again (.builtin "list.__iadd__" ⟨[<- wK [],.ref d],[]⟩)) _ _ s from Va (dD (Vc ⟨xJ _ j0,dF Uda ?_⟩)))));show Vk _ _ (Uk (.ref s.heap.objs.size) (.ref d) (.ref s.heap.objs.size)) _ _ { s with heap:=s.heap.push (Vp "list" #[] 0) };rw[xK (show plainId "list.__iadd__" = B1 by decide +kernel)];have E1:Vk (Vi prog w) A.in1 (Uk (.ref s.heap.objs.size) (.ref d) (.ref s.heap.objs.size)) _ _ { s with heap:=s.heap.push (Vp "list" #[] 0) }:=Wgd (s:={ s with heap:=s.heap.push (Vp "list" #[] 0) }) (R:=λr s'=>r=.ok (.ret (.ref s.heap.objs.size))/\Vk (Vi prog w) A (load s.heap.objs.size) (λo s2=>∃xs ep,o.data=.seq xs ep/\R xs.toList s2) E s') (Yb6 (ep:=ep)) hh (x.mv λo e=>Xb _ e) s.heap.objs.size (Uj (Xp dl)) (Uj (Xp dl)) (.ref s.heap.objs.size) 0 hN (λh' tk c4 c k1 k2 hi=>by
  have ea:c4.toList=es.toList.map (·.key):=by
   apply Wgl;intro i;rw[Xy,bR,bR];by_cases hl:i<es.size
   ·have la:i<c4.size:=by rw[hi.1];exact hl
    obtain⟨e,e1,e2⟩:=hi.2 i c4[i] (Xc la);rw[Xc la,e1,e2];rfl
   ·rw[iY (by rw[hi.1];omega),iY f8];rfl
  refine⟨rfl,Uei k2 ⟨c4,c,rfl,?_⟩⟩;rw[ea];exact h h' tk (λb o e=>k1 b o (Xp (Xh e)) (Xb _ e)) (iQ (Xh k2))) hz
 have fin:∀s',Vk (Vi prog w) A (load s.heap.objs.size) (λo s2=>∃xs ep,o.data=.seq xs ep/\R xs.toList s2) E s'->Vk (Vi prog w) A (do match (<- load s.heap.objs.size).data with |.seq xs _=>pure xs.toList |_=>unsupported "internal:collect") R E s':=λs' z=>by
  refine Va (Vr z (λo s2 zz=>?_) λ_ _ x=>x);obtain⟨xs,ep,e1,e2⟩:=zz;rw[e1];exact Vc e2
 refine Vr E1 (λf s' z=>?_) (λe s' z=>?_)
 ·cases f with
  |done f=>
   obtain⟨z1,z2⟩:=z;cases z1;exact fin s' z2
  |again c=>
   refine⟨z.1,eM z.2 λr s2 z=>?_⟩;obtain⟨rfl,z2⟩:=z;exact fin s2 z2
 ·cases z.1
end
open PySem.W (UpdF KasFin kas_sort)
section
variable{prog:Vl}{w:Vs}{A:Vo}{E:Vb->Vd->Prop}{s:Vd}
theorem J5.mv{h h':C5}{v:Vb}{ns:List Int}(x:J5 h v ns)(k:∀a b9,v=.ref a->Q0 h a b9->∀o,h.get? a=B3 o->h'.get? a=B3 o):J5 h' v ns:=by
 obtain⟨a,b9,rfl,ht,hi⟩:=x;obtain⟨o,e,r⟩:=id ht;exact⟨a,b9,rfl,⟨o,k a b9 rfl ht o e,r⟩,hi⟩
end
nonrec def vG:D->Option j5
 |.tup ds=>R0 ds
 |_=>B0
nonrec def fM:List D->Option (List j5)
 |[]=>B3 []
 |d::r=>(vG d).bind λa=>(fM r).map λt=>a::t
section
variable{X:Cx}{b5:List (Vh×Obj)}{σ:L2.St}{H:Hp}{s:Vd}{ι:List Vh}
theorem Zfg(I:B6 X b5 σ H s):∀{ds:List D}{as:List Vh}{nss:List (List Int)},fM ds=B3 nss->Vm (Rep X.K H ι) ds (as.map V.ref)->Vm (J5 s.heap) (as.map Uc) nss
 |[],as,nss,e,p=>by
  cases e;cases as with
  |nil=>exact .nil
  |cons a r=>cases p
 |d::ds,as,nss,e,p=>by
  obtain⟨ns,e1,e⟩:=Zo e;obtain⟨t,e2,rfl⟩:=Zm e;cases as with
  |nil=>cases p
  |cons a r=>
   rw[Xx]at p ⊢;cases p with
   |cons p1 p2=>
    refine .cons ?_ (Zfg I e2 p2);unfold vG at e1;split at e1
    ·obtain⟨b,vs,eb,sq,P⟩:=U6.mp p1;cases eb;have ev:=tZ e1 P;subst ev;obtain⟨b9,ri,ht,_⟩:=I.tuple sq;exact⟨a,_,rfl,ht,by simpa using oD ri⟩
    ·cases e1
end
theorem Zmn{α β γ:Type}{F:β->γ->Prop}{f:α->β}{g:α->γ}{xs:List α}(h:∀x∈xs,F (f x) (g x)):Vm F (xs.map f) (xs.map g):=by
 induction xs with
 |nil=>exact .nil
 |cons x r ih=>exact .cons (h x g8) (ih λy hy=>h y (by simp[hy]))
section
variable{X:Cx}
nonrec abbrev JF:=SD->HD->Str->Option (Str×HD)
def pR(X:Cx)(es:List Vz)(f:JF):Prop:=∀(b5:List (Vh×Obj))(s:Vd)(σ:L2.St)(H:Hp)(out:Str)(Q:VK),B6 X b5 σ H s->out.length<=sizeLine ->
 (∃ι c6 Hd y c5,D4 X.K H ι σ c6/\C0 X.K H ι Hd/\f c6 Hd out=B3 (y,c5)/\∀H' c7,Le X.K H ι H' c7->C0 X.K H' c7 c5->Q (.str y) H') ->
 Vk (Vi X.prog X.w) X.A (joinParts out (evalEach es X.env)) (EP X b5 σ Q) X.xe s
nonrec def gY:JF:=λ_ H out=>B3 (out,H)
nonrec def jC(c:Str)(f:JF):JF:=λσ H out=>if (out++c).length<=sizeLine then f σ H (out++c)else B0
theorem Ybf:pR X [] gY:=by
 rintro b5 s σ H out Q I hl ⟨ι,c6,Hd,y,c5,ss,hr,e,q⟩;cases e;exact joinParts_nilE (joinParts_nil ⟨.str out,H,I.tok _,⟨_,rfl⟩,q H ι Le.refl hr⟩ hl)
theorem qY{c:Str}{es:List Vz}{f:JF}{j:Nat}{p:Pos}(h:pR X es f):pR X (.Constant (.str c) j p::es) (jC c f):=by
 rintro b5 s σ H out Q I hl ⟨ι,c6,Hd,y,c5,ss,hr,e,q⟩;unfold jC at e;split at e
 ·rename_i hz;refine joinParts_consE (joinParts_cons (D7 (Zvz (X:=X) b5 s σ H (λv H2=>v=.str c/\H2=H) I ⟨rfl,rfl⟩) λu2 s2 z=>?_));obtain⟨v2,H2,I2,r2,rfl,rfl⟩:=z;obtain⟨t2,rfl⟩:=r2;exact⟨hz,h b5 s2 σ H2 _ Q I2 hz ⟨ι,c6,Hd,y,c5,ss,hr,e,q⟩⟩
 ·cases e
nonrec def eJ(f:JF):EF:=λσ H=>(f σ H eQ).map λp=>(.str p.1,p.2)
theorem Zt8{a b:Vz}{es:List Vz}{f:JF}{p:Pos}(h:pR X (a::b::es) f):D6 X (.JoinedStr (a::b::es) p) (eJ f):=by
 rintro b5 s σ H Q I ⟨ι,c6,Hd,d,c5,ss,hr,e,q⟩;obtain⟨⟨y,H1⟩,e1,e⟩:=Zm e;cases e;exact JoinedStr_many (h b5 s σ H eQ Q I g9 ⟨ι,c6,Hd,y,H1,ss,hr,e1,λH' c7 l h=>q _ H' c7 l h g8⟩)
end
end DL
namespace DL
open PySem PySem.Spec PyProof.Rows L2 PySem.W
def TrD(h B:C5)(e:Vh)(C:Vb)(dx:Option Vh)(fl:Vb):Prop :=
 ∃oe vs T oT ts,(h.get? e=B3 oe/\oe.cls=C/\oe.dict=dx/\oe.data=.fields vs/\vs[1]? = B3 (.ref T))/\B.get? T=B0/\T≠e/\h.get? T=B3 oT/\oT.data=.fields ts/\ts[3]? = B3 fl
structure K3(B:C5)(l:List Env)(e:Vh)(C:Vb)(dx:Option Vh)(fl:Vb)(h:C5):Prop where
 st:B.StaysIn h
 no:B.get? e=B0
 ff:h.FunFrames B l
 tr:TrD h B e C dx fl
theorem K3.first{B:C5}{l:List Env}{e:Vh}{C:Vb}{dx:Option Vh}{fl:Vb}{h:C5}(x:K3 B l e C dx fl h):∃oe vs,h.get? e=B3 oe/\oe.cls=C/\oe.data=.fields vs/\oe.dict=dx:=by
 obtain⟨oe,vs,_,_,_,⟨h1,h2,h3,h4,_⟩,_⟩:=x.tr;exact⟨oe,vs,h1,h2,h4,h3⟩
theorem K3.tail{B:C5}{env:Env}{l:List Env}{e:Vh}{C:Vb}{dx:Option Vh}{fl:Vb}{h:C5}(x:K3 B (env::l) e C dx fl h):K3 B l e C dx fl h:=⟨x.st,x.no,x.ff.2.2,x.tr⟩
theorem Zie(f:Array Vb->Array Vb)(o:Obj):(Ux f o).dict=o.dict:=by
 unfold Ux;split<;>rfl
section
variable{M:bT}{A:Vo}{E:Vb->Vd->Prop}{s:Vd}{B:C5}{env:Env}{outer l:List Env}{L e:Vh}{C:Vb}{dx:Option Vh}{fl:Vb}{Q:Unit->Vd->Prop}
theorem Zqj{oe:Obj}{vs:Array Vb}{hd:Vb}{nx:Bool}(hfr:A.frames=B3 (env::outer))(hf:env.frame=B3 L)(ff:s.heap.FunFrames B (env::outer))(st:B.StaysIn s.heap)(no:B.get? e=B0)
  (he:s.heap.get? e=B3 oe)(hv:oe.data=.fields vs)(hz:1<vs.size)(q:∀h',K3 B (env::outer) e oe.cls oe.dict (U8 L) h'->s.heap.UpToSlots h'->Q () { s with heap:=h' }) :
  Vk M A (frameOf env >>= λa=>entryPlaceOf L nx >>= λpl=>Tch hd a .none (U8 L) .none pl >>= λb=>setField (.ref e) 1 b) Q E s:=by
 have nf:e∉(env::outer).filterMap (·.frame):=λz=>by
  obtain⟨_,o,g,n⟩:=ff.mem z;rw[he]at g;cases g;exact n vs hv
 refine Va (wpAny_frameOf_fun hfr ff hf λh1 s1=>Va (wpAny_entryPlaceOf λpl hpl=>?_));unfold Tch newFields;refine Va (Vu ?_ (hpl.sizeOk5 _ _ _ _ _));obtain⟨oT,hoT⟩:∃o:Obj,o={ cls:=.type "traceback",dict:=B0,data:=.fields ([hd,.ref L,.none,U8 L,.none]++(if pl.isEmpty then Xl 6 Uu else pl)).toArray }:=⟨_,rfl⟩
 have e1:h1.get? e=B3 oe:=(s1.2.1 e nf).trans he;have b1:B.StaysIn h1:=λb o z=>(s1.2.1 b λy=>by rw[(ff.mem y).1]at z;cases z).trans (st b o z);rw[<- hoT];have e2:=Xb (h:=h1) oT e1;refine jJ e2 hv hz (q _ ?_ ?_)
 all_goals
  have nT:h1.objs.size≠e:=vO (Xh e1);have v3:=Ur hv (·.setIfInBounds 1 (Uc h1.objs.size));have e3:=pA (Ux (·.setIfInBounds 1 (Uc h1.objs.size))) e2 (xM v3);have lf:oT.isFreed=B2:=by rw[hoT];rfl
  have t3:=(vZ (h1.push oT) (Ux (·.setIfInBounds 1 (Uc h1.objs.size))) (Uj nT)).trans (Xi h1 lf);have kp:∀b o,b≠e->h1.get? b=B3 o->((h1.push oT).update e (Ux (·.setIfInBounds 1 (Uc h1.objs.size)))).get? b=B3 o:=λb o n z=>by
   rw[vZ _ _ (Uj n)];exact Xb _ z
  have nr:∀b o,s.heap.get? b=B3 o->(∀vs,o.data≠.fields vs)->b≠e:=λb o z n y=>by
   rw[y,he]at z;cases z;exact n vs hv
 ·refine⟨λb o z=>kp b o (λy=>by rw[y,no]at z;cases z) (b1 b o z),no,ff.of_keeps λb o z n=>?_,?_⟩
  ·obtain⟨sl,g⟩:=s1.2.2 b o z;exact⟨_,kp b _ (nr b o z n) g,rfl⟩
  ·refine⟨_,_,h1.objs.size,oT,_,⟨e3,Tat _ _,Zie _ _,v3,by simp[hz]⟩,b1.fresh,nT,t3,by rw[hoT],?_⟩
   first
   |(simp;done)
   |(rcases hpl with rfl |⟨_,_,_,_,_,_,_,rfl⟩<;>simp)
 ·intro b o z n;obtain⟨sl,g⟩:=s1.2.2 b o z;exact⟨sl,kp b _ (nr b o z n) g⟩
theorem Zzq{oe:Obj}{vs:Array Vb}(hfr:A.frames=B3 (env::outer))(hf:env.frame=B3 L)(ff:s.heap.FunFrames B (env::outer))(st:B.StaysIn s.heap)(no:B.get? e=B0)
  (he:s.heap.get? e=B3 oe)(hv:oe.data=.fields vs)(h1:vs[1]? = B3 .none)(q:∀h',K3 B (env::outer) e oe.cls oe.dict (U8 L) h'->s.heap.UpToSlots h'->Q () { s with heap:=h' }):Vk M A (lM (.ref e) env) Q E s:=by
 unfold lM;simp only[hf];refine Va (lQ he hv h1 ?_);rw[d9 g9];exact Zqj hfr hf ff st no he hv (Wcn.mp h1).1 q
theorem Zqx(hfr:A.frames=B3 (env::outer))(hf:env.frame=B3 L)(x:K3 B (env::outer) e C dx .none s.heap)(q:∀h',K3 B (env::outer) e C dx (U8 L) h'->s.heap.UpToSlots h'->Q () { s with heap:=h' }):Vk M A (lM (.ref e) env) Q E s:=by
 obtain⟨oe,vs,T,oT,ts,⟨g1,rfl,rfl,g4,g5⟩,k1,k2,k3,k4,k5⟩:=x.tr;unfold lM;simp only[hf];refine Va (lQ g1 g4 g5 ?_);rw[d7 g8];refine Va (lQ k3 k4 k5 ?_);rw[d9 (by simp[U8])];refine Va (jJ k3 k4 (Wcn.mp k5).1 ?_);have ot:∀b,b≠T->(s.heap.update T (Ux (·.setIfInBounds 3 Uu))).get? b=s.heap.get? b:=λb n=>vZ _ _ (Uj n);have nr:∀b o,s.heap.get? b=B3 o->(∀vs,o.data≠.fields vs)->b≠T:=λb o z n y=>by
  rw[y,k3]at z;cases z;exact n ts k4
 refine Zqj hfr hf (x.ff.of_keeps λb o z n=>⟨o,(ot b (nr b o z n)).trans z,rfl⟩) (λb o z=>(ot b λy=>by rw[y,k1]at z;cases z).trans (x.st b o z)) x.no ((ot e (Uj k2)).trans g1) g4 (Wcn.mp g5).1 λh' y up=>q h' y ?_;exactλb o z n=>up b o ((ot b (nr b o z n)).trans z) n
theorem nW(x:K3 B l e C dx fl s.heap)(q:∀h',K3 B l e C dx .none h'->s.heap.UpToSlots h'->Q () { s with heap:=h' }):Vk M A (Uey (.ref e) B0) Q E s:=by
 obtain⟨oe,vs,T,oT,ts,⟨g1,g2,g3,g4,g5⟩,k1,k2,k3,k4,k5⟩:=x.tr;have sz:=(Wcn.mp k5).1;have ot:∀b,b≠T->(s.heap.update T (Ux (·.setIfInBounds 3 ((B0:Option Vh).elim Uu λf=>U8 f)))).get? b=s.heap.get? b:=λb n=>vZ _ _ (Uj n);have nr:∀b o,s.heap.get? b=B3 o->(∀vs,o.data≠.fields vs)->b≠T:=λb o z n y=>by
  rw[y,k3]at z;cases z;exact n ts k4
 unfold Uey;refine Va (lQ g1 g4 g5 ?_);rw[d7 g8];have v3:=Ur k4 (·.setIfInBounds 3 ((B0:Option Vh).elim Uu λf=>U8 f));refine jJ k3 k4 sz (q _ ⟨λb o z=>(ot b λy=>by rw[y,k1]at z;cases z).trans (x.st b o z),x.no,x.ff.of_keeps λb o z n=>⟨o,(ot b (nr b o z n)).trans z,rfl⟩,?_⟩ λb o z n=>⟨o.slots,(ot b (nr b o z n)).trans z⟩);exact⟨oe,vs,T,_,_,⟨(ot e (Uj k2)).trans g1,g2,g3,g4,g5⟩,k1,k2,pA _ k3 (xM v3),v3,by simp[sz]⟩
theorem Zuq{oe:Obj}{vs:Array Vb}(hfr:A.frames=B3 (env::outer))(hf:env.frame=B3 L)(ff:s.heap.FunFrames B (env::outer))(st:B.StaysIn s.heap)(no:B.get? e=B0)
  (he:s.heap.get? e=B3 oe)(hv:oe.data=.fields vs)(h1:vs[1]? = B3 .none)(q:∀h',K3 B outer e oe.cls oe.dict .none h'->s.heap.UpToSlots h'->Q () { s with heap:=h' }):Vk M A (wL env (.ref e)) Q E s:=by
 unfold wL;refine Va (Zzq hfr hf ff st no he hv h1 λh2 x u=>?_);exact nW (s:={ s with heap:=h2 }) x λh3 x3 u3=>q h3 x3.tail (u.trans u3)
theorem Zxz(hfr:A.frames=B3 (env::outer))(hf:env.frame=B3 L)(x:K3 B (env::outer) e C dx .none s.heap)(q:∀h',K3 B outer e C dx .none h'->s.heap.UpToSlots h'->Q () { s with heap:=h' }):Vk M A (wL env (.ref e)) Q E s:=by
 unfold wL;refine Va (Zqx hfr hf x λh2 y u=>?_);exact nW (s:={ s with heap:=h2 }) y λh3 x3 u3=>q h3 x3.tail (u.trans u3)
end
structure mG(l:List Env)(H H1:Hp)(h0 h1:C5)(a:Vh)(C:Vb)(dx:Option Vh):Prop where
 new:h0.get? a=B0
 fly:∃B:C5,K3 B l a C dx .none h1/\(∀b o,h0.get? b=B3 o->b∉M7 l->∃o',B.get? b=B3 o'/\(H b=B0->o'=o))/\∀b ho,H1 b=B3 ho->∃o,h1.get? b=B3 o/\B.get? b=B3 o
nonrec def R7(P:Vl)(w:Vs):CXT:=λouter H s E e s'=>∃(a:Vh)(C:Vb)(dx:Option Vh)(H1:Hp),e=.ref a/\E C dx H1/\s'.os=s.os/\bV s'.gens/\Un (M7 outer) [] H H1 s.heap s'.heap/\M5 P w H1 s'.heap/\mG outer H H1 s.heap s'.heap a C dx
section
variable{P:Vl}{w:Vs}{K:Xa}{mg:Str->Option Vb}{base:C5}{N:List Str}{qual:Str}{scope:P4}{f:Vh}{cd:Vb}{A:Vo}{outer:List Env}{s s1:Vd}{H H1:Hp}{E:XK}{b5:List (Vh×Obj)}{σ:L2.St}
theorem Zsf{e:Vh}{oe:Obj}{vs:Array Vb}(I:B6 (M8 (R7 P w) P w K mg base N qual scope f cd A outer s H E) b5 σ H1 s1)(he:s1.heap.get? e=B3 oe)(hv:oe.data=.fields vs)(h1:vs[1]? = B3 .none)(n1:H1 e=B0)(new:s.heap.get? e=B0)(q:E oe.cls oe.dict H1) :
  (M8 (R7 P w) P w K mg base N qual scope f cd A outer s H E).xe (.ref e) s1:=by
 have hS:=I.stack;have fr:=I.ok.frames;obtain⟨L,hL⟩:∃L,L=e::M7 (M8 (R7 P w) P w K mg base N qual scope f cd A outer s H E).stack:=⟨_,rfl⟩
 have hF:s1.heap.FunFrames (hideAll s1.heap L) (M8 (R7 P w) P w K mg base N qual scope f cd A outer s H E).stack:=funFrames_hide hS λenv he b hb=>by rw[hL];exact Xv _ (oW.mpr ⟨env,he,hb⟩)
 refine Zuq (B:=hideAll s1.heap L) fr rfl hF (λb o z=>of_hideAll _ z) (hideAll_none _ (by rw[hL];exact iU ..)) he hv h1 λh2 f1 f4=>?_;have nf:∀b ho,H1 b=B3 ho->b∉L:=λb ho eb z=>by
  rw[hL]at z;rcases Xn.mp z with rfl |z
  ·rw[n1]at eb;cases eb
  ·rw[I.stkFree b z]at eb;cases eb
 have kp:∀b o,s1.heap.get? b=B3 o->b∉L->h2.get? b=B3 o:=λb o eb z=>f1.st b o (Uez _ eb z);have old:∀b o,s.heap.get? b=B3 o->b∉M7 outer->b∉L:=λb o eb z y=>by
  rw[hL]at y;rcases Xn.mp y with rfl |y
  ·rw[new]at eb;cases eb
  ·rcases Xn.mp (I.stkSub b y)with rfl |y
   ·exact absurd (Xo (Xh eb) I.ok.above) (cU _)
   ·exact z y
 have fram:∀b o,b∈M7 (M8 (R7 P w) P w K mg base N qual scope f cd A outer s H E).stack->s1.heap.get? b=B3 o->∃sl,h2.get? b=B3 { o with slots:=sl }:=λb o z eb=>by
  obtain⟨_,o',g1,g3⟩:=hS.mem z;rw[eb]at g1;cases g1;exact f4 b o eb g3
 refine⟨e,oe.cls,oe.dict,H1,rfl,q,I.os,I.bare,⟨λb o eb n nb _=>kp b o (I.base.keep b o eb n nb (by rintro z;cases z)) (old b o eb nb),λb o eb n hb _=>?_,λb o eb n _=>I.base.free b o eb n (by intro z;cases z),λb o eb _=>?_,I.base.tups,I.base.frzs,I.base.tbls⟩,λb ho eb=>?_,⟨new,_,f1,λb o eb nb=>?_,λb ho eb=>?_⟩⟩
 ·obtain⟨sl,g⟩:=I.base.slot b o eb n hb (by intro z;cases z);obtain⟨sl',g'⟩:=fram b _ (Xv _ hb) g;exact⟨sl',g'⟩
 ·obtain⟨o1,g⟩:=I.base.there b o eb (by intro z;cases z);by_cases z:b∈M7 (M8 (R7 P w) P w K mg base N qual scope f cd A outer s H E).stack
  ·obtain⟨sl,g'⟩:=fram b o1 z g;exact⟨_,g'⟩
  ·refine⟨o1,kp b o1 g λy=>?_⟩;rw[hL]at y;rcases Xn.mp y with rfl |y
   ·rw[new]at eb;cases eb
   ·exact z y
 ·exact(I.hok b ho eb).stay (λc u hc g=>kp c u g (by
   rcases hc with rfl |hc
   ·exact nf _ _ eb
   ·exact nf _ _ hc)) (λ_ z=>z) (λ_ _ z=>z)
 ·obtain⟨o1,g⟩:=I.base.there b o eb (by intro z;cases z);refine⟨o1,Uez _ g (old b o eb nb),λn=>?_⟩;exact B3.inj (g.symm.trans (I.base.keep b o eb n nb (by intro z;cases z)))
 ·obtain⟨o,g⟩:=(I.hok b ho eb).here;exact⟨o,kp b o g (nf b ho eb),Uez _ g (nf b ho eb)⟩
theorem Zqw{s':Vd}{H0:Hp}{a:Vh}{C:Vb}{dx:Option Vh}(I:B6 (M8 (R7 P w) P w K mg base N qual scope f cd A outer s H E) b5 σ H0 s1)(os:s'.os=s1.os)(bare:bV s'.gens)(un:Un (M7 (M8 (R7 P w) P w K mg base N qual scope f cd A outer s H E).stack) [] H0 H1 s1.heap s'.heap)(hok:M5 P w H1 s'.heap)
  (fl:mG (M8 (R7 P w) P w K mg base N qual scope f cd A outer s H E).stack H0 H1 s1.heap s'.heap a C dx)(q:E C dx H1):(M8 (R7 P w) P w K mg base N qual scope f cd A outer s H E).xe (.ref a) s':=by
 obtain⟨B,fly,bo,bt⟩:=fl.fly;have fr:=I.ok.frames;refine Zxz fr rfl fly λh2 f1 up=>?_;obtain⟨un2,ok2⟩:=sV un hok bo bt f1.st up fly.ff;have old:∀b o,s.heap.get? b=B3 o->b∉M7 outer->b∉M7 (M8 (R7 P w) P w K mg base N qual scope f cd A outer s H E).stack:=λb o eb z y=>by
  rcases Xn.mp (I.stkSub b y)with rfl |y
  ·exact absurd (Xo (Xh eb) I.ok.above) (cU _)
  ·exact z y
 have u:Un (M7 (M8 (R7 P w) P w K mg base N qual scope f cd A outer s H E).stack) [] H H1 s.heap h2:=(I.base.mono (λb hb=>Xv _ hb) (λb hb=>hb)).trans un2;refine⟨a,C,dx,H1,rfl,q,os.trans I.os,bare,⟨λb o eb n nb hx=>u.keep b o eb n (old b o eb nb) hx,λb o eb n hb hx=>u.slot b o eb n (Xv _ hb) hx,u.free,u.there,u.tups,u.frzs,u.tbls⟩,ok2,⟨?_,B,f1,λb o eb nb=>?_,λb ho eb=>?_⟩⟩
 ·cases z:s.heap.get? a with
  |none=>rfl
  |some o=>
   obtain⟨o1,g⟩:=I.base.there a o z (by intro y;cases y);rw[fl.new]at g;cases g
 ·obtain⟨o1,g⟩:=I.base.there b o eb (by intro z;cases z);obtain⟨o',g',z⟩:=bo b o1 g (old b o eb nb);refine⟨o',g',λn=>?_⟩;rw[z (I.base.free b o eb n (by intro z;cases z))];exact B3.inj (g.symm.trans (I.base.keep b o eb n nb (by intro z;cases z)))
 ·obtain⟨o,g,g'⟩:=bt b ho eb;exact⟨o,f1.st b o g',g'⟩
end
nonrec abbrev E7:=SD->HD->Option (Int×HD)
nonrec abbrev T4:=List D->HD->Option (Int×HD)
def fW(av:Option Str)(i:Int)(dx:Option Vh)(H:Hp)(ι:List Vh):Prop:=match av with
 |none=>dx=B0
 |some f=>∃d,dx=B3 d/\H d=B3 (.xd [(f,.int i)])/\d∉ι
def Zxk(fl:Bool)(X:Cx)(C:Vh)(dx:Option Vh)(H1:Hp)(e:Vb)(s':Vd):Prop:=∃b5 σ1 a,e=.ref a/\((fl=B2/\∃oe vs,B6 X b5 σ1 H1 s'/\s'.heap.get? a=B3 oe/\oe.cls=.ref C/\oe.dict=dx/\oe.data=.fields vs/\vs[1]? = B3 .none/\H1 a=B0/\X.s₀.heap.get? a=B0) \/
 ∃s1 H0,B6 X b5 σ1 H0 s1/\s'.os=s1.os/\bV s'.gens/\Un (M7 X.stack) [] H0 H1 s1.heap s'.heap/\M5 X.prog X.w H1 s'.heap/\mG X.stack H0 H1 s1.heap s'.heap a (.ref C) dx)
nonrec def rdY(fl:Bool)(X:Cx)(C:Vh)(av:Option Str)(b:E7):TS:=λ_ σ H=>∃ι c6 Hd i c5,D4 X.K H ι σ c6/\C0 X.K H ι Hd/\b c6 Hd=B3 (i,c5) /\
 ∀H1 c7 dx e s',Le X.K H ι H1 c7->C0 X.K H1 c7 c5->fW av i dx H1 c7->Zxk fl X C dx H1 e s'->X.xe e s'
def U9(fl:Bool)(X:Cx)(C:Vh)(av:Option Str)(sts:List D2)(b:E7):Prop:=T6 X sts (rdY fl X C av b)
nonrec def Y0(f:SF)(b:E7):E7:=λσ H=>(f σ H).bind λr=>match r.1 with
 |.nx=>b r.2.1 r.2.2
 |_=>B0
nonrec def eT(f:SF)(a b:E7):E7:=λσ H=>match f σ H with
 |none=>a σ H
 |some r=>match r.1 with
  |.nx=>b r.2.1 r.2.2
  |_=>B0
nonrec def dL(t:TF)(a b:E7):E7:=λσ H=>(t σ H).bind λr=>if r.1 then a σ r.2 else b σ r.2
nonrec def yNo:E7:=λ_ _=>B0
nonrec def tK(fe:EF):E7:=λσ H=>(fe σ H).map λr=>(0,r.2)
nonrec def X9(n N:Nat)(b:E7):T4:=λds H=>if ds.length=n then b (ds.map B3++Xl (N-ds.length) B0) H else B0
section
variable{X:Cx}{fl:Bool}{C:Vh}{av:Option Str}{st:D2}{sts:List D2}{c:Vz}{pos:Pos}
theorem Zq6{f:SF}{b:E7}(h1:V8 X st f)(h2:U9 fl X C av sts b):U9 fl X C av (st::sts) (Y0 f b):=by
 refine gK (Zjt h1 h2) λE σ H zz=>?_;obtain⟨ι,c6,Hd,i,c5,s,hr,e,q⟩:=zz;obtain⟨⟨f1,σ1,H1⟩,e1,e⟩:=Zo e;refine⟨ι,c6,Hd,f1,σ1,H1,s,hr,e1,λσ' H' c7 l h ss=>?_⟩;cases f1 with
 |nx=>exact⟨c7,σ1,H1,i,c5,ss,h,e,λH2 ι2 dx ex s2 l2=>q H2 ι2 dx ex s2 (l.trans l2)⟩
 |bk=>cases e
 |ct=>cases e
 |rt d=>cases e
def dH(fl:Bool)(X:Cx)(C:Vh)(av:Option Str)(st:D2)(b:E7):Prop:=PS X st (rdY fl X C av b)
theorem Zwo{b:E7}(h:dH fl X C av st b):U9 fl X C av (st::sts) b:=gK (Zjt h (Yca (sts:=sts))) λE σ H z=>z
theorem qV{f:SF}{a b:E7}(h1:V8 X st f)(h0:dH fl X C av st a)(h2:U9 fl X C av sts b):U9 fl X C av (st::sts) (eT f a b):=by
 rintro b5 s σ H D I ⟨ι,c6,Hd,i,c5,ss,hr,e,q⟩;unfold eT at e;split at e
 ·exact Zwo h0 b5 s σ H D I ⟨ι,c6,Hd,i,c5,ss,hr,e,q⟩
 ·rename_i r e1;exact Zq6 h1 h2 b5 s σ H D I ⟨ι,c6,Hd,i,c5,ss,hr,by unfold Y0;rw[e1];exact e,q⟩
theorem Zx9:U9 fl X C av sts yNo:=λb5 s σ H D I⟨_,_,_,_,_,_,_,e,_⟩=>by cases e
theorem qU{t:TF}{as bs:List D2}{a b:E7}(hc:Y5 X c t)(ha:U9 fl X C av as a)(hb:U9 fl X C av bs b):dH fl X C av (.If c as bs pos) (dL t a b):=by
 refine cA (Ybz hc ha hb) λE σ H zz=>?_;obtain⟨ι,c6,Hd,i,c5,s,hr,e,q⟩:=zz;obtain⟨⟨z,H1⟩,e1,e⟩:=Zo e;refine⟨ι,c6,Hd,z,H1,s,hr,e1,λH' c7 l h=>?_⟩;cases z with
 |true=>
  rw[d7 rfl];exact⟨c7,c6,H1,i,c5,s.mono l,h,by simpa using e,λH2 ι2 dx ex s2 l2=>q H2 ι2 dx ex s2 (l.trans l2)⟩
 |false=>
  rw[d9 g8];exact⟨c7,c6,H1,i,c5,s.mono l,h,by simpa using e,λH2 ι2 dx ex s2 l2=>q H2 ι2 dx ex s2 (l.trans l2)⟩
open Classical in
nonrec def W6(own:O4)(g:GF)(b:SF)(yb:E7):List D->E7
 |[],_,_=>B0
 |x::r,σ,H=>if O8 own H then (g x σ H).bind λp=>match b p.1 p.2 with
   |none=>yb p.1 p.2
   |some q=>match q.1 with
    |.nx=>W6 own g b yb r q.2.1 q.2.2
    |.ct=>W6 own g b yb r q.2.1 q.2.2
    |_=>B0
  else B0
nonrec def dQ(it:ItF)(g:GF)(b:SF)(yb:E7):E7:=λσ H=>(it σ H).bind λp=>W6 p.1.2 g b yb p.1.1 σ p.2
theorem Yaw{tg iter:Vz}{body:List D2}{f:ItF}{g:GF}{b:SF}{yb:E7}(hp:lN (Vi X.prog X.w) X.A X.env X.xe)(hc:X.calm=B1)(hi:eR X tg iter f)(hg:jN X tg g)(hb:V2 X body b)(hy:U9 fl X C av body yb)
  (hs:∀x,eO iter X.env x=pure x:=by intro _;rfl):dH fl X C av (.For tg iter body [] pos) (dQ f g b yb):=by
 have hbb:T6 X body (λD σ H=>rdS X.K b D σ H\/rdY fl X C av yb D σ H):=λb5 s σ H D I z=>z.elim (hb b5 s σ H D I) (hy b5 s σ H D I);refine cA (Zv0 hp hc hi hg hbb hs) λE σ H zz=>?_;obtain⟨ι,c6,Hd,i0,Hf,s,hr,e,q⟩:=zz;obtain⟨⟨⟨xs,own⟩,H1⟩,e1,e⟩:=Zo e;refine⟨ι,c6,Hd,xs,own,H1,s,hr,e1,λJ H0 ι0 l0 h0 it=>?_⟩;refine⟨λi m σ H=>m=xs.length-i/\i<=xs.length/\∃ι c6 Hd,Le X.K H0 ι0 H ι/\D4 X.K H ι σ c6/\C0 X.K H ι Hd/\W6 own g b yb (xs.drop i) c6 Hd=B3 (i0,Hf),⟨xs.length,by simp,R4 _,ι0,c6,H1,Le.refl,s.mono l0,h0,by simpa using e⟩,?_⟩;rintro i m σ2 H2 ⟨rfl,hi,ι2,σd2,c9,l2,s2,h2,e2⟩;by_cases hlt:i<xs.length
 ·rw[lI hlt,W6]at e2;split at e2
  ·rename_i ok;obtain⟨⟨σ3,H3⟩,e3,e2⟩:=Zo e2;refine .inr ⟨it.go i H2 ι2 c9 l2 h2 ok hlt,λσ' H'=>(xs.length-(i+1)=xs.length-(i+1)/\i+1<=xs.length/\∃ι c6 Hd,Le X.K H0 ι0 H' ι/\D4 X.K H' ι σ' c6/\C0 X.K H' ι Hd/\W6 own g b yb (xs.drop (i+1)) c6 Hd=B3 (i0,Hf)),λσ' H' p=>⟨_,by omega,p⟩,λx H' y=>?_⟩;obtain⟨ι3,l3,h3,r3⟩:=it.yld i H2 ι2 c9 xs[i] x H' l2 h2 ok (by simp[hlt]) y;refine⟨ι3,σd2,c9,xs[i],σ3,H3,s2.mono l3,h3,r3,e3,λσ5 H5 ι5 l5 h5 s5=>?_⟩;have L5:Le X.K H0 ι0 H5 ι5:=(l2.trans l3).trans l5;cases e4:b σ3 H3 with
   |none=>
    dsimp only at e2;rw[e4]at e2;exact .inr ⟨ι5,σ3,H3,i0,Hf,s5,h5,e2,λH6 ι6 dx ex s6 l6=>q H6 ι6 dx ex s6 ((l0.trans L5).trans l6)⟩
   |some p=>
    obtain⟨f4,σ4,H4⟩:=p;dsimp only at e2;rw[e4]at e2;refine .inl ⟨ι5,σ3,H3,f4,σ4,H4,s5,h5,e4,λσ6 H6 ι6 l6 h6 s6=>?_⟩;cases f4 with
    |nx=>exact⟨rfl,hlt,ι6,σ4,H4,L5.trans l6,s6,h6,e2⟩
    |ct=>exact⟨rfl,hlt,ι6,σ4,H4,L5.trans l6,s6,h6,e2⟩
    |bk=>cases e2
    |rt d=>cases e2
  ·cases e2
 ·rw[Wdv f8,W6]at e2;cases e2
theorem Zul{x:Str}{e:Vz}{fe:EF}{np d5:Pos}(hc:X.calm=B1)(T:T7 X.K X.mg x C)(hf:O2 X [e] (B5 fe C1))(hxx:X.ex=[]:=by rfl)(hg:Gl X x:=by rfl)(hdb:(x==("__debug__" : Str))=B2:=by decide)(he:Vg [e] X.env=(B2,eval e X.env)::Vg [] X.env:=by exact V3 rfl) :
  dH B2 X C B0 (.Raise (B3 (.Call (.Name x np) [e] [] d5)) B0 pos) (tK fe):=by
 rintro b5 s σ H D I ⟨ι,c6,Hd,i,c5,ss,hr,eq,q⟩;obtain⟨⟨d,H1⟩,e1,e2⟩:=Zm eq;obtain⟨-,rfl⟩:=N9.inj e2;obtain⟨bm0,B,newId,initId,k1,FB⟩:=T.inK;obtain⟨tl,N,nm,qn,bs,hdct,sn,sub,ab,col,dd,k0,k1',k2,k3,k5,mN,hC,hN,hni,TL⟩:=(Yal I.ok.mod.kin T.bound k1).obj;have pl:(K8 d5 (Vg [e] X.env)).any (·.1)=B2:=by rw[he];rfl
 refine wpAny_Raise_call_subT (C:=C) (nm:=nm) (q:=qn) (N:=N) (bs:=bs) (bm:=tl) (hdct:=hdct) (sn:=sn) (sub:=sub) (ab:=ab) (col:=col) (dd:=dd) (k0:=k0) (k1:=k1') (k2:=k2) (k3:=k3) (k5:=k5) FB (mN:=mN) (TL.hasType FB.hasBase) (I.ok.hd hc) pl hni (iI I hg T.bound ⟨rfl,?_⟩ hdb);have ea:B5 fe C1 c6 Hd=B3 ([d],H1):=by unfold B5;rw[e1];rfl
 have a1:=hf d5 b5 s σ H (λvs H'=>vs.length=1/\∃c7,Le X.K H ι H' c7/\C0 X.K H' c7 H1) I ⟨ι,c6,Hd,[d],H1,ss,hr,ea,λvs H' c7 l h P=>⟨(Prd.len P).symm,c7,l,h⟩⟩;rw[he]at a1 ⊢;refine Tcf (Vr a1 (λus s2⟨vs,H2,I2,r2,⟨hl,c7,l,h⟩⟩=>⟨rfl,?_,I2.bk _ _ hC,hN.keeps I2.bk,TL.keeps I2.bk,λh' ex hm=>?_⟩) λ_ _ y=>y)
 ·rw[<- r2.length,hl,Uy];omega
 ·obtain⟨t,g,_⟩:=hm.there;have I3:B6 X b5 σ H2 { s2 with heap:=h' }:=I2.kept (t':=s2.toks) hm.keeps;have n2:H2 ex=B0:=by
   cases z:H2 ex with
   |none=>rfl
   |some ho=>
    obtain⟨o,y⟩:=(I2.hok ex ho z).here;rw[hm.new]at y;cases y
  refine q H2 c7 B0 (.ref ex) _ l h rfl ⟨b5,σ,ex,rfl,.inl ⟨rfl,_,_,I3,g,rfl,rfl,rfl,rfl,n2,?_⟩⟩;cases z:X.s₀.heap.get? ex with
  |none=>rfl
  |some o=>
   obtain⟨o',y⟩:=I2.base.there ex o z (by rw[hxx];intro y;cases y);rw[hm.new]at y;cases y
nonrec def rdYE(fl:Bool)(X:Cx)(C:Vh)(av:Option Str)(b:E7):TE:=λσ H _=>∃ι c6 Hd i c5,D4 X.K H ι σ c6/\C0 X.K H ι Hd/\b c6 Hd=B3 (i,c5) /\
 ∀H1 c7 dx e s',Le X.K H ι H1 c7->C0 X.K H1 c7 c5->fW av i dx H1 c7->Zxk fl X C dx H1 e s'->X.xe e s'
def PYE(fl:Bool)(X:Cx)(C:Vh)(av:Option Str)(e:Vz)(b:E7):Prop:=PE X e (rdYE fl X C av b)
nonrec def gP(K:Xa)(C:Vh)(av:Option Str)(n:Nat)(F:T4):Sp:=λvs H _ E=>∃ι ds Hd i c5,ds.length=n/\C0 K H ι Hd/\Vm (Rep K H ι) ds vs/\F ds Hd=B3 (i,c5)/\∀H1 c7 dx,Le K H ι H1 c7->C0 K H1 c7 c5->fW av i dx H1 c7->E (.ref C) dx H1
nonrec def Q9(n:Nat)(F:T4)(fa:AF):E7:=λσ H=>(fa σ H).bind λp=>if p.1.length=n then F p.1 p.2 else B0
theorem Zuc{f:Vh}{k n:Nat}{fd:X0}{ps:List Str}{F:T4}{fa:AF}{x:Str}{a:Vz}{as:List Vz}{p cp:Pos}(G:K2 X.prog X.w X.K X.mg X.base (R7 X.prog X.w) k f fd ps (gP X.K C av n F))(hr:E5 k X.A)(hg:Gl X x)(hm:X.mg x=B3 (.ref f))(hk:cW X.K (.ref f)=B1)(hb:cP X.K fd ps [])(ha:O2 X.nox (a::as) fa)
  (hdb:(x==("__debug__" : Str))=B2:=by decide)(he:Vg (a::as) X.env=(B2,eval a X.env)::Vg as X.env:=by exact V3 rfl)(hpl:(K8 cp (Vg as X.env)).any (·.1)=B2:=by exact cS rfl):PYE fl X C av (.Call (.Name x p) (a::as) [] cp) (Q9 n F fa):=by
 rintro b5 s σ H D I ⟨ι,c6,Hd,i,H2,ss,hh,eq,q⟩;obtain⟨⟨ds,H1⟩,e1,e⟩:=Zo eq;have hx:ds.length=n/\F ds H1=B3 (i,H2):=by
  dsimp only at e;split at e
  ·rename_i z;exact⟨z,e⟩
  ·cases e
 obtain⟨e2,e3⟩:=hx;refine pP (iI I hg hm ?_ hdb);refine Wdn (h₀:=X.base) I.ok.mod.kin hk (Vr (ha cp b5 s σ H (λvs H'=>∃c7,Le X.K H ι H' c7/\C0 X.K H' c7 H1/\Vm (Rep X.K H' c7) ds vs) (I.wish _) ⟨ι,c6,Hd,ds,H1,ss,hh,e1,λvs H' c7 l h P=>⟨c7,l,h,P⟩⟩) (λus s1 z=>?_) λ_ _ z=>z.elim) he hpl;obtain⟨vs,H1v,I1,r1,ι1,l1,h1,P1⟩:=z;have I1:B6 X b5 σ H1v s1:=I1.unwish;refine⟨I1.kIn,?_⟩;have sp:gP X.K C av n F vs H1v (λ_ _=>False) λCv dx H'=>Cv=.ref C/\∃c7,Le X.K H ι H' c7/\C0 X.K H' c7 H2/\fW av i dx H' c7:=⟨ι1,ds,H1,i,H2,e2,h1,P1,e3,λH' c7 dx l h z=>⟨rfl,c7,l1.trans l,h,z⟩⟩
 have hl:us.length=ps.length:=by rw[<- r1.length];exact G.len _ _ _ _ sp
 have hb1:=hb s1 us I1.kIn (by rw[Xq];exact hl);rw[Xq]at hb1;refine pG (eM (G.run X.A X.stack s1 H1v ⟨us,[]⟩ us vs _ _ hr I1.env0 hb1 r1 sp) λr s' hq=>?_);cases r with
 |ok fl'=>
  cases fl' with
  |ret u=>obtain⟨v,H',_,_,_,_,_,z⟩:=hq;exact z.elim
  |next=>exact Uh hq
  |brk=>exact Uh hq
  |cont=>exact Uh hq
 |error e=>
  obtain⟨ex,Cv,dx,H2v,rfl,⟨rfl,ι2,l2,h2,xd⟩,os,bare,un,hok,fl⟩:=hq;exact q H2v ι2 dx (.ref ex) s' l2 h2 xd ⟨b5,σ,ex,rfl,.inr ⟨s1,H1v,I1,os,bare,un,hok,fl⟩⟩
theorem Zjw{e:Vz}{b:E7}(h:PYE fl X C av e b)(hs:dB e B0 pos.line X.env=pure B2:=by rfl):dH fl X C av (.Expr e pos) b:=cA (Zpr h hs) λE σ H z=>z
theorem Zl8{i:Nat}{x:Str}{e:Vz}{b:E7}{pos':Pos}(hN:X.N.Nodup)(hi:X.N[i]? = B3 x)(hx:mF X.env.scope x)(h:PYE fl X C av e b)(hs:dB e (B3 (.Name x pos')) pos.line X.env=pure B2:=by rfl)(hf:X.fn x=B1\/X.env.scope.names.lookup x=B3 .local:=by first |exact .inl rfl |exact .inr rfl):dH fl X C av (.Assign [.Name x pos'] e pos) b:=cA (Zwr hN hi hx h hs hf) λE σ H z=>z
end
section
variable{P:Vl}{w:Vs}{K:Xa}{mg:Str->Option Vb}{base:C5}
theorem Zti{N:List Str}{qual:Str}{scope:P4}{f:Vh}{cd:Vb}{A:Vo}{outer:List Env}{s s':Vd}{H H1:Hp}{E:XK}{C:Vh}{dx:Option Vh}{e:Vb}{fl:Bool}(z:Zxk fl (M8 (R7 P w) P w K mg base N qual scope f cd A outer s H E) C dx H1 e s')(q:E (.ref C) dx H1) :
  (M8 (R7 P w) P w K mg base N qual scope f cd A outer s H E).xe e s':=by
 obtain⟨b5,σ1,a,rfl,z⟩:=z;rcases z with ⟨_,oe,vs,I,g1,g2,g3,g4,g5,g6,g7⟩ |⟨s1,H0,I,os,bare,un,hok,fl⟩
 ·exact Zsf I g1 g4 g5 g6 g7 (by rw[g2,g3];exact q)
 ·exact Zqw I os bare un hok fl q
theorem fy_f{x qual:Str}{st:D2}{f C:Vh}{fd:X0}{N ps:List Str}{k:Nat}{b:E7}{av:Option Str}(F:jQ K x qual st f fd)(S:C3 N ps (F5 st))
  (hb:∀(cdv:Vb)(A:Vo)(outer:List Env)(s:Vd)(H:Hp)(E:XK),E5 k (A.deeper (bB qual (F5 st) s.heap.objs.size f cdv)) ->
   U9 B2 (M8 (R7 P w) P w K mg base N qual (F5 st) f cdv A outer s H E) C av (L4 st) b):K2 P w K mg base (R7 P w) (k+1) f fd ps (gP K C av ps.length (X9 ps.length N.length b)):=by
 obtain⟨oc,od,kV,d6,pm,an,cdv,ct,osl,rfl,lk,hcd⟩:=F.ex;refine Yci lk hcd S (λvs H Q E⟨ι,ds,Hd,i,c5,hl,_,r,_⟩=>by rw[<- Prd.len r];exact hl) λA outer s H vs Q E hr zz=>?_;obtain⟨ι,ds,Hd,i,c5,hl,hh,r,e,q⟩:=zz;refine⟨_,hb cdv A outer s H E hr,?_⟩;unfold X9 at e;rw[d7 hl]at e;refine⟨ι,_,Hd,i,c5,?_,hh,e,λH1 c7 dx ex s' l h xd z=>Zti z (q H1 c7 dx l h xd)⟩;refine⟨by simp[L2.start,Prd.len r],λi d0 h0=>?_⟩;unfold L2.start;by_cases hi:i<ds.length
 ·rw[Xs (by simpa using hi),Xy]at h0;cases ed:ds[i]? with
  |none=>rw[ed]at h0;cases h0
  |some d1=>
   rw[ed]at h0;cases h0;obtain⟨v,hv,rv⟩:=Prd.get r ed;refine⟨v,?_,rv⟩;rw[Xs (by rw[Xj,<- Prd.len r];exact hi),Xy,hv];rfl
 ·rw[eD (by simpa using hi),Wdp]at h0;split at h0<;>cases h0
structure Z9(P:Vl)(w:Vs)(K:Xa)(mg:Str->Option Vb)(base:C5)(k:Nat)(x:Str)(ps:List Str)(xn:Str)(av:Option Str)(F:T4):Prop where
 ex:∃f fd,(∀C,mg xn=B3 (.ref C)->K2 P w K mg base (R7 P w) k f fd ps (gP K C av ps.length F))/\cP K fd ps []/\cW K (.ref f)=B1/\mg x=B3 (.ref f)
theorem sI{x xn:Str}{st:D2}{N ps:List Str}{k:Nat}{b:E7}{av:Option Str}(T:Tf K mg x st)(S:C3 N ps (F5 st))
  (hbd:∀(kV d6 pm:Vb)(an:Option Vh)(cdv ct:Vb)(us:List Vb),us.length=ps.length->bindArgs (fX x x (iH st) (L4 st) (F5 st) .none kV d6 pm an cdv ct) ⟨us,[]⟩=pure (ps.zip us))
  (hb:∀C,mg xn=B3 (.ref C)->∀(f:Vh)(cdv:Vb)(A:Vo)(outer:List Env)(s:Vd)(H:Hp)(E:XK),E5 k (A.deeper (bB x (F5 st) s.heap.objs.size f cdv)) ->
   U9 B2 (M8 (R7 P w) P w K mg base N x (F5 st) f cdv A outer s H E) C av (L4 st) b):Z9 P w K mg base (k+1) x ps xn av (X9 ps.length N.length b):=by
 obtain⟨f,fd,F,hm⟩:=T;exact⟨f,fd,λC E=>fy_f F S λcdv A outer s H E1 hr=>hb C E f cdv A outer s H E1 hr,F.binds hbd,F.kp,hm⟩
theorem nE{X:Cx}{fl:Bool}{C:Vh}{av:Option Str}{k n:Nat}{ps:List Str}{F:T4}{fa:AF}{x xn:Str}{a:Vz}{as:List Vz}{p cp:Pos}(G:Z9 X.prog X.w X.K X.mg X.base k x ps xn av F)(hE:X.mg xn=B3 (.ref C))(hr:E5 k X.A)(ha:O2 X.nox (a::as) fa)
  (hg:Gl X x:=by rfl)(hdb:(x==("__debug__" : Str))=B2:=by decide)(he:Vg (a::as) X.env=(B2,eval a X.env)::Vg as X.env:=by exact V3 rfl)(hpl:(K8 cp (Vg as X.env)).any (·.1)=B2:=by exact cS rfl)(hn:ps.length=n:=by rfl):PYE fl X C av (.Call (.Name x p) (a::as) [] cp) (Q9 n F fa):=by
 subst hn;obtain⟨f,fd,G1,hb,hk,hm⟩:=G.ex;exact Zuc (G1 C hE) hr hg hm hk hb ha hdb he hpl
end
section
variable{X:Cx}
theorem Yc7{tg iter:Vz}{t:TI}(h:PI X.nox tg iter t):PI X tg iter t:=λb5 s σ H R I q=>
 Vr (h b5 s σ H R (I.wish _) q) (λv s1 z=>Vr z (λitv s2⟨it,fp,tn,J,H',e,I',T,st,f,r⟩=>⟨it,fp,tn,J,H',e,I'.unwish,T,st,f,r⟩) λ_ _ y=>Uh y) λ_ _ y=>Uh y
theorem Ybs{tg:Vz}{t:TG}(h:PG X.nox tg t):PG X tg t:=λb5 s σ H v u Q I r q=>
 Vr (h b5 s σ H v u Q (I.wish _) r q) (λ_ s1⟨σ',H',I',z⟩=>⟨σ',H',I'.unwish,z⟩) λ_ _ y=>Uh y
variable{fl:Bool}{C:Vh}{av:Option Str}{st:D2}{sts:List D2}{c:Vz}{pos:Pos}
theorem Zvj{f:SF}{b:E7}(h1:V8 X.nox st f)(h2:U9 fl X C av sts b):U9 fl X C av (st::sts) (Y0 f b):=Zq6 (Zv8 h1) h2
theorem Yba{f:SF}{a b:E7}(h1:V8 X.nox st f)(h0:dH fl X C av st a)(h2:U9 fl X C av sts b):U9 fl X C av (st::sts) (eT f a b):=qV (Zv8 h1) h0 h2
theorem Znp{t:TF}{as bs:List D2}{a b:E7}(hc:Y5 X.nox c t)(ha:U9 fl X C av as a)(hb:U9 fl X C av bs b):dH fl X C av (.If c as bs pos) (dL t a b):=qU (PT.nox hc) ha hb
theorem Zyu{tg iter:Vz}{body:List D2}{f:ItF}{g:GF}{b:SF}{yb:E7}(hp:lN (Vi X.prog X.w) X.A X.env X.xe)(hc:X.calm=B1)(hi:eR X.nox tg iter f)(hg:jN X.nox tg g)(hb:V2 X.nox body b)(hy:U9 fl X C av body yb)
  (hs:∀x,eO iter X.env x=pure x:=by intro _;rfl):dH fl X C av (.For tg iter body [] pos) (dQ f g b yb):=Yaw hp hc (Yc7 hi) (Ybs hg) (T6.nox hb) hy hs
end
theorem Zrd{P:Vl}{w:Vs}{K:Xa}{mg:Str->Option Vb}{base:C5}{N:List Str}{qual:Str}{scope:P4}{f:Vh}{cd:Vb}{A:Vo}{outer:List Env}{s:Vd}{H:Hp}{E:XK}{CX:CXT} :
  lN (Vi P w) (M8 CX P w K mg base N qual scope f cd A outer s H E).A (M8 CX P w K mg base N qual scope f cd A outer s H E).env (M8 CX P w K mg base N qual scope f cd A outer s H E).xe:=PassesOwn.leaving
nonrec abbrev XTs:=SD->HD->Option (Str×HD)
nonrec abbrev Xm(X:Cx)(ex:Vh):Cx:={ X with A:=X.A.mark (B3 (.ref ex)),calm:=B2,xe:=λ_ _=>False }
section
variable{X:Cx}{b5:List (Vh×Obj)}{σ:L2.St}{H:Hp}{s:Vd}{ex C:Vh}{o:Obj}
theorem B6.told(I:B6 X b5 σ H s)(n:H ex=B0)(g:s.heap.get? ex=B3 o)(hc:o.cls=.ref C)(new:X.s₀.heap.get? ex=B0)(ne:ex≠X.env.locals)(nc:∀x c,X.env.cells.lookup x=B3 c->c≠ex)(np:∀p∈X.pn++b5,p.1≠ex):B6 X b5 σ (upd H ex (.ext (A8 ex C))) s:=by
 have k:∀b ho,H b=B3 ho->upd H ex (.ext (A8 ex C)) b=B3 ho:=λb ho z=>by rw[F3 (S4 z n)];exact z
 have fr:∀b,b≠ex->H b=B0->upd H ex (.ext (A8 ex C)) b=B0:=λb h z=>by rw[F3 h];exact z
 refine⟨I.ok,I.os,I.bare,⟨I.base.keep,I.base.slot,λb o eb n hx=>fr b (λz=>by rw[z,new]at eb;cases eb) (I.base.free b o eb n hx),I.base.there,λb xs z=>k b _ (I.base.tups b xs z),λb o u z=>k b _ (I.base.frzs b o u z),λb ps z=>let ⟨m,q⟩:=I.base.tbls b ps z;⟨m,k b _ q⟩⟩,I.loc,I.cell,fr _ (Uj ne) I.free,λx c z=>(I.freeC x c z).imp (fr c (nc x c z)) λy=>⟨y.1,y.2.imp λo y=>y.imp λu y=>k c _ y⟩,λp hp=>?_,λb ho z=>?_,I.len⟩
 ·obtain⟨a1,a2,a3⟩:=I.pin p hp;exact⟨a1,fr _ (np p hp) a2,a3⟩
 ·by_cases hb:b=ex
  ·subst hb;rw[T3]at z;cases z;exact⟨⟨o,g,hc⟩,⟨o,g⟩,λh1 h2 z1 z2=>let ⟨o1,g1,c1⟩:=z1;⟨o1,z2 o1 g1,c1⟩⟩
  ·rw[F3 hb]at z;exact(I.hok b ho z).stay (λc v _ r=>r) (λc r=>k c _ r) λc xs r=>k c _ r
theorem B6.inM(I:B6 X b5 σ H s):B6 (Xm X ex) b5 σ H s:=by
 obtain⟨o1,o2,o3,o4,o5,o6,o7,o8,o9,o10,o11,o12,o13,o14,o15,o16,o17,o18⟩:=I.ok;exact⟨⟨o1,o2,o3,o4,o5,o6,o7,o8,(λz=>by cases z),o10,o11,o12,o13,o14,o15,o16,o17,o18⟩,I.os,I.bare,I.base,I.loc,I.cell,I.free,I.freeC,I.pin,I.hok,I.len⟩
theorem B6.outM(ok:X.Ok)(I:B6 (Xm X ex) b5 σ H s):B6 X b5 σ H s :=
 ⟨ok,I.os,I.bare,I.base,I.loc,I.cell,I.free,I.freeC,I.pin,I.hok,I.len⟩
end
nonrec def sL(iE:Nat)(b:SF)(x:XTs)(su:SF):SF:=λσ H=>match b σ H with
 |some r=>B3 r
 |none=>(x σ H).bind λp=>if iE<σ.length then (su (σ.set iE (B3 (.ref p.2.length))) (p.2++[.exc p.1])).bind λr=>match r.1 with
  |.nx=>B3 (.nx,r.2.1.set iE B0,r.2.2)
  |_=>B0
 else B0
theorem Zsb{K:Frag}{H:Hp}{ι:List Vh}{σ:L2.St}{c6:SD}{iE:Nat}(s:D4 K H ι σ c6)(v:Option V):D4 K H ι (σ.set iE v) (c6.set iE B0):=by
 refine⟨by simp[s.len],λj d hd=>?_⟩;by_cases hj:j=iE
 ·subst hj;rw[vV]at hd;split at hd
  ·split at hd<;>cases hd
  ·rename_i z;exact absurd rfl z
 ·rw[Z6 (Uj hj)]at hd ⊢;exact s.var j d hd
def mH(K:Frag)(mg:Str->Option Vb)(xc:Str)(L:List Str):Prop:=∃cV,mg xc=B3 cV/\∀cn∈L,∃C,T7 K mg cn C/\W9 K Vn cn=B3 (B3 (.ref C))/\gD K (.ref C) cV=B3 B1
nonrec def dO(t:List (Str×Bool))(fo:EF):EF:=λσ H=>(fo σ H).bind λo=>match o.1 with
 |.ref n=>match o.2[n]? with
  |some (.exc c)=>(t.lookup c).map λb=>(.bl b,o.2)
  |_=>B0
 |_=>B0
def gM(K:Frag)(cV:Vb)(t:List (Str×Bool)):Prop:=∀c b,t.lookup c=B3 b->∃C,W9 K Vn c=B3 (B3 (.ref C))/\kitOne K (.ref C) cV=B3 b
def jO(K:Frag)(cs:List Vh)(t:List (Str×Bool)):Prop:=∀c b,t.lookup c=B3 b->∃C,W9 K Vn c=B3 (B3 (.ref C))/\kitAny K (.ref C) (cs.map .ref)=B3 b
def hV(K:Frag)(L:List Str):Prop:=∀cn∈L,∃C,W9 K Vn cn=B3 (B3 (.ref C))/\Y6 K C
theorem Zq0{t:List (Str×Bool)}{c:Str}{b:Bool}(h:t.lookup c=B3 b):c∈t.map (·.1):=by
 induction t with
 |nil=>cases h
 |cons p r ih=>
  rw[Z4]at h;split at h
  ·rename_i z;simp only[Xx,Xn];exact .inl (by simpa using z)
  ·exact Xv _ (ih h)
section
variable{X:Cx}
theorem Zsg{c:V}{cV:Vb}(hu:∀u,E4 c u->u=cV):Y1 X (.builtin "isinstance") (λxs H Q=>∃a C b,xs=[.ref a,c]/\H a=B3 (.ext (A8 a C))/\Y6 X.K C/\kitOne X.K (.ref C) cV=B3 b/\Q (.bl b) H):=by
 rintro b5 s σ H xs us Q I r ⟨a,C,b,rfl,hH,L,e,q⟩;obtain⟨u1,u2,rfl,r1,r2⟩:=Ztr r;have e1:u1=.ref a:=r1;subst e1;obtain rfl:=hu u2 r2;obtain⟨⟨o,g,hc⟩,_,_⟩:=I.hok a _ hH;exact kia_one (Znt (ox:=o) (x:=a) L) I.kIn ⟨g,hc⟩ e (by rintro z;cases z) λtk=>⟨.bl b,H,I.tok tk,rfl,q⟩
theorem Zxm{cs:List Vh}:Y1 X (.builtin "isinstance") (λxs H Q=>∃a C b p,xs=[.ref a,.ref p]/\H a=B3 (.ext (A8 a C))/\Y6 X.K C/\kitAny X.K (.ref C) (cs.map .ref)=B3 b/\H p=B3 (.tup (cs.map .ref))/\Q (.bl b) H):=by
 rintro b5 s σ H xs us Q I r ⟨a,C,b,p,rfl,hH,L,e,hp,q⟩;obtain⟨u1,u2,rfl,r1,r2⟩:=Ztr r;have e1:u1=.ref a:=r1;have e2:u2=.ref p:=r2;subst e1 e2;obtain⟨⟨o,g,hc⟩,_,_⟩:=I.hok a _ hH;obtain⟨_,b9,rv,o2,g2,c1,⟨n,d1⟩,_⟩:=I.hok p _ hp;have ei:=Zpl rv;subst ei;obtain⟨oc,od,odd,os⟩:=o2;have c1:oc=.type "tuple" := c1;have d1:odd=.seq (cs.map Uc).toArray n:=d1;subst c1 d1;exact kia_tup (Znt (ox:=o) (x:=a) L) I.kIn ⟨g,hc⟩ g2 e (by rintro z;cases z) λtk=>⟨.bl b,H,I.tok tk,rfl,q⟩
theorem Zrz{t:List (Str×Bool)}{fo:EF}{σ:L2.St}{H:Hp}{Q:VK}{R:V->Hp->Prop}(z:cD X.K (dO t fo) σ H Q)(k:∀a c b,t.lookup c=B3 b->∀H' c7 C,W9 X.K Vn c=B3 (B3 (.ref C))->H' a=B3 (.ext (A8 a C))->(∀H'' ,Le X.K H' c7 H'' c7->(∀Hd,C0 X.K H' c7 Hd->C0 X.K H'' c7 Hd)->Q (.bl b) H'')->R (.ref a) H'):cD X.K fo σ H R:=by
 obtain⟨ι,c6,Hd,d,c5,s,hr,e,q⟩:=z;obtain⟨⟨x,H1⟩,e1,e0⟩:=Zo e;clear e;refine⟨ι,c6,Hd,x,H1,s,hr,e1,λv H' c7 l h r=>?_⟩;dsimp only at e0;split at e0
 ·rename_i n;split at e0
  ·rename_i c en;obtain⟨b,eb,e2⟩:=Zm e0;cases e2;obtain⟨a,rfl,ha⟩:=N4.mp r;obtain⟨a',ha',C,hns,hH⟩:=h.at en;rw[ha]at ha';cases ha';exact k a c b eb H' c7 C hns hH λH'' l2 h2=>q _ H'' c7 (l.trans l2) (h2 _ h) g8
  ·cases e0
 ·cases e0
theorem Zyd{L:List Str}{t:List (Str×Bool)}{fo:EF}{o:Vz}{xn:Str}{c:Vh}{p1 p3 p4:Pos}(E:hV X.K L)(hl:t.map (·.1)=L)(ho:D6 X o fo)(hm:X.mg xn=B3 (.ref c))(J:gM X.K (.ref c) t)(mI:X.mg "isinstance" = B0)(gI:Gl X "isinstance" := by rfl)(gX:Gl X xn:=by rfl)(hd:(xn==("__debug__" : Str))=B2:=by decide)(he:Vg [o,.Name xn p3] X.env=(B2,eval o X.env)::Vg [.Name xn p3] X.env:=by exact V3 rfl) :
  D6 X (.Call (.Name "isinstance" p1) [o,.Name xn p3] [] p4) (dO t fo):=by
 refine S7 (tW (Zsg (c:=.ref c) (cV:=.ref c) λu r=>r) gI mI Udk (fS ho (fS (Zsr (v:=.ref c) gX hm rfl hd) nF rfl) he) (he:=he)) λσ H Q z=>?_;refine Zrz z λa cn b eb H' c7 C hns hH q=>?_;obtain⟨C',h1,h3⟩:=J cn b eb;rw[hns]at h1;cases h1;obtain⟨C',h1,h2⟩:=E cn (hl ▸ Zq0 eb);rw[hns]at h1;cases h1;exact⟨a,C,b,rfl,hH,h2,h3,q H' Le.refl λ_ z=>z⟩
theorem Zur{L:List Str}{t:List (Str×Bool)}{fo:EF}{o:Vz}{p1 p3 p4:Pos}(E:hV X.K L)(hl:t.map (·.1)=L)(ho:D6 X o fo)(J:gM X.K (.type "ValueError") t)(mI:X.mg "isinstance" = B0)(mV:X.mg "ValueError" = B0)(gI:Gl X "isinstance" := by rfl)(gX:Gl X "ValueError" := by rfl)(he:Vg [o,.Name "ValueError" p3] X.env=(B2,eval o X.env)::Vg [.Name "ValueError" p3] X.env:=by exact V3 rfl) :
  D6 X (.Call (.Name "isinstance" p1) [o,.Name "ValueError" p3] [] p4) (dO t fo):=by
 refine S7 (tW (Zsg (c:=.ty "ValueError") (cV:=.type "ValueError") λu r=>r) gI mI Udk (fS ho (fS (Zxy (v:=.ty "ValueError") gX mV j0 rfl) nF rfl) he) (he:=he)) λσ H Q z=>?_;refine Zrz z λa cn b eb H' c7 C hns hH q=>?_;obtain⟨C',h1,h3⟩:=J cn b eb;rw[hns]at h1;cases h1;obtain⟨C',h1,h2⟩:=E cn (hl ▸ Zq0 eb);rw[hns]at h1;cases h1;exact⟨a,C,b,rfl,hH,h2,h3,q H' Le.refl λ_ z=>z⟩
theorem Zna{L:List Str}{t:List (Str×Bool)}{fo:EF}{o:Vz}{es:List Vz}{cs:List Vh}{x1:Nat}{p1 p3 p4:Pos}(E:hV X.K L)(hl:t.map (·.1)=L)(ho:D6 X o fo)(hcl:PA X es (Ztk cs))(J:jO X.K cs t)(hz:cs.length<=1000)(mI:X.mg "isinstance" = B0)(gI:Gl X "isinstance" := by rfl)(he:Vg [o,.Tuple es x1 p3] X.env=(B2,eval o X.env)::Vg [.Tuple es x1 p3] X.env:=by exact V3 rfl) :
  D6 X (.Call (.Name "isinstance" p1) [o,.Tuple es x1 p3] [] p4) (dO t fo):=by
 refine S7 (tW (Zxm (cs:=cs)) gI mI Udk (fS ho (fS (Zv9 hcl) nF rfl) he) (he:=he)) λσ H Q z=>?_;refine Zrz z λa cn b eb H' c7 C hns hH q=>?_;obtain⟨C',h1,h3⟩:=J cn b eb;rw[hns]at h1;cases h1;obtain⟨C',h1,h2⟩:=E cn (hl ▸ Zq0 eb);rw[hns]at h1;cases h1;refine⟨by rw[Xj,Uy];omega,λp hp=>?_⟩;exact⟨a,C,b,p,rfl,by rw[F3 (S4 hH hp)];exact hH,h2,h3,T3,q _ (Le.fresh hp _) λ_ z=>z.tup hp _⟩
end
section
variable{K:Frag}{hp:C5}{mg:Str->Option Vb}{xc cn:Str}{cV:Vb}{C:Vh}{L:List Str}{t:List (Str×Bool)}{b:Bool}{cs:List Vh}
theorem Zsj(X:K.In hp)(G:hp.Ns Vn mg)(a:W9 K Vn xc=B3 (B3 cV)):mg xc=B3 cV/\∀cn∈([]:List Str),∃C,T7 K mg cn C/\W9 K Vn cn=B3 (B3 (.ref C))/\gD K (.ref C) cV=B3 B1:=⟨mg_of X G a,nofun⟩
theorem Zm2(X:K.In hp)(G:hp.Ns Vn mg)(a:W9 K Vn cn=B3 (B3 (.ref C)))(f:keepIn K (.ref C)=B1)(p:excIn K C [.type "ValueError",.type "Exception",.type "BaseException",.type "object"] "ValueError.__new__" = B1)(q:gD K (.ref C) cV=B3 B1)
  (r:mg xc=B3 cV/\∀cn∈L,∃C,T7 K mg cn C/\W9 K Vn cn=B3 (B3 (.ref C))/\gD K (.ref C) cV=B3 B1):mg xc=B3 cV/\∀c∈cn::L,∃C,T7 K mg c C/\W9 K Vn c=B3 (B3 (.ref C))/\gD K (.ref C) cV=B3 B1:=by
 refine⟨r.1,λc hc=>?_⟩;rcases Xn.mp hc with rfl |hc
 ·exact⟨C,⟨mg_of X G a,f,_,_,_,_,p,PySem.F.excBase_ValueError⟩,a,q⟩
 ·exact r.2 c hc
theorem mH.exc(h:mH K mg xc L)(m:cn∈L):∃C,T7 K mg cn C:=by
 obtain⟨_,_,h⟩:=h;obtain⟨C,h,_⟩:=h cn m;exact⟨C,h⟩
theorem Yc1:hV K []:=nofun
theorem Zxw{cd:ClassData}(a:W9 K Vn cn=B3 (B3 (.ref C)))(g:findIn K (.ref C) "__getattribute__" = B3 (B3 (.builtin "BaseException.__getattribute__")))(h:findIn K (.ref C) "__getattr__" = B3 B0)(i:findIn K (.ref C) "__class__" = B3 (B3 (.builtin "object.__class__")))(j:specialIn K (.builtin "object.__class__") "__get__" = B3 (B3 (.builtin "getset_descriptor.__get__")))
  (l:takesIn K (.builtin "object.__class__")=B3 B1)(m:mroIn K C (.type "object")=B3 B1)(n:subIn K (.ref C) (.type "BaseException")=B3 B1)(o:clsIn K C=B3 cd)(r:hV K L):hV K (cn::L):=by
 intro c hc;rcases Xn.mp hc with rfl |hc
 ·exact⟨C,a,⟨g,h,i,j,l,m,n,by rw[o];rfl⟩⟩
 ·exact r c hc
theorem Zsz:gM K cV []:=nofun
theorem Zmz(a:W9 K Vn cn=B3 (B3 (.ref C)))(s:kitOne K (.ref C) cV=B3 b)(r:gM K cV t):gM K cV ((cn,b)::t):=by
 intro c b' h;rw[Z4]at h;split at h
 ·rename_i z;cases h;rw[show c=cn by simpa using z];exact⟨C,a,s⟩
 ·exact r c b' h
theorem Zqb:jO K cs []:=nofun
theorem Zmx(a:W9 K Vn cn=B3 (B3 (.ref C)))(s:kitAny K (.ref C) (cs.map .ref)=B3 b)(r:jO K cs t):jO K cs ((cn,b)::t):=by
 intro c b' h;rw[Z4]at h;split at h
 ·rename_i z;cases h;rw[show c=cn by simpa using z];exact⟨C,a,s⟩
 ·exact r c b' h
end
nonrec def jI(g:EF)(f:JF):JF:=λσ H out=>(g σ H).bind λp=>match p.1 with
 |.int n=>if n.natAbs<1000000/\(out++(toString n:Str)).length<=sizeLine then f σ p.2 (out++(toString n:Str))else B0
 |_=>B0
theorem pj_i{X:Cx}{a:Vz}{g:EF}{es:List Vz}{f:JF}{p:Pos}(ha:D6 X a g)(h:pR X es f):pR X (.FormattedValue a (-1) B0 p::es) (jI g f):=by
 rintro b5 s σ H out Q I hl ⟨ι,c6,Hd,y,c5,ss,hr,e,q⟩;obtain⟨⟨d1,H1⟩,e1,e0⟩:=Zo e;clear e;dsimp only at e0;split at e0
 ·rename_i n;split at e0
  ·rename_i hz;refine joinParts_consE (joinParts_cons (FormattedValue_plain (D7 (ha b5 s σ H (λv H'=>∃c7,v=.int n/\Le X.K H ι H' c7/\C0 X.K H' c7 H1) I ⟨ι,c6,Hd,_,H1,ss,hr,e1,λv H' c7 l h r=>⟨c7,by simpa using r,l,h⟩⟩) λu s1 z=>?_)));obtain⟨v,H',I1,r1,c7,rfl,l,hh⟩:=z;obtain⟨t,rfl⟩:=r1;refine formatField_int_small ?_ ?_
   ·have:n.natAbs.log2<=20:=by
     rcases Nat.eq_zero_or_pos n.natAbs with z |z
     ·rw[z];decide
     ·have:=(Nat.log2_lt f8).mpr (show n.natAbs<2 ^ 21 by omega);omega
    omega
   exact⟨hz.2,h b5 _ σ H' _ Q (I1.tok _) hz.2 ⟨c7,c6,H1,y,c5,ss.mono l,hh,e0,λH2 ι2 l2 h2=>q H2 ι2 (l.trans l2) h2⟩⟩
  ·cases e0
 ·cases e0
nonrec def sH(b:SF)(y:E7)(su:SF):SF:=λσ H=>match b σ H with
 |some r=>B3 r
 |none=>(y σ H).bind λp=>su σ p.2
section
variable{X:Cx}{av:Option Str}
theorem Zr6{C f:Vh}{k n:Nat}{fd:X0}{ps:List Str}{F:T4}{fa:AF}{x xc:Str}{cV:Vb}{b₀:D2}{suite:List D2}{a:Vz}{as:List Vz}{su:SF}{p cp np hp:Pos}{b5:List (Vh×Obj)}{s:Vd}{σ:L2.St}{H:Hp}{D:W0}{Q:Vb->Vd->Prop}
  (hstk:X.stack=X.env::X.outer)(hfr:X.env.frame=B3 X.env.locals)
  (G:K2 X.prog X.w X.K X.mg X.base (R7 X.prog X.w) k f fd ps (gP X.K C av n F))(hr:E5 k X.A)(hg:Gl X x)(hm:X.mg x=B3 (.ref f))(hk:cW X.K (.ref f)=B1)(hb:cP X.K fd ps [])
  (ha:O2 X.nox (a::as) fa)(hgc:Gl X xc)(hmc:X.mg xc=B3 cV)(hex:gD X.K (.ref C) cV=B3 B1)
  (hS:∀ex,V2 (Xm X ex) (b₀::suite) su)
  (hdb:(x==("__debug__" : Str))=B2)(hdc:(xc==("__debug__" : Str))=B2)(he:Vg (a::as) X.env=(B2,eval a X.env)::Vg as X.env)(hpl:(K8 cp (Vg as X.env)).any (·.1)=B2)
  (I:B6 X b5 σ H s)(z:∃ι c6 Hd i H2 fl σ2 H3,D4 X.K H ι σ c6/\C0 X.K H ι Hd/\Q9 n F fa c6 Hd=B3 (i,H2)/\su c6 H2=B3 (fl,σ2,H3)/\QS X.K H ι fl σ2 H3 D) :
  Vk (Vi X.prog X.w) X.A (eval (.Call (.Name x p) (a::as) [] cp) X.env) Q (λe s1=>Vk (Vi X.prog X.w) X.A (lM e X.env) (λ_ s2=>Vk (Vi X.prog X.w) X.A (Uey e B0) (λ_ s3=>Vk (Vi X.prog X.w) X.A (handleBy e X.env [.ExceptHandler (B3 (.Name xc np)) B0 (b₀::suite) hp]) (SP X b5 D) X.xe s3) X.xe s2) X.xe s1) s:=by
 obtain⟨ι,c6,Hd,i,H2,fl,σ2,H3,ss,hh,e1,e4,q⟩:=z;obtain⟨⟨ds,H1⟩,e1,e⟩:=Zo e1;have hx:ds.length=n/\F ds H1=B3 (i,H2):=by
  dsimp only at e;split at e
  ·rename_i z;exact⟨z,e⟩
  ·cases e
 obtain⟨e2,e3⟩:=hx;refine pP (iI I hg hm ?_ hdb);refine Wdn (h₀:=X.base) I.ok.mod.kin hk (Vr (ha cp b5 s σ H (λvs H'=>∃c7,Le X.K H ι H' c7/\C0 X.K H' c7 H1/\Vm (Rep X.K H' c7) ds vs) (I.wish _) ⟨ι,c6,Hd,ds,H1,ss,hh,e1,λvs H' c7 l h P=>⟨c7,l,h,P⟩⟩) (λus s1 z=>?_) λ_ _ z=>z.elim) he hpl;obtain⟨vs,H1v,I1,r1,ι1,l1,h1,P1⟩:=z;have I1:B6 X b5 σ H1v s1:=I1.unwish;refine⟨I1.kIn,?_⟩;have sp:gP X.K C av n F vs H1v (λ_ _=>False) λCv dx H'=>Cv=.ref C/\∃c7,Le X.K H ι H' c7/\C0 X.K H' c7 H2:=⟨ι1,ds,H1,i,H2,e2,h1,P1,e3,λH' c7 dx l h z=>⟨rfl,c7,l1.trans l,h⟩⟩
 have hl:us.length=ps.length:=by rw[<- r1.length];exact G.len _ _ _ _ sp
 have hb1:=hb s1 us I1.kIn (by rw[Xq];exact hl);rw[Xq]at hb1;refine pG (eM (G.run X.A X.stack s1 H1v ⟨us,[]⟩ us vs _ _ hr I1.env0 hb1 r1 sp) λr s' hq=>?_);cases r with
 |ok fl'=>
  cases fl' with
  |ret u=>obtain⟨v,H',_,_,_,_,_,z⟩:=hq;exact z.elim
  |next=>exact Uh hq
  |brk=>exact Uh hq
  |cont=>exact Uh hq
 |error e=>
  obtain⟨ex,Cv,dx,H2v,rfl,⟨rfl,ι2,l2,h2⟩,os,bare,un,hok,fy⟩:=hq;obtain⟨B,fly,bo,bt⟩:=fy.fly;rw[hstk]at fly;have frA:X.A.frames=B3 (X.env::X.outer):=by rw[<- hstk];exact I1.ok.frames
  refine Zqx frA hfr fly λh4 held4 up4=>?_;refine nW (s:={ s' with heap:=h4 }) held4 λh5 fly5 up5=>?_;have ff:s'.heap.FunFrames B X.stack:=by rw[hstk];exact fly.ff
  obtain⟨un5,ok5⟩:=sV un hok bo bt fly5.st (up4.trans up5) ff;have I5:B6 X b5 σ H2v { s' with heap:=h5 }:=I1.call' (s':={ s' with heap:=h5 }) (ch:=[]) os un5 ok5 bare (λb z=>absurd z g8);obtain⟨ob,wb,gob,cob,dob,_⟩:=fly5.first;have I5m:B6 (Xm X ex) b5 σ H2v { s' with heap:=h5 }:=B6.inM I5;refine Udz (Udl (iI (X:=Xm X ex) I5m hgc hmc ?_ hdc)) (by intro z;cases z);have LT:Looks (Vi X.prog X.w) h5 (lK (.ref ex)) (.ref C):=by rw[<- cob];exact(Tdo gob).andThen .now
  refine(exm_one (M:=Vi X.prog X.w) I5.kIn LT hex).here ?_;refine codeAny_handlers_suite ?_;refine nW (s:={ s' with heap:=h5 }) fly5 λh6 fly6 up6=>?_;obtain⟨un6,ok6⟩:=sV un hok bo bt fly6.st ((up4.trans up5).trans up6) ff;have I6:B6 X b5 σ H2v { s' with heap:=h6 }:=I1.call' (s':={ s' with heap:=h6 }) (ch:=[]) os un6 ok6 bare (λb z=>absurd z g8);have I6m:B6 (Xm X ex) b5 σ H2v { s' with heap:=h6 }:=B6.inM I6;have st:=hS ex b5 _ σ H2v D I6m ⟨ι2,c6,H2,fl,σ2,H3,ss.mono l2,h2,e4,λσ8 H8 ι8 l8 h8 s8=>q σ8 H8 ι8 (l2.trans l8) h8 s8⟩;refine Vr st (λf s8 z=>?_) λ_ _ z=>z.elim;cases f with
  |next=>obtain⟨σ8,H8,I8,z⟩:=z;exact⟨σ8,H8,B6.outM I1.ok I8,z⟩
  |ret u=>obtain⟨v,σ8,H8,I8,r,z⟩:=z;exact⟨v,σ8,H8,B6.outM I1.ok I8,r,z⟩
  |brk=>obtain⟨σ8,H8,I8,z⟩:=z;exact⟨σ8,H8,B6.outM I1.ok I8,z⟩
  |cont=>obtain⟨σ8,H8,I8,z⟩:=z;exact⟨σ8,H8,B6.outM I1.ok I8,z⟩
end
end DL
namespace DL
open PySem PySem.Spec PyProof.Rows L2
section
variable{prog:Vl}{w:Vs}{A:Vo}{E:Vb->Vd->Prop}{s:Vd}
theorem Zqs{d L:Vh}{m:Str->Option Vb}{es:Array X5}{ep:Nat}{ns:List Int}{Q:Vb->Vd->Prop}(hn:s.heap.Ns L m)(hh:A.handled=B0)(x:gV d es ep s.heap)(hI:Vw (es.toList.map (·.key)) ns)(h64:es.size<64)
  (h:∀h' tk D out c,h'.Ns L m->(∀b o,b≠L->s.heap.get? b=B3 o->h'.get? b=B3 o)->s.heap.objs.size<=D->h'.get? D=B3 (Vp "list" out c)->KskOut B2 (ns.map M9) (es.toList.map (·.key)) out.toList->Q (.ref D) { s with heap:=h',toks:=tk }) :
  Vk (Vi prog w) A (call (.builtin "sorted") [.ref d] [(Ue "key",.builtin "abs")]) Q E s:=by
 have sz:sizeLine=16777216:=Vx;have lt:=hn.lt;refine Ubj pH pL pK (ksk_s1 _ _) ?_;unfold Builtin.«sorted»;refine Va (m:=pF "sorted" 1 1 _) (Vc (Va (Zhy (show A.in1.handled=B0 from hh) x f8 λh1 tk k1 le=>Va (dD ?_ h9))));generalize ev:es.toList.map (·.key)=vs at *;have lv:vs.length=es.size:=by rw[<- ev];simp
 let h2:C5:=h1.push (Vp "list" vs.toArray 0)
 have at2:h2.get? h1.objs.size=B3 (Vp "list" vs.toArray 0):=Xi _ rfl;have kp:∀b o,s.heap.get? b=B3 o->h2.get? b=B3 o:=λb o e=>Xb _ (k1 b o e);have ltD:∀b o,s.heap.get? b=B3 o->b≠h1.objs.size:=λb o e=>Xp (Xo (Xh e) le);have LD:h1.objs.size≠L:=Uj (Xp (Xo lt le));have F0:Fr {} L s.heap m:=⟨hn,λb o e=>absurd ((nM b).symm.trans e) g8,R4 _⟩
 have N0:News {} L s.heap (nI s.heap L):=λp hp=>⟨(oC hp).1,(oC hp).2,nM _⟩
 have ln:ns.length=vs.length:=hI.length.symm;show Vk _ _ _ _ _ { s with heap:=h2,toks:=tk };refine Va (Vq (Ucd (s:={ s with heap:=h2,toks:=tk }) slot_list_sort ⟨_,at2,rfl⟩ entry_list_sort ?body (ksk_l1 _ _)))
 case body=>
  show Vk (Vi prog w) A.in1.in1 (Builtin.«list.sort» ⟨[.ref h1.objs.size],[(Ue "key",.builtin "abs")]⟩) _ _ _;rw[ksk_t4];refine ksk_sort (s:={ s with heap:=h2,toks:=tk }) (kz:=ns.map M9) (news:=nI s.heap L) (F0.kept kp) (N0.grown kp) at2 LD (nM _) (λp hp=>ltD _ _ (oC hp).1)
   (by rw[Xj];exact ln) f8 (λi v k hv hk hh tk own F N=>?_) λh' tk out c F' N' K'=>⟨_,rfl,?_⟩
  ·obtain⟨n,t,rfl,e⟩:=hI.at i v hv;rw[Xy,e]at hk;cases hk;exact Uem λu tk'=>Tdm F N λp hp=>hp
  ·refine Vc ⟨_,rfl,h h' tk _ out c F'.ns (λb o hb e=>?_) le ?_ K'⟩
   ·exact(N' _ (Xv _ (Zkv hb e))).1
   ·exact(N' _ (iU ..)).1
end
nonrec def tT:FF:=λds H=>match ds with
 |[.ref n]=>match H[n]? with
  |some (.dci b8)=>if b8.length<64/\((b8.map (·.1)).map M9).Nodup then B3 (.ref H.length,H++[.lst ((O5 (b8.map (·.1))).map .int)])else B0
  |_=>B0
 |_=>B0
theorem Zo8{p:Vl}{w:Vs}{es:List X5}{xs:List (Int×Vb)}(e:Pairs (fG p w) es xs):Vw (es.map (·.key)) (xs.map (·.1)):=by
 induction e with
 |nil=>exact .nil
 |cons a b c ih=>
  obtain⟨t,q⟩:=Zip a;rw[Xx,Xx,q];exact .cons _ t ih
theorem Zsc{K:Xa}{H:Hp}{ι:List Vh}{b8:List (Int×D)}{xs:List (Int×Vb)}(P:Vm (fF K H ι) b8 xs):b8.map (·.1)=xs.map (·.1):=by
 induction P with
 |nil=>rfl
 |cons a b ih=>rw[Xx,Xx,a.1,ih]
theorem Zoj{X:Cx}{a:Vz}{f:AF}{p p2 kp pos:Pos}(hcm:X.calm=B1)(hg:Gl X "sorted")(hm:X.mg "sorted" = B0)(hg2:Gl X "abs")(hm2:X.mg "abs" = B0)(ha:O2 X [a] f)(hs:Vg [a] X.env=[(B2,eval a X.env)]:=by rfl) :
  D6 X (.Call (.Name "sorted" p) [a] [⟨B3 "key",.Name "abs" p2,kp⟩] pos) (E9 tT f):=by
 rintro b5 s σ H Q I ⟨ι,c6,Hd,d,c5,sr,hr,e,q⟩;obtain⟨⟨ds,H1⟩,e1,e⟩:=Zo e;dsimp only at e;unfold tT at e;split at e
 ·rename_i n;split at e
  ·rename_i b8 eo;split at e
   ·rename_i hc;show Vk _ _ (do callWith pos (<- eval (.Name "sorted" p) X.env) [] (K8 pos (Vg [a] X.env)) (pC pos (pI [⟨B3 "key",.Name "abs" p2,kp⟩] X.env))) _ _ _;refine Va (dR I hg hm oE (Ubw (by rw[hs];rfl) rfl ?_));have hA:=ha pos b5 s σ H (λvs H'=>∃c7,Le X.K H ι H' c7/\C0 X.K H' c7 H1/\Vm (Rep X.K H' c7) [.ref n] vs) I ⟨ι,c6,Hd,_,_,sr,hr,e1,λvs H' c7 l h P=>⟨c7,l,h,P⟩⟩;rw[hs]at hA ⊢;refine Ueo rfl (D7 hA λus s1⟨vs,H2,I2,r2,ι2,l2,h2,P2⟩=>kws_cons (dR I2 hg2 hm2 Zrv (kws_nil ?_)));obtain⟨v,rfl,r⟩:=U0 P2;obtain⟨u,rfl,ru⟩:=bH r2;obtain⟨ad,rfl,had⟩:=N4.mp r;cases ru;obtain⟨h3,xs,PK,dd⟩:=Zw3 I2 (h2.obj n ad _ had eo);obtain⟨o,es,ep,g1,g2,g3,g4,g5,g6⟩:=dd;show Vk _ _ (call (.builtin "sorted") [.ref ad] [(Ue "key",.builtin "abs")]) _ _ _;obtain⟨m,hn,_⟩:=I2.loc;have hI:=Zo8 g5;rw[<- Zsc PK]at hI;have les:es.size=b8.length:=by
     have:=hI.length;simpa using this
    refine Zqs hn (I2.ok.hd hcm) ⟨h3,o,g1,g2,g3⟩ hI f8 λh' tk Da out c hn' kk hD hat K'=>?_;have hO:=Zwa hI hc.2 K';have hl:((O5 (b8.map (·.1))).map V.int).length<=sizeLine:=by
     rw[Xj,(uH (b8.map (·.1))).length_eq,Xj];have:sizeLine=16777216:=Vx;omega
    refine⟨.ref Da,_,uB (o:=.lst ((O5 (b8.map (·.1))).map V.int)) I2 kk (λm' hm'=>by rw[hm'.eq_nsMap,<- hn.eq_nsMap];exact hn') hD ⟨hl,out.toList,c,Zhd hO,by simpa using hat⟩,rfl,?_⟩;have hz2:((O5 (b8.map (·.1))).map D.int).length<=sizeLine:=by simpa using hl
    exact(cQ h2 (Zh1 (O5 (b8.map (·.1)))) (show O7 ((O5 (b8.map (·.1))).map D.int) H1=B3 (d,c5)by unfold O7;rw[d7 hz2,e]) (λv H' c7 l h r=>q v H' c7 (l2.trans l) h r)).2 _ (I2.hok.fresh hD)
   ·cases e
  ·cases e
 ·cases e
section
variable{X:Cx}
theorem Zz0:Vv "any" = B3 (.builtin "any"):=by decide +kernel
nonrec def vE:FF:=λds H=>match ds with
 |[.ref n]=>match H[n]? with
  |some (.lst xs)=>(mU xs).map λbs=>(.bl (bs.any id),H)
  |_=>B0
 |_=>B0
theorem Zqm(bs:List Bool):((V4 bs.length).any λi=>(bs[i]?).getD B2)=bs.any id:=by
 rw[oQ,lF,lF];constructor
 ·rintro⟨i,hi,h⟩;have hi:i<bs.length:=by simpa using hi
  exact⟨bs[i],Wgw hi,by simpa [hi]using h⟩
 ·rintro⟨x,hx,h⟩;obtain⟨i,hi,rfl⟩:=List.getElem_of_mem hx;exact⟨i,by simpa using hi,by simpa [hi]using h⟩
theorem Zps(hc:X.calm=B1):A7 X (.builtin "any") vE:=by
 rintro b5 s σ H xs us Q I rv ⟨ι,ds,Hd,d,c5,hr,P,e,q⟩;unfold vE at e;split at e
 ·rename_i n;split at e
  ·rename_i ys eo;obtain⟨bs,e1,e⟩:=Zm e;obtain⟨rfl,rfl⟩:=N9.inj e;obtain⟨v,rfl,r⟩:=U0 P;obtain⟨a,rfl,ha⟩:=N4.mp r;obtain⟨vs,h1,P2⟩:=hr.obj n a _ ha eo;cases rv with
   |cons rx rv=>
    cases rv;cases rx;obtain⟨b9,rv2,p,hz⟩:=I.list (G7.of h1);have eits:=Zk1 e1 P2 rv2;have hlt:a<s.heap.objs.size:=by
     obtain⟨o,ho,_⟩:=p.isList;exact Xh ho
    refine call_any_walk (Ucr p.isList ⟨s.heap.objs.size,[s.heap.objs.size,a],[s.heap.objs.size],b9.toArray.size,_,_,λi=>(bs[i]?).getD B2,rfl,
     Walks.list (A:=X.A.in1) (show X.A.in1.handled=B0 from I.ok.hd hc) s.heap.objs.size a (Xp hlt) b9.toArray,⟨⟨_,Xi _ rfl,rfl,rfl⟩,p.isList.at λo z=>Xb _ z⟩,?_,λh' tk k=>?_⟩)
    ·intro i v s2 Q2 E2 hv hq;rw[eits]at hv;have hv2:(bs.map xC)[i]? = B3 v:=by simpa using hv
     rw[Xy]at hv2;obtain⟨b,hb,rfl⟩:=Zm hv2;refine xA ?_;simpa [hb]using hq
    ·have hn:b9.toArray.size=bs.length:=by rw[eits];simp
     rw[hn,Zqm];refine⟨.bl (bs.any id),H,I.kept (t':=tk) λb o z=>k b o ?_ (Xb _ z),rfl,q _ H ι Le.refl hr g8⟩;intro hm;have:b=s.heap.objs.size:=by simpa using hm
     exact absurd (this ▸ Xh z) (cU _)
  ·cases e
 ·cases e
end
end DL
namespace DL
open PySem PyProof.Rows
nonrec def gal':Bool->Ve->Array Ve->Nat->Nat->Nat->StateT F7 Sem (Option Nat):=sortPriv% PySem.Builtin.gallop
nonrec def mlo':Array Ve->Array Ve->StateT F7 Sem (Array Ve):=sortPriv% PySem.Builtin.mergeLo
nonrec def mhi':Array Ve->Array Ve->StateT F7 Sem (Array Ve):=sortPriv% PySem.Builtin.mergeHi
structure M6(M:bT)(A:Vo)(s:Vd)(κ:bX)(S:Ve->Prop)(Bf:Ve->Ve->Prop)(kk c:Ve->Ve->Bool):Prop where
 lt:∀x y(Q:Bool->Vd->Prop)(E:Vb->Vd->Prop),S x->S y->Q (kk x y) s->Vk M A (keyLt' κ x.1 y.1) Q E s
 ev:∀x y,Bf x y->kk x y=c x y
 ktr:∀x y z,kk y x=B2->kk z y=B2->kk z x=B2
 kas:∀x y,kk x y=B1->kk y x=B2
 kc:∀x y,kk x y=B1->c x y=B1
 tr:∀x y z,c y x=B2->c z y=B2->c z x=B2
 as:∀x y,c x y=B1->c y x=B2
section
variable{prog:Vl}{w:Vs}{A:Vo}{E:Vb->Vd->Prop}{s:Vd}{κ:bX}{S:Ve->Prop}{Bf:Ve->Ve->Prop}{kk c:Ve->Ve->Bool}(C:M6 (Vi prog w) A s κ S Bf kk c)
nonrec abbrev C9(κ:bX)(a:Array Ve)(p:Array (Nat×Nat×Nat))(g:Nat):F7:=Tdg κ a p g B0
include C
theorem Zwm{a:Array Ve}{p:Array (Nat×Nat×Nat)}{g:Nat}{x y:Ve}{Q:Option Bool->F7->Prop}(hx:S x)(hy:S y)(q:Q (B3 (kk x y)) (C9 κ a p g)):wpS (Vi prog w) A E s (lt' x y) Q (C9 κ a p g):=by
 rw[lt'_eq];refine Vf (eF ?_);refine Vf (lL (jH (C.lt x y _ _ hx hy ⟨rfl,?_⟩)));exact Vj q
theorem Zt0{a:Array Ve}{p:Array (Nat×Nat×Nat)}{g:Nat}{x y:Ve}{Q:Option Bool->F7->Prop}(hx:S x)(hy:S y)(hb:Bf x y)(q:Q (B3 (c x y)) (C9 κ a p g)):wpS (Vi prog w) A E s (lt' x y) Q (C9 κ a p g):=Zwm C hx hy (by rw[C.ev x y hb];exact q)
omit C in
theorem O9{arr:Array Ve}{i:Nat}{x:Ve}{st:F7}{Q:Ve->F7->Prop}(h:arr[i]? = B3 x)(q:Q x st):wpS (Vi prog w) A E s (elem' arr i) Q st:=by
 rw[elem'_eq,h];exact Vj q
theorem Ybi{left:Bool}{key x:Ve}{arr:Array Ve}{i:Nat}{a:Array Ve}{p:Array (Nat×Nat×Nat)}{g:Nat}{Q:Option Bool->F7->Prop}(h:arr[i]? = B3 x)(hx:S x)(hk:S key)(hb:if left=B1 then Bf x key else Bf key x)(q:Q (B3 (if left then c x key else !(c key x))) (C9 κ a p g)):wpS (Vi prog w) A E s (do
  let x<-elem' arr i
  if left=B1 then lt' x key else do
   let r<-lt' key x
   pure (Whh (λx=> !x) r)) Q (C9 κ a p g):=by
 refine Vf (O9 h ?_);cases left with
 |true=>exact Zt0 C hx hk hb q
 |false=>
  simp only[dY,if_false]at q ⊢;exact Vf (Zt0 C hk hx (by simpa using hb) (Vj q))
theorem Zws{left:Bool}{key:Ve}{arr:Array Ve}{base n hint:Nat}{bd:Nat->Bool}{a:Array Ve}{p:Array (Nat×Nat×Nat)}{g:Nat}{Q:Option Nat->F7->Prop}
  (hb:∀i,i<n->∃x,arr[base+i]? = B3 x/\S x/\bd i=(if left then c x key else !(c key x))/\(if left=B1 then Bf x key else Bf key x))(hk:S key)(mono:∀i j,i<=j->j<n->bd j=B1->bd i=B1)(hh:hint<n)
  (q:∀k,k<=n->(∀i,i<k->bd i=B1)->(∀i,k<=i->i<n->bd i=B2)->Q (B3 k) (C9 κ a p g)):wpS (Vi prog w) A E s (gal' left key arr base n hint) Q (C9 κ a p g):=by
 have up:∀i j,i<=j->j<n->bd i=B2->bd j=B2:=λi j hi hj e=>by
  cases h:bd j with
  |false=>rfl
  |true=>rw[mono i j hi hj h]at e;exact e
 have go:∀{i:Nat}{Q:Option Bool->F7->Prop},i<n->Q (B3 (bd i)) (C9 κ a p g)->wpS (Vi prog w) A E s (do
   let x<-elem' arr (base+i)
   if left=B1 then lt' x key else do
    let r<-lt' key x
    pure (Whh (λx=> !x) r)) Q (C9 κ a p g):=λhi q=>by
  obtain⟨x,e,hx,eb,hbf⟩:=hb _ hi;rw[eb]at q;exact Ybi C e hx hk hbf q
 have bs:∀{lo hi:Nat}{F:Option (Option Nat)×Nat×Nat->StateT F7 Sem (Option Nat)}{B:Nat->Option (Option Nat)×Nat×Nat->StateT F7 Sem (ForInStep (Option (Option Nat)×Nat×Nat))},
   (∀x lo hi Q,wpS (Vi prog w) A E s (if lo ≥ hi then pure (Tdc (B0,lo,hi))else do
    let r<-(do
     let x<-elem' arr (base+(lo+(hi-lo) / 2))
     if left=B1 then lt' x key else do
      let r<-lt' key x
      pure (Whh (λx=> !x) r))
    match r with
    |some more=>if more=B1 then pure (jM (B0,lo+(hi-lo) / 2+1,hi))else pure (jM (B0,lo,lo+(hi-lo) / 2))
    |_=>pure (Tdc (B3 B0,lo,hi))) Q (C9 κ a p g)->wpS (Vi prog w) A E s (B x (B0,lo,hi)) Q (C9 κ a p g)) ->
   lo<=hi->hi<=n->(∀i,i<lo->bd i=B1)->(∀i,hi<=i->i<n->bd i=B2) ->
   (∀k,k<=n->(∀i,i<k->bd i=B1)->(∀i,k<=i->i<n->bd i=B2)->wpS (Vi prog w) A E s (F (B0,k,k)) Q (C9 κ a p g)) ->
   wpS (Vi prog w) A E s (do let r<-forIn [:n] (B0,lo,hi) B;F r) Q (C9 κ a p g):=by
  intro lo hi F B hB l1 l2 b1 b2 hF;refine Vf (Vy (I:=λx r st=>st=C9 κ a p g/\∃lo hi,r=(B0,lo,hi)/\lo<=hi/\hi<=n/\hi-lo+x<=n/\(∀i,i<lo->bd i=B1)/\(∀i,hi<=i->i<n->bd i=B2)) ?_ ?_ ⟨rfl,lo,hi,rfl,l1,l2,by omega,b1,b2⟩)
  ·rintro x _ _ hx1 hx2 ⟨rfl,lo,hi,rfl,l1,l2,l3,b1,b2⟩;refine hB x lo hi _ ?_;by_cases h:lo ≥ hi
   ·rw[d7 h];have:lo=hi:=by omega
    subst this;exact Vj (hF lo l2 b1 b2)
   ·rw[d9 h];refine Vf (go f8 ?_);dsimp only;cases hm:bd (lo+(hi-lo) / 2)with
    |true=>
     rw[d7 rfl];exact Vj ⟨rfl,_,_,rfl,by omega,l2,by omega,λi hi=>mono i _ f8 f8 hm,b2⟩
    |false=>
     rw[d9 g8];exact Vj ⟨rfl,_,_,rfl,by omega,by omega,by omega,b1,λi h1 h2=>up _ i h1 h2 hm⟩
  ·rintro _ _ ⟨rfl,lo,hi,rfl,l1,l2,l3,b1,b2⟩;have:lo=hi:=by omega
   subst this;exact hF lo l2 b1 b2
 refine Vf (go hh ?_);dsimp only;cases h0:bd hint with
 |true=>
  rw[d7 rfl];refine Vf (Z7 (Vy (I:=λx r st=>st=C9 κ a p g/\∃l o,r=(B0,l,o)/\l<o/\hint+l<n/\bd (hint+l)=B1/\x+1<=o) (Q:=λr st=>st=C9 κ a p g/\∃l o,r=(B0,l,o)/\l<o/\hint+l<n/\bd (hint+l)=B1/\(o ≥ n-hint\/bd (hint+o)=B2)) ?_ ?_ ⟨rfl,0,1,rfl,by omega,by omega,h0,by omega⟩) ?_)
  ·rintro x _ _ hx1 hx2 ⟨rfl,l,o,rfl,l1,l2,b1,l3⟩;dsimp only;by_cases h:o ≥ n-hint
   ·rw[d7 h];exact Vj ⟨rfl,l,o,rfl,l1,l2,b1,.inl h⟩
   ·rw[d9 h];refine Vf (go f8 ?_);dsimp only;cases hm:bd (hint+o)with
    |true=>exact Vj ⟨rfl,o,2*o+1,rfl,by omega,by omega,hm,by omega⟩
    |false=>exact Vj ⟨rfl,l,o,rfl,l1,l2,b1,.inr hm⟩
  ·rintro _ _ ⟨rfl,l,o,rfl,l1,l2,b1,l3⟩;exact⟨rfl,l,o,rfl,l1,l2,b1,.inl f8⟩
  ·rintro _ _ ⟨rfl,l,o,rfl,l1,l2,b1,b2⟩;dsimp only;refine bs (λx lo hi Q h=>h) f8 f8 (λi hi=>mono i _ f8 l2 b1) (λi h1 h2=>?_) λk k1 k2 k3=>Vj (q k k1 k2 k3);rcases b2 with z |z
   ·omega
   ·exact up _ i f8 h2 z
 |false=>
  rw[d9 g8];refine Vf (Z7 (Vy (I:=λx r st=>st=C9 κ a p g/\∃l o,r=(B0,l,o)/\l<o/\l<=hint/\bd (hint-l)=B2/\x+1<=o) (Q:=λr st=>st=C9 κ a p g/\∃l o,r=(B0,l,o)/\l<o/\l<=hint/\bd (hint-l)=B2/\(o ≥ hint+1\/bd (hint-o)=B1)) ?_ ?_ ⟨rfl,0,1,rfl,by omega,by omega,h0,by omega⟩) ?_)
  ·rintro x _ _ hx1 hx2 ⟨rfl,l,o,rfl,l1,l2,b1,l3⟩;dsimp only;by_cases h:o ≥ hint+1
   ·rw[d7 h];exact Vj ⟨rfl,l,o,rfl,l1,l2,b1,.inl h⟩
   ·rw[d9 h];refine Vf (go f8 ?_);dsimp only;cases hm:bd (hint-o)with
    |true=>exact Vj ⟨rfl,l,o,rfl,l1,l2,b1,.inr hm⟩
    |false=>exact Vj ⟨rfl,o,2*o+1,rfl,by omega,by omega,hm,by omega⟩
  ·rintro _ _ ⟨rfl,l,o,rfl,l1,l2,b1,l3⟩;exact⟨rfl,l,o,rfl,l1,l2,b1,.inl f8⟩
  ·rintro _ _ ⟨rfl,l,o,rfl,l1,l2,b1,b2⟩;dsimp only;refine bs (λx lo hi Q h=>h) f8 f8 (λi hi=>?_) (λi h1 h2=>up _ i h1 h2 b1) λk k1 k2 k3=>Vj (q k k1 k2 k3);rcases b2 with z |z
   ·omega
   ·exact mono i _ f8 f8 z
end
nonrec abbrev D1(c:Ve->Ve->Bool)(x y:Ve):Prop:=c y x=B2
structure D9(c:Ve->Ve->Bool)(L out la lb:List Ve):Prop where
 a:(out++la).Pairwise (D1 c)
 b:(out++lb).Pairwise (D1 c)
 p:(out++la++lb).Perm L
def S8(c:Ve->Ve->Bool)(L:List Ve)(r:Array Ve):Prop:=r.toList.Pairwise (D1 c)/\r.toList.Perm L
section
variable{c:Ve->Ve->Bool}{L out la lb xs:List Ve}{x:Ve}
theorem D9.ta(m:D9 c L out (xs++la) lb)(h:∀x∈xs,∀y∈lb,D1 c x y):D9 c L (out++xs) la lb:=by
 have ma:=m.a;have mb:=m.b;refine⟨by rw[T5];exact ma,?_,?_⟩
 ·rw[T5,L9]at *;refine⟨mb.1,?_,λu hu v hv=>?_⟩
  ·rw[L9];rw[L9]at ma;exact⟨ma.2.1.1,mb.2.1,h⟩
  ·rcases Xf.mp hv with z |z
   ·exact ma.2.2 u hu v (gC _ z)
   ·exact mb.2.2 u hu v z
 ·have:=m.p;simpa [T5]using this
theorem D9.sw(m:D9 c L out la lb):D9 c L out lb la:=⟨m.b,m.a,by
 refine Y3.trans ?_ m.p;rw[T5,T5];exact Y3.append_left _ List.perm_append_comm⟩
theorem D9.tb(m:D9 c L out la (xs++lb))(h:∀x∈xs,∀y∈la,D1 c x y):D9 c L (out++xs) la lb:=(m.sw.ta h).sw
theorem D9.last(m:D9 c L out [x] lb)(h:∀y∈lb,D1 c y x):(out++lb++[x]).Pairwise (D1 c)/\(out++lb++[x]).Perm L:=by
 have k:=D9.tb (xs:=lb) (lb:=[]) (by rw[Xq];exact m) (λu hu v hv=>by rw[Xe.mp hv];exact h u hu);exact⟨k.a,by have:=k.p;simpa using this⟩
theorem D9.enda(m:D9 c L out la []):(out++la++[]).Pairwise (D1 c)/\(out++la++[]).Perm L:=⟨by rw[Xq];exact m.a,m.p⟩
theorem D9.endb(m:D9 c L out [] lb):(out++[]++lb).Pairwise (D1 c)/\(out++[]++lb).Perm L:=⟨by rw[Xq];exact m.b,m.p⟩
theorem Zg0(a:Array Ve)(i:Nat):(a.extract i a.size).toList=a.toList.drop i:=by
 rw[oZ];simp only[wF];exact iX g8
theorem Zk4(a:Array Ve)(i k:Nat):(a.extract i (i+k)).toList=(a.toList.drop i).take k:=by
 rw[oZ];simp[List.extract]
theorem nO{a:Array Ve}{i:Nat}(h:i<a.size):a.toList.drop i=a[i]::a.toList.drop (i+1):=by
 rw[lI (by simpa using h)];rfl
end
section
variable{prog:Vl}{w:Vs}{A:Vo}{E:Vb->Vd->Prop}{s:Vd}{κ:bX}{S:Ve->Prop}{Bf:Ve->Ve->Prop}{kk c:Ve->Ve->Bool}(C:M6 (Vi prog w) A s κ S Bf kk c)
include C
theorem M6.re(x:Ve):D1 c x x:=by
 cases h:c x x with
 |false=>exact h
 |true=>have:=C.as x x h;rw[h]at this;cases this
theorem M6.le{x y z:Ve}(h:D1 c x y)(k:D1 c y z):D1 c x z:=C.tr x y z h k
theorem Zvk{a:Array Ve}(h:a.toList.Pairwise (D1 c)){i j:Nat}(hi:i<=j)(hj:j<a.size):D1 c a[i] a[j]:=by
 rcases Wep hi with l |rfl
 ·have:=iZ.mp h i j (by simpa using (Wfp l hj)) (by simpa using hj) l;simpa using this
 ·exact C.re _
theorem Zmp{key:Ve}{a:Array Ve}{i n hint:Nat}{arr:Array Ve}{p:Array (Nat×Nat×Nat)}{g:Nat}{Q:Option Nat->F7->Prop}(sa:∀u v,i<=u->(h1:u<=v)->(h:v<i+n)->(h2:i+n<=a.size)->D1 c a[u] a[v])(hn:i+n<=a.size)(hS:∀x∈a.toList,S x)(hk:S key)(hBf:∀j,j<n->(h:i+j<a.size)->Bf key a[i+j])(hh:hint<n)
  (q:∀k,k<=n->(∀j,j<k->(h:i+j<a.size)->D1 c a[i+j] key)->(∀j,k<=j->j<n->(h:i+j<a.size)->D1 c key a[i+j])->Q (B3 k) (C9 κ arr p g)):wpS (Vi prog w) A E s (gal' B2 key a i n hint) Q (C9 κ arr p g):=by
 refine Zws C (bd:=λj=> !(c key (a.getD (i+j) key))) (λj hj=>⟨a[i+j],Xc f8,hS _ g8,by simp[bM,show i+j<a.size by omega],by simpa using hBf j hj f8⟩) hk (λu v h1 h2 e=>?_) hh λk h1 h2 h3=>q k h1 (λj hj h=>?_) (λj hj1 hj2 h=>?_)
 ·simp only[bM,show i+u<a.size by omega,show i+v<a.size by omega,dif_pos,Wez]at e ⊢;exact C.le (sa (i+u) (i+v) f8 f8 f8 hn) e
 ·have:=h2 j hj;simpa [bM,h]using this
 ·have:=h3 j hj1 hj2;simp only[bM,h,dif_pos,Bool.not_eq_false']at this;exact C.as _ _ this
theorem Zl7{key:Ve}{a:Array Ve}{i n hint:Nat}{arr:Array Ve}{p:Array (Nat×Nat×Nat)}{g:Nat}{Q:Option Nat->F7->Prop}(sa:∀u v,i<=u->(h1:u<=v)->(h:v<i+n)->(h2:i+n<=a.size)->D1 c a[u] a[v])(hn:i+n<=a.size)(hS:∀x∈a.toList,S x)(hk:S key)(hBf:∀j,j<n->(h:i+j<a.size)->Bf a[i+j] key)(hh:hint<n)
  (q:∀k,k<=n->(∀j,j<k->(h:i+j<a.size)->D1 c a[i+j] key)->(∀j,k<=j->j<n->(h:i+j<a.size)->D1 c key a[i+j])->Q (B3 k) (C9 κ arr p g)):wpS (Vi prog w) A E s (gal' B1 key a i n hint) Q (C9 κ arr p g):=by
 refine Zws C (bd:=λj=>c (a.getD (i+j) key) key) (λj hj=>⟨a[i+j],Xc f8,hS _ g8,by simp[bM,show i+j<a.size by omega],by simpa using hBf j hj f8⟩) hk (λu v h1 h2 e=>?_) hh λk h1 h2 h3=>q k h1 (λj hj h=>?_) (λj hj1 hj2 h=>?_)
 ·simp only[bM,show i+u<a.size by omega,show i+v<a.size by omega,dif_pos]at e ⊢;cases z:c a[i+u] key with
  |true=>rfl
  |false=>exact absurd (e.symm.trans (C.le (x:=key) z (sa (i+u) (i+v) f8 f8 f8 hn))) g8
 ·have:=h2 j hj;simp only[bM,h,dif_pos]at this;exact C.as _ _ this
 ·have:=h3 j hj1 hj2;simpa [bM,h]using this
end
section
variable{prog:Vl}{w:Vs}{A:Vo}{E:Vb->Vd->Prop}{s:Vd}{κ:bX}{S:Ve->Prop}{Bf:Ve->Ve->Prop}{kk c:Ve->Ve->Bool}(C:M6 (Vi prog w) A s κ S Bf kk c)
theorem tU{a b out:Array Ve}{L:List Ve}{i j:Nat}(m:D9 c L out.toList (a.toList.drop i) (b.toList.drop j))(h:a.size<=i\/b.size<=j):S8 c L (out++a.extract i a.size++b.extract j b.size):=by
 unfold S8;rw[bQ,bQ,Zg0,Zg0];rcases h with h |h
 ·rw[vY (by simpa using h)]at m ⊢;exact m.endb
 ·have e:b.toList.drop j=[]:=vY (by simpa using h);rw[e]at m ⊢;exact m.enda
theorem Zy1{a b out:Array Ve}{L:List Ve}{i j:Nat}(m:D9 c L out.toList (a.toList.drop i) (b.toList.drop j))(h:i+1=a.size)(l:∀y∈b.toList,D1 c y a[i]):S8 c L (out++b.extract j b.size++a.extract i a.size):=by
 unfold S8;rw[bQ,bQ,Zg0,Zg0];have e:a.toList.drop i=[a[i]]:=by
  rw[nO f8,vY h9]
 rw[e]at m ⊢;exact m.last λy hy=>l y (iW hy)
theorem fQ{a:Array Ve}{P:Ve->Prop}(h:∀x∈a.toList,P x){i:Nat}(hi:i<a.size):P a[i]:=h _ g8
theorem nQ{a:Array Ve}{i:Nat}{x:Ve}(h:x∈a.toList.drop i):∃j,i<=j/\∃h:j<a.size,a[j]=x:=by
 obtain⟨k,hk,e⟩:=Xz.mp h;rw[fZ,Xw]at hk;exact⟨i+k,by omega,by omega,by rw[<- e];simp⟩
theorem Zp3{a:Array Ve}{i k:Nat}{x:Ve}(h:x∈(a.toList.drop i).take k):∃j,j<k/\∃h:i+j<a.size,a[i+j]=x:=by
 obtain⟨u,hu,e⟩:=Xz.mp h;rw[Z5,fZ,Xw]at hu;exact⟨u,by omega,by omega,by rw[<- e];simp⟩
theorem Zmt{a:Array Ve}{i k:Nat}:a.toList.drop i=(a.toList.drop i).take k++a.toList.drop (i+k):=by
 rw[<- List.drop_drop,bA]
omit C in
theorem J6{P:Prop}[Decidable P]{β:Type}{X Y:StateT F7 Sem β}{Q:β->F7->Prop}{st:F7}(h:P)(q:wpS (Vi prog w) A E s X Q st):wpS (Vi prog w) A E s (if P then X else Y) Q st:=by rw[d7 h];exact q
omit C in
theorem G6{P:Prop}[Decidable P]{β:Type}{X Y:StateT F7 Sem β}{Q:β->F7->Prop}{st:F7}(h:¬ P)(q:wpS (Vi prog w) A E s Y Q st):wpS (Vi prog w) A E s (if P then X else Y) Q st:=by rw[d9 h];exact q
omit C in
theorem jU{β:Type}{m:StateT F7 Sem β}{Q:β->F7->Prop}{st:F7}(P:(β->F7->Prop)->Prop)(h:P Q)(k:∀R,P R->wpS (Vi prog w) A E s m R st):wpS (Vi prog w) A E s m Q st:=k Q h
include C
theorem Ya5{a b arr:Array Ve}{p:Array (Nat×Nat×Nat)}{g:Nat}{Q:Array Ve->F7->Prop}(ha:0<a.size)(hb:0<b.size)(sa:a.toList.Pairwise (D1 c))(sb:b.toList.Pairwise (D1 c))(hSa:∀x∈a.toList,S x)(hSb:∀x∈b.toList,S x)(hBf:∀x∈a.toList,∀y∈b.toList,Bf y x)
  (fst:∀x∈a.toList,D1 c b[0] x)(lst:∀y∈b.toList,D1 c y a[a.size-1])(q:∀r g',S8 c (a.toList++b.toList) r->Q r (C9 κ arr p g')):wpS (Vi prog w) A E s (mlo' a b) Q (C9 κ arr p g):=by
 have m0:D9 c (a.toList++b.toList) (#[b[0]]:Array Ve).toList (a.toList.drop 0) (b.toList.drop 1):=by
  have e:b.toList=[b[0]]++b.toList.drop 1:=by
   have:=nO (a:=b) (i:=0) hb;simpa using this
  refine D9.tb (out:=[]) (xs:=[b[0]]) ⟨by simpa using sa,?_,?_⟩ λx hx y hy=>?_
  ·rw[<- e];exact sb
  ·rw[<- e];simp
  ·rw[Xe.mp hx];exact fst y (by simpa using hy)
 have al:∀{i j:Nat}(hi:i<=j)(h:j<a.size),D1 c (a[i]'(by omega)) a[j]:=λhi hj=>Zvk C sa hi hj;have bl:∀{i j:Nat}(hi:i<=j)(h:j<b.size),D1 c (b[i]'(by omega)) b[j]:=λhi hj=>Zvk C sb hi hj;generalize hL:a.toList++b.toList=L at m0 q;have fin:∀{out:Array Ve}{ia ib:Nat},D9 c L out.toList (a.toList.drop ia) (b.toList.drop ib)->ia+1=a.size->S8 c L (out++b.extract ib b.size++a.extract ia a.size):=λ{out ia ib}m h=>Zy1 m h λy hy=>by
  have:=lst y hy;simpa [<- h]using this
 refine Vf (lL (eI ⟨rfl,?_⟩));refine Vf (O9 (x:=b[0]) (Xc hb) ?_);by_cases h1:1=b.size
 ·exact J6 (by simpa using h1) (Vj (q _ _ (tU m0 (.inr f8))))
 refine G6 (by simpa using h1) ?_;by_cases h2:0+1=a.size
 ·exact J6 (by simpa using h2) (Vj (q _ _ (fin m0 h2)))
 refine G6 (by simpa using h2) ?_;refine Vf (eF ?_);refine Vf (Z7 (Vy (I:=λx r st=>∃g',st=C9 κ arr p g'/\∃out ia ib mg,r=(B0,out,ia,ib,mg)/\ia+1<a.size/\ib<b.size/\x+1<=ia+ib/\D9 c L out.toList (a.toList.drop ia) (b.toList.drop ib))
  (Q:=λr st=>∃g',st=C9 κ arr p g'/\∃res t,r=(B3 res,t)/\S8 c L res) ?_ ?_ ⟨g,rfl,_,_,_,_,rfl,by omega,by omega,by omega,m0⟩) ?_)
 rotate_left
 ·rintro _ _ ⟨g',rfl,out,ia,ib,mg,rfl,l1,l2,l3,m⟩;omega
 ·rintro _ _ ⟨g',rfl,res,t,rfl,k⟩;exact Vj (q _ _ k)
 rintro x _ _ hx1 hx2 ⟨g',rfl,out,ia,ib,mg,rfl,l1,l2,l3,m⟩;refine Vf (Z7 (Vy (I:=λx' r st=>st=C9 κ arr p g'/\∃out ia ib ac bc,r=(B0,out,ia,ib,ac,bc)/\ia+1<a.size/\ib<b.size/\x+1+x'<=ia+ib/\D9 c L out.toList (a.toList.drop ia) (b.toList.drop ib))
  (Q:=λr st=>st=C9 κ arr p g'/\((∃res t,r=(B3 res,t)/\S8 c L res)\/∃out ia ib ac bc,r=(B0,out,ia,ib,ac,bc)/\ia+1<a.size/\ib<b.size/\x+2<=ia+ib/\D9 c L out.toList (a.toList.drop ia) (b.toList.drop ib))) ?_ ?_ ⟨rfl,_,_,_,_,_,rfl,l1,l2,by omega,m⟩) ?_)
 ·rintro x' _ _ hx1' hx2' ⟨rfl,out,ia,ib,ac,bc,rfl,l1,l2,l3,m⟩;dsimp only;have eb:=nO l2;have ea:=nO (a:=a) (i:=ia) f8;refine Vf (O9 (x:=b[ib]) (Xc l2) (Vf (O9 (x:=a[ia]) (Xc f8) (Vf (Zt0 C (fQ hSb l2) (fQ hSa f8) (hBf _ g8 _ g8) ?_)))));dsimp only;cases hc:c b[ib] a[ia]with
  |true=>
   rw[d7 rfl];refine Vf (O9 (x:=b[ib]) (Xc l2) ?_);have m':D9 c L (out.push b[ib]).toList (a.toList.drop ia) (b.toList.drop (ib+1)):=by
    rw[dU];refine D9.tb (by rw[eB,<- eb];exact m) λx hx y hy=>?_;obtain⟨j,h1,h2,rfl⟩:=nQ hy;rw[Xe.mp hx];exact C.le (C.as _ _ hc) (al h1 h2)
   by_cases h:ib+1=b.size
   ·rw[d7 (by simpa using h)];exact Vj ⟨rfl,.inl ⟨_,_,rfl,tU m' (.inr f8)⟩⟩
   ·rw[d9 (by simpa using h)];by_cases h':bc+1 ≥ mg
    ·rw[d7 h'];exact Vj ⟨rfl,.inr ⟨_,_,_,_,_,rfl,l1,by omega,by omega,m'⟩⟩
    ·rw[d9 h'];exact Vj ⟨rfl,_,_,_,_,_,rfl,l1,by omega,by omega,m'⟩
  |false=>
   rw[d9 g8];refine Vf (O9 (x:=a[ia]) (Xc f8) ?_);have m':D9 c L (out.push a[ia]).toList (a.toList.drop (ia+1)) (b.toList.drop ib):=by
    rw[dU];refine D9.ta (by rw[eB,<- ea];exact m) λx hx y hy=>?_;obtain⟨j,h1,h2,rfl⟩:=nQ hy;rw[Xe.mp hx];exact C.le hc (bl h1 h2)
   by_cases h:ia+1+1=a.size
   ·rw[d7 (by simpa using h)];exact Vj ⟨rfl,.inl ⟨_,_,rfl,fin m' h⟩⟩
   ·rw[d9 (by simpa using h)];by_cases h':ac+1 ≥ mg
    ·rw[d7 h'];exact Vj ⟨rfl,.inr ⟨_,_,_,_,_,rfl,by omega,by omega,by omega,m'⟩⟩
    ·rw[d9 h'];exact Vj ⟨rfl,_,_,_,_,_,rfl,by omega,by omega,by omega,m'⟩
 ·rintro _ _ ⟨rfl,out,ia,ib,ac,bc,rfl,l1,l2,l3,m⟩;omega
 rintro _ _ ⟨rfl,⟨res,t,rfl,k⟩ |⟨out,ia,ib,ac,bc,rfl,l1,l2,l3,m⟩⟩
 ·exact Vj ⟨g',rfl,_,_,rfl,k⟩
 refine Vf (lL (eI ⟨rfl,?_⟩));refine Vf (Z7 (Vy (I:=λx' r st=>∃g',st=C9 κ arr p g'/\∃out ia ib mg ac bc,r=(B0,out,ia,ib,mg,ac,bc)/\ia+1<a.size/\ib<b.size/\x+2<=ia+ib/\D9 c L out.toList (a.toList.drop ia) (b.toList.drop ib))
  (Q:=λr st=>∃g',st=C9 κ arr p g'/\((∃res t,r=(B3 res,t)/\S8 c L res)\/∃out ia ib mg ac bc,r=(B0,out,ia,ib,mg,ac,bc)/\ia+1<a.size/\ib<b.size/\x+2<=ia+ib/\D9 c L out.toList (a.toList.drop ia) (b.toList.drop ib))) ?_ ?_ ⟨_,rfl,_,_,_,_,_,_,rfl,l1,l2,by omega,m⟩) ?_)
 rotate_left
 ·rintro _ _ ⟨g',rfl,out,ia,ib,mg,ac,bc,rfl,l1,l2,l3,m⟩;exact⟨g',rfl,.inr ⟨_,_,_,_,_,_,rfl,l1,l2,l3,m⟩⟩
 ·rintro _ _ ⟨g',rfl,⟨res,t,rfl,k⟩ |⟨out,ia,ib,mg,ac,bc,rfl,l1,l2,l3,m⟩⟩
  ·exact Vj ⟨g',rfl,_,_,rfl,k⟩
  ·exact Vf (jF (Vj ⟨_,rfl,_,_,_,_,rfl,l1,l2,by omega,m⟩))
 rintro x' _ _ hx1' hx2' ⟨g',rfl,out,ia,ib,mg,ac,bc,rfl,l1,l2,l3,m⟩;refine jU (λR=>(∀g' res t,S8 c L res->R (.done (B3 res,t)) (C9 κ arr p g'))/\∀g' out ia ib mg ac bc,ia+1<a.size->ib<b.size->x+2<=ia+ib->D9 c L out.toList (a.toList.drop ia) (b.toList.drop ib)->R (.done (B0,out,ia,ib,mg,ac,bc)) (C9 κ arr p g')/\R (.yield (B0,out,ia,ib,mg,ac,bc)) (C9 κ arr p g')) ⟨λg' res t k=>⟨g',rfl,.inl ⟨_,_,rfl,k⟩⟩,λg' out ia ib mg ac bc l1 l2 l3 m=>⟨⟨g',rfl,.inr ⟨_,_,_,_,_,_,rfl,l1,l2,l3,m⟩⟩,g',rfl,_,_,_,_,_,_,rfl,l1,l2,l3,m⟩⟩ ?_;rintro R ⟨hd,hn⟩
 extract_lets _ _ _ _ _ _ _ _ _ _ _ _ jp
 suffices hj:∀mg,wpS (Vi prog w) A E s (jp () mg) R (C9 κ arr p g')by
  split
  ·exact hj _
  ·exact hj _
 intro mg;refine Vf (jF (Vf (O9 (x:=b[ib]) (Xc l2) (Vf (Zmp C (key:=b[ib]) (a:=a) (i:=ia) (n:=a.size-ia) (hint:=0) (λu v h1 h2 h3 h4=>al h2 f8) f8 hSa (fQ hSb l2) (λj _ h=>hBf _ g8 _ g8) f8 λk k1 k2 k3=>?_)))));dsimp -zeta only
 extract_lets _ jp1
 have m1:D9 c L (out++a.extract ia (ia+k)).toList (a.toList.drop (ia+k)) (b.toList.drop ib):=by
  rw[bQ,Zk4];refine D9.ta (by rw[<- Zmt];exact m) λx hx y hy=>?_;obtain⟨j,h1,h2,rfl⟩:=Zp3 hx;obtain⟨i,h3,h4,rfl⟩:=nQ hy;exact C.le (k2 j h1 h2) (bl h3 h4)
 suffices hj1:∀out:Array Ve,ia+k+1<a.size->D9 c L out.toList (a.toList.drop (ia+k)) (b.toList.drop ib)->wpS (Vi prog w) A E s (jp1 () out (ia+k)) R (C9 κ arr p _)by
  by_cases hk:k > 0
  ·refine J6 hk ?_;by_cases h:ia+k+1=a.size
   ·exact J6 (by simpa using h) (Vj (hd _ _ _ (fin m1 h)))
   refine G6 (by simpa using h) ?_;by_cases h':ia+k=a.size
   ·exact J6 (by simpa using h') (Vj (hd _ _ _ (tU (i:=ia+k) (j:=ib) m1 (.inl f8))))
   exact G6 (by simpa using h') (hj1 _ f8 m1)
  ·have:k=0:=by omega
   subst this;exact G6 hk (hj1 _ l1 m)
 intro out lk m2;refine Vf (O9 (x:=b[ib]) (Xc l2) ?_);have m3:D9 c L (out.push b[ib]).toList (a.toList.drop (ia+k)) (b.toList.drop (ib+1)):=by
  rw[dU];refine D9.tb (by rw[eB,<- nO l2];exact m2) λx hx y hy=>?_;obtain⟨j,h1,h2,rfl⟩:=nQ hy;rw[Xe.mp hx];have:=k3 (j-ia) f8 f8 f8;simpa [show ia+(j-ia)=j by omega]using this
 by_cases h:ib+1=b.size
 ·exact J6 (by simpa using h) (Vj (hd _ _ _ (tU (i:=ia+k) (j:=ib+1) m3 (.inr f8))))
 refine G6 (by simpa using h) ?_;refine Vf (O9 (x:=a[ia+k]) (Xc f8) (Vf (Zl7 C (key:=a[ia+k]) (a:=b) (i:=ib+1) (n:=b.size-(ib+1)) (hint:=0) (λu v h1 h2 h3 h4=>bl h2 f8) f8 hSb (fQ hSa f8) (λj _ h=>hBf _ g8 _ g8) f8 λk' k1' k2' k3'=>?_)));generalize out.push b[ib]=out at *;dsimp -zeta only
 extract_lets _ _ jp2
 have m4:D9 c L (out++b.extract (ib+1) (ib+1+k')).toList (a.toList.drop (ia+k)) (b.toList.drop (ib+1+k')):=by
  rw[bQ,Zk4];refine D9.tb (by rw[<- Zmt];exact m3) λx hx y hy=>?_;obtain⟨j,h1,h2,rfl⟩:=Zp3 hx;obtain⟨i,h3,h4,rfl⟩:=nQ hy;exact C.le (k2' j h1 h2) (al h3 h4)
 suffices hj2:∀out:Array Ve,ib+1+k'<b.size->D9 c L out.toList (a.toList.drop (ia+k)) (b.toList.drop (ib+1+k'))->wpS (Vi prog w) A E s (jp2 () out (ib+1+k')) R (C9 κ arr p _)by
  by_cases hk:k' > 0
  ·refine J6 hk ?_;by_cases h':ib+1+k'=b.size
   ·exact J6 (by simpa using h') (Vj (hd _ _ _ (tU (i:=ia+k) (j:=ib+1+k') m4 (.inr f8))))
   exact G6 (by simpa using h') (hj2 _ f8 m4)
  ·have:k'=0:=by omega
   subst this;exact G6 hk (hj2 _ f8 m3)
 intro out lk' m5;refine Vf (O9 (x:=a[ia+k]) (Xc f8) ?_);have m6:D9 c L (out.push a[ia+k]).toList (a.toList.drop (ia+k+1)) (b.toList.drop (ib+1+k')):=by
  rw[dU];refine D9.ta (by rw[eB,<- nO f8];exact m5) λx hx y hy=>?_;obtain⟨j,h1,h2,rfl⟩:=nQ hy;rw[Xe.mp hx];have:=k3' (j-(ib+1)) f8 f8 f8;simpa [show ib+1+(j-(ib+1))=j by omega]using this
 by_cases h':ia+k+1+1=a.size
 ·exact J6 (by simpa using h') (Vj (hd _ _ _ (fin m6 h')))
 refine G6 (by simpa using h') ?_;have hn':=λg' mg ac bc=>hn g' _ _ _ mg ac bc f8 lk' f8 m6;split
 ·exact Vj (hn' _ _ _ _).1
 ·exact Vj (hn' _ _ _ _).2
end
nonrec def R9(c:Ve->Ve->Bool)(x y:Ve):Bool:=c y x
section
variable{prog:Vl}{w:Vs}{A:Vo}{E:Vb->Vd->Prop}{s:Vd}{κ:bX}{S:Ve->Prop}{Bf:Ve->Ve->Prop}{kk c:Ve->Ve->Bool}(C:M6 (Vi prog w) A s κ S Bf kk c)
nonrec def E6(a:Array Ve)(i:Nat):List Ve:=(a.toList.take i).reverse
theorem kK{a:Array Ve}{i:Nat}(h:i<a.size):E6 a (i+1)=a[i]::E6 a i:=by
 unfold E6;rw[List.take_succ_eq_append_getElem (by simpa using h),Wfy];rfl
theorem jV(a:Array Ve):E6 a 0=[]:=rfl
theorem kM{a:Array Ve}{i:Nat}{x:Ve}(hi:i<=a.size)(h:x∈E6 a i):∃j,∃h:j<a.size,j<i/\a[j]=x:=by
 unfold E6 at h;obtain⟨k,hk,e⟩:=Xz.mp (Wgx.mp h);rw[Z5,Xw]at hk;exact⟨k,by omega,by omega,by rw[<- e];simp⟩
theorem Zwy{a:Array Ve}{i j:Nat}(h:i<=j):E6 a j=(a.extract i j).reverse.toList++E6 a i:=by
 unfold E6;rw[Wdd,oZ,<- Wfy]
 congr 1
 simp only[wF];have e:j=i+(j-i):=by omega
 conv=>lhs;rw[e,List.take_add]
theorem Zt6(a:Array Ve)(i:Nat):(a.extract 0 i).toList=(E6 a i).reverse:=by
 unfold E6;rw[oZ,List.reverse_reverse];simp[wF]
theorem Zv1{a:Array Ve}{i j:Nat}{x:Ve}(hj:j<=a.size)(h:x∈(a.extract i j).reverse.toList):∃k,i<=k/\∃h:k<a.size,k<j/\a[k]=x:=by
 rw[Wdd,oZ,wF]at h;obtain⟨k,hk,e⟩:=Xz.mp (Wgx.mp h);rw[Z5,fZ,Xw]at hk;exact⟨i+k,by omega,by omega,by omega,by rw[<- e];simp⟩
theorem Zni{l:List Ve}:l.reverse.Pairwise (D1 c) ↔ l.Pairwise (D1 (R9 c)):=by
 rw[List.pairwise_reverse];rfl
theorem tQ{a b out:Array Ve}{L:List Ve}{i j:Nat}(m:D9 (R9 c) L out.toList (E6 a i) (E6 b j))(h:i=0\/j=0):S8 c L (a.extract 0 i++b.extract 0 j++out.reverse):=by
 unfold S8;rw[bQ,bQ,Zt6,Zt6,Wdd];have k:(out.toList++E6 a i++E6 b j).Pairwise (D1 (R9 c))/\(out.toList++E6 b j++E6 a i).Pairwise (D1 (R9 c)):=by
  rcases h with rfl |rfl
  ·have e:=jV a;rw[e]at m ⊢;exact⟨m.endb.1,by have:=m.b;simpa using this⟩
  ·have e:=jV b;rw[e]at m ⊢;exact⟨m.enda.1,by have:=m.a;simpa using this⟩
 have e:(E6 a i).reverse++(E6 b j).reverse++out.toList.reverse=(out.toList++E6 b j++E6 a i).reverse:=by simp
 rw[e];exact⟨Zni.mpr k.2,(Wdy _).trans m.sw.p⟩
theorem Zg4{a b out:Array Ve}{L:List Ve}{i j:Nat}(hb:0<b.size)(hi:i<=a.size)(m:D9 (R9 c) L out.toList (E6 a i) (E6 b j))(hj:j=1)(l:∀y∈a.toList,D1 c b[0] y):S8 c L (b.extract 0 j++a.extract 0 i++out.reverse):=by
 subst hj;unfold S8;rw[bQ,bQ,Zt6,Zt6,Wdd];have e1:E6 b 1=[b[0]]:=by rw[kK hb,jV]
 rw[e1]at m ⊢;obtain⟨k1,k2⟩:=m.sw.last λy hy=>by
  obtain⟨j,h1,h2,rfl⟩:=kM hi hy;exact fQ l h1
 have e:[b[0]].reverse++(E6 a i).reverse++out.toList.reverse=(out.toList++E6 a i++[b[0]]).reverse:=by simp
 rw[e];exact⟨Zni.mpr k1,(Wdy _).trans k2⟩
include C
theorem Ycn{a b arr:Array Ve}{p:Array (Nat×Nat×Nat)}{g:Nat}{Q:Array Ve->F7->Prop}(ha:0<a.size)(hb:0<b.size)(sa:a.toList.Pairwise (D1 c))(sb:b.toList.Pairwise (D1 c))(hSa:∀x∈a.toList,S x)(hSb:∀x∈b.toList,S x)(hBf:∀x∈a.toList,∀y∈b.toList,Bf y x)
  (fst:∀x∈a.toList,D1 c b[0] x)(lst:∀y∈b.toList,D1 c y a[a.size-1])(q:∀r g',S8 c (a.toList++b.toList) r->Q r (C9 κ arr p g')):wpS (Vi prog w) A E s (mhi' a b) Q (C9 κ arr p g):=by
 obtain⟨z,hz⟩:∃z,a.size=z+1:=⟨a.size-1,by omega⟩
 have lst:∀y∈b.toList,D1 c y a[z]:=λy hy=>by have:=lst y hy;simpa [hz]using this
 have fulla:E6 a (z+1)=a.toList.reverse:=by unfold E6;rw[iX h9]
 have fullb:E6 b b.size=b.toList.reverse:=by unfold E6;rw[iX g8]
 have m0:D9 (R9 c) (a.toList++b.toList) (#[a[z]]:Array Ve).toList (E6 a z) (E6 b b.size):=by
  refine D9.ta (out:=[]) (xs:=[a[z]]) ⟨?_,?_,?_⟩ λx hx y hy=>?_
  ·rw[eB,<- kK f8,fulla];exact Zni.mp (by simpa using sa)
  ·rw[fullb];exact Zni.mp (by simpa using sb)
  ·rw[eB,<- kK f8,fulla,fullb];exact Y3.append (Wdy _) (Wdy _)
  ·rw[Xe.mp hx];exact lst y (by rw[fullb]at hy;simpa using hy)
 have al:∀{i j:Nat}(hi:i<=j)(h:j<a.size),D1 c (a[i]'(by omega)) a[j]:=λhi hj=>Zvk C sa hi hj;have bl:∀{i j:Nat}(hi:i<=j)(h:j<b.size),D1 c (b[i]'(by omega)) b[j]:=λhi hj=>Zvk C sb hi hj;generalize hL:a.toList++b.toList=L at m0 q;refine Vf (lL (eI ⟨rfl,?_⟩));refine Vf (O9 (x:=a[z]) (by rw[show a.size-1=z by omega];exact Xc f8) ?_);have ez:a.size-1=z:=by omega
 rw[ez];by_cases h1:z=0
 ·exact J6 (by simpa using h1) (Vj (q _ _ (tQ m0 (.inl h1))))
 refine G6 (by simpa using h1) ?_;by_cases h2:b.size=1
 ·exact J6 (by simpa using h2) (Vj (q _ _ (Zg4 hb f8 m0 h2 fst)))
 refine G6 (by simpa using h2) ?_;refine Vf (eF ?_);refine Vf (Z7 (Vy (I:=λx r st=>∃g',st=C9 κ arr p g'/\∃na nb out mg,r=(B0,na,nb,out,mg)/\1<=na/\na<a.size/\2<=nb/\nb<=b.size/\na+nb+x+1<=a.size+b.size/\D9 (R9 c) L out.toList (E6 a na) (E6 b nb))
  (Q:=λr st=>∃g',st=C9 κ arr p g'/\∃res t,r=(B3 res,t)/\S8 c L res) ?_ ?_ ⟨g,rfl,_,_,_,_,rfl,by omega,by omega,by omega,by omega,by omega,m0⟩) ?_)
 rotate_left
 ·rintro _ _ ⟨g',rfl,na,nb,out,mg,rfl,l1,l2,l3,l4,l5,m⟩;omega
 ·rintro _ _ ⟨g',rfl,res,t,rfl,k⟩;exact Vj (q _ _ k)
 rintro x _ _ hx1 hx2 ⟨g',rfl,na,nb,out,mg,rfl,l1,l2,l3,l4,l5,m⟩;refine Vf (Z7 (Vy (I:=λx' r st=>st=C9 κ arr p g'/\∃na nb out ac bc,r=(B0,na,nb,out,ac,bc)/\1<=na/\na<a.size/\2<=nb/\nb<=b.size/\na+nb+x+1+x'<=a.size+b.size/\D9 (R9 c) L out.toList (E6 a na) (E6 b nb))
  (Q:=λr st=>st=C9 κ arr p g'/\((∃res t,r=(B3 res,t)/\S8 c L res)\/∃na nb out ac bc,r=(B0,na,nb,out,ac,bc)/\1<=na/\na<a.size/\2<=nb/\nb<=b.size/\na+nb+x+2<=a.size+b.size/\D9 (R9 c) L out.toList (E6 a na) (E6 b nb))) ?_ ?_ ⟨rfl,_,_,_,_,_,rfl,l1,l2,l3,l4,by omega,m⟩) ?_)
 ·rintro x' _ _ hx1' hx2' ⟨rfl,na,nb,out,ac,bc,rfl,l1,l2,l3,l4,l5,m⟩;obtain⟨na,rfl⟩:∃k,na=k+1:=⟨na-1,by omega⟩
  obtain⟨nb,rfl⟩:∃k,nb=k+1:=⟨nb-1,by omega⟩
  have ea:=kK (a:=a) (i:=na) f8;have eb:=kK (a:=b) (i:=nb) f8;dsimp only;simp only[Nat.add_sub_cancel];refine Vf (O9 (x:=b[nb]) (Xc f8) (Vf (O9 (x:=a[na]) (Xc f8) (Vf (Zt0 C (fQ hSb f8) (fQ hSa f8) (hBf _ g8 _ g8) ?_)))));dsimp only;cases hc:c b[nb] a[na]with
  |true=>
   rw[d7 rfl];refine Vf (O9 (x:=a[na]) (Xc f8) ?_);have m':D9 (R9 c) L (out.push a[na]).toList (E6 a na) (E6 b (nb+1)):=by
    rw[dU];refine D9.ta (by rw[eB,<- ea];exact m) λx hx y hy=>?_;obtain⟨j,h1,h2,rfl⟩:=kM l4 hy;rw[Xe.mp hx];exact C.le (bl f8 f8) (C.as _ _ hc)
   by_cases h:na=0
   ·rw[d7 (by simpa using h)];exact Vj ⟨rfl,.inl ⟨_,_,rfl,tQ m' (.inl h)⟩⟩
   ·rw[d9 (by simpa using h)];by_cases h':ac+1 ≥ mg
    ·rw[d7 h'];exact Vj ⟨rfl,.inr ⟨_,_,_,_,_,rfl,by omega,by omega,by omega,l4,by omega,m'⟩⟩
    ·rw[d9 h'];exact Vj ⟨rfl,_,_,_,_,_,rfl,by omega,by omega,by omega,l4,by omega,m'⟩
  |false=>
   rw[d9 g8];refine Vf (O9 (x:=b[nb]) (Xc f8) ?_);have m':D9 (R9 c) L (out.push b[nb]).toList (E6 a (na+1)) (E6 b nb):=by
    rw[dU];refine D9.tb (by rw[eB,<- eb];exact m) λx hx y hy=>?_;obtain⟨j,h1,h2,rfl⟩:=kM f8 hy;rw[Xe.mp hx];exact C.le (al f8 f8) hc
   by_cases h:nb=1
   ·rw[d7 (by simpa using h)];exact Vj ⟨rfl,.inl ⟨_,_,rfl,Zg4 hb f8 m' h fst⟩⟩
   ·rw[d9 (by simpa using h)];by_cases h':bc+1 ≥ mg
    ·rw[d7 h'];exact Vj ⟨rfl,.inr ⟨_,_,_,_,_,rfl,by omega,by omega,by omega,by omega,by omega,m'⟩⟩
    ·rw[d9 h'];exact Vj ⟨rfl,_,_,_,_,_,rfl,by omega,by omega,by omega,by omega,by omega,m'⟩
 ·rintro _ _ ⟨rfl,na,nb,out,ac,bc,rfl,l1,l2,l3,l4,l5,m⟩;omega
 rintro _ _ ⟨rfl,⟨res,t,rfl,k⟩ |⟨na,nb,out,ac,bc,rfl,l1,l2,l3,l4,l5,m⟩⟩
 ·exact Vj ⟨g',rfl,_,_,rfl,k⟩
 refine Vf (lL (eI ⟨rfl,?_⟩));refine Vf (Z7 (Vy (I:=λx' r st=>∃g',st=C9 κ arr p g'/\∃na nb out mg ac bc,r=(B0,na,nb,out,mg,ac,bc)/\1<=na/\na<a.size/\2<=nb/\nb<=b.size/\na+nb+x+2<=a.size+b.size/\D9 (R9 c) L out.toList (E6 a na) (E6 b nb))
  (Q:=λr st=>∃g',st=C9 κ arr p g'/\((∃res t,r=(B3 res,t)/\S8 c L res)\/∃na nb out mg ac bc,r=(B0,na,nb,out,mg,ac,bc)/\1<=na/\na<a.size/\2<=nb/\nb<=b.size/\na+nb+x+2<=a.size+b.size/\D9 (R9 c) L out.toList (E6 a na) (E6 b nb))) ?_ ?_ ⟨_,rfl,_,_,_,_,_,_,rfl,l1,l2,l3,l4,by omega,m⟩) ?_)
 rotate_left
 ·rintro _ _ ⟨g',rfl,na,nb,out,mg,ac,bc,rfl,l1,l2,l3,l4,l5,m⟩;exact⟨g',rfl,.inr ⟨_,_,_,_,_,_,rfl,l1,l2,l3,l4,l5,m⟩⟩
 ·rintro _ _ ⟨g',rfl,⟨res,t,rfl,k⟩ |⟨na,nb,out,mg,ac,bc,rfl,l1,l2,l3,l4,l5,m⟩⟩
  ·exact Vj ⟨g',rfl,_,_,rfl,k⟩
  ·exact Vf (jF (Vj ⟨_,rfl,_,_,_,_,rfl,l1,l2,l3,l4,by omega,m⟩))
 rintro x' _ _ hx1' hx2' ⟨g',rfl,na,nb,out,mg,ac,bc,rfl,l1,l2,l3,l4,l5,m⟩;refine jU (λR=>(∀g' res t,S8 c L res->R (.done (B3 res,t)) (C9 κ arr p g'))/\∀g' na nb out mg ac bc,1<=na->na<a.size->2<=nb->nb<=b.size->na+nb+x+2<=a.size+b.size->D9 (R9 c) L out.toList (E6 a na) (E6 b nb)->R (.done (B0,na,nb,out,mg,ac,bc)) (C9 κ arr p g')/\R (.yield (B0,na,nb,out,mg,ac,bc)) (C9 κ arr p g')) ⟨λg' res t k=>⟨g',rfl,.inl ⟨_,_,rfl,k⟩⟩,λg' na nb out mg ac bc l1 l2 l3 l4 l5 m=>⟨⟨g',rfl,.inr ⟨_,_,_,_,_,_,rfl,l1,l2,l3,l4,l5,m⟩⟩,g',rfl,_,_,_,_,_,_,rfl,l1,l2,l3,l4,l5,m⟩⟩ ?_;rintro R ⟨hd,hn⟩
 extract_lets _ _ _ _ _ _ _ _ _ _ _ _ jp
 have eb1:b[nb-1]? = B3 b[nb-1]:=Xc f8
 suffices hj:∀mg,wpS (Vi prog w) A E s (jp () mg) R (C9 κ arr p g')by
  split
  ·exact hj _
  ·exact hj _
 intro mg;refine Vf (jF (Vf (O9 (x:=b[nb-1]) eb1 (Vf (Zmp C (key:=b[nb-1]) (a:=a) (i:=0) (n:=na) (hint:=na-1) (λu v h1 h2 h3 h4=>al h2 f8) f8 hSa (fQ hSb f8) (λj _ h=>hBf _ g8 _ g8) f8 λt k1 k2 k3=>?_)))));simp only[vL]at k2 k3;dsimp -zeta only
 extract_lets _ _ jp1
 have m1:D9 (R9 c) L (out++(a.extract t na).reverse).toList (E6 a t) (E6 b nb):=by
  rw[bQ];refine D9.ta (by rw[<- Zwy k1];exact m) λx hx y hy=>?_;obtain⟨j,h1,h2,h3,rfl⟩:=Zv1 f8 hx;obtain⟨i,h4,h5,rfl⟩:=kM l4 hy;exact C.le (bl f8 f8) (k3 j h1 h3 h2)
 suffices hj1:∀out:Array Ve,1<=t->D9 (R9 c) L out.toList (E6 a t) (E6 b nb)->wpS (Vi prog w) A E s (jp1 () t out) R (C9 κ arr p _)by
  by_cases hk:na-t > 0
  ·refine J6 hk ?_;by_cases h:t=0
   ·exact J6 (beq_iff_eq.mpr h) (Vj (hd _ _ _ (tQ (i:=t) (j:=nb) m1 (.inl h))))
   exact G6 (λz=>h (beq_iff_eq.mp z)) (hj1 _ f8 m1)
  ·have:t=na:=by omega
   subst this;exact G6 hk (hj1 _ l1 m)
 intro out lk m2;refine Vf (O9 (x:=b[nb-1]) eb1 ?_);have m3:D9 (R9 c) L (out.push b[nb-1]).toList (E6 a t) (E6 b (nb-1)):=by
  rw[dU];refine D9.tb (by rw[eB,<- kK f8,show nb-1+1=nb by omega];exact m2) λx hx y hy=>?_;obtain⟨j,h1,h2,rfl⟩:=kM f8 hy;rw[Xe.mp hx];exact k2 j h2 h1
 by_cases h:nb-1=1
 ·exact J6 (beq_iff_eq.mpr h) (Vj (hd _ _ _ (Zg4 hb f8 m3 h fst)))
 refine G6 (λz=>h (beq_iff_eq.mp z)) ?_;have ea1:a[t-1]? = B3 a[t-1]:=Xc f8;refine Vf (O9 (x:=a[t-1]) ea1 (Vf (Zl7 C (key:=a[t-1]) (a:=b) (i:=0) (n:=nb-1) (hint:=nb-1-1) (λu v h1 h2 h3 h4=>bl h2 f8) f8 hSb (fQ hSa f8) (λj _ h=>hBf _ g8 _ g8) f8 λt' k1' k2' k3'=>?_)));simp only[vL]at k2' k3';generalize out.push b[nb-1]=out at *;dsimp -zeta only
 extract_lets _ _ _ jp2
 have m4:D9 (R9 c) L (out++(b.extract t' (nb-1)).reverse).toList (E6 a t) (E6 b t'):=by
  rw[bQ];refine D9.tb (by rw[<- Zwy k1'];exact m3) λx hx y hy=>?_;obtain⟨j,h1,h2,h3,rfl⟩:=Zv1 f8 hx;obtain⟨i,h4,h5,rfl⟩:=kM f8 hy;exact C.le (al f8 f8) (k3' j h1 h3 h2)
 suffices hj2:∀out:Array Ve,2<=t'->D9 (R9 c) L out.toList (E6 a t) (E6 b t')->wpS (Vi prog w) A E s (jp2 () t' out) R (C9 κ arr p _)by
  by_cases hk:nb-1-t' > 0
  ·refine J6 hk ?_;by_cases h':t'=1
   ·exact J6 (beq_iff_eq.mpr h') (Vj (hd _ _ _ (Zg4 hb f8 m4 h' fst)))
   refine G6 (λz=>h' (beq_iff_eq.mp z)) ?_;by_cases h2:t'=0
   ·exact J6 (beq_iff_eq.mpr h2) (Vj (hd _ _ _ (tQ (i:=t) (j:=t') m4 (.inr h2))))
   exact G6 (λz=>h2 (beq_iff_eq.mp z)) (hj2 _ f8 m4)
  ·have:t'=nb-1:=by omega
   subst this;exact G6 hk (hj2 _ f8 m3)
 intro out lk' m5;refine Vf (O9 (x:=a[t-1]) ea1 ?_);have m6:D9 (R9 c) L (out.push a[t-1]).toList (E6 a (t-1)) (E6 b t'):=by
  rw[dU];refine D9.ta (by rw[eB,<- kK f8,show t-1+1=t by omega];exact m5) λx hx y hy=>?_;obtain⟨j,h1,h2,rfl⟩:=kM f8 hy;rw[Xe.mp hx];exact k2' j h2 h1
 by_cases h':t-1=0
 ·exact J6 (beq_iff_eq.mpr h') (Vj (hd _ _ _ (tQ (i:=t-1) (j:=t') m6 (.inl h'))))
 refine G6 (λz=>h' (beq_iff_eq.mp z)) ?_;have hn':=λg' mg ac bc=>hn g' _ _ _ mg ac bc f8 f8 lk' f8 f8 m6;split
 ·exact Vj (hn' _ _ _ _).1
 ·exact Vj (hn' _ _ _ _).2
end
theorem Zv3{arr:Array Ve}{pre r post:List Ve}(h:arr.toList=pre++r++post){j:Nat}(hj:j<r.length):∃h':pre.length+j<arr.size,arr[pre.length+j]=r[j]:=by
 have l:arr.size=(pre++r++post).length:=by rw[<- h];simp
 have l':pre.length+j<arr.size:=by rw[l];simp;omega
 refine⟨l',?_⟩;have e:arr[pre.length+j]? = B3 r[j]:=by
  rw[<- bR,h,T5,eD f8,Xs f8];simp[hj]
 rw[Xc l']at e;exact B3.inj e
theorem Zqz{arr:Array Ve}{pre r post:List Ve}(h:arr.toList=pre++r++post){u v:Nat}(hu:u=pre.length)(hv:v=pre.length+r.length):(arr.extract u v).toList=r:=by
 subst hu hv;rw[oZ,wF,h,T5,List.drop_left,Nat.add_sub_cancel_left,List.take_left]
theorem sC(pre r1 r2 post:List Ve)(k t:Nat):pre++r1++r2++post=(pre++r1.take k)++(r1.drop k++r2.take t)++(r2.drop t++post):=by
 have e1:=bA k r1;have e2:=bA t r2;generalize r1.take k=a at *;generalize r1.drop k=b at *;generalize r2.take t=d at *;generalize r2.drop t=e at *;subst e1 e2;simp
theorem rH(b:Nat):∀(m:List Ve)(n:Nat)(arr:Array Ve)(pre old post:List Ve),arr.toList=pre++old++post->pre.length=b+n->old.length=m.length->((m.zipIdx n).foldl (λa x=>a.setIfInBounds (b+x.2) x.1) arr).toList=pre++m++post
 |[],n,arr,pre,old,post,h,_,l=>by
  have:old=[]:=wC.mp l;subst this;exact h
 |x::m,n,arr,pre,[],post,h,_,l=>by cases l
 |x::m,n,arr,pre,o::old,post,h,hb,l=>by
  have:=rH b m (n+1) (arr.setIfInBounds (b+n) x) (pre++[x]) old post (by rw[Array.toList_setIfInBounds,h,<- hb];simp) h9 (by simpa using l);rw[List.zipIdx_cons,Weg,this];simp
section
variable{prog:Vl}{w:Vs}{A:Vo}{E:Vb->Vd->Prop}{s:Vd}{κ:bX}{S:Ve->Prop}{Bf:Ve->Ve->Prop}{kk c:Ve->Ve->Bool}(C:M6 (Vi prog w) A s κ S Bf kk c)
theorem Ycw{st st':F7}{Q:PUnit->F7->Prop}(h:Q ⟨⟩ st'):wpS (Vi prog w) A E s (set st':StateT F7 Sem PUnit) Q st:=by
 unfold wpS;rw[StateT.run_set];exact Vc ⟨rfl,h⟩
include C
theorem M6.app{l m:List Ve}{k:Ve}(hl:l.Pairwise (D1 c))(hm:m.Pairwise (D1 c))(h1:∀x∈l,D1 c x k)(h2:∀y∈m,D1 c k y):(l++m).Pairwise (D1 c):=L9.mpr ⟨hl,hm,λx hx y hy=>C.le (h1 x hx) (h2 y hy)⟩
theorem Yb3{arr:Array Ve}{p:Array (Nat×Nat×Nat)}{g i pw pw':Nat}{pre r1 r2 post:List Ve}{Q:Bool->F7->Prop}(ha:arr.toList=pre++r1++r2++post)(hi:p[i]? = B3 (pre.length,r1.length,pw))(hi1:p[i+1]? = B3 (pre.length+r1.length,r2.length,pw'))(s1:r1.Pairwise (D1 c))(s2:r2.Pairwise (D1 c))(n1:0<r1.length)(n2:0<r2.length)(hS:∀x∈arr.toList,S x)(hBf:∀x∈r1,∀y∈r2,Bf y x)
  (q:∀r arr' g',r.Pairwise (D1 c)->r.Perm (r1++r2)->arr'.toList=pre++r++post->Q B1 (C9 κ arr' ((p.setIfInBounds i (pre.length,r1.length+r2.length,pw)).eraseIdxIfInBounds (i+1)) g')):wpS (Vi prog w) A E s (mergeAt' i) Q (C9 κ arr p g):=by
 have ha2:arr.toList=(pre++r1)++r2++post:=ha;have ha1:arr.toList=pre++r1++(r2++post):=by rw[ha];simp
 have sz:arr.size=pre.length+r1.length+r2.length+post.length:=by rw[<- Xw,ha];simp;omega
 have at1:∀j(h:j<r1.length),arr[pre.length+j]=r1[j]:=λj h=>(Zv3 ha1 h).2;have at2:∀j(h:j<r2.length),arr[pre.length+r1.length+j]=r2[j]:=λj h=>by
  obtain⟨_,e⟩:=Zv3 ha2 h;simpa using e
 have le1:∀u v(h1:u<=v)(h:v<r1.length),D1 c r1[u] r1[v]:=λu v h1 h=>by
  rcases Wep h1 with z |rfl
  ·exact iZ.mp s1 u v _ h z
  ·exact C.re _
 have le2:∀u v(h1:u<=v)(h:v<r2.length),D1 c r2[u] r2[v]:=λu v h1 h=>by
  rcases Wep h1 with z |rfl
  ·exact iZ.mp s2 u v _ h z
  ·exact C.re _
 have seg1:∀u v,pre.length<=u->(h1:u<=v)->(h:v<pre.length+r1.length)->(h2:pre.length+r1.length<=arr.size)->D1 c arr[u] arr[v]:=λu v h0 h1 h h2=>by
  have e1:=at1 (u-pre.length) f8;have e2:=at1 (v-pre.length) f8;simp only[show pre.length+(u-pre.length)=u by omega,show pre.length+(v-pre.length)=v by omega]at e1 e2;rw[e1,e2];exact le1 _ _ f8 f8
 have seg2:∀u v,pre.length+r1.length<=u->(h1:u<=v)->(h:v<pre.length+r1.length+r2.length)->(h2:pre.length+r1.length+r2.length<=arr.size)->D1 c arr[u] arr[v]:=λu v h0 h1 h h2=>by
  have e1:=at2 (u-(pre.length+r1.length)) f8;have e2:=at2 (v-(pre.length+r1.length)) f8;simp only[show pre.length+r1.length+(u-(pre.length+r1.length))=u by omega,show pre.length+r1.length+(v-(pre.length+r1.length))=v by omega]at e1 e2;rw[e1,e2];exact le2 _ _ f8 f8
 refine Vf (eF ?_);show wpS (Vi prog w) A E s (match (p[i]?,p[i+1]?)with |(B3 (sa,na,power),B3 (sb,nb,_))=>_ |_=>_) Q _;rw[hi,hi1];have e20:arr[pre.length+r1.length]? = B3 r2[0]:=by
  rw[Xc f8];exact congrArg B3 (at2 0 n2)
 have S1:∀x∈r1,S x:=λx hx=>hS x (by rw[ha];simp[hx]);have S2:∀x∈r2,S x:=λx hx=>hS x (by rw[ha];simp[hx]);refine Vf (Ycw (Vf (O9 (x:=r2[0]) e20 (Vf (Zmp C (key:=r2[0]) (a:=arr) (i:=pre.length) (n:=r1.length) (hint:=0) seg1 f8 hS (S2 _ g8) (λj hj h=>by rw[at1 j hj];exact hBf _ g8 _ g8) n1 λk k1 k2 k3=>?_)))));have k2':∀j,j<k->(h:j<r1.length)->D1 c r1[j] r2[0]:=λj h1 h=>by rw[<- at1 j h];exact k2 j h1 f8
 have k3':∀j,k<=j->(h:j<r1.length)->D1 c r2[0] r1[j]:=λj h1 h=>by rw[<- at1 j h];exact k3 j h1 h f8
 have hd2:∀y∈r2,D1 c r2[0] y:=λy hy=>by
  obtain⟨j,hj,rfl⟩:=Xz.mp hy;exact le2 0 j f8 hj
 have tk1:∀x∈r1.take k,D1 c x r2[0]:=λx hx=>by
  obtain⟨j,hj,rfl⟩:=Xz.mp hx;rw[Z5]at hj;rw[oU];exact k2' j f8 f8
 by_cases h:r1.length-k=0
 ·refine J6 (beq_iff_eq.mpr h) (Vj (q (r1++r2) arr _ (C.app s1 s2 (λx hx=>tk1 x ?_) hd2) (Y3.refl _) (by rw[ha];simp)));rw[iX f8];exact hx
 refine G6 (λz=>h (beq_iff_eq.mp z)) ?_;have e1l:arr[pre.length+k+(r1.length-k)-1]? = B3 r1[r1.length-1]:=by
  rw[show pre.length+k+(r1.length-k)-1=pre.length+(r1.length-1)by omega,Xc f8];exact congrArg B3 (at1 _ f8)
 refine Vf (O9 (x:=r1[r1.length-1]) e1l (Vf (Zl7 C (key:=r1[r1.length-1]) (a:=arr) (i:=pre.length+r1.length) (n:=r2.length) (hint:=r2.length-1) (λu v h0 h1 h h2=>seg2 u v h0 h1 h h2) f8 hS (S1 _ g8) (λj hj h=>by rw[at2 j hj];exact hBf _ g8 _ g8) f8 λt t1 t2 t3=>?_)));have t2':∀j,j<t->(h:j<r2.length)->D1 c r2[j] r1[r1.length-1]:=λj h1 h=>by rw[<- at2 j h];exact t2 j h1 f8
 have t3':∀j,t<=j->(h:j<r2.length)->D1 c r1[r1.length-1] r2[j]:=λj h1 h=>by rw[<- at2 j h];exact t3 j h1 h f8
 have hl1:∀x∈r1,D1 c x r1[r1.length-1]:=λx hx=>by
  obtain⟨j,hj,rfl⟩:=Xz.mp hx;exact le1 j _ f8 f8
 have dr2:∀y∈r2.drop t,D1 c r1[r1.length-1] y:=λy hy=>by
  obtain⟨j,hj,rfl⟩:=Xz.mp hy;rw[fZ]at hj;rw[oR];exact t3' _ f8 f8
 by_cases h':t=0
 ·subst h';exact J6 rfl (Vj (q (r1++r2) arr _ (C.app s1 s2 hl1 dr2) (Y3.refl _) (by rw[ha];simp)))
 refine G6 (λz=>h' (beq_iff_eq.mp z)) ?_;have ex:(arr.extract (pre.length+k) (pre.length+r1.length)).toList=r1.drop k:=Zqz (pre:=pre++r1.take k) (post:=r2++post) (by
  rw[ha,sC pre r1 r2 post k 0];simp) h9 h9
 have ey:(arr.extract (pre.length+r1.length) (pre.length+r1.length+t)).toList=r2.take t:=Zqz (pre:=pre++r1) (post:=r2.drop t++post) (by
  rw[ha2,T5 (pre++r1) (r2.take t),<- T5 (r2.take t),bA,T5]) g8 h9
 extract_lets x y jp
 change x.toList=_ at ex;change y.toList=_ at ey;have xs:x.size=r1.length-k:=by rw[<- Xw,ex];simp
 have ys:y.size=t:=by rw[<- Xw,ey];simp;omega
 have fin:∀m g',S8 c (x.toList++y.toList) m->wpS (Vi prog w) A E s (jp m) Q (C9 κ arr ((p.setIfInBounds i (pre.length,r1.length+r2.length,pw)).eraseIdxIfInBounds (i+1)) g'):=λm g' gd=>by
  rw[ex,ey]at gd;have im:∀z∈m.toList,z∈r1.drop k\/z∈r2.take t:=λz hz=>Xf.mp (gd.2.mem_iff.mp hz);have p1:(r1.take k++(m.toList++r2.drop t)).Perm (r1++r2):=by
   refine((gd.2.append_right (r2.drop t)).append_left (r1.take k)).trans ?_;have e:r1.take k++(r1.drop k++r2.take t++r2.drop t)=r1++r2:=by
    rw[T5,bA,<- T5,bA]
   rw[e]
  refine Vf (jF (Vf (eF (Vj (q (r1.take k++(m.toList++r2.drop t)) _ g' ?_ p1 ?_)))))
  ·rw[L9];refine⟨s1.sublist (Wew _ _),?_,λu hu v hv=>?_⟩
   ·rw[L9];refine⟨gd.1,s2.sublist (Wgm _ _),λu hu v hv=>?_⟩;rcases im u hu with z |z
    ·exact C.le (hl1 u (iW z)) (dr2 v hv)
    ·have:=s2;rw[<- bA t r2,L9]at this;exact this.2.2 u z v hv
   ·rcases Xf.mp hv with z |z
    ·rcases im v z with z |z
     ·have:=s1;rw[<- bA k r1,L9]at this;exact this.2.2 u hu v z
     ·exact C.le (tk1 u hu) (hd2 v (oY z))
    ·exact C.le (tk1 u hu) (hd2 v (iW z))
  ·have d4:(r1.drop k++r2.take t).length=m.toList.length:=gd.2.length_eq.symm;have e0:arr.toList=(pre++r1.take k)++(r1.drop k++r2.take t)++(r2.drop t++post):=by
    rw[ha];exact sC ..
   have:=rH (pre.length+k) m.toList 0 arr _ _ _ e0 h9 d4;refine Eq.trans this ?_;simp
 have sx:x.toList.Pairwise (D1 c):=by rw[ex];exact s1.sublist (Wgm _ _)
 have sy:y.toList.Pairwise (D1 c):=by rw[ey];exact s2.sublist (Wew _ _)
 have hSx:∀z∈x.toList,S z:=λz hz=>S1 z (by rw[ex]at hz;exact iW hz);have hSy:∀z∈y.toList,S z:=λz hz=>S2 z (by rw[ey]at hz;exact oY hz);have hBxy:∀u∈x.toList,∀v∈y.toList,Bf v u:=λu hu v hv=>hBf u (by rw[ex]at hu;exact iW hu) v (by rw[ey]at hv;exact oY hv);have y0:y[0]'(by omega)=r2[0]:=by
  have:y.toList[0]'(by simp;omega)=r2[0]:=by simp only[ey];rw[oU]
  simpa using this
 have xl:x[x.size-1]'(by omega)=r1[r1.length-1]:=by
  have:x.toList[x.size-1]'(by simp;omega)=r1[r1.length-1]:=by
   simp only[ex];rw[oR]
   congr 1
   omega
  simpa using this
 have fst:∀z∈x.toList,D1 c (y[0]'(by omega)) z:=λz hz=>by
  rw[y0];rw[ex]at hz;obtain⟨j,hj,rfl⟩:=Xz.mp hz;rw[fZ]at hj;rw[oR];exact k3' _ f8 f8
 have lst:∀z∈y.toList,D1 c z (x[x.size-1]'(by omega)):=λz hz=>by
  rw[xl];rw[ey]at hz;obtain⟨j,hj,rfl⟩:=Xz.mp hz;rw[Z5]at hj;rw[oU];exact t2' _ f8 f8
 by_cases hm:r1.length-k<=t
 ·exact J6 hm (Vf (Ya5 C f8 f8 sx sy hSx hSy hBxy fst lst λm g' gd=>fin m g' gd))
 ·exact G6 hm (Vf (Ycn C f8 f8 sx sy hSx hSy hBxy fst lst λm g' gd=>fin m g' gd))
end
nonrec def ky(a:Array Ve)(i:Nat):Ve:=a.getD i (Uu,Uu)
theorem Zss{a:Array Ve}{i:Nat}(h:i<a.size):a[i]? = B3 (ky a i):=by
 unfold ky;simp[bM,h]
theorem sO{a b:Array Ve}{i j:Nat}(h:a[i]? = b[j]?):ky a i=ky b j:=by
 unfold ky;rw[Wcj,Wcj,h]
structure J7(lo:Nat)(a b:Array Ve):Prop where
 perm:a.Perm b
 pre:∀k,k<lo->a[k]? = b[k]?
section
variable{c:Ve->Ve->Bool}{lo:Nat}{a b d:Array Ve}
theorem J7.refl:J7 lo a a:=⟨vJ.refl _,λ_ _=>rfl⟩
theorem J7.trans(h:J7 lo a b)(k:J7 lo b d):J7 lo a d:=⟨h.perm.trans k.perm,λi hi=>(h.pre i hi).trans (k.pre i hi)⟩
theorem J7.size(h:J7 lo a b):a.size=b.size:=h.perm.size_eq
theorem J7.mir{i j:Nat}(h:J7 lo a b)(hi:lo<=i)(hj:j<=a.size):J7 lo (mirror a i j ((j-i) / 2)) b:=J7.trans ⟨mirror_perm _ _ _ _,λk hk=>by rw[Uea hj,d9 f8]⟩ h
theorem J7.bub{i m:Nat}(h:J7 lo a b)(hi:lo+m<=i)(hs:i<a.size):J7 lo (bubble a i m) b:=J7.trans ⟨bubble_perm _ _ _,λk hk=>by rw[getElem?_bubble hs _ f8,d9 f8,d9 f8]⟩ h
theorem J7.list{pre rest:List Ve}(h:J7 pre.length a b)(e:b.toList=pre++rest):∃rest',a.toList=pre++rest'/\rest'.Perm rest:=by
 have s:a.size=(pre++rest).length:=by rw[h.size,<- e];simp
 have e1:a.toList.take pre.length=pre:=by
  apply Wgl;intro k;rw[List.getElem?_take];split
  ·rename_i hk;rw[bR,h.pre k hk,<- bR,e,Xs hk]
  ·rename_i hk;rw[Wfq f8]
 refine⟨a.toList.drop pre.length,?_,?_⟩
 ·conv=>lhs;rw[<- bA pre.length a.toList,e1]
 ·have p:=vJ.toList h.perm;rw[e,<- bA pre.length a.toList,e1]at p;exact(List.perm_append_left_iff pre).mp p
def Z8(c:Ve->Ve->Bool)(a:Array Ve)(l h:Nat):Prop:=∀i j,l<=i->i<=j->j<h->D1 c (ky a i) (ky a j)
def mE(c:Ve->Ve->Bool)(a:Array Ve)(l h:Nat):Prop:=∀i j,l<=i->i<=j->j<h->D1 c (ky a j) (ky a i)
theorem Z3{i j:Nat}(hj:j<=a.size)(k:Nat):ky (mirror a i j ((j-i) / 2)) k=if i<=k/\k<j then ky a (i+j-1-k)else ky a k:=by
 have e:=Uea (i:=i) hj k;split
 ·rename_i h;rw[d7 h]at e;exact sO e
 ·rename_i h;rw[d9 h]at e;exact sO e
def Q4(Bf:Ve->Ve->Prop)(a:Array Ve)(lo x hi:Nat):Prop:=(∀u v,lo<=u->u<x->x<=v->v<hi->Bf (ky a v) (ky a u))/\(∀u v,x<=u->u<v->v<hi->Bf (ky a v) (ky a u))
theorem Q4.up{Bf:Ve->Ve->Prop}{x x' hi:Nat}(h:Q4 Bf a lo x hi)(hx:x<=x'):Q4 Bf a lo x' hi:=⟨λu v h1 h2 h3 h4=>by
 by_cases z:u<x
 ·exact h.1 u v h1 z f8 h4
 ·exact h.2 u v f8 f8 h4,λu v h1 h2 h3=>h.2 u v f8 h2 h3⟩
theorem Q4.mir{Bf:Ve->Ve->Prop}{x hi i j:Nat}(h:Q4 Bf a lo x hi)(hj:j<=a.size)(hi':lo<=i)(hx:j<=x):Q4 Bf (mirror a i j ((j-i) / 2)) lo x hi:=⟨λu v h1 h2 h3 h4=>by
 rw[Z3 hj,Z3 hj,d9 (by omega:¬ (i<=v/\v<j))];split
 ·exact h.1 _ v f8 f8 h3 h4
 ·exact h.1 u v h1 h2 h3 h4,λu v h1 h2 h3=>by
 rw[Z3 hj,Z3 hj,d9 (by omega:¬ (i<=v/\v<j)),d9 (by omega:¬ (i<=u/\u<j))];exact h.2 u v h1 h2 h3⟩
theorem mE.turn{l h:Nat}(n:mE c a l h)(hj:h<=a.size):Z8 c (mirror a l h ((h-l) / 2)) l h:=by
 intro u v hu huv hv;rw[Z3 hj,Z3 hj,d7 f8,d7 f8];exact n _ _ f8 f8 f8
end
section
variable{prog:Vl}{w:Vs}{A:Vo}{E:Vb->Vd->Prop}{s:Vd}{κ:bX}{S:Ve->Prop}{Bf:Ve->Ve->Prop}{kk c:Ve->Ve->Bool}(C:M6 (Vi prog w) A s κ S Bf kk c)
include C
theorem Z8.more{a:Array Ve}{l h:Nat}(n:Z8 c a l h)(hl:l<h)(e:D1 c (ky a (h-1)) (ky a h)):Z8 c a l (h+1):=λi j hi hij hj=>by
 by_cases h1:j<h
 ·exact n i j hi hij h1
 ·have:j=h:=by omega
  subst this;by_cases h2:i=j
  ·subst h2;exact C.re _
  ·exact C.le (n i (j-1) hi f8 f8) e
theorem Zgu{a:Array Ve}{p:Array (Nat×Nat×Nat)}{g i j:Nat}{Q:Option Bool->F7->Prop}(hS:∀x∈a.toList,S x)(hi:i<a.size)(hj:j<a.size)(q:Q (B3 (kk (ky a i) (ky a j))) (C9 κ a p g)):wpS (Vi prog w) A E s (ltAt' i j) Q (C9 κ a p g):=by
 have hk:∀i,i<a.size->S (ky a i):=λi h=>hS _ (by
  have:=Zss h;rw[<- bR]at this;exact dZ this)
 rw[ltAt'_eq];refine Vf (eF (Vf (O9 (Zss hi) (Vf (O9 (Zss hj) (Zwm C (hk i hi) (hk j hj) q))))))
theorem Zqa{a:Array Ve}{p:Array (Nat×Nat×Nat)}{g i j:Nat}{Q:Option Bool->F7->Prop}(hS:∀x∈a.toList,S x)(hi:i<a.size)(hj:j<a.size)(hb:Bf (ky a i) (ky a j))(q:Q (B3 (c (ky a i) (ky a j))) (C9 κ a p g)):wpS (Vi prog w) A E s (ltAt' i j) Q (C9 κ a p g):=Zgu C hS hi hj (by rw[C.ev _ _ hb];exact q)
theorem Zw5{a:Array Ve}{p:Array (Nat×Nat×Nat)}{g lo n0 nrem:Nat}{Q:Option (Option Nat)×Nat->F7->Prop}{B:Nat->Option (Option Nat)×Nat->StateT F7 Sem (ForInStep (Option (Option Nat)×Nat))}(hS:∀x∈a.toList,S x)(h1:1<=n0)(hn:n0<=nrem)(hz:lo+nrem<=a.size)(hO:Q4 Bf a lo (lo+n0) (lo+nrem))(h:Z8 c a lo (lo+n0))
  (q:∀n,n0<=n->n<=nrem->Z8 c a lo (lo+n)->(n=nrem\/c (ky a (lo+n)) (ky a (lo+n-1))=B1)->Q (B0,n) (C9 κ a p g))
  (hB:∀x n R,wpS (Vi prog w) A E s (do
   let r<-ltAt' (lo+n) (lo+n-1)
   match r with
   |some smaller=>if smaller=B1 then pure (.done (B0,n))else pure (.yield (B0,n+1))
   |_=>pure (.done (B3 B0,n))) R (C9 κ a p g)->wpS (Vi prog w) A E s (B x (B0,n)) R (C9 κ a p g)):wpS (Vi prog w) A E s (forIn [n0:nrem] (B0,n0) B) Q (C9 κ a p g):=by
 refine Vy (I:=λx r st=>st=C9 κ a p g/\r=(B0,x)/\Z8 c a lo (lo+x)) ?_ ?_ ⟨rfl,rfl,h⟩
 ·rintro x _ _ hx1 hx2 ⟨rfl,rfl,h⟩;refine hB x x _ (Vf (Zqa C hS f8 f8 ((hO.up (show lo+n0<=lo+x by omega)).1 _ _ f8 f8 f8 f8) ?_));dsimp only;cases e:c (ky a (lo+x)) (ky a (lo+x-1))with
  |true=>exact J6 rfl (Vj (q x hx1 f8 h (.inr e)))
  |false=>exact G6 g8 (Vj ⟨rfl,rfl,h.more C f8 e⟩)
 ·rintro _ _ ⟨rfl,rfl,h⟩;rw[Wgy hn]at h ⊢;exact q nrem hn (Xd _) h (.inl rfl)
structure Y7(kk c:Ve->Ve->Bool)(a:Array Ve)(lo bs hi:Nat):Prop where
 ni:mE c a lo bs
 cr:∀i j,lo<=i->i<bs->bs<=j->j<hi->kk (ky a j) (ky a i)=B1
 sg:Z8 c a bs hi
 eq:∀u v,bs<=u->u<hi->bs<=v->v<hi->kk (ky a u) (ky a v)=B2
theorem M6.kre(x:Ve):kk x x=B2:=by
 cases h:kk x x with
 |false=>rfl
 |true=>exact absurd (C.kas x x h) (by rw[h];simp)
theorem M6.klt{x y z:Ve}(h:kk z y=B1)(k:kk x y=B2):kk z x=B1:=by
 cases e:kk z x with
 |true=>rfl
 |false=>exact absurd (C.ktr y x z k e) (by rw[h];simp)
theorem Y7.turn{a:Array Ve}{lo bs hi:Nat}(h:Y7 kk c a lo bs hi)(hl:lo<=bs)(hb:bs<=hi)(hs:hi<=a.size):mE c (mirror a bs hi ((hi-bs) / 2)) lo hi:=λi j h1 h2 h3=>by
 rw[Z3 hs,Z3 hs];by_cases zi:bs<=i
 ·rw[d7 f8,d7 f8];exact h.sg _ _ f8 f8 f8
 ·rw[d9 (by omega:¬ (bs<=i/\i<hi))];by_cases zj:bs<=j
  ·rw[d7 f8];exact C.as _ _ (C.kc _ _ (h.cr i _ h1 f8 f8 f8))
  ·rw[d9 f8];exact h.ni i j h1 h2 f8
theorem Y7.one{a:Array Ve}{lo hi:Nat}(h:Y7 kk c a lo hi (hi+1)):mE c a lo (hi+1):=λi j h1 h2 h3=>by
 by_cases zj:j<hi
 ·exact h.ni i j h1 h2 zj
 ·by_cases zi:i<hi
  ·exact C.as _ _ (C.kc _ _ (h.cr i j h1 zi f8 h3))
  ·have:i=j:=by omega
   subst this;exact C.re _
theorem Zj0{a:Array Ve}{lo hi:Nat}(ni:mE c a lo hi)(all:∀i,lo<=i->i<hi->kk (ky a hi) (ky a i)=B1):Y7 kk c a lo hi (hi+1):=⟨ni,λi j h1 h2 h3 h4=>by
  have:j=hi:=by omega
  subst this;exact all i h1 h2,λi j h1 h2 h3=>by
  have:i=j:=by omega
  subst this;exact C.re _,λu v h1 h2 h3 h4=>by
  have:u=v:=by omega
  subst this;exact C.kre _⟩
theorem Y7.less{a:Array Ve}{lo bs hi:Nat}(h:Y7 kk c a lo bs hi)(hb:bs<hi)(e:kk (ky a hi) (ky a (hi-1))=B1):∀i,lo<=i->i<hi->kk (ky a hi) (ky a i)=B1:=λi h1 h2=>by
 by_cases z:bs<=i
 ·exact C.klt e (h.eq _ _ z h2 f8 f8)
 ·exact C.klt e (C.kas _ _ (h.cr i (hi-1) h1 f8 f8 f8))
theorem Y7.like{a:Array Ve}{lo bs hi:Nat}(h:Y7 kk c a lo bs hi)(hb:bs<hi)(hB:Bf (ky a hi) (ky a (hi-1)))(e:kk (ky a hi) (ky a (hi-1))=B2)(e2:kk (ky a (hi-1)) (ky a hi)=B2):Y7 kk c a lo bs (hi+1):=by
 refine⟨h.ni,λi j h1 h2 h3 h4=>?_,h.sg.more C hb (by show c _ _=B2;rw[<- C.ev _ _ hB];exact e),λu v h1 h2 h3 h4=>?_⟩
 ·by_cases z:j<hi
  ·exact h.cr i j h1 h2 h3 z
  ·have:j=hi:=by omega
   subst this;have k:=h.cr i (j-1) h1 h2 f8 f8;cases w:kk (ky a j) (ky a i)with
   |true=>rfl
   |false=>exact absurd (C.ktr _ _ _ w e2) (by rw[k];simp)
 ·have up:∀u,bs<=u->u<hi+1->kk (ky a u) (ky a (hi-1))=B2/\kk (ky a (hi-1)) (ky a u)=B2:=λu h1 h2=>by
   by_cases z:u<hi
   ·exact⟨h.eq _ _ h1 z f8 f8,h.eq _ _ f8 f8 h1 z⟩
   ·have:u=hi:=by omega
    subst this;exact⟨e,e2⟩
  exact C.ktr _ _ _ (up v h3 h4).2 (up u h1 h2).1
theorem Zvg{a:Array Ve}{p:Array (Nat×Nat×Nat)}{g lo nrem:Nat}{Q:Option Nat->F7->Prop}(hS:∀x∈a.toList,S x)(h1:1<=nrem)(hz:lo+nrem<=a.size)(hO:Q4 Bf a lo lo (lo+nrem))
  (q:∀n a',1<=n->n<=nrem->J7 lo a' a->Z8 c a' lo (lo+n)->Q4 Bf a' lo (lo+n) (lo+nrem)->Q (B3 n) (C9 κ a' p g)):wpS (Vi prog w) A E s (countRun' lo nrem) Q (C9 κ a p g):=by
 have hS':∀{a':Array Ve},J7 lo a' a->∀x∈a'.toList,S x:=λpf x hx=>hS x ((vJ.toList pf.perm).mem_iff.mp hx);refine Vf (Zw5 C hS (Xd 1) h1 hz (hO.up f8) (λi j hi hij hj=>?_) (λn n1 n2 h hor=>?_) (λx n R h=>h))
 ·have:i=j:=by omega
  subst this;exact C.re _
 by_cases hn:n=nrem
 ·exact J6 (beq_iff_eq.mpr hn) (Vj (q n a n1 n2 J7.refl h (hO.up f8)))
 refine G6 (λz=>hn (beq_iff_eq.mp z)) ?_;have hlt:kk (ky a (lo+n)) (ky a (lo+n-1))=B1:=by rw[C.ev _ _ (hO.2 _ _ f8 f8 f8)];exact hor.resolve_left hn
 extract_lets _ _ jp
 have hj:∀a',J7 lo a' a->Q4 Bf a' lo (lo+n+1) (lo+nrem)->Y7 kk c a' lo (lo+n) (lo+n+1)->wpS (Vi prog w) A E s (jp ()) Q (C9 κ a' p g):=λa' pf ho bk=>by
  have za:=pf.size;refine Vf (lL (eI ⟨rfl,?_⟩));refine Vf (Z7 (Vy (I:=λx r st=>∃a' neq,st=C9 κ a' p g/\r=(B0,x,neq)/\J7 lo a' a/\Q4 Bf a' lo (lo+x) (lo+nrem)/\neq+1<=x/\Y7 kk c a' lo (lo+x-(neq+1)) (lo+x))
   (Q:=λr st=>∃a' neq x,st=C9 κ a' p g/\r=(B0,x,neq)/\J7 lo a' a/\Q4 Bf a' lo (lo+x) (lo+nrem)/\n+1<=x/\x<=nrem/\neq+1<=x/\Y7 kk c a' lo (lo+x-(neq+1)) (lo+x)) ?_ ?_
   ⟨a',0,rfl,rfl,pf,ho,by omega,bk⟩) ?_)
  ·rintro x _ _ hx1 hx2 ⟨a',neq,rfl,rfl,pf,ho,hq,bk⟩;have za:=pf.size;have hB:Bf (ky a' (lo+x)) (ky a' (lo+x-1)):=ho.1 _ _ f8 f8 f8 f8;have ho':Q4 Bf a' lo (lo+(x+1)) (lo+nrem):=ho.up f8;refine Vf (Zgu C (i:=lo+x) (j:=lo+x-1) (hS' pf) f8 f8 ?_);dsimp only;cases e:kk (ky a' (lo+x)) (ky a' (lo+x-1))with
   |true=>
    refine J6 rfl ?_;have all:=bk.less C f8 e;by_cases hn0:neq > 0
    ·refine J6 hn0 (Vf (Ueb (Vj ⟨_,0,rfl,rfl,pf.mir f8 f8,ho'.mir (i:=lo+x-(neq+1)) (j:=lo+x) f8 f8 f8,by omega,?_⟩)));have nn:=bk.turn C f8 f8 f8;refine Zj0 C (hi:=lo+x) nn λi i1 i2=>?_;rw[Z3 (i:=lo+x-(neq+1)) (j:=lo+x) (show lo+x<=(S5 (C9 κ a' p g)).size from(by omega:lo+x<=a'.size)),Z3 (i:=lo+x-(neq+1)) (j:=lo+x) (show lo+x<=(S5 (C9 κ a' p g)).size from(by omega:lo+x<=a'.size)),d9 f8];split
     ·exact all _ f8 f8
     ·exact all i i1 i2
    ·have e0:neq=0:=by omega
     subst e0;obtain⟨y,rfl⟩:∃y,x=y+1:=⟨x-1,by omega⟩
     exact G6 hn0 (Vj ⟨_,0,rfl,rfl,pf,ho',by omega,Zj0 C (hi:=lo+(y+1)) (Y7.one C (hi:=lo+y) bk) all⟩)
   |false=>
    refine G6 g8 (Vf (Zgu C (hS' pf) f8 f8 ?_));dsimp only;cases e2:kk (ky a' (lo+x-1)) (ky a' (lo+x))with
    |true=>exact J6 rfl (Vj ⟨a',neq,x,rfl,rfl,pf,ho,hx1,by omega,hq,bk⟩)
    |false=>
     refine G6 g8 (Vj ⟨a',neq+1,rfl,rfl,pf,ho',by omega,?_⟩);have:=bk.like C f8 hB e e2;rw[show lo+(x+1)-(neq+1+1)=lo+x-(neq+1)by omega];exact this
  ·rintro _ _ ⟨a',neq,rfl,rfl,pf,ho,hq,bk⟩;rw[Wgy (by omega:n+1<=nrem)]at *;exact⟨a',neq,nrem,rfl,rfl,pf,ho,by omega,Xd _,hq,bk⟩
  ·rintro _ _ ⟨a',neq,x,rfl,rfl,pf,ho,x1,x2,hq,bk⟩;have za:=pf.size;dsimp -zeta only
   extract_lets _ _ _ _ jp2
   have hj2:∀a',J7 lo a' a->Q4 Bf a' lo (lo+x) (lo+nrem)->mE c a' lo (lo+x)->wpS (Vi prog w) A E s (jp2 ()) Q (C9 κ a' p g):=λa' pf ho ni=>by
    have za:=pf.size;have pf':=pf.mir (i:=lo) (j:=lo+x) (Xd _) f8;have sg:=ni.turn (show lo+x<=a'.size by omega);have ho':=ho.mir (i:=lo) (j:=lo+x) f8 (Xd _) (Xd _);have x0:1<=x:=by omega
    have zz:lo+nrem<=(mirror a' lo (lo+x) ((lo+x-lo) / 2)).size:=by rw[pf'.size];omega
    refine Vf (Ueb (Vf (Zw5 C (hS' pf') x0 x2 zz ho' sg (λm m1 m2 h _=>Vj (q m _ (N2 x0 m1) m2 pf' h (ho'.up (Nat.add_le_add_left m1 lo)))) (λx n R h=>h))))
   by_cases hn0:neq > 0
   ·have pf2:=pf.mir (i:=lo+x-(neq+1)) (j:=lo+x) f8 f8;exact J6 hn0 (Vf (Ueb (hj2 _ pf2 (ho.mir (i:=lo+x-(neq+1)) (j:=lo+x) f8 f8 (Xd _)) (bk.turn C f8 f8 f8))))
   ·have e0:neq=0:=by omega
    subst e0;obtain⟨y,rfl⟩:∃y,x=y+1:=⟨x-1,by omega⟩
    exact G6 hn0 (hj2 _ pf ho (Y7.one C (hi:=lo+y) bk))
 have ho1:Q4 Bf a lo (lo+n+1) (lo+nrem):=hO.up f8;by_cases hg:n > 1
 ·refine J6 hg (Vf (Zgu C (i:=lo) (j:=lo+n-1) hS f8 f8 ?_));dsimp only;cases e:kk (ky a lo) (ky a (lo+n-1))with
  |true=>exact J6 rfl (Vj (q n a n1 n2 J7.refl h (hO.up f8)))
  |false=>
   have pf2:=(J7.refl (lo:=lo) (a:=a)).mir (i:=lo) (j:=lo+n) (Xd _) f8;have all:∀i,lo<=i->i<lo+n->kk (ky a (lo+n)) (ky a i)=B1:=λi i1 i2=>by
    refine C.klt (C.klt hlt e) ?_;by_cases z:i=lo
    ·subst z;exact C.kre _
    ·rw[C.ev _ _ (hO.2 lo i (Xd _) f8 f8)];exact h lo i (Xd _) i1 i2
   refine G6 g8 (Vf (Ueb (hj _ pf2 (ho1.mir (i:=lo) (j:=lo+n) f8 (Xd _) f8) (Zj0 C (hi:=lo+n) ?_ λi i1 i2=>?_))))
   ·intro i j i1 i2 i3;rw[Z3 (i:=lo) (j:=lo+n) (show lo+n<=(S5 (C9 κ a p g)).size from(by omega:lo+n<=a.size)),Z3 (i:=lo) (j:=lo+n) (show lo+n<=(S5 (C9 κ a p g)).size from(by omega:lo+n<=a.size)),d7 f8,d7 f8];exact h _ _ f8 f8 f8
   ·rw[Z3 (i:=lo) (j:=lo+n) (show lo+n<=(S5 (C9 κ a p g)).size from(by omega:lo+n<=a.size)),Z3 (i:=lo) (j:=lo+n) (show lo+n<=(S5 (C9 κ a p g)).size from(by omega:lo+n<=a.size)),d9 f8,d7 f8];exact all _ f8 f8
 ·refine G6 hg (hj a J7.refl ho1 ?_);have:n=1:=by omega
  subst this;refine Zj0 C (hi:=lo+1) (λi j h1 h2 h3=>?_) λi i1 i2=>?_
  ·have:i=j:=by omega
   subst this;exact C.re _
  ·have:i=lo:=by omega
   subst this;exact hlt
theorem Yaa{a:Array Ve}{p:Array (Nat×Nat×Nat)}{g lo n ok:Nat}{Q:Bool->F7->Prop}(hS:∀x∈a.toList,S x)(h1:1<=ok)(ho:ok<=n)(hz:lo+n<=a.size){top:Nat}(ht:lo+n<=top)(hts:top<=a.size)(hO:Q4 Bf a lo (lo+ok) top)(h:Z8 c a lo (lo+ok))
  (q:∀a',J7 lo a' a->Z8 c a' lo (lo+n)->Q4 Bf a' lo (lo+n) top->Q B1 (C9 κ a' p g)):wpS (Vi prog w) A E s (binarySort' lo n ok) Q (C9 κ a p g):=by
 have hS':∀{a':Array Ve},J7 lo a' a->∀x∈a'.toList,S x:=λpf x hx=>hS x ((vJ.toList pf.perm).mem_iff.mp hx);have mx:max ok 1=ok:=by omega
 refine Vf (Z7 (Vy (I:=λx r st=>∃a',st=C9 κ a' p g/\r=(B0,())/\J7 lo a' a/\Z8 c a' lo (lo+x)/\Q4 Bf a' lo (lo+x) top) (Q:=λr st=>∃a',st=C9 κ a' p g/\r=(B0,())/\J7 lo a' a/\Z8 c a' lo (lo+n)/\Q4 Bf a' lo (lo+n) top) ?_ ?_ ⟨a,rfl,rfl,J7.refl,by rw[mx];exact h,by rw[mx];exact hO⟩) ?_)
 ·rintro k _ _ hk1 hk2 ⟨a',rfl,rfl,pf,h,ho⟩;have za:=pf.size;rw[mx]at hk1;refine Vf (Z7 (Vy (I:=λx r st=>st=C9 κ a' p g/\∃l r',r=(B0,l,r')/\l<=r'/\r'<=k/\r'-l+x<=k/\(∀i,i<l->D1 c (ky a' (lo+i)) (ky a' (lo+k)))/\(∀i,r'<=i->i<k->D1 c (ky a' (lo+k)) (ky a' (lo+i))))
   (Q:=λr st=>st=C9 κ a' p g/\∃l,r=(B0,l,l)/\l<=k/\(∀i,i<l->D1 c (ky a' (lo+i)) (ky a' (lo+k)))/\(∀i,l<=i->i<k->D1 c (ky a' (lo+k)) (ky a' (lo+i)))) ?_ ?_ ⟨rfl,0,k,rfl,by omega,by omega,by omega,λi hi=>by omega,λi hi hi2=>by omega⟩) ?_)
  ·rintro x _ _ hx1 hx2 ⟨rfl,l,r',rfl,l1,l2,l3,b1,b2⟩;by_cases hlr:l ≥ r'
   ·have:l=r':=by omega
    subst this;exact J6 hlr (Vj ⟨rfl,l,rfl,l2,b1,b2⟩)
   refine G6 hlr (Vf (Zqa C (i:=lo+k) (j:=lo+(l+r') / 2) (hS' pf) f8 f8 (ho.1 _ _ f8 f8 f8 f8) ?_));dsimp only;cases e:c (ky a' (lo+k)) (ky a' (lo+(l+r') / 2))with
   |true=>exact J6 rfl (Vj ⟨rfl,_,_,rfl,by omega,by omega,by omega,b1,λi h1 h2=>C.le (C.as _ _ e) (h _ _ f8 f8 f8)⟩)
   |false=>exact G6 g8 (Vj ⟨rfl,_,_,rfl,by omega,by omega,by omega,λi hi=>C.le (h _ _ f8 f8 f8) e,b2⟩)
  ·rintro _ _ ⟨rfl,l,r',rfl,l1,l2,l3,b1,b2⟩;have:l=r':=by omega
   subst this;exact⟨rfl,l,rfl,l2,b1,b2⟩
  ·rintro _ _ ⟨rfl,l,rfl,l1,b1,b2⟩;have hs:lo+k<a'.size:=by omega
   have ek:∀i,ky (bubble a' (lo+k) (lo+k-(lo+l))) i=if i=lo+l then ky a' (lo+k)else if lo+l<i/\i<=lo+k then ky a' (i-1)else ky a' i:=λi=>by
    have e:=getElem?_bubble hs (lo+k-(lo+l)) f8 i;rw[show lo+k-(lo+k-(lo+l))=lo+l by omega]at e;split
    ·rename_i h;rw[d7 h]at e;exact sO e
    ·rename_i h;rw[d9 h]at e;split
     ·rename_i h;rw[d7 h]at e;exact sO e
     ·rename_i h;rw[d9 h]at e;exact sO e
   refine Vf (m:=moveDown' (lo+k) (lo+l)) ?_;rw[moveDown'_eq];have ob:Q4 Bf (bubble a' (lo+k) (lo+k-(lo+l))) lo (lo+(k+1)) top:=⟨λu v h1 h2 h3 h4=>by
    rw[ek,ek,d9 (by omega:¬ v=lo+l),d9 (by omega:¬ (lo+l<v/\v<=lo+k))];split
    ·exact ho.2 _ _ f8 f8 h4
    ·split
     ·exact ho.1 _ _ f8 f8 f8 h4
     ·exact(ho.up (by omega:lo+k<=lo+(k+1))).1 _ _ h1 h2 h3 h4,λu v h1 h2 h3=>by
    rw[ek,ek,d9 (by omega:¬ v=lo+l),d9 (by omega:¬ (lo+l<v/\v<=lo+k)),d9 (by omega:¬ u=lo+l),d9 (by omega:¬ (lo+l<u/\u<=lo+k))];exact ho.2 _ _ f8 h2 h3⟩
   refine jF (Vj ⟨_,rfl,rfl,pf.bub f8 hs,λi j hi hij hj=>?_,ob⟩);show D1 c (ky (bubble a' (lo+k) (lo+k-(lo+l))) i) (ky (bubble a' (lo+k) (lo+k-(lo+l))) j);rw[ek,ek];by_cases i1:i=lo+l
   ·rw[d7 i1];by_cases j1:j=lo+l
    ·rw[d7 j1];exact C.re _
    ·rw[d9 j1,d7 f8];have:=b2 (j-1-lo) f8 f8
     rwa [show lo+(j-1-lo)=j-1 by omega]at this
   ·rw[d9 i1];by_cases i2:lo+l<i/\i<=lo+k
    ·rw[d7 i2,d9 f8,d7 f8];exact h _ _ f8 f8 f8
    ·rw[d9 i2];by_cases j1:j=lo+l
     ·rw[d7 j1];have:=b1 (i-lo) f8
      rwa [show lo+(i-lo)=i by omega]at this
     ·rw[d9 j1];by_cases j2:lo+l<j/\j<=lo+k
      ·rw[d7 j2];exact h _ _ f8 f8 f8
      ·rw[d9 j2];exact h _ _ f8 f8 f8
 ·rintro _ _ ⟨a',rfl,rfl,pf,h,ho⟩;rw[show max (max ok 1) n=n by omega]at h ho;exact⟨a',rfl,rfl,pf,h,ho⟩
 ·rintro _ _ ⟨a',rfl,rfl,pf,h,ho⟩;exact Vj (q a' pf h ho)
end
def PdK(rs:List (List Ve))(p:Array (Nat×Nat×Nat)):Prop:=p.size=rs.length/\∀i(h:i<rs.length),∃pw,p[i]? = B3 ((rs.take i).flatten.length,rs[i].length,pw)
structure K1(Bf:Ve->Ve->Prop)(c:Ve->Ve->Bool)(L:List Ve)(rs:List (List Ve))(rest:List Ve)(a:Array Ve)(p:Array (Nat×Nat×Nat)):Prop where
 e:a.toList=rs.flatten++rest
 pm:a.toList.Perm L
 so:∀r∈rs,r.Pairwise (D1 c)
 ne:∀r∈rs,0<r.length
 pd:PdK rs p
 b1:rs.Pairwise λr r'=>∀x∈r,∀y∈r',Bf y x
 b2:∀r∈rs,∀x∈r,∀y∈rest,Bf y x
theorem Zgz{us vs:List (List Ve)}{r r1 r2:List Ve}(h:r.length=r1.length+r2.length):(us++r::vs).flatten.length=(us++r1::r2::vs).flatten.length:=by simp[h];omega
theorem PdK.merge{us vs:List (List Ve)}{r r1 r2:List Ve}{p:Array (Nat×Nat×Nat)}{pw:Nat}(h:PdK (us++r1::r2::vs) p)(hr:r.length=r1.length+r2.length):PdK (us++r::vs) ((p.setIfInBounds us.length (us.flatten.length,r1.length+r2.length,pw)).eraseIdxIfInBounds (us.length+1)):=by
 obtain⟨h1,h2⟩:=h;have sz:us.length+1<p.size:=by rw[h1];simp
 have sz':p.size=us.length+vs.length+2:=by rw[h1];simp;omega
 constructor
 ·simp[Wfa,sz];omega
 ·intro i hi;have hi':i<us.length+vs.length+1:=by simpa [Nat.add_assoc]using hi
  have er:∀j,((p.setIfInBounds us.length (us.flatten.length,r1.length+r2.length,pw)).eraseIdxIfInBounds (us.length+1))[j]? = if j<us.length+1 then (p.setIfInBounds us.length (us.flatten.length,r1.length+r2.length,pw))[j]? else (p.setIfInBounds us.length (us.flatten.length,r1.length+r2.length,pw))[j+1]? :=λj=>by
   unfold Wfa;rw[dif_pos (by simpa using sz),Array.getElem?_eraseIdx]
  rw[er];by_cases g1:i<us.length
  ·obtain⟨pw',e⟩:=h2 i h9;refine⟨pw',?_⟩;rw[d7 f8,Wcy,d9 f8,e];simp[Wed (iQ g1),Wfb g1]
  ·by_cases g2:i=us.length
   ·subst g2;refine⟨pw,?_⟩;rw[d7 f8,Wcy,d7 rfl,d7 f8];simp[hr]
   ·obtain⟨k,rfl⟩:∃k,i=us.length+1+k:=⟨i-(us.length+1),by omega⟩
    obtain⟨pw',e⟩:=h2 (us.length+1+k+1) h9;refine⟨pw',?_⟩;rw[d9 f8,Wcy,d9 f8,e];have t1:(us++r1::r2::vs).take (us.length+1+k+1)=us++r1::r2::vs.take k:=by
     rw[show us.length+1+k+1=us.length+(k+2)by omega,Wdb];rfl
    have t2:(us++r::vs).take (us.length+1+k)=us++r::vs.take k:=by
     rw[show us.length+1+k=us.length+(k+1)by omega,Wdb];rfl
    have g1:(us++r1::r2::vs)[us.length+1+k+1]'(by simp;omega)=(us++r::vs)[us.length+1+k]:=by
     rw[Wdf f8,Wdf f8];simp only[show us.length+1+k+1-us.length=k+2 by omega,show us.length+1+k-us.length=k+1 by omega,List.getElem_cons_succ]
    rw[t1,t2,g1,Zgz hr]
section
variable{prog:Vl}{w:Vs}{A:Vo}{E:Vb->Vd->Prop}{s:Vd}{κ:bX}{S:Ve->Prop}{Bf:Ve->Ve->Prop}{kk c:Ve->Ve->Bool}(C:M6 (Vi prog w) A s κ S Bf kk c)
include C
theorem Zpj{L:List Ve}{rs:List (List Ve)}{rest:List Ve}{a:Array Ve}{p:Array (Nat×Nat×Nat)}{g i:Nat}{Q:Bool->F7->Prop}(hS:∀x∈L,S x)(h:K1 Bf c L rs rest a p)(hi:i+1<rs.length)
  (q:∀rs' a' p' g',K1 Bf c L rs' rest a' p'->rs'.length+1=rs.length->rs'.flatten.length=rs.flatten.length->Q B1 (C9 κ a' p' g')):wpS (Vi prog w) A E s (mergeAt' i) Q (C9 κ a p g):=by
 obtain⟨us,r1,r2,vs,rfl,rfl⟩:∃us r1 r2 vs,rs=us++r1::r2::vs/\us.length=i:=⟨rs.take i,rs[i],rs[i+1],rs.drop (i+2),by
  rw[<- lI,<- lI,bA],by simp;omega⟩
 obtain⟨pw,e1⟩:=h.pd.2 us.length g8;obtain⟨pw',e2⟩:=h.pd.2 (us.length+1) g8;have t1:(us++r1::r2::vs).take us.length=us:=by simp
 have t2:(us++r1::r2::vs).take (us.length+1)=us++[r1]:=by
  rw[Wdb];rfl
 rw[t1]at e1;rw[t2]at e2;have g1:(us++r1::r2::vs)[us.length]'(by simp)=r1:=by simp
 have g2:(us++r1::r2::vs)[us.length+1]'(by simp)=r2:=by
  rw[Wdf f8];simp
 rw[g1]at e1;rw[g2]at e2;refine Yb3 C (pw':=pw') (pre:=us.flatten) (r1:=r1) (r2:=r2) (post:=vs.flatten++rest) (by rw[h.e];simp) e1 (by rw[e2];simp) (h.so _ g8) (h.so _ g8) (h.ne _ g8) (h.ne _ g8) (λx hx=>hS x (h.pm.mem_iff.mp hx)) (λx hx y hy=>(dX.mp (L9.mp h.b1).2.1).1 r2 g8 x hx y hy) λr a' g' s1 s2 s3=>?_;have hr:r.length=r1.length+r2.length:=by rw[s2.length_eq];simp
 refine q (us++r::vs) a' _ g' ⟨by rw[s3];simp,?_,?_,?_,h.pd.merge hr,?_,?_⟩ h9 (Zgz hr)
 ·refine Y3.trans ?_ h.pm;rw[s3,h.e];have:(us++r1::r2::vs).flatten++rest=us.flatten++(r1++r2)++(vs.flatten++rest):=by simp
  rw[this];exact(s2.append_left _).append_right _
 ·intro x hx;rcases Xf.mp hx with z |z
  ·exact h.so x (by simp[z])
  ·rcases Xn.mp z with rfl |z
   ·exact s1
   ·exact h.so x (by simp[z])
 ·intro x hx;rcases Xf.mp hx with z |z
  ·exact h.ne x (by simp[z])
  ·rcases Xn.mp z with rfl |z
   ·have:=h.ne r1 g8;omega
   ·exact h.ne x (by simp[z])
 ·obtain⟨p1,p2,p3⟩:=L9.mp h.b1;obtain⟨p4,p5⟩:=dX.mp p2;obtain⟨p6,p7⟩:=dX.mp p5;refine L9.mpr ⟨p1,dX.mpr ⟨λr' hr' x hx y hy=>?_,p7⟩,λu hu r' hr' x hx y hy=>?_⟩
  ·rcases Xf.mp (s2.mem_iff.mp hx)with z |z
   ·exact p4 r' (by simp[hr']) x z y hy
   ·exact p6 r' hr' x z y hy
  ·rcases Xn.mp hr' with rfl |hr'
   ·rcases Xf.mp (s2.mem_iff.mp hy)with z |z
    ·exact p3 u hu r1 g8 x hx y z
    ·exact p3 u hu r2 g8 x hx y z
   ·exact p3 u hu r' (by simp[hr']) x hx y hy
 ·intro r' hr' x hx y hy;rcases Xf.mp hr' with z |z
  ·exact h.b2 r' (by simp[z]) x hx y hy
  ·rcases Xn.mp z with rfl |z
   ·rcases Xf.mp (s2.mem_iff.mp hx)with z |z
    ·exact h.b2 r1 g8 x z y hy
    ·exact h.b2 r2 g8 x z y hy
   ·exact h.b2 r' (by simp[z]) x hx y hy
omit C in
theorem K1.tail{L:List Ve}{rs:List (List Ve)}{rest:List Ve}{a a':Array Ve}{p:Array (Nat×Nat×Nat)}(h:K1 Bf c L rs rest a p)(pf:J7 rs.flatten.length a' a):∃rest',K1 Bf c L rs rest' a' p/\rest'.length=rest.length:=by
 obtain⟨rest',e,pm⟩:=pf.list h.e;exact⟨rest',⟨e,(vJ.toList pf.perm).trans h.pm,h.so,h.ne,h.pd,h.b1,λr hr x hx y hy=>h.b2 r hr x hx y (pm.mem_iff.mp hy)⟩,pm.length_eq⟩
omit C in
theorem K1.at{L:List Ve}{rs:List (List Ve)}{rest:List Ve}{a:Array Ve}{p:Array (Nat×Nat×Nat)}(h:K1 Bf c L rs rest a p):∀i(h':i<rest.length),ky a (rs.flatten.length+i)=rest[i]:=λi h'=>by
 have e:a[rs.flatten.length+i]? = B3 rest[i]:=by
  rw[<- bR,h.e,eD f8];simp[h']
 unfold ky;rw[Wcj,e];rfl
omit C in
theorem K1.ord{L:List Ve}{rs:List (List Ve)}{rest:List Ve}{a:Array Ve}{p:Array (Nat×Nat×Nat)}{n:Nat}(h:K1 Bf c L rs rest a p)(hn:n<=rest.length)(o:Q4 Bf a rs.flatten.length (rs.flatten.length+n) (rs.flatten.length+rest.length)):(∀x∈rest.take n,∀y∈rest.drop n,Bf y x)/\(rest.drop n).Pairwise λx y=>Bf y x:=by
 refine⟨λx hx y hy=>?_,iZ.mpr λi j hi hj hij=>?_⟩
 ·obtain⟨i,hi,rfl⟩:=Xz.mp hx;obtain⟨j,hj,rfl⟩:=Xz.mp hy;rw[Z5]at hi;rw[fZ]at hj;rw[oU,oR,<- h.at i f8,<- h.at (n+j) f8];exact o.1 _ _ f8 f8 f8 f8
 ·rw[fZ]at hi hj;rw[oR,oR,<- h.at (n+i) f8,<- h.at (n+j) f8];exact o.2 _ _ f8 f8 f8
omit C in
theorem K1.ord0{L:List Ve}{rs:List (List Ve)}{rest:List Ve}{a:Array Ve}{p:Array (Nat×Nat×Nat)}(h:K1 Bf c L rs rest a p)(b3:rest.Pairwise λx y=>Bf y x):Q4 Bf a rs.flatten.length rs.flatten.length (rs.flatten.length+rest.length):=by
 refine⟨λu v h1 h2=>by omega,λu v h1 h2 h3=>?_⟩;obtain⟨i,rfl⟩:∃i,u=rs.flatten.length+i:=⟨u-rs.flatten.length,by omega⟩
 obtain⟨j,rfl⟩:∃j,v=rs.flatten.length+j:=⟨v-rs.flatten.length,by omega⟩
 rw[h.at i f8,h.at j f8];exact iZ.mp b3 i j f8 f8 f8
omit C in
theorem K1.run{L:List Ve}{rs:List (List Ve)}{rest:List Ve}{a:Array Ve}{p:Array (Nat×Nat×Nat)}{n:Nat}(h:K1 Bf c L rs rest a p)(hn:n<=rest.length)(sg:Z8 c a rs.flatten.length (rs.flatten.length+n)):(rest.take n).Pairwise (D1 c):=by
 rw[iZ];intro i j hi hj hij;rw[Z5]at hi hj;have ek:∀i(h':i<rest.length),ky a (rs.flatten.length+i)=rest[i]:=λi h'=>by
  have e:a[rs.flatten.length+i]? = B3 rest[i]:=by
   rw[<- bR,h.e,eD f8];simp[h']
  unfold ky;rw[Wcj,e];rfl
 rw[oU,oU,<- ek i f8,<- ek j f8];exact sg _ _ f8 f8 f8
omit C in
theorem K1.push{L:List Ve}{rs:List (List Ve)}{rest:List Ve}{a:Array Ve}{p:Array (Nat×Nat×Nat)}{n:Nat}(h:K1 Bf c L rs rest a p)(h1:1<=n)(hn:n<=rest.length)(so:(rest.take n).Pairwise (D1 c))(bo:∀x∈rest.take n,∀y∈rest.drop n,Bf y x):K1 Bf c L (rs++[rest.take n]) (rest.drop n) a (p.push (rs.flatten.length,n,0)):=by
 refine⟨by rw[h.e];simp,h.pm,λr hr=>?_,λr hr=>?_,⟨by simp[h.pd.1],λi hi=>?_⟩,L9.mpr ⟨h.b1,by simp,λr hr r' hr' x hx y hy=>?_⟩,λr hr x hx y hy=>?_⟩
 ·rcases Xf.mp hr with z |z
  ·exact h.so r z
  ·rw[Xe.mp z];exact so
 ·rcases Xf.mp hr with z |z
  ·exact h.ne r z
  ·rw[Xe.mp z];simp;omega
 ·rw[Array.getElem?_push,h.pd.1];by_cases g:i=rs.length
  ·subst g;rw[d7 rfl];refine⟨0,?_⟩;have:(rs++[rest.take n])[rs.length]'hi=rest.take n:=by simp
   rw[this];simp[vQ hn]
  ·rw[d9 g];have hi':i<rs.length:=by simp at hi;omega
   obtain⟨pw,e⟩:=h.pd.2 i hi';refine⟨pw,?_⟩;rw[e,Wed f8,Wfb hi']
 ·rw[Xe.mp hr']at hy;exact h.b2 r hr x hx y (oY hy)
 ·rcases Xf.mp hr with z |z
  ·exact h.b2 r z x hx y (iW hy)
  ·rw[Xe.mp z]at hx;exact bo x hx y hy
omit C in
theorem K1.pw{L:List Ve}{rs:List (List Ve)}{rest:List Ve}{a:Array Ve}{p:Array (Nat×Nat×Nat)}{k:Nat}(h:K1 Bf c L rs rest a p)(i:Nat):K1 Bf c L rs rest a (p.modify i λ(x,y,_)=>(x,y,k)):=by
 refine⟨h.e,h.pm,h.so,h.ne,⟨by simp[h.pd.1],λj hj=>?_⟩,h.b1,h.b2⟩;obtain⟨pw,e⟩:=h.pd.2 j hj;rw[Array.getElem?_modify,e];split
 ·exact⟨k,rfl⟩
 ·exact⟨pw,rfl⟩
theorem Zq5{a:Array Ve}{g:Nat}{Q:Unit->F7->Prop}(hS:∀x∈a.toList,S x)(hB:a.toList.Pairwise λx y=>Bf y x)
  (q:∀a' p' g',a'.toList.Pairwise (D1 c)->a'.toList.Perm a.toList->Q () (C9 κ a' p' g')):wpS (Vi prog w) A E s sortRuns' Q (C9 κ a #[] g):=by
 have S0:K1 Bf c a.toList [] a.toList a #[]:=⟨by simp,Y3.refl _,g8,g8,⟨rfl,λi hi=>by simp at hi⟩,.nil,by simp⟩
 have sz:∀{rs rest a' p},K1 Bf c a.toList rs rest a' p->a'.size=a.size/\rs.flatten.length+rest.length=a.size:=λ{rs rest a' p}h=>by
  have e1:=h.pm.length_eq;have e2:=congrArg iP h.e;simp only[Xw,Y4]at e1 e2;omega
 have hS':∀{rs rest a' p},K1 Bf c a.toList rs rest a' p->∀x∈a'.toList,S x:=λh x hx=>hS x (h.pm.mem_iff.mp hx);refine Vf (eF ?_);refine Vf (Z7 (Vy (I:=λx r st=>∃rs rest a' p g lo,st=C9 κ a' p g/\r=(B0,lo)/\K1 Bf c a.toList rs rest a' p/\(rest.Pairwise λx y=>Bf y x)/\lo=rs.flatten.length/\x<=lo) (Q:=λr st=>∃rs a' p g lo,st=C9 κ a' p g/\r=(B0,lo)/\K1 Bf c a.toList rs [] a' p) ?_ ?_ ⟨[],_,a,_,g,0,rfl,rfl,S0,hB,rfl,Xd _⟩) ?_)
 ·rintro x _ _ hx1 hx2 ⟨rs,rest,a',p,g,lo,rfl,rfl,h,b3,rfl,hx⟩;obtain⟨z1,z2⟩:=sz h;by_cases hl:rs.flatten.length ≥ a.size
  ·have:rest=[]:=wC.mp f8;subst this;exact J6 hl (Vj ⟨rs,a',p,g,_,rfl,rfl,h⟩)
  refine G6 hl (Vf (Zvg C (lo:=rs.flatten.length) (nrem:=a.size-rs.flatten.length) (hS' h) f8 f8 (by have:=h.ord0 b3;rwa [show rs.flatten.length+rest.length=rs.flatten.length+(a.size-rs.flatten.length)by omega]at this) λn a1 n1 n2 pf sg ob=>?_));obtain⟨rest1,h1,l1⟩:=h.tail pf;have sg1:=h1.run f8 sg;rw[show rs.flatten.length+(a.size-rs.flatten.length)=rs.flatten.length+rest1.length by omega]at ob;refine jU (λR=>∀rs' rest' a' p g lo,K1 Bf c a.toList rs' rest' a' p->(rest'.Pairwise λx y=>Bf y x)->lo=rs'.flatten.length->rs.flatten.length+1<=lo->R (.yield (B0,lo)) (C9 κ a' p g)) (λrs' rest' a' p g lo h b e l=>⟨rs',rest',a',p,g,lo,rfl,rfl,h,b,e,by omega⟩) ?_;intro R hR;dsimp -zeta only
  extract_lets _ jp
  have hj:∀m a2 rest2,K1 Bf c a.toList rs rest2 a2 p->1<=m->m<=rest2.length->(rest2.take m).Pairwise (D1 c)->(∀x∈rest2.take m,∀y∈rest2.drop m,Bf y x)/\((rest2.drop m).Pairwise λx y=>Bf y x)->wpS (Vi prog w) A E s (jp () m) R (C9 κ a2 p g):=λm a2 rest2 h2 m1 m2 so bo=>by
   refine Vf (eF ?_)
   extract_lets _ jp2
   have hj2:∀rs3 a3 p3 g3,K1 Bf c a.toList rs3 rest2 a3 p3->rs3.flatten.length=rs.flatten.length->wpS (Vi prog w) A E s (jp2 ()) R (C9 κ a3 p3 g3):=λrs3 a3 p3 g3 h3 e3=>by
    have hp:=h3.push m1 m2 so bo.1;rw[e3]at hp;exact Vf (jF (Vj (hR (rs3++[rest2.take m]) _ _ _ _ (rs.flatten.length+m) hp bo.2 (by rw[List.flatten_append,Y4,e3];simp[vQ m2]) f8)))
   clear_value jp2
   dsimp only[C9,Tdg];split
   ·refine Vf (Z7 (Vy (I:=λx r st=>∃rs3 a3 p3 g3,st=C9 κ a3 p3 g3/\r=(B0,())/\K1 Bf c a.toList rs3 rest2 a3 p3/\rs3.flatten.length=rs.flatten.length) (Q:=λr st=>∃rs3 a3 p3 g3,st=C9 κ a3 p3 g3/\r=(B0,())/\K1 Bf c a.toList rs3 rest2 a3 p3/\rs3.flatten.length=rs.flatten.length) ?_ (λ_ _ z=>z) ⟨rs,a2,p,g,rfl,rfl,h2,rfl⟩) ?_)
    ·rintro x _ _ _ _ ⟨rs3,a3,p3,g3,rfl,rfl,h3,e3⟩;refine Vf (eF ?_);dsimp only[C9,Tdg];split
     ·rename_i heq;have sz3:1<p3.size:=by
       by_cases z:p3.size > 1
       ·exact z
       ·rw[d9 z]at heq;cases heq
      split
      ·exact Vj ⟨rs3,a3,p3,g3,rfl,rfl,h3,e3⟩
      ·have:=h3.pd.1;exact Vf (Zpj C (λx hx=>hS x hx) h3 f8 λrs4 a4 p4 g4 h4 e4 e5=>G6 g8 (Vj ⟨rs4,a4,p4,g4,rfl,rfl,h4,e5.trans e3⟩))
     ·exact Vj ⟨rs3,a3,p3,g3,rfl,rfl,h3,e3⟩
    ·rintro _ _ ⟨rs3,a3,p3,g3,rfl,rfl,h3,e3⟩;exact Vf (jF (hj2 rs3 a3 _ g3 (h3.pw _) e3))
   ·exact hj2 rs a2 p g h2 rfl
  clear_value jp
  by_cases hm:n<minRun' a.size a.size 0
  ·refine J6 hm ?_;refine Vf (lL (eI ⟨rfl,?_⟩));have za:=pf.size;refine Vf (Yaa C (lo:=rs.flatten.length) (n:=min (a.size-rs.flatten.length) (minRun' a.size a.size 0)) (ok:=n) (hS' h1) n1 f8 f8 (top:=rs.flatten.length+rest1.length) f8 f8 ob sg λa2 pf2 sg2 ob2=>G6 g8 ?_);obtain⟨rest2,h2,l2⟩:=h1.tail pf2;exact hj (min (a.size-rs.flatten.length) (minRun' a.size a.size 0)) a2 rest2 h2 f8 f8 (h2.run f8 sg2) (h2.ord f8 (by rw[l2];exact ob2))
  ·exact G6 hm (hj n a1 rest1 h1 n1 f8 sg1 (h1.ord f8 ob))
 ·rintro _ _ ⟨rs,rest,a',p,g,lo,rfl,rfl,h,b3,rfl,hx⟩;obtain⟨z1,z2⟩:=sz h;have hx:a.size<=rs.flatten.length:=by simpa using hx
  have:rest=[]:=wC.mp f8;subst this;exact⟨rs,a',p,g,_,rfl,rfl,h⟩
 ·rintro _ _ ⟨rs,a',p,g,lo,rfl,rfl,h⟩;refine Vf (Z7 (Vy (I:=λx r st=>∃rs a' p g,st=C9 κ a' p g/\r=(B0,())/\K1 Bf c a.toList rs [] a' p/\rs.length+x<=a.size) (Q:=λr st=>∃rs a' p g,st=C9 κ a' p g/\r=(B0,())/\K1 Bf c a.toList rs [] a' p/\rs.length<=1) ?_ ?_ ⟨rs,a',p,g,rfl,rfl,h,?_⟩) ?_)
  ·rintro x _ _ hx1 hx2 ⟨rs,a',p,g,rfl,rfl,h,l⟩;have pz:=h.pd.1;refine Vf (eF ?_);by_cases h1:p.size<=1
   ·exact J6 h1 (Vj ⟨rs,a',p,g,rfl,rfl,h,by omega⟩)
   refine G6 h1 ?_;refine Vf (Zpj C (λx hx=>hS x hx) h ?_ λrs4 a4 p4 g4 h4 e4 e5=>G6 g8 (Vj ⟨rs4,a4,p4,g4,rfl,rfl,h4,by omega⟩));have ile:∀(P:Prop)[Decidable P](i:Nat),(if P then i-1 else i)<=i:=λP _ i=>by split<;>omega
   exact Nat.lt_of_le_of_lt (Wfj (ile _ (p.size-2))) f8
  ·rintro _ _ ⟨rs,a',p,g,rfl,rfl,h,l⟩;exact⟨rs,a',p,g,rfl,rfl,h,by simp at l;omega⟩
  ·obtain⟨z1,z2⟩:=sz h;have len:∀(l:List (List Ve)),(∀r∈l,0<r.length)->l.length<=l.flatten.length:=λl=>by
    induction l with
    |nil=>simp
    |cons r l ih=>
     intro hl;have:=ih λr' h'=>hl r' (by simp[h']);have:=hl r g8;rw[iT,Y4,cX];omega
   have:=len rs h.ne;simp only[iR]at z2;omega
  ·rintro _ _ ⟨rs,a',p,g,rfl,rfl,h,l⟩;refine Vj (q a' p g ?_ h.pm);rw[h.e,Xq]
   match rs,l,h.so with
   |[],_,_=>exact Tcp
   |[r],_,so=>simpa using so r g8
   |_::_::_,l,_=>simp at l
end
end DL
namespace DL
open PySem PySem.Spec PyProof.Rows L2
theorem sZ:∀{a b:List Int},HT.lexLt a b=B1->HT.lexLt b a=B2
 |[],[],h=>by simp[HT.lexLt]at h
 |[],_::_,_=>by simp[HT.lexLt]
 |_::_,[],h=>by simp[HT.lexLt]at h
 |x::a,y::b,h=>by
  rw[HT.lexLt_cons]at h ⊢;by_cases e:x=y
  ·subst e;rw[d7 rfl]at h ⊢;exact sZ h
  ·rw[d9 e]at h;rw[d9 (Uj e)];simp at h ⊢;omega
theorem sU:∀{a b c:List Int},HT.lexLt b a=B2->HT.lexLt c b=B2->HT.lexLt c a=B2
 |[],b,c,_,_=>by cases c<;>simp[HT.lexLt]
 |_::_,[],_,h,_=>by simp[HT.lexLt]at h
 |_::_,_::_,[],_,k=>by simp[HT.lexLt]at k
 |x::a,y::b,z::c,h,k=>by
  rw[HT.lexLt_cons]at h k ⊢;by_cases e:y=x
  ·subst e;rw[d7 rfl]at h;by_cases f:z=y
   ·subst f;rw[d7 rfl]at k ⊢;exact sU h k
   ·rw[d9 f]at k ⊢;exact k
  ·rw[d9 e]at h;by_cases f:z=y
   ·subst f;rw[d9 e];exact h
   ·rw[d9 f]at k;simp at h k;rw[d9 f8];simp;omega
theorem Zw2:∀{a b:List Int},HT.lexLt a b=B2->HT.lexLt b a=B2->a=b
 |[],[],_,_=>rfl
 |[],_::_,h,_=>by simp[HT.lexLt]at h
 |_::_,[],_,h=>by simp[HT.lexLt]at h
 |x::a,y::b,h,k=>by
  rw[HT.lexLt_cons]at h k;by_cases e:x=y
  ·subst e;rw[d7 rfl]at h k;rw[Zw2 h k]
  ·rw[d9 e]at h;rw[d9 (Uj e)]at k;simp at h k;omega
nonrec def M1(nss:List j5):List j5:=nss.mergeSort λa b=> !HT.lexLt b a
theorem iN(nss:List j5):(M1 nss).Perm nss:=oX _ _
theorem Zmw{xs nss:List (List Int)}(h:xs.Pairwise λa b=>HT.lexLt b a=B2)(p:xs.Perm nss):xs=M1 nss:=by
 refine Y3.eq_of_pairwise (le:=λa b=>HT.lexLt b a=B2) (λa b _ _ h1 h2=>Zw2 h2 h1) h ?_ (p.trans (iN nss).symm);have:=wD (le:=λa b=> !HT.lexLt b a) (λa b c h1 h2=>by simp at h1 h2 ⊢;exact sU h1 h2) (λa b=>by
  cases e:HT.lexLt b a with
  |false=>simp
  |true=>simp[sZ e]) nss
 exact this.imp λh=>by simpa using h
theorem J5.one{h:C5}{v:Vb}{ns ms:List Int}(x:J5 h v ns)(y:J5 h v ms):ns=ms:=by
 obtain⟨a,b9,rfl,⟨o,e1,_,n,e2⟩,hi⟩:=x;obtain⟨b,jts,e,⟨o',f1,_,n',f2⟩,hj⟩:=y;cases e;rw[e1]at f1;cases f1;rw[e2]at f2;cases f2;have go:∀{vs:List Vb}{ns ms:List Int},Vw vs ns->Vw vs ms->ns=ms:=by
  intro vs ns ms h
  induction h generalizing ms with
  |nil=>intro k;cases k;rfl
  |cons a t h ih=>intro k;cases k with |cons b u k=>rw[ih k]
 exact go hi hj
nonrec def J3(h:C5)(v:Vb):List Int:=open Classical in if z:∃ns,J5 h v ns then z.choose else []
theorem I0{h:C5}{v:Vb}{ns:List Int}(x:J5 h v ns):J3 h v=ns:=by
 have z:∃ns,J5 h v ns:=⟨ns,x⟩
 unfold J3;rw[dif_pos z];exact J5.one z.choose_spec x
section
variable{prog:Vl}{w:Vs}{A:Vo}{E:Vb->Vd->Prop}{s:Vd}
theorem Zgy{F:Vb->List Int->Prop}:∀{vs:List Vb}{nss:List (List Int)}{f:Vb->List Int},Vm F vs nss->(∀v ns,F v ns->f v=ns)->vs.map f=nss
 |_,_,_,.nil,_=>rfl
 |_,_,_,.cons h t,g=>by rw[Xx,g _ _ h,Zgy t g]
theorem Zsk{F:Vb->List Int->Prop}:∀{vs:List Vb}{nss:List (List Int)},Vm F vs nss->∀v∈vs,∃ns,F v ns
 |_,_,.nil,v,h=>by cases h
 |_,_,.cons h t,v,hv=>by
  rcases Xn.mp hv with rfl |z
  ·exact⟨_,h⟩
  ·exact Zsk t v z
theorem Zno{a:Vh}{vs:List Vb}{nss:List (List Int)}{n:Nat}{P:PySem.Fin->Vd->Prop}(g0:s.heap.get? a=B3 (Vp "list" vs.toArray n))(hl:vs.length<=1000000)(hu:A.units+1<cLine)(hv:Vm (J5 s.heap) vs nss)
  (q:∀h' c(out:List Vb),out.Perm vs->(∀rd:Vb->List Int,(∀v∈vs,J5 s.heap v (rd v))->out.map rd=M1 nss)->(∀b o,b≠a->s.heap.get? b=B3 o->h'.get? b=B3 o)->h'.get? a=B3 (Vp "list" out.toArray c)->P (.done (.ret .none)) { s with heap:=h' }):Vk (Vi prog w) A (Builtin.«list.sort» ⟨[.ref a],[]⟩) P E s:=by
 have sz:sizeLine=16777216:=Vx;have t1:=R5.update s.heap a (Ud λ_=>(#[]:Array Vb));obtain⟨c1,g1⟩:∃c,(s.heap.update a (Ud λ_=>(#[]:Array Vb))).get? a=B3 (Vp "list" #[] c):=⟨_,pN g0 λ_=> #[]⟩
 let h3:C5:=((s.heap.update a (Ud λ_=>(#[]:Array Vb))).push (Vp "tuple" vs.toArray 0)).push (Vp "list" #[] 0)
 have g3:h3.get? a=B3 (Vp "list" #[] c1):=Xb _ (Xb _ g1);have ta:∀b b9,Q0 s.heap b b9->b≠a:=λb b9⟨o,e1,e2,n,e3⟩z=>by
  subst z;rw[g0]at e1;cases e1;exact absurd (show Ul "list" = Ul "tuple" from e2) g9
 have hv3:Vm (J5 h3) vs nss:=Prd.imp hv λv ns _ z=>z.mv λb b9 _ ht o e=>Xb _ (Xb _ (t1.extBut b o (ta b b9 ht) e));have fin:∀(arr:Array Ve)(st:F7),S5 st=arr->wP st=B0->arr.toList.Pairwise (λx y=>HT.lexLt (J3 h3 y.1) (J3 h3 x.1)=B2)->arr.toList.Perm (vs.toArray.zip vs.toArray).toList->Vk (Vi prog w) A (do
   let touched:=(<- seqEpoch a) != c1
   Builtin.List.listUpdate (.ref a) λ_=>(S5 st).map (·.2)
   if let B3 e:=wP st then rule "list.sort.comparison-raised";throw e
   if touched then rule "list.sort.modified";raiseError "ValueError" "list modified during sort"
   ret .none) P E { s with heap:=h3 }:=λarr st ea ef pw pm=>by
  have ez:(vs.toArray.zip vs.toArray).toList=vs.zip vs:=by simp
  rw[ez]at pm;have dg:∀x∈arr.toList,x.1=x.2:=λx hx=>by
   have:=pm.mem_iff.mp hx;rw[List.zip_eq_zipWith,Xz]at this;obtain⟨i,hi,rfl⟩:=this;simp
  have p2:(arr.toList.map (·.2)).Perm vs:=by
   have:=pm.map (·.2)
   rwa [Wgz (Xd _)]at this
  have el:(S5 st).map (·.2)=(arr.toList.map (·.2)).toArray:=by rw[ea];apply Wha.mp;simp
  have ll:(arr.toList.map (·.2)).length=vs.length:=p2.length_eq;have t2:=R5.update h3 a (Ud λ_=>(arr.toList.map (·.2)).toArray);obtain⟨c2,g2⟩:∃c,(h3.update a (Ud λ_=>(arr.toList.map (·.2)).toArray)).get? a=B3 (Vp "list" (arr.toList.map (·.2)).toArray c):=⟨_,pN g3 λ_=>(arr.toList.map (·.2)).toArray⟩
  rw[el,ef];refine Va (Uec g3 rfl (Va (lR (f:=λ_=>(arr.toList.map (·.2)).toArray) g3 rfl ?_ (R4 _) (by rw[Xk,ll];omega))));show Vk _ _ (if (c1 != c1)=B1 then _ else _) _ _ _;rw[d9 g8];refine Vc (q _ c2 _ p2 (λrd hrd=>?_) (λb o hb e=>t2.extBut b o hb (Xb _ (Xb _ (t1.extBut b o hb e)))) g2);have e3:∀v∈vs,rd v=J3 h3 v:=λv hv'=>by
   have:=hrd v hv';obtain⟨b,b9,rfl,ht,_⟩:=id this;refine(I0 (this.mv λb b9 e ht o e'=>Xb _ (Xb _ (t1.extBut b o (ta b b9 ht) e')))).symm
  have e4:(arr.toList.map (·.2)).map rd=arr.toList.map λx=>J3 h3 x.1:=by
   rw[K7];refine iV λx hx=>?_;show rd x.2=_;rw[dg x hx,e3 x.2 (p2.mem_iff.mp (Xr.mpr ⟨x,hx,rfl⟩))]
  rw[e4];refine Zmw ?_ ?_
  ·rw[lG];exact pw
  ·have:=pm.map λx:Ve=>J3 h3 x.1;refine this.trans (Y3.of_eq ?_);rw[show (λx:Ve=>J3 h3 x.1)=J3 h3 ∘ Prod.fst from rfl,<- K7,List.map_fst_zip (Xd _)];exact Zgy hv3 λv ns h=>I0 h
 rw[list_sort_plain];refine Va (pJ g0 rfl (Va (lR g0 rfl (Va (Uec g1 rfl (Va (wpAny_newTuple (Va (dD (Vq ?_) (R4 _))) (show vs.length<=_ by omega))))) (by rw[Xk];omega) (R4 _))));show Vk (Vi prog w) A _ P E { s with heap:=h3 };dsimp only;by_cases few:vs.toArray.size<2
 ·rw[d7 few,d7 few];refine Va (Vc (Va (Vc ?_)));dsimp only;refine fin _ _ rfl rfl ?_ (Y3.refl _);have:(vs.toArray.zip vs.toArray).toList.length<2:=by simpa using few
  generalize (vs.toArray.zip vs.toArray).toList=l at this
  match l,this with
  |[],_=>exact .nil
  |[_],_=>exact Wfh ..
  |_::_::_,h=>simp at h;omega
 ·rw[d9 few,d9 few];refine Va (Zts (s:={ s with heap:=h3 }) hv3 (by simp at few;omega) λκ hκ=>?_);have C:M6 (Vi prog w) A { s with heap:=h3 } κ (λx=>∃ns,J5 h3 x.1 ns) (λ_ _=>True) (λx y=>HT.lexLt (J3 h3 x.1) (J3 h3 y.1)) (λx y=>HT.lexLt (J3 h3 x.1) (J3 h3 y.1)):=⟨λx y Q E hx hy q=>by
   obtain⟨ns,hx⟩:=hx;obtain⟨ms,hy⟩:=hy;rw[I0 hx,I0 hy]at q;exact Yct (s:={ s with heap:=h3 }) hu hκ hx hy q,λ_ _ _=>rfl,λx y z h k=>sU h k,λx y h=>sZ h,λ_ _ h=>h,λx y z h k=>sU h k,λx y h=>sZ h⟩
  refine Va (Vr (Zq5 (E:=E) C (a:=vs.toArray.zip vs.toArray) (g:=7) (Q:=λ_ st=>∃arr,S5 st=arr/\wP st=B0/\arr.toList.Pairwise (λx y=>HT.lexLt (J3 h3 y.1) (J3 h3 x.1)=B2)/\arr.toList.Perm (vs.toArray.zip vs.toArray).toList) (λx hx=>?_) (List.pairwise_of_forall λ_ _=>trivial) λa' p' g' h1 h2=>⟨a',rfl,rfl,h1,h2⟩) ?_ λ_ _ e=>e)
  ·have ez:(vs.toArray.zip vs.toArray).toList=vs.zip vs:=by simp
   rw[ez]at hx;exact Zsk hv3 _ (vR (a:=x.1) (b:=x.2) hx).1
  ·rintro⟨⟨⟩,st⟩ s' ⟨rfl,arr,e1,e2,e3,e4⟩;exact fin arr st e1 e2 e3 e4
end
section
variable{prog:Vl}{w:Vs}{A:Vo}{E:Vb->Vd->Prop}{s:Vd}
theorem Zpk{d L:Vh}{m:Str->Option Vb}{es:Array X5}{ep:Nat}{nss:List (List Int)}{Q:Vb->Vd->Prop}(hn:s.heap.Ns L m)(hh:A.handled=B0)(hu:A.units+4<cLine)(x:gV d es ep s.heap)(hv:Vm (J5 s.heap) (es.toList.map (·.key)) nss)(hz:es.size<=1000000)
  (h:∀h' tk D c(out:List Vb),out.Perm (es.toList.map (·.key))->(∀rd:Vb->List Int,(∀v∈es.toList.map (·.key),J5 s.heap v (rd v))->out.map rd=M1 nss)->h'.Ns L m->(∀b o,b≠L->s.heap.get? b=B3 o->h'.get? b=B3 o)->s.heap.objs.size<=D->h'.get? D=B3 (Vp "list" out.toArray c)->Q (.ref D) { s with heap:=h',toks:=tk }) :
  Vk (Vi prog w) A (call (.builtin "sorted") [.ref d]) Q E s:=by
 have sz:sizeLine=16777216:=Vx;have lt:=hn.lt;refine Tad pH pL pK (Ues _) ?_;unfold Builtin.«sorted»;refine Va (m:=pF "sorted" 1 1 _) (Vc (Va (Zhy (show A.in1.handled=B0 from hh) x f8 λh1 tk k1 le=>Va (dD ?_ h9))));generalize ev:es.toList.map (·.key)=vs at *;have lv:vs.length=es.size:=by rw[<- ev];simp
 let h2:C5:=h1.push (Vp "list" vs.toArray 0)
 have at2:h2.get? h1.objs.size=B3 (Vp "list" vs.toArray 0):=Xi _ rfl;have kp:∀b o,s.heap.get? b=B3 o->h2.get? b=B3 o:=λb o e=>Xb _ (k1 b o e);have ltD:∀b o,s.heap.get? b=B3 o->b≠h1.objs.size:=λb o e=>Xp (Xo (Xh e) le);have LD:h1.objs.size≠L:=Uj (Xp (Xo lt le));have up:∀v ns,J5 s.heap v ns->J5 h2 v ns:=λv ns z=>z.mv λa b9 _ _ o e=>kp a o e;show Vk _ _ _ _ _ { s with heap:=h2,toks:=tk };refine Va (Vq (Vt (s:={ s with heap:=h2,toks:=tk }) slot_list_sort ⟨_,at2,rfl⟩ entry_list_sort ?body (Udv _)))
 case body=>
  refine Zno (s:={ s with heap:=h2,toks:=tk }) (nss:=nss) at2 f8 (show A.in1.in1.units+1<cLine by simp;omega) (Prd.imp hv λv ns _ z=>up v ns z) λh' c out p1 p2 k' g'=>⟨_,rfl,Vc ⟨_,rfl,h h' tk _ c out p1 (λrd hr=>p2 rd λv hv=>up v _ (hr v hv)) (hn.at' λo e=>k' _ _ (Uj LD) (kp _ _ e)) (λb o _ e=>k' b o (ltD b o e) (kp b o e)) le g'⟩⟩
end
nonrec def W4(ns:List Int):D:=.tup (ns.map .int)
nonrec def nG:FF:=λds H=>match ds with
 |[.ref n]=>match H[n]? with
  |some (.dic b8 _)=>(fM (b8.map (·.1))).bind λnss=>if b8.length<=1000000 then B3 (.ref H.length,H++[.lst ((M1 nss).map W4)])else B0
  |_=>B0
 |_=>B0
theorem Zt2:∀{ds:List D}{ns:List Int},R0 ds=B3 ns->ds=ns.map .int:=by
 intro ds
 induction ds with
 |nil=>intro ns h;cases h;rfl
 |cons d r ih=>
  intro ns h;cases d<;>first |cases h |skip
  rename_i n;unfold R0 at h;obtain⟨t,e,rfl⟩:=Zm h;rw[ih e];rfl
section
variable{X:Cx}{b5:List (Vh×Obj)}{σ:L2.St}{H:Hp}{s:Vd}{ι:List Vh}
theorem Zfr(I:B6 X b5 σ H s):∀{ds:List D}{as:List Vh}{nss:List (List Int)},fM ds=B3 nss->Vm (Rep X.K H ι) ds (as.map V.ref)->∀a∈as,∃ns,J5 s.heap (.ref a) ns/\Rep X.K H ι (W4 ns) (.ref a)
 |[],as,nss,e,p=>by
  cases as with
  |nil=>intro a h;cases h
  |cons a r=>cases p
 |d::ds,as,nss,e,p=>by
  obtain⟨ns,e1,e⟩:=Zo e;obtain⟨t,e2,rfl⟩:=Zm e;cases as with
  |nil=>cases p
  |cons a r=>
   rw[Xx]at p;cases p with
   |cons p1 p2=>
    intro b hb;rcases Xn.mp hb with rfl |hb
    ·unfold vG at e1;split at e1
     ·have ed:=Zt2 e1;subst ed;refine⟨ns,?_,p1⟩;obtain⟨b,vs,eb,sq,P⟩:=U6.mp p1;cases eb;have ev:=tZ e1 P;subst ev;obtain⟨b9,ri,ht,_⟩:=I.tuple sq;exact⟨_,_,rfl,ht,by simpa using oD ri⟩
     ·cases e1
    ·exact Zfr I e2 p2 b hb
theorem Zly:∀{out:List Vb}{as:List Vh},out.Perm (as.map Uc)->∃bs:List Vh,out=bs.map Uc/\∀b∈bs,b∈as
 |[],_,_=>⟨[],rfl,λ_ h=>by cases h⟩
 |v::r,as,p=>by
  have go:∀(l:List Vb),(∀v∈l,v∈as.map Uc)->∃bs:List Vh,l=bs.map Uc/\∀b∈bs,b∈as:=by
   intro l
   induction l with
   |nil=>exactλ_=>⟨[],rfl,λ_ h=>by cases h⟩
   |cons v r ih=>
    intro h;obtain⟨bs,e,hb⟩:=ih λv hv=>h v (Xv _ hv);obtain⟨b,hb1,rfl⟩:=Xr.mp (h v (iU ..));exact⟨b::bs,by rw[e];rfl,λx hx=>by
     rcases Xn.mp hx with rfl |z
     ·exact hb1
     ·exact hb x z⟩
  exact go _ λv hv=>p.mem_iff.mp hv
end
section
variable{X:Cx}
theorem Zhl(hc:X.calm=B1)(hu:X.A.units+64<cLine):A7 X (.builtin "sorted") nG:=by
 rintro b5 s σ H xs us Q I rv ⟨ι,ds,Hd,d,c5,hr,P,e,q⟩;unfold nG at e;split at e
 ·rename_i n;split at e
  ·rename_i b8 fz eo;obtain⟨nss,e1,e⟩:=Zo e;split at e
   ·rename_i d4;obtain⟨v,rfl,r⟩:=U0 P;obtain⟨a,rfl,ha⟩:=N4.mp r;obtain⟨u,rfl,ru⟩:=rv.one;cases ru;obtain⟨h1,h2,ys,h3,PK,dd⟩:=tF I (hr.obj n a _ ha eo);obtain⟨o,es,ep,g1,g2,g3,g4,g5,g6⟩:=dd;have PR:=Zko PK;have ek:es.toList.map (·.key)=(ys.map λx=>x.2.1).map Uc:=by rw[g4,K7,K7];rfl
    have er:(ys.map λx=>V.ref x.2.1)=(ys.map λx=>x.2.1).map V.ref:=by rw[K7];rfl
    rw[er]at PR;have ly:ys.length=b8.length:=(Prd.len PK).symm;have ls:es.size=ys.length:=by rw[<- Xw,g4,Xj]
    obtain⟨m,hn,_⟩:=I.loc;have hv:=Zfg I e1 PR;have hp:=Zfr I e1 PR;refine Zpk hn (I.ok.hd hc) f8 ⟨h1,o,g1,g2,g3⟩ (by rw[ek];exact hv) f8 λh' tk Da c out p1 p2 hn' kk hD hat=>?_;rw[ek]at p1 p2;obtain⟨as,rfl,hin⟩:=Zly p1;have la:as.length=b8.length:=by
     have:=p1.length_eq;simp only[Xj]at this;omega
    have eo2:=p2 (J3 s.heap) λv hv'=>by
     obtain⟨b,hb,rfl⟩:=Xr.mp hv';obtain⟨ns,t1,_⟩:=hp b hb;rw[I0 t1];exact t1
    have PS:Vm (Rep X.K H ι) ((M1 nss).map W4) (as.map V.ref):=by
     rw[<- eo2,K7,K7];refine Zmn λb hb=>?_;obtain⟨ns,t1,t2⟩:=hp b (hin b hb);show Rep X.K H ι (W4 (J3 s.heap (.ref b))) (.ref b);rw[I0 t1];exact t2
    have sz:sizeLine=16777216:=Vx;have va:D5 (as.map V.ref) (as.map Uc):=by
     clear hat PS la eo2 hin p1 p2
     induction as with
     |nil=>exact .nil
     |cons b r ih=>exact .cons rfl ih
    have hl:(as.map V.ref).length<=sizeLine:=by rw[Xj];omega
    refine⟨.ref Da,_,uB (o:=.lst (as.map V.ref)) I kk (λm' hm'=>by rw[hm'.eq_nsMap,<- hn.eq_nsMap];exact hn') hD ⟨hl,as.map Uc,c,va,hat⟩,rfl,?_⟩;have hz2:((M1 nss).map W4).length<=sizeLine:=by rw[Prd.len PS,Xj];omega
    exact(cQ hr PS (show O7 ((M1 nss).map W4) Hd=B3 (d,c5)by unfold O7;rw[d7 hz2,e]) (λv H' c7 l h r=>q v H' c7 l h r)).2 _ (I.hok.fresh hD)
   ·cases e
  ·cases e
 ·cases e
end
nonrec def Yc5(sc scope:P4)(N:List Str)(x:Str)(cn:List Str)(ci:List Nat):Bool :=
 (scope.kind==.function)&&scope.names.all (λy=>y.2 != .cell)&&scope.names.all (λy=>y.2 != .local||scope.names.lookup y.1==B3 .local)&&(scope.names.lookup x==B3 .local) &&
 scope.names.all (λy=>y.2 != .free||sc.names.lookup y.1==B3 .free)&&decide (x::cn).Nodup&&(ci.length==cn.length) &&
 (cn.zip ci).all (λp=>N[p.2]? == B3 p.1&&scope.names.lookup p.1==B3 .free&&sc.names.lookup p.1==B3 .free)
theorem Zxq{X:Cx}{sc scope:P4}{N:List Str}{cl:List (Str×Vh)}{C:Vh}{s:Vd}{H:Hp}{fp:List Vh}{pn:List (Vh×Obj)}{x:Str}{cn:List Str}{ci:List Nat}(hcl:bJ sc cl)
  (h:Yc5 sc scope N x cn ci=B1):J4 (P5 X sc N cl C s H fp pn) scope x cn ci:=by
 unfold Yc5 at h;simp only[V6,vU,Wei,bne_iff_ne,ne_eq,beq_iff_eq,decide_eq_true_eq]at h;obtain⟨⟨⟨⟨⟨⟨⟨h1,h2⟩,h3⟩,h4⟩,h5⟩,h6⟩,h7⟩,h8⟩:=h;refine⟨h1,λy hy=>h2 y hy,λy hy hl=>(h3 y hy).resolve_left λz=>z hl,h4,λy hy hf=>?_,h6,h7,λj y hj=>?_⟩
 ·have:=(h5 y hy).resolve_left λz=>z hf;exact hcl (y.1,.free) (Us this) rfl
 ·have hl:j<ci.length:=by rw[h7];exact(Xg.mp hj).1
  have hm:(y,ci[j])∈cn.zip ci:=by
   refine Wea.mpr ⟨j,?_⟩;rw[Weu];exact⟨hj,by simp[hl]⟩
  obtain⟨⟨k1,k2⟩,k3⟩:=h8 _ hm;exact⟨ci[j],by simp[hl],k1,k2,Zfd k3⟩
section
variable{prog:Vl}{w:Vs}{A:Vo}{E:Vb->Vd->Prop}{s:Vd}
theorem Zpp{l L:Vh}{m:Str->Option Vb}{vs:List Vb}{nss:List (List Int)}{Q:Vb->Vd->Prop}(hn:s.heap.Ns L m)(hu:A.units+4<cLine)
  (hcol:∀R:List Vb->Vd->Prop,R vs { s with heap:=(s.heap.push (Vp "list" #[] 0)).update s.heap.objs.size (Ud (· ++ vs.toArray)) }->Vk (Vi prog w) A.in1 (collect (.ref l)) R E s)
  (hv:Vm (J5 s.heap) vs nss)(hz:vs.length<=1000000)
  (h:∀h' tk D c(out:List Vb),out.Perm vs->(∀rd:Vb->List Int,(∀v∈vs,J5 s.heap v (rd v))->out.map rd=M1 nss)->h'.Ns L m->(∀b o,b≠L->s.heap.get? b=B3 o->h'.get? b=B3 o)->s.heap.objs.size<=D->h'.get? D=B3 (Vp "list" out.toArray c)->Q (.ref D) { s with heap:=h',toks:=tk }) :
  Vk (Vi prog w) A (call (.builtin "sorted") [.ref l]) Q E s:=by
 have sz:sizeLine=16777216:=Vx;have lt:=hn.lt;refine Tad pH pL pK (Ues _) ?_;unfold Builtin.«sorted»;refine Va (m:=pF "sorted" 1 1 _) (Vc (Va (hcol _ (Va (dD ?_ f8)))));have k1:∀b o,s.heap.get? b=B3 o->((s.heap.push (Vp "list" #[] 0)).update s.heap.objs.size (Ud (· ++ vs.toArray))).get? b=B3 o:=λb o q=>by
  rw[Wek _ _ _ _ (Xp (Xh q))];exact Xb _ q
 have le:s.heap.objs.size<=((s.heap.push (Vp "list" #[] 0)).update s.heap.objs.size (Ud (· ++ vs.toArray))).objs.size:=iQ (Wge (Web _) ((Wec ..).trans (Uej ..)).symm);generalize (s.heap.push (Vp "list" #[] 0)).update s.heap.objs.size (Ud (· ++ vs.toArray))=h1 at *
 let h2:C5:=h1.push (Vp "list" vs.toArray 0)
 have at2:h2.get? h1.objs.size=B3 (Vp "list" vs.toArray 0):=Xi _ rfl;have kp:∀b o,s.heap.get? b=B3 o->h2.get? b=B3 o:=λb o e=>Xb _ (k1 b o e);have ltD:∀b o,s.heap.get? b=B3 o->b≠h1.objs.size:=λb o e=>Xp (Xo (Xh e) le);have LD:h1.objs.size≠L:=Uj (Xp (Xo lt le));have up:∀v ns,J5 s.heap v ns->J5 h2 v ns:=λv ns z=>z.mv λa b9 _ _ o e=>kp a o e;show Vk _ _ _ _ _ { s with heap:=h2 };refine Va (Vq (Vt (s:={ s with heap:=h2 }) slot_list_sort ⟨_,at2,rfl⟩ entry_list_sort ?body (Udv _)))
 case body=>
  refine Zno (s:={ s with heap:=h2 }) (nss:=nss) at2 f8 (show A.in1.in1.units+1<cLine by simp;omega) (Prd.imp hv λv ns _ z=>up v ns z) λh' c out p1 p2 k' g'=>⟨_,rfl,Vc ⟨_,rfl,h h' s.toks _ c out p1 (λrd hr=>p2 rd λv hv=>up v _ (hr v hv)) (hn.at' λo e=>k' _ _ (Uj LD) (kp _ _ e)) (λb o _ e=>k' b o (ltD b o e) (kp b o e)) le g'⟩⟩
end
nonrec def nR:FF:=λds H=>match ds with
 |[d]=>(P6 d H).bind λxs=>(fM xs).bind λnss=>if xs.length<=1000000 then B3 (.ref H.length,H++[.lst ((M1 nss).map W4)])else B0
 |_=>B0
theorem Zhr{K:Xa}{H:Hp}{ι:List Vh}:∀{ds:List D}{vs:List V}{nss:List (List Int)},fM ds=B3 nss->Vm (Rep K H ι) ds vs->∃as:List Vh,vs=as.map V.ref
 |[],vs,nss,e,p=>by cases p;exact⟨[],rfl⟩
 |d::ds,vs,nss,e,p=>by
  obtain⟨ns,e1,e⟩:=Zo e;obtain⟨t,e2,rfl⟩:=Zm e;cases p with
  |cons p1 p2=>
   obtain⟨as,rfl⟩:=Zhr e2 p2;unfold vG at e1;split at e1
   ·obtain⟨b,vs,rfl,sq,P⟩:=U6.mp p1;exact⟨b::as,rfl⟩
   ·cases e1
theorem uA:∀{as:List Vh}{us:List Vb},D5 (as.map V.ref) us->us=as.map Uc
 |[],_,h=>by cases h;rfl
 |_::_,_,h=>by
  cases h with
  |cons a b=>cases a;rw[uA b];rfl
section
variable{X:Cx}
theorem Zgf(hu:X.A.units+64<cLine):A7 X (.builtin "sorted") nR:=by
 rintro b5 s σ H xs us Q I rv ⟨ι,ds,Hd,d,c5,hr,P,e,q⟩;unfold nR at e;split at e
 ·rename_i d0;obtain⟨ys,e0,e⟩:=Zo e;obtain⟨nss,e1,e⟩:=Zo e;split at e
  ·rename_i d4;obtain⟨v,rfl,r⟩:=U0 P;obtain⟨ad,ws,rfl,hq,P3⟩:=iD hr r e0;obtain⟨u,rfl,ru⟩:=rv.one;cases ru;obtain⟨bs,rfl⟩:=Zhr e1 P3;have lb:bs.length=ys.length:=by have:=Prd.len P3;simpa using this.symm
   obtain⟨m,hn,_⟩:=I.loc;have hits:∀R:List Vb->Vd->Prop,R (bs.map Uc) { s with heap:=(s.heap.push (Vp "list" #[] 0)).update s.heap.objs.size (Ud (· ++ (bs.map Uc).toArray)) }->Vk (Vi X.prog X.w) X.A.in1 (collect (.ref ad)) R X.xe s:=by
    rcases hq with hq |hq
    ·obtain⟨b9,ri,pl,hz⟩:=I.list hq;have:=uA ri;subst this;exactλR hR=>Uep pl.isList hR (by rw[<- ri.length];exact hz)
    ·obtain⟨b9,ri,pl,hz⟩:=I.tuple hq;have:=uA ri;subst this;exactλR hR=>Ze8 pl (by rw[<- ri.length];exact hz) hR
   have hv:=Zfg I e1 P3;have hp:=Zfr I e1 P3;refine Zpp hn f8 hits hv (by rw[Xj];omega) λh' tk Da c out p1 p2 hn' kk hD hat=>?_;obtain⟨as,rfl,hin⟩:=Zly p1;have la:as.length=ys.length:=by
    have:=p1.length_eq;simp only[Xj]at this;omega
   have eo2:=p2 (J3 s.heap) λv hv'=>by
    obtain⟨b,hb,rfl⟩:=Xr.mp hv';obtain⟨ns,t1,_⟩:=hp b hb;rw[I0 t1];exact t1
   have PS:Vm (Rep X.K H ι) ((M1 nss).map W4) (as.map V.ref):=by
    rw[<- eo2,K7,K7];refine Zmn λb hb=>?_;obtain⟨ns,t1,t2⟩:=hp b (hin b hb);show Rep X.K H ι (W4 (J3 s.heap (.ref b))) (.ref b);rw[I0 t1];exact t2
   have sz:sizeLine=16777216:=Vx;have va:D5 (as.map V.ref) (as.map Uc):=by
    clear hat PS la eo2 hin p1 p2
    induction as with
    |nil=>exact .nil
    |cons b r ih=>exact .cons rfl ih
   have hl:(as.map V.ref).length<=sizeLine:=by rw[Xj];omega
   refine⟨.ref Da,_,uB (o:=.lst (as.map V.ref)) I kk (λm' hm'=>by rw[hm'.eq_nsMap,<- hn.eq_nsMap];exact hn') hD ⟨hl,as.map Uc,c,va,hat⟩,rfl,?_⟩;have hz2:((M1 nss).map W4).length<=sizeLine:=by rw[Prd.len PS,Xj];omega
   exact(cQ hr PS (show O7 ((M1 nss).map W4) Hd=B3 (d,c5)by unfold O7;rw[d7 hz2,e]) (λv H' c7 l h r=>q v H' c7 l h r)).2 _ (I.hok.fresh hD)
  ·cases e
 ·cases e
end
def gZ(xs:Array Nat):Prop:=∀(i k:Nat)(_:i<k)(hk:k<xs.size),xs[i]<xs[k]
theorem Zjz{xs:Array Nat}{j:Nat}(up:gZ xs):∀(fuel lo hi:Nat),hi<=xs.size->lo<=hi->hi-lo<=fuel->(∀i(h:i<xs.size),i<lo->xs[i]<j)->(∀i(h:i<xs.size),hi<=i->j<=xs[i]) ->
  xI xs j fuel lo hi<=xs.size/\(∀i(h:i<xs.size),i<xI xs j fuel lo hi->xs[i]<j)/\∀i(h:i<xs.size),xI xs j fuel lo hi<=i->j<=xs[i]
 | 0,lo,hi,h1,h2,h3,a,b=>by
  have:lo=hi:=by omega
  subst this;rw[xI];exact⟨h1,a,b⟩
 |fuel+1,lo,hi,h1,h2,h3,a,b=>by
  rw[xI];split
  ·rename_i lt;have hm:(lo+hi) / 2<xs.size:=by omega
   have e:xs.getD ((lo+hi) / 2) j=xs[(lo+hi) / 2]:=by simp[bM,hm]
   dsimp only;rw[e];split
   ·rename_i c;refine Zjz up fuel _ _ h1 f8 f8 (λi h hl=>?_) b;by_cases z:i=(lo+hi) / 2
    ·subst z;exact c
    ·exact Wfp (up i ((lo+hi) / 2) f8 hm) c
   ·rename_i c;refine Zjz up fuel _ _ f8 f8 f8 a (λi h hl=>?_);by_cases z:i=(lo+hi) / 2
    ·subst z;omega
    ·have:=up ((lo+hi) / 2) i f8 h;omega
  ·have:lo=hi:=by omega
   subst this;exact⟨h1,a,b⟩
theorem Zi4{xs:Array Nat}{j:Nat}(up:gZ xs):Uf xs j<=xs.size/\(∀i(h:i<xs.size),i<Uf xs j->xs[i]<j)/\∀i(h:i<xs.size),Uf xs j<=i->j<=xs[i] :=
 Zjz up xs.size 0 xs.size (Xd _) (R4 _) f8 (λ_ _ h=>absurd h (Wej _)) λi h hl=>absurd h f8
theorem Zo6{xs:Array Nat}(up:gZ xs):Uf xs 0=0:=by
 obtain⟨a,b,c⟩:=Zi4 (j:=0) up;refine Nat.eq_zero_of_not_pos λz=>?_;exact absurd (b 0 f8 z) (Wej _)
theorem Zom{xs:Array Nat}(up:gZ xs){i:Nat}(h:i<xs.size):Uf xs (xs[i]+1)=i+1:=by
 obtain⟨a,b,c⟩:=Zi4 (j:=xs[i]+1) up;by_cases z:Uf xs (xs[i]+1)<=i
 ·have:=c i h z;omega
 ·by_cases y:i+1<Uf xs (xs[i]+1)
  ·have h1:i+1<xs.size:=by omega
   have:=b (i+1) h1 y;have:=up i (i+1) f8 h1;omega
  ·omega
theorem Ztq{xs:Array Nat}{j:Nat}(up:gZ xs)(hj:xs[Uf xs j]? ≠ B3 j):gZ (Uo xs (Uf xs j) j):=by
 obtain⟨a,b,c⟩:=Zi4 (j:=j) up;generalize Uf xs j=p at *;have sz:(Uo xs p j).size=xs.size+1:=by
  rw[<- Xw,Tbp];simp;omega
 have at':∀i(h:i<(Uo xs p j).size),(Uo xs p j)[i]=if i<p then xs[i]?.getD 0 else if i=p then j else xs[i-1]?.getD 0:=λi h=>by
  have e:(Uo xs p j)[i]? = if i<p then xs[i]? else if i=p then B3 j else xs[i-1]? := by
   rw[<- bR,Tbp,List.getElem?_append,Z5,Xw,vQ a];split
   ·rename_i h1;rw[Wdm h1,bR]
   ·split
    ·rename_i h1 h2;subst h2;simp
    ·rename_i h1 h2;obtain⟨k,hk⟩:∃k,i-p=k+1:=⟨i-p-1,by omega⟩
     rw[hk,Wfg,List.getElem?_drop,bR]
     congr 1
     omega
  rw[Xc h]at e;split<;>rename_i h1
  ·rw[d7 h1]at e;rw[<- e];rfl
  ·rw[d9 h1]at e;split<;>rename_i h2
   ·rw[d7 h2]at e;exact B3.inj e
   ·rw[d9 h2]at e;rw[<- e];rfl
 intro i k hik hk;rw[at' i f8,at' k hk];rw[sz]at hk;by_cases c1:k<p
 ·rw[d7 c1,d7 f8];have h1:k<xs.size:=by omega
  have h2:i<xs.size:=by omega
  rw[Xc h1,Xc h2];exact up i k hik h1
 ·rw[d9 c1];by_cases c2:k=p
  ·subst c2;rw[d7 rfl,d7 hik];have h2:i<xs.size:=by omega
   rw[Xc h2];exact b i h2 hik
  ·rw[d9 c2];have h1:k-1<xs.size:=by omega
   rw[Xc h1];by_cases d1:i<p
   ·rw[d7 d1];have h2:i<xs.size:=by omega
    rw[Xc h2];exact up i (k-1) f8 h1
   ·rw[d9 d1];by_cases d2:i=p
    ·subst d2;rw[d7 rfl];have hp:i<xs.size:=by omega
     have q1:=c i hp (Xd _);rw[Xc hp]at hj;have q2:xs[i]≠j:=λz=>hj (by rw[z]);by_cases d3:i=k-1
     ·simp only[<- d3];show j<xs[i];omega
     ·have:=up i (k-1) f8 h1;show j<xs[k-1];omega
    ·rw[d9 d2];have h2:i-1<xs.size:=by omega
     rw[Xc h2];exact up (i-1) (k-1) f8 h1
structure V7(b:Bool)(t:eG):Prop where
 ld:t.led = !b
 pl:t.plain=B1
 mk7:t.mask=7
 dm:t.dummies = #[]
 up:gZ t.place
theorem V7.fresh{b:Bool}{f m:Nat}:V7 b (.fresh f m (!b)):=⟨rfl,rfl,rfl,rfl,λi k h hk=>absurd hk (Wej _)⟩
nonrec def nx8(i P:Nat):Nat:=(i*5+1+P / 32) % 8
nonrec def it8:Nat->Nat->Nat
 | 0,i=>i
 |d+1,i=>it8 d (nx8 i 0)
theorem all8:∀i:Fin 8,∀e:Fin 8,∃d:Fin 8,it8 d.val i.val=e.val:=by decide +kernel
section
variable{b:Bool}{t:eG}
theorem Zjp(s:V7 b t)(j:Nat):t.slot j=.empty\/∃i,t.slot j=.live i:=by
 unfold Tcj;dsimp only;split
 ·exact .inr ⟨_,rfl⟩
 ·rw[d9 (by rw[s.dm];simp[xD])];exact .inl rfl
theorem Ycd(s:V7 b t){h:Int}{i P fuel:Nat}{m:Nat}(e:t.slot i=.live m):Uz t (λ_=>h+1) h (fuel+1) ⟨i,0,i,P,B0⟩=Uz t (λ_=>h+1) h fuel ⟨nx8 i P,0,nx8 i P,P / 32,B0⟩:=by
 rw[Uz];dsimp only;rw[e];dsimp only;have z:((h+1)==h)=B2:=by simp;omega
 rw[z];unfold SetTable.advance;rw[d9 g8];dsimp only;unfold SetTable.leap Tcu;rw[s.mk7];dsimp only;rw[d9 f8];simp[nx8]
theorem jZ{h:Int}{i P fuel:Nat}(e:t.slot i=.empty):Uz t (λ_=>h+1) h (fuel+1) ⟨i,0,i,P,B0⟩=B3 (.empty i B0):=by
 rw[Uz];dsimp only;rw[e]
theorem Zwz(s:V7 b t){h:Int}:∀(d i fuel:Nat),d<fuel->t.slot (it8 d i)=.empty->∃j,t.slot j=.empty/\Uz t (λ_=>h+1) h fuel ⟨i,0,i,0,B0⟩=B3 (.empty j B0)
 | 0,i,fuel,hf,e=>by
  obtain⟨f,rfl⟩:∃f,fuel=f+1:=⟨fuel-1,by omega⟩
  exact⟨i,e,jZ e⟩
 |d+1,i,fuel,hf,e=>by
  obtain⟨f,rfl⟩:∃f,fuel=f+1:=⟨fuel-1,by omega⟩
  rcases Zjp s i with z |⟨m,z⟩
  ·exact⟨i,z,jZ z⟩
  ·rw[Ycd s z];exact Zwz s d _ f f8 e
theorem sA(s:V7 b t){h:Int}{e:Nat}(he:e<8)(hs:t.slot e=.empty):∀(m i P fuel:Nat),i<8->P<32 ^ m->m+8<=fuel->∃j,t.slot j=.empty/\Uz t (λ_=>h+1) h fuel ⟨i,0,i,P,B0⟩=B3 (.empty j B0)
 | 0,i,P,fuel,hi,hP,hf=>by
  have:P=0:=by simpa using hP
  subst this;obtain⟨d,hd⟩:=all8 ⟨i,hi⟩ ⟨e,he⟩;exact Zwz s d.val i fuel (by have:=d.isLt;omega) (by rw[hd];exact hs)
 |m+1,i,P,fuel,hi,hP,hf=>by
  obtain⟨f,rfl⟩:∃f,fuel=f+1:=⟨fuel-1,by omega⟩
  rcases Zjp s i with z |⟨k,z⟩
  ·exact⟨i,z,jZ z⟩
  ·rw[Ycd s z];refine sA s he hs m _ _ f (Whi _ f8) ?_ f8;rw[Wgp]at hP;exact Nat.div_lt_of_lt_mul (by rw[vN];exact hP)
theorem Zra:∀(xs ys:List Nat),xs.Nodup->(∀x∈xs,x∈ys)->xs.length<=ys.length
 |[],_,_,_=>R4 _
 |x::r,ys,nd,h=>by
  rw[fY]at nd;have:=Zra r (ys.erase x) nd.2 λy hy=>(Wfv λz=>nd.1 (by rw[<- z];exact hy)).mpr (h y (by simp[hy]));have hx:=h x g8;rw[Wfc hx]at this;have:=Wfn hx;simp only[cX];omega
theorem qP(s:V7 b t)(hl:t.place.size<=7):∃e,e<8/\t.slot e=.empty:=by
 refine Um λz=>?_;have al:∀e,e<8->e∈t.place.toList:=λe he=>by
  rcases Zjp s e with y |⟨m,y⟩
  ·exact absurd ⟨e,he,y⟩ z
  ·unfold Tcj at y;dsimp only at y;split at y
   ·rename_i c;have c:t.place[Uf t.place e]? = B3 e:=by simpa using c
    exact Array.mem_toList_iff.mpr (Array.mem_of_getElem? c)
   ·rw[d9 (by rw[s.dm];simp[xD])]at y;cases y
 have:=Zra (V4 8) t.place.toList List.nodup_range λe he=>al e (oO.mp he);simp at this;omega
theorem V7.lay{es:Array (Int×Vb)}{h:Int}{x:Vb}(s:V7 b t)(hz:t.place.size=es.size)(hl:es.size<=3):∃es' t',layNew t es h x=(es',t',B2,B2)/\V7 b t'/\t'.tooFull=B2:=by
 obtain⟨e,he,hs⟩:=qP s f8;have hb:Tbu h<32 ^ 13:=by
  unfold Tbu;have:=bP h (show (0:Int)<2 ^ 64 by decide);have:=bN h (show (2:Int) ^ 64≠0 by decide);have:(32:Nat) ^ 13=36893488147419103232:=by decide
  omega
 obtain⟨j,hj,ep⟩:=sA s (h:=h) he hs 13 (Tbu h % 8) (Tbu h) (10*SetTable.turns t.mask) (Whi _ f8) hb (by rw[s.mk7];decide);have ef:t.freeSlot h=B3 (j,B2):=by
  unfold SetTable.freeSlot SetTable.probe SetTable.probeStart Tcu;rw[s.mk7];rw[s.mk7]at ep;dsimp only;rw[d9 f8,Nat.sub_self,ep];rfl
 have hd:xD t.dummies j=B2:=by rw[s.dm];simp[xD]
 have hin:t.place[Uf t.place j]? ≠ B3 j:=λz=>by
  unfold Tcj at hj;dsimp only at hj;rw[d7 (by rw[z];simp)]at hj;cases hj
 have sz:(Uo t.place (Uf t.place j) j).size=t.place.size+1:=by
  rw[<- Xw,(Tby ..).length_eq];simp
 have sz2:(Uo es (Uf t.place j) (h,x)).size=es.size+1:=by
  rw[<- Xw,(Tby ..).length_eq];simp
 have st:V7 b (t.put j).1:=⟨s.ld,s.pl,s.mk7,by show (if xD t.dummies j=B1 then _ else t.dummies)=_;rw[hd];exact s.dm,Ztq s.up hin⟩
 have fl:(t.put j).1.fill=t.place.size+1:=by
  unfold SetTable.fill;rw[st.dm];exact sz
 have ft:(t.put j).1.fits (Uo es (Uf t.place j) (h,x)).size=B1:=by
  unfold Tck;rw[fl,st.mk7,sz2,show (t.put j).1.place.size=t.place.size+1 from sz,hz];simp;omega
 refine⟨Uo es (Uf t.place j) (h,x),(t.put j).1,?_,st,?_⟩
 ·unfold layNew;rw[ef];dsimp only;have e2:(t.put j).2=Uf t.place j:=rfl;rw[e2,ft];unfold SetTable.orStandIn;rw[ft];rfl
 ·unfold SetTable.tooFull;rw[fl,st.mk7];simp;omega
end
def A6(prog:Vl)(w:Vs)(b:Bool)(h:C5)(a:Vh)(zs:List Int):Prop :=
 ∃o es ep t,h.get? a=B3 o/\o.ExactSet/\o.data=.set es ep t/\ElemsOf (bW prog w) es.toList/\(∃ms,Vw (es.toList.map (·.2)) ms/\ms.Perm zs)/\t.fits es.size=B1/\V7 b t
theorem Zn7{vs:List Vb}{ns:List Int}(h:Vw vs ns):∀{us:List Vb},us.Perm vs->∃ms,Vw us ms/\ms.Perm ns:=by
 intro us p
 induction p generalizing ns with
 |nil=>cases h;exact⟨[],.nil,.nil⟩
 |cons x p ih=>
  cases h with
  |cons n t h=>
   obtain⟨ms,h1,h2⟩:=ih h;exact⟨n::ms,.cons n t h1,h2.cons n⟩
 |swap x y l=>
  cases h with
  |cons n t h=>
   cases h with
   |cons m u h=>exact⟨m::n::_,.cons m u (.cons n t h),.swap _ _ _⟩
 |trans p q ih1 ih2=>
  obtain⟨ms,h1,h2⟩:=ih2 h;obtain⟨ks,h3,h4⟩:=ih1 h1;exact⟨ks,h3,h4.trans h2⟩
theorem Zs0{vs:List Vb}{ns:List Int}{n:Int}{t:Nat}(h:Vw vs ns):Vw (vs++[.int n t]) (ns++[n]):=by
 induction h with
 |nil=>exact .cons n t .nil
 |cons m u _ ih=>exact .cons m u ih
section
variable{prog:Vl}{w:Vs}{A:Vo}{E:Vb->Vd->Prop}{s:Vd}
theorem Ybp{x m:Int}{t:Nat}:(bW prog w).is x (.int m t)=decide (x=m):=KeyKind.is_eq_decide (intKind_is prog w m t) x
theorem Zks{x:Int}:∀{l:List (Int×Vb)}{ms:List Int},Vw (l.map (·.2)) ms->((l.findIdx? λe=>(bW prog w).is x e.2)=B0 ↔ x∉ms)
 |[],ms,h=>by cases h;simp
 |e::l,ms,h=>by
  obtain⟨k,v⟩:=e;cases h with
  |cons n t h=>
   have ih:=Zks (x:=x) h;rw[List.findIdx?_cons,Ybp];by_cases z:x=n
   ·simp[z]
   ·simp[z,ih]
theorem Zvr{b:Bool}{h:C5}{a:Vh}{o:Obj}{es es':Array (Int×Vb)}{ep:Nat}{t t':eG}{zs ms:List Int}(ho:h.get? a=B3 o)(hex:o.ExactSet)(hd:o.data=.set es ep t)(hel:ElemsOf (bW prog w) es'.toList)(hi:Vw (es'.toList.map (·.2)) ms)(hp:ms.Perm zs)(hf:t'.fits es'.size=B1)(st:V7 b t') :
  (h.update a (xB es' t')).get? a=B3 { o with data:=.set es' (ep+1) t' }/\A6 prog w b (h.update a (xB es' t')) a zs:=by
 have hg:(h.update a (xB es' t')).get? a=B3 { o with data:=.set es' (ep+1) t' }:=by
  have z:=pA (xB es' t') ho (by rw[putSet_of es' t' hd];rfl)
  rwa [putSet_of es' t' hd]at z
 exact⟨hg,_,es',ep+1,t',hg,hex,rfl,hel,⟨ms,hi,hp⟩,hf,st⟩
theorem Zs7{b:Bool}{a:Vh}{zs:List Int}{x:Int}{tk:Nat}{Q:Bool->Vd->Prop}(hS:A6 prog w b s.heap a zs)(hroom:zs.length<=3)
  (h:∀h' r,R5 a s.heap h'->A6 prog w b h' a (if x∈zs then zs else zs++[x])->Q r { s with heap:=h' }):Vk (Vi prog w) A (setAddHashed a (.int x tk) ((bW prog w).hash x)) Q E s:=by
 obtain⟨o,es,ep,t,ho,hex,hd,hel,⟨ms,hi,hp⟩,hf,st⟩:=hS;have lz:es.size=zs.length:=by
  have:=hi.length;rw[<- hp.length_eq,<- this];simp
 have hb:es.size<scanBound:=by unfold scanBound;omega
 have hkey:(bW prog w).is x (.int x tk)=B1:=intKind_is prog w x tk;unfold setAddHashed setAddHashedIn;refine Vq (Va (wZ ho hd hf ?_));dsimp only;rw[byScan_of rfl hb hel];simp only[↓reduceIte];unfold setAddByScan;refine Va (Va (eI (Va (wpAny_setScan_of hkey ho hd hf hel ?_))));have hfd:=Zks (prog:=prog) (w:=w) (x:=x) hi;cases hr:List.findIdx? (λe=>(bW prog w).is x e.2) es.toList with
 |some j=>
  have hx:x∈zs:=hp.mem_iff.mp (Um λz=>by rw[hfd.mpr z]at hr;cases hr);refine Vc (Vc ?_);rw[d7 hx]at h;exact h s.heap _ (R5.refl a s.heap) ⟨o,es,ep,t,ho,hex,hd,hel,⟨ms,hi,hp⟩,hf,st⟩
 |none=>
  have hx:x∉zs:=λz=>hfd.mp hr (hp.mem_iff.mpr z);rw[d9 hx]at h;dsimp only;have pm:=layNew_perm t es ((bW prog w).hash x) (.int x tk);have ft:=layNew_fits t es ((bW prog w).hash x) (.int x tk);have hz:t.place.size=es.size:=by
   unfold Tck at hf;simp only[V6,beq_iff_eq]at hf;exact hf.1
  obtain⟨es1,t1,eL,sl,tf⟩:=st.lay (es:=es) (h:=(bW prog w).hash x) (x:=.int x tk) hz f8;rw[eL]at pm ft ⊢;dsimp only at pm ft ⊢;rw[dU]at pm;have el1:=(hel.push hkey (x:=.int x tk) rfl).perm pm;obtain⟨m1,i1,p1⟩:=Zn7 (Zs0 (n:=x) (t:=tk) hi) (us:=es1.toList.map (·.2)) (by have:=pm.map (·.2);simpa using this);have pz:m1.Perm (zs++[x]):=p1.trans (hp.append_right _);have l1:es1.size=es.size+1:=by have:=pm.length_eq;simpa using this
  refine Va (Vc ?_);rw[d7 sl.pl];refine Va ?_;rw[hashByValue_scannable 8 (show (dG x tk).scannable=B1 from rfl)];refine Vc ?_;simp only[plainKind,if_true];refine Va (wpAny_storeSet_of ho hd ?_ (fits_of_scanBound (by unfold scanBound;omega)));obtain⟨g1,s1⟩:=Zvr (prog:=prog) (w:=w) ho hex hd el1 i1 pz ft sl;rw[tf];simp only[Whg,dY,if_false];exact Vc (Vc (h _ _ (R5.update s.heap a (xB es1 t1)) s1))
end
nonrec def W3(w:Vs):Bool:=w.params.followText "set-order"
nonrec def A3(zs:List Int)(x:Int):List Int:=if x∈zs then zs else zs++[x]
nonrec def met(ns:List Int):List Int:=ns.foldl A3 []
theorem Zvw(zs:List Int)(x:Int):(A3 zs x).length<=zs.length+1:=by unfold A3;split<;>simp
theorem Zmd:∀(ns zs:List Int),(ns.foldl A3 zs).length<=zs.length+ns.length
 |[],zs=>by simp
 |n::r,zs=>by
  have:=Zmd r (A3 zs n);have:=Zvw zs n;simp only[Weg,cX];omega
section
variable{prog:Vl}{w:Vs}{A:Vo}{E:Vb->Vd->Prop}{s:Vd}
theorem A6.mv{b:Bool}{h h':C5}{a:Vh}{zs:List Int}(x:A6 prog w b h a zs)(k:∀o,h.get? a=B3 o->h'.get? a=B3 o):A6 prog w b h' a zs:=by
 obtain⟨o,es,ep,t,ho,r⟩:=x;exact⟨o,es,ep,t,k o ho,r⟩
theorem Zp8(hh:A.handled=B0)(I ax:Vh)(hne:ax≠I)(items:Array Vb):Walks prog w A I [I,ax] [I] items.size (λi v=>items[i]? = B3 v) (λi h=>IsTupIter h I ax i/\Q0 h ax items) where
 sub:=λb hb=>by simp at hb;simp[hb]
 frame:=λi h h' st hk=>⟨let ⟨o,e,r⟩:=st.1;⟨o,hk I g8 o e,r⟩,let ⟨o,e,r⟩:=st.2;⟨o,hk ax g8 o e,r⟩⟩
 item:=λi s Q E hi st hQ=>next_tuple_item st.1 st.2 (Xc hi) λh' it' sb=>hQ _ h' s.toks (Xc hi) ⟨it',let ⟨o,e,r⟩:=st.2;⟨o,sb.extBut ax o hne e,r⟩⟩ λb o hb e=>sb.extBut b o (λz=>hb (by simp[z])) e
 done:=λs Q E st hQ=>next_tuple_end hh st.1 st.2 (iY (Xd _)) λh' eb=>hQ h' s.toks λb o hb e=>eb b o (λz=>hb (by simp[z])) e
 self:=λ_ _ _ _ st hQ=>Udb (let ⟨o,e,r⟩:=st.1;⟨o,e,r⟩) hQ
theorem Zvs{I:Vh}{fp wr:List Vh}{n:Nat}{P:Nat->Vb->Prop}{St:Nat->C5->Prop}{R:Result->Vd->Prop}{b:Bool}{ns:List Int}(W:Walks prog w A.in1 I fp wr n P St)(S:Vh)(nf:S∉fp)(hn:n=ns.length)
  (hv:∀i v,P i v->∃x t,ns[i]? = B3 x/\v=.int x t)(hb:n<=4):∀(k i:Nat)(s:Vd),i+k=n->St i s.heap->A6 prog w b s.heap S ((ns.take i).foldl A3 []) ->
   (∀h' tk,(∀a o,a∉S::wr->s.heap.get? a=B3 o->h'.get? a=B3 o)->A6 prog w b h' S (met ns)->R (.ok (.ret .none)) { s with heap:=h',toks:=tk })->gF (Vi prog w) A (.builtin "set.update.loop" ⟨[.ref S,.ref I],[]⟩) R s:=by
 have nw:S∉wr:=λz=>nf (W.sub _ z);intro k
 induction k with
 |zero=>
  intro i s e st sB q;have e:i=n:=by omega
  subst e;refine dF Tbv ?_;rw[xK Tar _];refine Va (m:=bU (.ref I)) (W.done s _ _ st λh' tk kp=>?_);refine Vc (q h' tk (λa o ha e=>kp a o (λz=>ha (Xv _ z)) e) ?_);rw[iX f8]at sB;exact sB.mv λo e=>kp S o nw e
 |succ k ih=>
  intro i s e st sB q;refine dF Tbv ?_;rw[xK Tar _];refine Va (m:=bU (.ref I)) (W.item i s _ _ f8 st λv h' tk hp st' kp=>?_);obtain⟨x,t,hx,rfl⟩:=hv i v hp;have sB':A6 prog w b h' S ((ns.take i).foldl A3 []):=sB.mv λo e=>kp S o nw e;have ll:((ns.take i).foldl A3 []).length<=i:=by
   have:=Zmd (ns.take i) [];simp at this;omega
  refine Va (m:=gG [dG x t] (setAdd S (.int x t))) (Vq ?_);unfold setAdd;refine Vq (Va ((bW prog w).pyHash (intKind_is prog w x t) ?_));refine Zs7 (s:={ s with heap:=h',toks:=tk+1 }) sB' f8 λh2 r sb s2=>?_;have e2:(ns.take (i+1)).foldl A3 []=A3 ((ns.take i).foldl A3 []) x:=by
   rw[Wfd,hx,List.foldl_append];rfl
  refine Vc ⟨plainId_quiet Tar _,ih (i+1) { s with heap:=h2,toks:=tk+1 } f8 (W.frame _ _ _ st' λa ha o e=>?_) (by rw[e2];exact s2) λh3 tk3 kp3 s3=>?_⟩
  ·exact sb.extBut a o (λz=>nf (z ▸ ha)) e
  ·refine q h3 tk3 (λa o ha e=>kp3 a o ha ?_) s3;exact sb.extBut a o (λz=>ha (by simp[z])) (kp a o (λz=>ha (Xv _ z)) e)
theorem Zyc(a:Vb){Q:Vb->Vd->Prop}(h:Q (.ref s.heap.objs.size) { s with heap:=s.heap.push { cls:=.type "set",dict:=B0,data:=.set #[] 0 (.fresh 0 0 (!W3 w)) } }) :
  gF (Vi prog w) A (.call (.builtin "set.__new__") ⟨[.type "set",a],[]⟩) (wants Q E) s:=by
 refine codeAny_of_tree (?_:Vk _ A.in1 (do checkBuiltinCall "set.__new__" ⟨[.type "set",a],[]⟩;again (.builtin "set.__new__" ⟨[.type "set",a],[]⟩)) _ _ s);refine Va (Uex (F.newCall_set_1 a) (Vc ⟨plainId_quiet F.plain_set_new _,dF F.entry_set_new ?_⟩));rw[xK F.plain_set_new _];unfold Builtin.«set.__new__» Tcz;have sub:=sub_set_self;obtain⟨hp,g,d,tk,os⟩:=s;dsimp only
 wp_walk
 refine pO (Vc ?_);dsimp only;simp only[newObj];exact Va (wpAny_alloc (Vc (Vc h)))
end
section
variable{prog:Vl}{w:Vs}{A:Vo}{E:Vb->Vd->Prop}{s:Vd}
theorem Zk5{l:Vh}{T:String}{ns:List Int}{P:Nat->Vb->Prop}{Q:Vb->Vd->Prop}(hh:A.handled=B0)(hT:s.TypeIs (.ref l) T)(s1:pE (.type T) (.type "set")=pure B2)(s2:pE (.type T) (.type "frozenset")=pure B2)(s3:(Ul T==Ul "dict")=B2)
  (hw:∀o:Obj,∃(St:Nat->C5->Prop)(oI:Obj),(∀(A':Vo)(E':Vb->Vd->Prop)(Q':Vb->Vd->Prop),Q' (.ref (s.heap.objs.size+1)) { s with heap:=(s.heap.push o).push oI }->Vk (Vi prog w) A' (gE (.ref l)) Q' E' { s with heap:=s.heap.push o }) /\
   (∀A':Vo,A'.handled=B0->Walks prog w A' (s.heap.objs.size+1) [s.heap.objs.size+1,l] [s.heap.objs.size+1] ns.length P St)/\St 0 ((s.heap.push o).push oI))
  (hv:∀i v,P i v->∃x t,ns[i]? = B3 x/\v=.int x t)(hb:ns.length<=4)
  (h:∀(h':C5)(tk:Nat),A6 prog w (W3 w) h' s.heap.objs.size (met ns)->(∀b o,s.heap.get? b=B3 o->h'.get? b=B3 o)->Q (.ref s.heap.objs.size) { s with heap:=h',toks:=tk }) :
  Vk (Vi prog w) A (call (.type "set") [.ref l]) Q E s:=by
 obtain⟨c,tl,mro⟩:=F.called_set.mro;have made:=F.called_set.made;have sub:=F.called_set.sub;refine pG (codeAny_of_tree (?_:Vk _ _ (callAny (.type "set") _) _ _ _));refine Vc ⟨xJ _ j0,dF F.entry_type_call ?_⟩;rw[Around.under_plain (weight_type_call_type "set" [.ref l] []) rfl];have n1:=F.called_set.notType;have n2:=F.called_set.canCreate;have n3:=F.typeCall_set_1 (.ref l)
 repeat (any_goals (first |assumption |wp_step))
 refine eM (Zyc (.ref l) (E:=E) (Q:=λobj z=>obj=.ref s.heap.objs.size/\z={ s with heap:=s.heap.push { cls:=.type "set",dict:=B0,data:=.set #[] 0 (.fresh 0 0 (!W3 w)) } }) ⟨rfl,rfl⟩) λr z hr=>?_;cases r with
 |error e=>exact hr
 |ok fl=>
  cases fl with
  |ret obj=>
   obtain⟨rfl,rfl⟩:=hr;obtain⟨St,oI,hit,W,st⟩:=hw { cls:=.type "set",dict:=B0,data:=.set #[] 0 (.fresh 0 0 (!W3 w)) };have g0:(s.heap.push { cls:=.type "set",dict:=B0,data:=.set #[] 0 (.fresh 0 0 (!W3 w)) }).get? s.heap.objs.size=B3 { cls:=.type "set",dict:=B0,data:=.set #[] 0 (.fresh 0 0 (!W3 w)) }:=Xi _ rfl;have tS:Tdk { s with heap:=s.heap.push { cls:=.type "set",dict:=B0,data:=.set #[] 0 (.fresh 0 0 (!W3 w)) } } (.ref s.heap.objs.size) "set" := ⟨_,g0,rfl⟩
   have li:=F.called_set.init.lookup;have bi:=F.called_set.init.bind (.ref s.heap.objs.size)
   repeat (any_goals (first |assumption |wp_step))
   refine eM (Ubx (R:=wants (λr z=>r=.none/\∃h' tk,z={ s with heap:=h',toks:=tk }/\A6 prog w (W3 w) h' s.heap.objs.size (met ns)/\∀b o,s.heap.get? b=B3 o->h'.get? b=B3 o) E) F.called_set.init.plain F.entry_set_init (check_set_init_1 tS ?_)) λr z hr=>?_
   ·have tL:Tdk { s with heap:=s.heap.push { cls:=.type "set",dict:=B0,data:=.set #[] 0 (.fresh 0 0 (!W3 w)) } } (.ref l) T:=by
     obtain⟨o,e,r⟩:=hT;exact⟨o,Xb _ e,r⟩
    unfold Builtin.«set.__init__» noKeywords Tct;generalize hPI:gE=PI
    wp_walk
    subst hPI;refine hit _ _ _ (Va (Ucl ?_));have h3:A.in1.in1.in1.handled=B0:=by simp[hh]
    have lS:l<s.heap.objs.size:=by obtain⟨o,e,r⟩:=hT;exact Xh e
    refine Zvs (b:=W3 w) (W _ h3) s.heap.objs.size (by simp only[Xn,vT,or_false,not_or];exact⟨Xp (Web _),vO lS⟩) rfl hv hb ns.length 0 { s with heap:=(s.heap.push { cls:=.type "set",dict:=B0,data:=.set #[] 0 (.fresh 0 0 (!W3 w)) }).push oI } f8 st ?_ λh' tk kp sB=>?_
    ·exact⟨_,#[],0,_,Xb _ g0,⟨rfl,rfl,rfl⟩,rfl,λe he=>by simp at he,⟨[],.nil,.nil⟩,rfl,V7.fresh⟩
    ·refine Vc (Vc ⟨rfl,h',tk,rfl,sB,λb o e=>kp b o ?_ (Xb _ (Xb _ e))⟩);have lb:=Xh e;simp only[Xn,vT,or_false,not_or];exact⟨Xp lb,Xp (gA lb)⟩
   ·cases r with
    |error e=>exact hr
    |ok fl=>
     cases fl with
     |ret r=>
      obtain⟨rfl,h',tk,rfl,sB,kp⟩:=hr
      repeat (any_goals (first |assumption |wp_step))
      exact h _ _ sB kp
     |_=>exact hr.elim
  |_=>exact hr.elim
end
theorem nX:Slot "set_iterator" "__next__" "set_iterator.__next__" :=
 .of (owner := "set_iterator") (n := "__next__") (by rw[typeLookup_type,Udn];kernel_rfl) j0 j0 j0
  (by first |exact .inl j0 |exact .inr j0) (by rw[wW];kernel_rfl)
theorem Zrl:entryFor table "set_iterator.__next__" = B3 Builtin.«set_iterator.__next__»:=entryFor_of_tree (by kernel_rfl)
theorem Zn9(a:Vb):argsOk "set_iterator.__next__" ⟨[a],[]⟩:=by unfold argsOk;kernel_rfl
theorem Zn3:Slot "set_iterator" "__iter__" "set_iterator.__iter__" :=
 .of (owner := "set_iterator") (n := "__iter__") (by rw[typeLookup_type,Udn];kernel_rfl) j0 j0 j0
  (by first |exact .inl j0 |exact .inr j0) (by rw[wW];kernel_rfl)
theorem Zzk:entryFor table "set_iterator.__iter__" = B3 Builtin.«dict_keyiterator.__iter__»:=entryFor_alias (id' := "dict_keyiterator.__iter__") (by kernel_rfl) (by first |rfl |decide +kernel |(unfold Tdd;simp +decide [Tcq])) j0 (by kernel_rfl)
theorem Ztb(a:Vb):argsOk "set_iterator.__iter__" ⟨[a],[]⟩:=by unfold argsOk;kernel_rfl
theorem Zzm:entryFor table "set.__iter__" = B3 Builtin.«frozenset.__iter__»:=entryFor_alias (id' := "frozenset.__iter__") (by kernel_rfl) (by first |rfl |decide +kernel |(unfold Tdd;simp +decide [Tcq])) j0 (by kernel_rfl)
def bZ(h:C5)(a:Vh)(es:Array (Int×Vb))(ep:Nat)(t:eG):Prop:=∃o,h.get? a=B3 o/\o.ExactSet/\o.data=.set es ep t
def SIt(h:C5)(I a:Vh)(f:Nat)(i n ep:Nat):Prop:=∃o,h.get? I=B3 o/\o.cls=.type "set_iterator" /\ o.data=.fields #[.int f 0,.int i 0,.ref a,.int n 0,.int ep 0]
section
variable{prog:Vl}{w:Vs}{A:Vo}{E:Vb->Vd->Prop}{s:Vd}
theorem Zu0{a:Vh}{es:Array (Int×Vb)}{ep:Nat}{t:eG}{b:Bool}{Q:Vb->Vd->Prop}(x:bZ s.heap a es ep t)(hf:t.fits es.size=B1)(st:V7 b t)
  (q:Q (.ref s.heap.objs.size) { s with heap:=s.heap.push { cls:=.type "set_iterator",data:=.fields #[.int 0 0,.int 0 0,.ref a,.int es.size 0,.int ep 0] } }):Vk (Vi prog w) A (gE (.ref a)) Q E s:=by
 obtain⟨o,ho,hex,hd⟩:=x;have ty:s.TypeIs (.ref a) "set" := ⟨o,ho,hex.1⟩
 refine Ucs ty F.slot_set_iter (Vt F.slot_set_iter ty Zzm ?_ (F.args_set_iter_1 _));unfold Builtin.«frozenset.__iter__»;refine Va (m:=Tdl "__iter__" ⟨[.ref a],[]⟩) (Vc ?_);refine Va (m:=Tdh a) (Va (Uce ho hd hf (Vc ?_)));refine Va (m:=setDrawn a) (Va (wZ ho hd hf ?_));refine Va (m:=Uek) (Va (pO (Vc (Vc ?_))));have nd:∀z:Bool,¬ ((!z&&(!t.plain&&decide (es.size > 1)))=B1):=λz=>by rw[st.pl];simp
 dsimp only;refine dE (λz=>absurd z (nd _)) λ_=>?_;refine Va (Vc (Va (wpAny_setEpoch_of ho hd hf (Va (Vu (Vc ?_))))));exact⟨_,rfl,"set_iterator",_,⟨_,Xi _ rfl,rfl⟩,nX.lookup,by simpa [U8]using q⟩
theorem Zuv{I a:Vh}{es:Array (Int×Vb)}{ep f g i:Nat}{t:eG}{v:Vb}{Q:Option Vb->Vd->Prop}(x:bZ s.heap a es ep t)(it:SIt s.heap I a f i es.size ep)(hf:t.fits es.size=B1)
  (hn:∀(A':Vo)(E':Vb->Vd->Prop)(Q':Option (Vb×Nat)->Vd->Prop),Q' (B3 (v,g)) s->Vk (Vi prog w) A' (jA a f i ep) Q' E' s)
  (q:∀h',SIt h' I a g (i+1) es.size ep->R5 I s.heap h'->Q (B3 v) { s with heap:=h' }):Vk (Vi prog w) A (bU (.ref I)) Q E s:=by
 obtain⟨o,ho,hex,hd⟩:=x;obtain⟨oi,i1,i2,i3⟩:=id it;have ty:s.TypeIs (.ref I) "set_iterator" := ⟨oi,i1,i2⟩
 unfold bU;refine Va (jH (lU (name:=Ue "__next__") ty nX (Vt nX ty Zrl ?_ (Zn9 _))));unfold Builtin.«set_iterator.__next__»;refine Va (m:=slotArgs "__next__" 0 ⟨[.ref I],[]⟩) (Vc (Va (Ucj i1 i3 ?_)));show Vk _ _ (setEntries a >>= _) _ _ s;refine Va (Uce ho hd hf ?_);dsimp only;refine dE (λz=>by simp at z) λ_=>?_;simp only[bO];refine Va (hn _ _ _ ?_);dsimp only;have g1:=pA (Ux (·.setIfInBounds 0 (U8 (g:Int)))) i1 (xM (Ur i3 _));have d1:=Ur i3 (·.setIfInBounds 0 (U8 (g:Int)));refine Va (jJ i1 i3 g8 (Va (jJ (s:={ s with heap:=s.heap.update I (Ux (·.setIfInBounds 0 (U8 (g:Int)))) }) g1 d1 g8 (Vc ⟨_,rfl,Vc (q _ ?_ ?_)⟩))))
 ·exact⟨_,pA _ g1 (xM (Ur d1 _)),(Tat ..).trans ((Tat ..).trans i2),by rw[Ur d1];simp[U8]⟩
 ·exact(R5.update ..).trans (R5.update ..)
end
theorem Zq8{α:Type}{nx:Nat->Nat}:∀(fuel k:Nat)(left:List α)(out:Array α),left.length=fuel->(pickOrder.go nx fuel k left out).toList.Perm (out.toList++left)
 | 0,k,left,out,h=>by
  have:left=[]:=wC.mp h;subst this;rw[pickOrder.go];simp
 |fuel+1,k,left,out,h=>by
  rw[pickOrder.go];have hl:nx k % left.length<left.length:=Whi _ f8;rw[bS hl];dsimp only;have:=Zq8 (nx:=nx) fuel (k+1) (left.eraseIdx (nx k % left.length)) (out.push left[nx k % left.length]) (by rw[List.length_eraseIdx_of_lt hl];omega);refine this.trans ?_;rw[dU,T5];refine Y3.append_left _ ?_;generalize nx k % left.length=m at hl;have e1:left=left.take m++left[m]::left.drop (m+1):=by rw[<- lI hl,bA]
  have e2:[left[m]]++left.eraseIdx m=left[m]::(left.take m++left.drop (m+1)):=by rw[List.eraseIdx_eq_take_drop_succ];rfl
  rw[e2];exact List.perm_middle.symm.trans (Y3.of_eq e1.symm)
theorem Zsa{α:Type}(nx:Nat->Nat)(xs:Array α):(pD nx xs).toList.Perm xs.toList:=by
 have:=Zq8 (nx:=nx) xs.size 0 xs.toList #[] g8;simpa [pD]using this
nonrec def slF(xs:Array Nat):Nat->Nat
 | 0=>0
 |i+1=>xs.getD i 0+1
theorem Zwx{xs:Array Nat}(up:gZ xs):∀i:Nat,i<=xs.size->Uf xs (slF xs i)=i
 | 0,_=>Zo6 up
 |i+1,h=>by
  have hi:i<xs.size:=h;have e:slF xs (i+1)=xs[i]+1:=by show xs.getD i 0+1=_;simp[bM,hi]
  rw[e,Zom up hi]
section
variable{prog:Vl}{w:Vs}{A:Vo}{E:Vb->Vd->Prop}{s:Vd}
theorem Zqu{I a:Vh}{es:Array (Int×Vb)}{ep f i:Nat}{t:eG}{Q:Option Vb->Vd->Prop}(hh:A.handled=B0)(x:bZ s.heap a es ep t)(it:SIt s.heap I a f i es.size ep)(hf:t.fits es.size=B1)
  (hn:∀(A':Vo)(E':Vb->Vd->Prop)(Q':Option (Vb×Nat)->Vd->Prop),Q' B0 s->Vk (Vi prog w) A' (jA a f i ep) Q' E' s)
  (q:∀h',Heap.ExtBut I s.heap h'->Q B0 { s with heap:=h' }):Vk (Vi prog w) A (bU (.ref I)) Q E s:=by
 obtain⟨o,ho,hex,hd⟩:=x;obtain⟨oi,i1,i2,i3⟩:=id it;have ty:s.TypeIs (.ref I) "set_iterator" := ⟨oi,i1,i2⟩
 unfold bU;refine Va (jH (lU (name:=Ue "__next__") ty nX (Vt nX ty Zrl ?_ (Zn9 _))));unfold Builtin.«set_iterator.__next__»;refine Va (m:=slotArgs "__next__" 0 ⟨[.ref I],[]⟩) (Vc (Va (Ucj i1 i3 ?_)));show Vk _ _ (setEntries a >>= _) _ _ s;refine Va (Uce ho hd hf ?_);dsimp only;refine dE (λz=>by simp at z) λ_=>?_;simp only[bO];refine Va (hn _ _ _ ?_);dsimp only;refine Va (jJ i1 i3 g8 (Va ?_));simp only[newExc,newTuple];refine Va (Vu ?_ (by size_fits));refine Va (m:=Uck _ _) (Uex (a:=Uu) (by first |rfl |(simp only[Uck];rfl)) ?_);refine Vu ?_ (by size_fits);simp only[raiseNew];refine Va (wpAny_handled ?_)
 first |rw[show A.in1.handled=B0 from hh] |rw[hh]
 refine Va (Vc (wpAny_throw ?_));refine Va (Ucz (T := "StopIteration") (b:=B1) ⟨_,Xi _ rfl,rfl⟩ isSubtype_stop ?_);exact Vc (q _ (((R5.update ..).extBut.push _).push _))
theorem Zse{a:Vh}{es:Array (Int×Vb)}{ep:Nat}{t:eG}(hf:t.fits es.size=B1)(st:V7 (W3 w) t):∃(items:Array Vb)(f:Nat->Nat),f 0=0/\items.size=es.size/\items.toList.Perm (es.toList.map (·.2)) /\
  (∀(s:Vd),bZ s.heap a es ep t->∀(i:Nat)(hi:i<items.size)(A':Vo)(E':Vb->Vd->Prop)(Q':Option (Vb×Nat)->Vd->Prop),Q' (B3 (items[i],f (i+1))) s->Vk (Vi prog w) A' (jA a (f i) i ep) Q' E' s) /\
  ∀(s:Vd),bZ s.heap a es ep t->∀(A':Vo)(E':Vb->Vd->Prop)(Q':Option (Vb×Nat)->Vd->Prop),Q' B0 s->Vk (Vi prog w) A' (jA a (f items.size) items.size ep) Q' E' s:=by
 have hz:t.place.size=es.size:=by
  unfold Tck at hf;simp only[V6,beq_iff_eq]at hf;exact hf.1
 cases hb:W3 w with
 |true=>
  have pp:=Zsa (w.params.setOrder a ep) es;have pl:(pD (w.params.setOrder a ep) es).size=es.size:=by have:=pp.length_eq;simpa using this
  have key:∀(s:Vd),bZ s.heap a es ep t->∀(i:Nat)(A':Vo)(E':Vb->Vd->Prop)(Q':Option (Vb×Nat)->Vd->Prop),Q' (((pD (w.params.setOrder a ep) es)[i]?).map λe=>(e.2,0)) s->Vk (Vi prog w) A' (jA a 0 i ep) Q' E' s:=λs x i A' E' Q' q=>by
   obtain⟨o,ho,hex,hd⟩:=x;unfold jA;refine Va (wZ ho hd hf ?_);refine Va (m:=Uek) (Va (pO (Vc ?_)));dsimp only;refine dE (λ_=>?_) (λz=>absurd hb z);refine dE (λz=>by simp at z) λ_=>?_;refine Va (m:=setWalk a) (Va (wZ ho hd hf ?_));refine Va (m:=Uek) (Va (pO (Vc ?_)));dsimp only;refine dE (λ_=>?_) (λz=>absurd hb z);exact Va (pO (Vc (Vc q)))
  refine⟨(pD (w.params.setOrder a ep) es).map (·.2),λ_=>0,rfl,by simpa using pl,by simpa using pp.map (·.2),λs x i hi A' E' Q' q=>key s x i A' E' Q' ?_,λs x A' E' Q' q=>key s x _ A' E' Q' ?_⟩
  ·have hi':i<(pD (w.params.setOrder a ep) es).size:=by simpa using hi
   rw[Xc hi'];simpa using q
  ·rw[iY g8];exact q
 |false=>
  have ld:t.led=B1:=by rw[st.ld,hb];rfl
  have key:∀(s:Vd),bZ s.heap a es ep t->∀(f i k:Nat)(A':Vo)(E':Vb->Vd->Prop)(Q':Option (Vb×Nat)->Vd->Prop),Uf t.place f=k->Q' (match es[k]?,t.place[k]? with
    |some (_,x),B3 j=>B3 (x,j+1)
    |_,_=>B0) s->Vk (Vi prog w) A' (jA a f i ep) Q' E' s:=λs x f i k A' E' Q' ek q=>by
   obtain⟨o,ho,hex,hd⟩:=x;unfold jA;refine Va (wZ ho hd hf ?_);refine Va (m:=Uek) (Va (pO (Vc ?_)));dsimp only;refine dE (λz=>absurd (hb.symm.trans z) g8) λ_=>?_;have nd:¬ ((!t.plain&&decide (es.size > 1))=B1):=by rw[st.pl];simp
   refine dE (λz=>absurd z nd) λ_=>?_;have nl:¬ ((!t.led && !es.isEmpty)=B1):=by rw[ld];simp
   refine Va (dE (λz=>absurd z nl) λ_=>Vc ?_);rw[ek];exact Vc q
  refine⟨es.map (·.2),slF t.place,rfl,by simp,by simp,λs x i hi A' E' Q' q=>?_,λs x A' E' Q' q=>?_⟩
  ·have hi1:i<es.size:=by simpa using hi
   have hi2:i<t.place.size:=by omega
   refine key s x _ i i A' E' Q' (Zwx st.up i f8) ?_;rw[Xc hi1,Xc hi2];have e:slF t.place (i+1)=t.place[i]+1:=by show t.place.getD i 0+1=_;simp[bM,hi2]
   rw[e]at q;simpa using q
  ·refine key s x _ _ es.size A' E' Q' ?_ ?_
   ·rw[Array.size_map];exact Zwx st.up _ f8
   ·rw[iY (Xd _)];exact q
end
open PySem.W (KdlSrc)
section
variable{prog:Vl}{w:Vs}{A:Vo}{E:Vb->Vd->Prop}{s:Vd}
theorem Zmc{T:String}{d:Vh}{es:Array Vb}{OK:C5->Prop}{R:List Vb->Vd->Prop}(K:KdlSrc prog w T d d es.size (λi v=>es[i]? = B3 v) OK)(hh:A.handled=B0)(x:OK s.heap)(hz:es.size<=sizeLine)
  (h:∀h' tk,(∀b o,s.heap.get? b=B3 o->h'.get? b=B3 o)->s.heap.objs.size<=h'.objs.size->R es.toList { s with heap:=h',toks:=tk }):Vk (Vi prog w) A (collect (.ref d)) R E s:=by
 have hN:(s.heap.push (Vp "list" #[] 0)).get? s.heap.objs.size=B3 (Vp "list" #[] 0):=Xi _ rfl;have dl:d<s.heap.objs.size:=(K.there _ x).1;unfold collect;refine Va (Ucl (dF Ubv (show Vk _ _ (do again (.builtin "list.__iadd__" ⟨[<- wK [],.ref d],[]⟩)) _ _ s from Va (dD (Vc ⟨xJ _ j0,dF Uda ?_⟩)))));show Vk _ _ (Uk (.ref s.heap.objs.size) (.ref d) (.ref s.heap.objs.size)) _ _ { s with heap:=s.heap.push (Vp "list" #[] 0) };rw[xK (show plainId "list.__iadd__" = B1 by decide +kernel)];have E1:Vk (Vi prog w) A.in1 (Uk (.ref s.heap.objs.size) (.ref d) (.ref s.heap.objs.size)) _ _ { s with heap:=s.heap.push (Vp "list" #[] 0) }:=Wgd (s:={ s with heap:=s.heap.push (Vp "list" #[] 0) }) (R:=λr s'=>r=.ok (.ret (.ref s.heap.objs.size))/\Vk (Vi prog w) A (load s.heap.objs.size) (λo s2=>∃xs ep,o.data=.seq xs ep/\R xs.toList s2) E s') K hh (K.keep _ _ x λb _ o e=>Xb _ e) s.heap.objs.size (Uj (Xp dl)) (Uj (Xp dl)) (.ref s.heap.objs.size) 0 hN (λh' tk c4 c k1 k2 hi=>by
  have ea:c4=es:=by
   apply Array.ext_getElem?;intro i;by_cases hl:i<es.size
   ·have la:i<c4.size:=by rw[hi.1];exact hl
    rw[Xc la];exact(hi.2 i c4[i] (Xc la)).symm
   ·rw[iY (by rw[hi.1];omega),iY f8]
  refine⟨rfl,Uei k2 ⟨c4,c,rfl,?_⟩⟩;rw[ea];exact h h' tk (λb o e=>k1 b o (Xp (Xh e)) (Xb _ e)) (iQ (Xh k2))) hz
 have fin:∀s',Vk (Vi prog w) A (load s.heap.objs.size) (λo s2=>∃xs ep,o.data=.seq xs ep/\R xs.toList s2) E s'->Vk (Vi prog w) A (do match (<- load s.heap.objs.size).data with |.seq xs _=>pure xs.toList |_=>unsupported "internal:collect") R E s':=λs' z=>by
  refine Va (Vr z (λo s2 zz=>?_) λ_ _ x=>x);obtain⟨xs,ep,e1,e2⟩:=zz;rw[e1];exact Vc e2
 refine Vr E1 (λf s' z=>?_) (λe s' z=>?_)
 ·cases f with
  |done f=>
   obtain⟨z1,z2⟩:=z;cases z1;exact fin s' z2
  |again c=>
   refine⟨z.1,eM z.2 λr s2 z=>?_⟩;obtain⟨rfl,z2⟩:=z;exact fin s2 z2
 ·cases z.1
theorem Zt5{r:Vh}{Q:Bool->Vd->Prop}(hT:s.TypeIs (.ref r) "set")(h:Q B2 s):Vk (Vi prog w) A (Tbe (.ref r)) Q E s:=by
 unfold Tbe;refine Va (Udh hT PySem.F.slot_set_len.lookup ?_);generalize hid:("set.__len__" : String)=id0
 wp_delta
 rw[show splitId id0=B3 ("set","__len__")from by subst hid;decide +kernel];subst hid;refine Va (Ucz (T := "set") (b:=B1) hT (by rw[wW];kernel_rfl) ?_);refine dE (λhab=>absurd hab g9) (λ_=>?_);refine dE (λ_=>?_) (λhab=>absurd j0 hab);exact Va (wV hT (Vc h))
theorem bZ.mv{h h':C5}{a:Vh}{es:Array (Int×Vb)}{ep:Nat}{t:eG}(x:bZ h a es ep t)(k:∀o,h.get? a=B3 o->h'.get? a=B3 o):bZ h' a es ep t:=let ⟨o,e,r⟩:=x;⟨o,k o e,r⟩
theorem Zym{a:Vh}{es:Array (Int×Vb)}{ep:Nat}{t:eG}(hf:t.fits es.size=B1)(st:V7 (W3 w) t):∃items:Array Vb,items.size=es.size/\items.toList.Perm (es.toList.map (·.2))/\KdlSrc prog w "set" a a items.size (λi v=>items[i]? = B3 v) (λh=>bZ h a es ep t):=by
 obtain⟨items,f,f0,hz,pm,hn,he⟩:=Zse (prog:=prog) (w:=w) (a:=a) (ep:=ep) hf st;refine⟨items,hz,pm,⟨λs x=>let ⟨o,e,c,_⟩:=x;⟨o,e,c.1⟩,λh x=>let ⟨o,e,_⟩:=x;⟨Xh e,Xh e⟩,λh h' x k=>x.mv λo e=>k a (.inl rfl) o e,by decide,by decide,λA E s Q x q=>Zt5 (let ⟨o,e,c,_⟩:=x;⟨o,e,c.1⟩) q,λA s hh x=>?_⟩⟩;refine⟨{ cls:=.type "set_iterator",data:=.fields #[.int 0 0,.int 0 0,.ref a,.int es.size 0,.int ep 0] },λi h=>SIt h s.heap.objs.size a (f i) i es.size ep/\bZ h a es ep t,λE Q q=>Zu0 x hf st q,?_,⟨_,Xi _ rfl,rfl,by rw[f0];rfl⟩,x.mv λo e=>Xb _ e⟩;have ne:a≠s.heap.objs.size:=by obtain⟨o,e,_⟩:=x;exact Xp (Xh e)
 refine⟨λb hb=>by simp at hb;simp[hb],λi h h' z k=>⟨let ⟨o,e,r⟩:=z.1;⟨o,k _ g8 o e,r⟩,z.2.mv λo e=>k a g8 o e⟩,λi s1 Q E hi z q=>?_,λs1 Q E z q=>?_,λi s1 Q E z q=>?_⟩
 ·refine Zuv (v:=items[i]) (g:=f (i+1)) z.2 z.1 hf (λA' E' Q' q'=>hn s1 z.2 i hi A' E' Q' q') λh' it' sb=>?_;exact q _ h' s1.toks (Xc hi) ⟨it',z.2.mv λo e=>sb.extBut a o ne e⟩ λb o hb e=>sb.extBut b o (λy=>hb (by simp[y])) e
 ·refine Zqu hh z.2 z.1 hf (λA' E' Q' q'=>?_) λh' eb=>q h' s1.toks λb o hb e=>eb b o (λy=>hb (by simp[y])) e;exact he s1 z.2 A' E' Q' q'
 ·obtain⟨o,e,c,_⟩:=z.1;have ty:s1.TypeIs (.ref s.heap.objs.size) "set_iterator" := ⟨o,e,c⟩
  refine Ucs ty Zn3 (Vt Zn3 ty Zzk ?_ (Ztb _));exact Vc ⟨_,rfl,"set_iterator",_,ty,nX.lookup,q⟩
end
nonrec def vD(P:Vl)(w:Vs)(a:Vh)(zs:List Int):HO:=.ext λh=>A6 P w (W3 w) h a zs
section
variable{X:Cx}
theorem Zqn{prog:Vl}{w:Vs}{s:Vd}{l:Vh}{vs:List Vb}{ns:List Int}(hl:s.heap.IsList l vs.toArray)(hi:Vw vs ns):∀o:Obj,∃(St:Nat->C5->Prop)(oI:Obj),(∀(A':Vo)(E':Vb->Vd->Prop)(Q':Vb->Vd->Prop),Q' (.ref (s.heap.objs.size+1)) { s with heap:=(s.heap.push o).push oI }->Vk (Vi prog w) A' (gE (.ref l)) Q' E' { s with heap:=s.heap.push o }) /\
   (∀A':Vo,A'.handled=B0->Walks prog w A' (s.heap.objs.size+1) [s.heap.objs.size+1,l] [s.heap.objs.size+1] ns.length (λi v=>vs.toArray[i]? = B3 v) St)/\St 0 ((s.heap.push o).push oI):=λo=>by
 have h1:(s.heap.push o).IsList l vs.toArray:=hl.push _;have sz:(s.heap.push o).objs.size=s.heap.objs.size+1:=Wet ..;have ne:l≠s.heap.objs.size+1:=by obtain⟨ol,e,_⟩:=hl;exact Xp (gA (Xh e))
 have ln:vs.toArray.size=ns.length:=by rw[Xk];exact hi.length
 refine⟨λi h=>h.IsListIter (s.heap.objs.size+1) l i/\h.IsList l vs.toArray,{ cls:=.type "list_iterator",data:=.fields #[.ref l,.int 0 0] },λA' E' Q' q=>?_,λA' hh=>?_,⟨_,by rw[<- sz];exact Xi _ rfl,rfl,rfl⟩,h1.push _⟩
 ·refine Ucr (s:={ s with heap:=s.heap.push o }) h1 ?_;show Q' (.ref (s.heap.push o).objs.size) _;rw[sz];exact q
 ·have W:=Walks.list (prog:=prog) (w:=w) hh (s.heap.objs.size+1) l ne vs.toArray;rw[ln]at W;exact W
theorem Zqf{prog:Vl}{w:Vs}{s:Vd}{l:Vh}{vs:List Vb}{ns:List Int}(hl:Q0 s.heap l vs.toArray)(hi:Vw vs ns):∀o:Obj,∃(St:Nat->C5->Prop)(oI:Obj),(∀(A':Vo)(E':Vb->Vd->Prop)(Q':Vb->Vd->Prop),Q' (.ref (s.heap.objs.size+1)) { s with heap:=(s.heap.push o).push oI }->Vk (Vi prog w) A' (gE (.ref l)) Q' E' { s with heap:=s.heap.push o }) /\
   (∀A':Vo,A'.handled=B0->Walks prog w A' (s.heap.objs.size+1) [s.heap.objs.size+1,l] [s.heap.objs.size+1] ns.length (λi v=>vs.toArray[i]? = B3 v) St)/\St 0 ((s.heap.push o).push oI):=λo=>by
 have mv:∀h':C5,(∀o,s.heap.get? l=B3 o->h'.get? l=B3 o)->Q0 h' l vs.toArray:=λh' k=>let ⟨ob,e,r⟩:=hl;⟨ob,k ob e,r⟩;have h1:Q0 (s.heap.push o) l vs.toArray:=mv _ λo e=>Xb _ e;have sz:(s.heap.push o).objs.size=s.heap.objs.size+1:=Wet ..;have ne:l≠s.heap.objs.size+1:=by obtain⟨ol,e,_⟩:=hl;exact Xp (gA (Xh e))
 have ln:vs.toArray.size=ns.length:=by rw[Xk];exact hi.length
 refine⟨λi h=>IsTupIter h (s.heap.objs.size+1) l i/\Q0 h l vs.toArray,{ cls:=.type "tuple_iterator",data:=.fields #[.ref l,.int 0 0] },λA' E' Q' q=>?_,λA' hh=>?_,⟨_,by rw[<- sz];exact Xi _ rfl,rfl,rfl⟩,mv _ λo e=>Xb _ (Xb _ e)⟩
 ·refine iter_tuple (s:={ s with heap:=s.heap.push o }) h1 ?_;show Q' (.ref (s.heap.push o).objs.size) _;rw[sz];exact q
 ·have W:=Zp8 (prog:=prog) (w:=w) hh (s.heap.objs.size+1) l ne vs.toArray;rw[ln]at W;exact W
theorem Ycf:pE (.type "list") (.type "set")=pure B2:=F.sub_list_set
theorem Ya7:pE (.type "list") (.type "frozenset")=pure B2:=F.sub_list_frozenset
theorem Ybd:pE (.type "tuple") (.type "set")=pure B2:=by rw[wW];kernel_rfl
theorem Ybr:pE (.type "tuple") (.type "frozenset")=pure B2:=by rw[wW];kernel_rfl
theorem Yb1:Vv "set" = B3 (.type "set"):=by decide +kernel
theorem Zql{vs:List Vb}{ns:List Int}(hi:Vw vs ns):∀(i:Nat)(v:Vb),vs.toArray[i]? = B3 v->∃x t,ns[i]? = B3 x/\v=dG x t:=λi v e=>by
 obtain⟨n,t,rfl,e2⟩:=hi.at i v (by simpa using e);exact⟨n,t,e2,rfl⟩
theorem Ztu(hc:X.calm=B1):Y1 X (.type "set") (λxs H Q=>∃p ns,xs=[.ref p]/\(G7 X.K H p (ns.map V.int)\/M4 X.K H p (ns.map V.int))/\ns.length<=4/\∀l,H l=B0->Q (.ref l) (upd H l (vD X.prog X.w l (met ns)))):=by
 intro b5 s σ H xs us Q I r h;obtain⟨p,ns,rfl,hq,h4,q⟩:=h;obtain⟨u,rfl,rx⟩:=bH r;cases rx;have fin:∀(h':C5)(tk:Nat),A6 X.prog X.w (W3 X.w) h' s.heap.objs.size (met ns)->(∀b o,s.heap.get? b=B3 o->h'.get? b=B3 o)->EP X b5 σ Q (.ref s.heap.objs.size) { s with heap:=h',toks:=tk }:=λh' tk sB kp=>
  ⟨.ref s.heap.objs.size,_,I.laid (t':=tk) (o:=vD X.prog X.w s.heap.objs.size (met ns)) kp (Xd _) ⟨sB,let ⟨o,_,_,_,e,_⟩:=sB;⟨o,e⟩,λh1 h2 z k=>z.mv k⟩,rfl,q _ (I.hok.fresh (Xd _))⟩
 rcases hq with hq |hq
 ·obtain⟨b9,ri,pl,hz⟩:=I.list hq;have hi:=oD ri;exact Zk5 (I.ok.hd hc) pl.isList.typeIs Ycf Ya7 g9 (Zqn pl.isList hi) (Zql hi) h4 fin
 ·obtain⟨b9,ri,pl,hz⟩:=I.tuple hq;have hi:=oD ri;exact Zk5 (I.ok.hd hc) pl.typeIs Ybd Ybr g9 (Zqf pl hi) (Zql hi) h4 fin
theorem Zi7(hc:X.calm=B1):Y1 X (.builtin "sorted") (λxs H Q=>∃p zs,xs=[.ref p]/\H p=B3 (vD X.prog X.w p zs)/\zs.length<=4/\∀l,H l=B0->Q (.ref l) (upd H l (.lst ((A9 zs).map V.int)))):=by
 intro b5 s σ H xs us Q I r h;obtain⟨p,zs,rfl,hH,h4,q⟩:=h;obtain⟨u,rfl,rx⟩:=bH r;cases rx;obtain⟨sB,_,_⟩:=(show N1 X.prog X.w H s.heap p (vD X.prog X.w p zs)from I.hok p _ hH)
 obtain⟨o,es,ep,t,ho,hex,hd,hel,⟨ms,hi,hp⟩,hf,st⟩:=sB;obtain⟨items,zi,pm,K⟩:=Zym (prog:=X.prog) (w:=X.w) (a:=p) (ep:=ep) hf st;have sz:sizeLine=16777216:=Vx;have lz:es.size=zs.length:=by have:=hi.length;rw[<- hp.length_eq,<- this];simp
 obtain⟨m,hn,_⟩:=I.loc;refine Tad pH pL pK (Ues _) ?_;unfold Builtin.«sorted»;refine Va (m:=pF "sorted" 1 1 _) (Vc (Va (Zmc K (show X.A.in1.handled=B0 from I.ok.hd hc) ⟨o,ho,hex,hd⟩ f8 λh1 tk k1 le=>Va (dD ?_ h9))));obtain⟨ks,hk,pk⟩:=Zn7 hi pm;have l64:items.toList.length<64:=by simp;omega
 have at2:(h1.push (Vp "list" items.toList.toArray 0)).get? h1.objs.size=B3 (Vp "list" items.toList.toArray 0):=Xi _ rfl;show Vk _ _ _ _ _ { s with heap:=h1.push (Vp "list" items.toList.toArray 0),toks:=tk };refine Va (Vq (Vt (s:={ s with heap:=h1.push (Vp "list" items.toList.toArray 0),toks:=tk }) slot_list_sort ⟨_,at2,rfl⟩ entry_list_sort (list_sort_tree at2 hk l64 λout ns' a1 a2 a3=>⟨_,rfl,?_⟩) (Udv _)));refine Vc ⟨_,rfl,?_⟩;have en:ns'=A9 zs:=Zh4 ((a2.trans (pk.trans hp)).trans (Zew zs).symm) a3 (Zug zs);subst en;obtain⟨k,hk2⟩:=sortedHeap_at (out:=out) at2;have hl:((A9 zs).map V.int).length<=sizeLine:=by rw[Xj,(Zew zs).length_eq];omega
 have up:∀b o,s.heap.get? b=B3 o->(sortedHeap (h1.push (Vp "list" items.toList.toArray 0)) h1.objs.size items.toList out).get? b=B3 o:=λb o e=>by
  have lb:b<h1.objs.size:=Xh (k1 b o e);rw[sortedHeap_old (Xp lb) (by rw[Wet];exact gA lb)];exact Xb _ (k1 b o e)
 exact⟨.ref h1.objs.size,_,I.laid (t':=tk) (o:=.lst ((A9 zs).map V.int)) up le ⟨hl,out.toList,k,Zhd a1,by simpa using hk2⟩,rfl,q _ (I.hok.fresh le)⟩
nonrec def mL(f:AF):EF:=λσ H=>(f σ H).bind λp=>match p.1 with
 |[d]=>(P6 d p.2).bind λxs=>(R0 xs).bind λns=>if ns.length<=4 then B3 (.ref p.2.length,p.2++[.lst ((A9 (met ns)).map .int)])else B0
 |_=>B0
theorem Zwn{a:Vz}{f:AF}{p p2 pos pos2:Pos}(hc:X.calm=B1)(hg:Gl X "sorted")(hm:X.mg "sorted" = B0)(hg2:Gl X "set")(hm2:X.mg "set" = B0)(ha:O2 X [a] f)
  (hs:Vg [a] X.env=(B2,eval a X.env)::Vg [] X.env:=by rfl)
  (he:Vg [Expr.Call (.Name "set" p2) [a] [] pos2] X.env=(B2,eval (Expr.Call (.Name "set" p2) [a] [] pos2) X.env)::Vg [] X.env:=by rfl)
  (h0:(K8 pos2 (Vg [] X.env)).any (·.1)=B2:=by rfl)(hpl:(K8 pos (Vg [] X.env)).any (·.1)=B2:=by rfl):D6 X (.Call (.Name "sorted" p) [.Call (.Name "set" p2) [a] [] pos2] [] pos) (mL f):=by
 refine S7 (tW (Zi7 hc) hg hm oE (fS (Zld (Ztu hc) hg2 hm2 Yb1 ha g9 g9 hs h0) nF he) g9 g9 he hpl) λσ H Q zz=>?_;obtain⟨ι,c6,Hd,d,c5,s,hr,e,q⟩:=zz;obtain⟨⟨ds,H1⟩,e1,e⟩:=Zo e;dsimp only at e;split at e
 ·rename_i d0;obtain⟨xs,e2,e⟩:=Zo e;obtain⟨ns,e3,e⟩:=Zo e;split at e
  ·rename_i h4;cases e;refine⟨ι,c6,Hd,_,_,s,hr,e1,λvs H' c7 l h P=>?_⟩;obtain⟨v,rfl,r⟩:=U0 P;obtain⟨ad,ws,rfl,hq,P3⟩:=iD h r e2;have ev:=tZ e3 P3;subst ev;have lm:(met ns).length<=4:=by have:=Zmd ns [];simp at this;unfold met;omega
   refine⟨ad,ns,rfl,hq,h4,λr hr'=>⟨r,met ns,rfl,T3,lm,λlx hl=>?_⟩⟩;have h2:=h.tup hr' (vD X.prog X.w r (met ns));have sz:sizeLine=16777216:=Vx;refine(cQ h2 (Zh1 (A9 (met ns))) (show O7 ((A9 (met ns)).map D.int) H1=B3 _ by unfold O7;rw[d7 (by rw[Xj,(Zew _).length_eq];omega)]) λv2 H2 ι2 l2 h2 r2=>q v2 H2 ι2 ((l.trans (Le.fresh hr' _)).trans l2) h2 r2).2 _ hl
  ·cases e
 ·cases e
end
end DL
namespace DL
open PySem PySem.Spec PyProof.Rows L2 PySem.W
section
variable{X:Cx}
theorem Zq2{C:Vh}{x:Str}{e:Vz}{fe:EF}{np d5 pos:Pos}(hc:X.calm=B1)(T:T7 X.K X.mg x C)(hf:O2 X.nox [e] (B5 fe C1))(hxx:X.ex=[]:=by rfl)(hg:Gl X x:=by rfl)(hdb:(x==("__debug__" : Str))=B2:=by decide)(he:Vg [e] X.env=(B2,eval e X.env)::Vg [] X.env:=by exact V3 rfl) :
  dH B2 X C B0 (.Raise (B3 (.Call (.Name x np) [e] [] d5)) B0 pos) (tK fe):=Zul hc T (Yas hf) hxx hg hdb he
end
section
variable{X:Cx}{av:Option Str}
theorem Zqg{C:Vh}{k:Nat}{ps:List Str}{F:T4}{fa:AF}{x xn xc:Str}{cV:Vb}{b₀:D2}{suite:List D2}{a:Vz}{as:List Vz}{b su:SF}{p cp ep np hp pos:Pos}
  (hb0:V2 X.nox [.Expr (.Call (.Name x p) (a::as) [] cp) ep] b)(G:Z9 X.prog X.w X.K X.mg X.base k x ps xn av F)(hE:X.mg xn=B3 (.ref C))(hr:E5 k X.A)(ha:O2 X.nox (a::as) fa)(hmc:X.mg xc=B3 cV)(hex:gD X.K (.ref C) cV=B3 B1)(hS:∀ex,V2 (Xm X ex) (b₀::suite) su)
  (hstk:X.stack=X.env::X.outer:=by rfl)(hfr:X.env.frame=B3 X.env.locals:=by rfl)(hg:Gl X x:=by rfl)(hgc:Gl X xc:=by rfl)(hdb:(x==("__debug__" : Str))=B2:=by decide)(hdc:(xc==("__debug__" : Str))=B2:=by decide)
  (he:Vg (a::as) X.env=(B2,eval a X.env)::Vg as X.env:=by exact V3 rfl)(hpl:(K8 cp (Vg as X.env)).any (·.1)=B2:=by exact cS rfl)(hs:dB (.Call (.Name x p) (a::as) [] cp) B0 ep.line X.env=pure B2:=by rfl) :
  V8 X (.Try [.Expr (.Call (.Name x p) (a::as) [] cp) ep] [.ExceptHandler (B3 (.Name xc np)) B0 (b₀::suite) hp] [] [] pos) (sH b (Q9 ps.length F fa) su):=by
 intro b5 s σ H D I z;obtain⟨f,fd,G1,hb,hk,hm⟩:=G.ex;obtain⟨ι,c6,Hd,fl,c8,c5,ss,hh,e,qq⟩:=z;unfold sH at e;split at e
 ·rename_i r e1;cases e;refine Ubu (Vr (hb0 b5 s σ H D (I.wish _) ⟨ι,c6,Hd,_,_,_,ss,hh,e1,qq⟩) (λf s1 z=>?_) λ_ _ z=>z.elim);have z:SP X b5 D f s1:=z.unwish;cases f with
  |next=>exact wY z
  |brk=>exact z
  |cont=>exact z
  |ret u=>exact z
 ·obtain⟨⟨i,H2⟩,e1,e2⟩:=Zo e;exact Ubu (Ucw (Udt (Vr (Zr6 (Q:=λ_ _=>False) hstk hfr (G1 C hE) hr hg hm hk hb ha hgc hmc hex hS hdb hdc he hpl I ⟨ι,c6,Hd,i,H2,fl,c8,c5,ss,hh,e1,e2,qq⟩) (λ_ _ z=>z.elim) λ_ _ z=>z) I.quiet hs))
theorem Zp9{iE:Nat}{nm cn:Str}{C f:Vh}{k n:Nat}{fd:X0}{ps:List Str}{F:T4}{fa:AF}{x xc:Str}{cV:Vb}{b₀:D2}{suite:List D2}{a:Vz}{as:List Vz}{su:SF}{p cp np hp:Pos}{b5:List (Vh×Obj)}{s:Vd}{σ:L2.St}{H:Hp}{D:W0}{Q:Vb->Vd->Prop}
  (hstk:X.stack=X.env::X.outer)(hfr:X.env.frame=B3 X.env.locals)
  (G:K2 X.prog X.w X.K X.mg X.base (R7 X.prog X.w) k f fd ps (gP X.K C av n F))(hr:E5 k X.A)(hg:Gl X x)(hm:X.mg x=B3 (.ref f))(hk:cW X.K (.ref f)=B1)(hb:cP X.K fd ps [])
  (ha:O2 X.nox (a::as) fa)(hgc:Gl X xc)(hmc:X.mg xc=B3 cV)(hex:gD X.K (.ref C) cV=B3 B1)
  (hS:∀ex,V2 (Xm X ex) (b₀::suite) su)(hex0:X.ex=[])(hns:W9 X.K Vn cn=B3 (B3 (.ref C)))(hN:X.N.Nodup)(hi:X.N[iE]? = B3 nm)(hloc:X.env.scope.names.lookup nm=B3 .local)
  (hdb:(x==("__debug__" : Str))=B2)(hdc:(xc==("__debug__" : Str))=B2)(he:Vg (a::as) X.env=(B2,eval a X.env)::Vg as X.env)(hpl:(K8 cp (Vg as X.env)).any (·.1)=B2)
  (I:B6 X b5 σ H s)(z:∃ι c6 Hd i H2 σ2d H3,D4 X.K H ι σ c6/\C0 X.K H ι Hd/\Q9 n F fa c6 Hd=B3 (i,H2)/\su (c6.set iE (B3 (.ref H2.length))) (H2++[.exc cn])=B3 (.nx,σ2d,H3)/\QS X.K H ι .nx (σ2d.set iE B0) H3 D) :
  Vk (Vi X.prog X.w) X.A (eval (.Call (.Name x p) (a::as) [] cp) X.env) Q (λe s1=>Vk (Vi X.prog X.w) X.A (lM e X.env) (λ_ s2=>Vk (Vi X.prog X.w) X.A (Uey e B0) (λ_ s3=>Vk (Vi X.prog X.w) X.A (handleBy e X.env [.ExceptHandler (B3 (.Name xc np)) (B3 nm) (b₀::suite) hp]) (SP X b5 D) X.xe s3) X.xe s2) X.xe s1) s:=by
 obtain⟨ι,c6,Hd,i,H2,σ2d,H3,ss,hh,e1,e4,q⟩:=z;obtain⟨⟨ds,H1⟩,e1,e⟩:=Zo e1;have hx:ds.length=n/\F ds H1=B3 (i,H2):=by
  dsimp only at e;split at e
  ·rename_i z;exact⟨z,e⟩
  ·cases e
 obtain⟨e2,e3⟩:=hx;refine pP (iI I hg hm ?_ hdb);refine Wdn (h₀:=X.base) I.ok.mod.kin hk (Vr (ha cp b5 s σ H (λvs H'=>∃c7,Le X.K H ι H' c7/\C0 X.K H' c7 H1/\Vm (Rep X.K H' c7) ds vs) (I.wish _) ⟨ι,c6,Hd,ds,H1,ss,hh,e1,λvs H' c7 l h P=>⟨c7,l,h,P⟩⟩) (λus s1 z=>?_) λ_ _ z=>z.elim) he hpl;obtain⟨vs,H1v,I1,r1,ι1,l1,h1,P1⟩:=z;have I1:B6 X b5 σ H1v s1:=I1.unwish;refine⟨I1.kIn,?_⟩;have sp:gP X.K C av n F vs H1v (λ_ _=>False) λCv dx H'=>Cv=.ref C/\∃c7,Le X.K H ι H' c7/\C0 X.K H' c7 H2:=⟨ι1,ds,H1,i,H2,e2,h1,P1,e3,λH' c7 dx l h z=>⟨rfl,c7,l1.trans l,h⟩⟩
 have hl:us.length=ps.length:=by rw[<- r1.length];exact G.len _ _ _ _ sp
 have hb1:=hb s1 us I1.kIn (by rw[Xq];exact hl);rw[Xq]at hb1;refine pG (eM (G.run X.A X.stack s1 H1v ⟨us,[]⟩ us vs _ _ hr I1.env0 hb1 r1 sp) λr s' hq=>?_);cases r with
 |ok fl'=>
  cases fl' with
  |ret u=>obtain⟨v,H',_,_,_,_,_,z⟩:=hq;exact z.elim
  |next=>exact Uh hq
  |brk=>exact Uh hq
  |cont=>exact Uh hq
 |error e=>
  obtain⟨ex,Cv,dx,H2v,rfl,⟨rfl,ι2,l2,h2⟩,os,bare,un,hok,fy⟩:=hq;obtain⟨B,fly,bo,bt⟩:=fy.fly;rw[hstk]at fly;have frA:X.A.frames=B3 (X.env::X.outer):=by rw[<- hstk];exact I1.ok.frames
  refine Zqx frA hfr fly λh4 held4 up4=>?_;refine nW (s:={ s' with heap:=h4 }) held4 λh5 fly5 up5=>?_;have ff:s'.heap.FunFrames B X.stack:=by rw[hstk];exact fly.ff
  obtain⟨un5,ok5⟩:=sV un hok bo bt fly5.st (up4.trans up5) ff;have I5:B6 X b5 σ H2v { s' with heap:=h5 }:=I1.call' (s':={ s' with heap:=h5 }) (ch:=[]) os un5 ok5 bare (λb z=>absurd z g8);have new:s1.heap.get? ex=B0:=fy.new;have exH:H2v ex=B0:=by
   cases z:H2v ex with
   |none=>rfl
   |some ho=>
    obtain⟨o,_,g⟩:=bt ex ho z;rw[fly.no]at g;cases g
  have ne:ex≠X.env.locals:=λz=>by
   obtain⟨m,⟨o,_,_,g,_⟩,_⟩:=I1.loc;rw[<- z,new]at g;cases g
  have nf:ex∉X.fs:=λz=>by
   obtain⟨_,o,g,_⟩:=I1.funs.mem z;rw[new]at g;cases g
  have nc:∀x c,X.env.cells.lookup x=B3 c->c≠ex:=λx c z y=>by
   obtain⟨v,o,g,_⟩:=I1.cell x c z;rw[y,new]at g;cases g
  have npn:∀p∈X.pn++b5,p.1≠ex:=λp hp y=>by
   have g:=(I1.pin p hp).1;rw[y,new]at g;cases g
  have new0:X.s₀.heap.get? ex=B0:=by
   cases z:X.s₀.heap.get? ex with
   |none=>rfl
   |some o=>
    obtain⟨o1,g⟩:=I1.base.there ex o z (by rw[hex0];intro y;cases y);rw[new]at g;cases g
  obtain⟨ob,wb,gob,cob,dob,_⟩:=fly5.first;have I5m:B6 (Xm X ex) b5 σ H2v { s' with heap:=h5 }:=B6.inM I5;refine Udz (Udl (iI (X:=Xm X ex) I5m hgc hmc ?_ hdc)) (by intro z;cases z);have LT:Looks (Vi X.prog X.w) h5 (lK (.ref ex)) (.ref C):=by rw[<- cob];exact(Tdo gob).andThen .now
  refine(exm_one (M:=Vi X.prog X.w) I5.kIn LT hex).here ?_;refine codeAny_handlers_suite_as ?_;refine nW (s:={ s' with heap:=h5 }) fly5 λh6 fly6 up6=>?_;obtain⟨un6,ok6⟩:=sV un hok bo bt fly6.st ((up4.trans up5).trans up6) ff;have I6:B6 X b5 σ H2v { s' with heap:=h6 }:=I1.call' (s':={ s' with heap:=h6 }) (ch:=[]) os un6 ok6 bare (λb z=>absurd z g8);obtain⟨oe,ws,goe,coe,doe,_⟩:=fly6.first;have I6t:B6 X b5 σ (upd H2v ex (.ext (A8 ex C))) { s' with heap:=h6 }:=B6.told I6 exH goe coe new0 ne nc npn;have I6m:B6 (Xm X ex) b5 σ (upd H2v ex (.ext (A8 ex C))) { s' with heap:=h6 }:=B6.inM I6t;have lx:Le X.K H2v ι2 (upd H2v ex (.ext (A8 ex C))) (ι2++[ex]):=Le.fresh1 exH _;have hx:C0 X.K (upd H2v ex (.ext (A8 ex C))) (ι2++[ex]) (H2++[.exc cn]):=h2.new exH ⟨C,hns,T3⟩;refine Zja (X:=Xm X ex) I6m hN hi (.inl hloc) (v:=.ref ex) rfl (λs7 I7=>?_) (.inr hloc);have sr:D4 X.K (upd H2v ex (.ext (A8 ex C))) (ι2++[ex]) (σ.set iE (B3 (.ref ex))) (c6.set iE (B3 (.ref H2.length))):=by
   have s2:=(ss.mono l2).mono lx;refine⟨by simp[s2.len],λj d hd=>?_⟩;by_cases hj:j=iE
   ·subst hj;by_cases hl:j<c6.length
    ·rw[wB hl]at hd;cases hd;have e0:=s2.len;exact⟨.ref ex,wB f8,N4.mpr ⟨ex,rfl,by rw[<- h2.len];simp⟩⟩
    ·rw[Wfq h9]at hd;cases hd
   ·rw[Z6 (Uj hj)]at hd ⊢;exact s2.var j d hd
  have st:=hS ex b5 s7 (σ.set iE (B3 (.ref ex))) (upd H2v ex (.ext (A8 ex C))) { nx:=λσ8 H8=>D.nx (σ8.set iE B0) H8,rt:=λ_ _=>False } I7 ⟨ι2++[ex],_,_,.nx,σ2d,H3,sr,hx,e4,λσ8 H8 ι8 l8 h8 s8=>?_⟩
  ·refine Vr st (λf s8 z=>?_) λ_ _ z=>z.elim;cases f with
   |next=>
    obtain⟨σ8,H8,I8,z⟩:=z;exact Zxv (B6.outM I1.ok I8) hN hi hloc λs9 I9=>⟨_,_,I9,z⟩
   |ret u=>obtain⟨v,σ8,H8,I8,r,z⟩:=z;exact z.elim
   |brk=>obtain⟨σ8,H8,I8,z⟩:=z;exact z.elim
   |cont=>obtain⟨σ8,H8,I8,z⟩:=z;exact z.elim
  ·exact q (σ8.set iE B0) H8 ι8 ((l2.trans lx).trans l8) h8 (Zsb s8 _)
nonrec def yX(xn:Str)(y:E7):XTs:=λσ H=>(y σ H).map λp=>(xn,p.2)
theorem Zup{iE:Nat}{C:Vh}{k:Nat}{ps:List Str}{F:T4}{fa:AF}{x xn xc nm:Str}{cV:Vb}{b₀:D2}{suite:List D2}{a:Vz}{as:List Vz}{b su:SF}{p cp ep np hp pos:Pos}
  (hb0:V2 X.nox [.Expr (.Call (.Name x p) (a::as) [] cp) ep] b)(G:Z9 X.prog X.w X.K X.mg X.base k x ps xn av F)(hE:X.mg xn=B3 (.ref C))(hns:W9 X.K Vn xn=B3 (B3 (.ref C)))(hr:E5 k X.A)(ha:O2 X.nox (a::as) fa)(hmc:X.mg xc=B3 cV)(hex:gD X.K (.ref C) cV=B3 B1)(hN:X.N.Nodup)(hi:X.N[iE]? = B3 nm)(hloc:X.env.scope.names.lookup nm=B3 .local)(hS:∀ex,V2 (Xm X ex) (b₀::suite) su)
  (hstk:X.stack=X.env::X.outer:=by rfl)(hfr:X.env.frame=B3 X.env.locals:=by rfl)(hex0:X.ex=[]:=by rfl)(hg:Gl X x:=by rfl)(hgc:Gl X xc:=by rfl)(hdb:(x==("__debug__" : Str))=B2:=by decide)(hdc:(xc==("__debug__" : Str))=B2:=by decide)
  (he:Vg (a::as) X.env=(B2,eval a X.env)::Vg as X.env:=by exact V3 rfl)(hpl:(K8 cp (Vg as X.env)).any (·.1)=B2:=by exact cS rfl)(hs:dB (.Call (.Name x p) (a::as) [] cp) B0 ep.line X.env=pure B2:=by rfl) :
  V8 X (.Try [.Expr (.Call (.Name x p) (a::as) [] cp) ep] [.ExceptHandler (B3 (.Name xc np)) (B3 nm) (b₀::suite) hp] [] [] pos) (sL iE b (yX xn (Q9 ps.length F fa)) su):=by
 intro b5 s σ H D I z;obtain⟨f,fd,G1,hb,hk,hm⟩:=G.ex;obtain⟨ι,c6,Hd,fl,c8,c5,ss,hr',e,qq⟩:=z;unfold sL at e;split at e
 ·rename_i r e1;cases e;refine Ubu (Vr (hb0 b5 s σ H D (I.wish _) ⟨ι,c6,Hd,_,_,_,ss,hr',e1,qq⟩) (λf s1 z=>?_) λ_ _ z=>z.elim);have z:SP X b5 D f s1:=z.unwish;cases f with
  |next=>exact wY z
  |brk=>exact z
  |cont=>exact z
  |ret u=>exact z
 ·obtain⟨⟨cn,H2⟩,e1,e0⟩:=Zo e;clear e;obtain⟨⟨i,H2'⟩,e6,e5⟩:=Zm e1;cases e5;dsimp only at e0;split at e0
  ·obtain⟨⟨fl2,σ2,H3⟩,e2,e3⟩:=Zo e0;clear e0;cases fl2 with
   |nx=>
    cases e3;exact Ubu (Ucw (Udt (Vr (Zp9 (Q:=λ_ _=>False) hstk hfr (G1 C hE) hr hg hm hk hb ha hgc hmc hex hS hex0 hns hN hi hloc hdb hdc he hpl I ⟨ι,c6,Hd,i,_,σ2,H3,ss,hr',e6,e2,qq⟩) (λ_ _ z=>z.elim) λ_ _ z=>z) I.quiet hs))
   |bk=>cases e3
   |ct=>cases e3
   |rt d=>cases e3
  ·cases e0
end
end DL
namespace DL
open PySem PySem.Spec PyProof.Rows L2
theorem Yax{K:Xa}{mg:Str->Option Vb}{x:Str}{C:Vh}(h:∃C,T7 K mg x C)(hE:mg x=B3 (.ref C)):T7 K mg x C:=by
 obtain⟨C',T⟩:=h;have e:=T.bound;rw[hE]at e;cases e;exact T
nonrec def fO(a b:List Int×Nat):Bool:=decide (a.1.length<b.1.length)||(decide (a.1.length=b.1.length)&&decide (a.2<=b.2))
theorem oA{a b:List Int×Nat}:fO a b=B1 ↔ a.1.length<b.1.length\/(a.1.length=b.1.length/\a.2<=b.2):=by unfold fO;simp
nonrec def X8(nss:List j5):List j5:=(nss.zipIdx.mergeSort fO).map (·.1)
theorem Zry(a:List j5):(X8 a).Perm a:=by
 have:=(oX a.zipIdx fO).map (·.1)
 rwa [show a.zipIdx.map (·.1)=a by simp]at this
theorem Znb(a:List (List Int×Nat)):(a.mergeSort fO).Pairwise λa b=>fO a b=B1 :=
 wD (le:=fO) (λa b c h1 h2=>by rw[oA]at *;omega) (λa b=>by rw[Wei,oA,oA];omega) a
theorem Ztl(a:List j5):(X8 a).Pairwise λa b=>a.length<=b.length:=by
 unfold X8;rw[lG];exact(Znb _).imp λh=>by rw[oA]at h;omega
theorem Zpi{xs:List (List Int×Nat)}{nss:List (List Int)}(h:xs.Pairwise λa b=>fO a b=B1)(p:xs.Perm nss.zipIdx):xs.map (·.1)=X8 nss:=by
 unfold X8
 congr 1
 refine Y3.eq_of_pairwise (le:=λa b=>fO a b=B1) (λa b ha hb h1 h2=>?_) h (Znb _) (p.trans (oX _ _).symm);have ha:=p.mem_iff.mp ha;have hb:=(oX _ _).mem_iff.mp hb;rw[oA]at h1 h2;have e:a.2=b.2:=by omega
 obtain⟨_,_,e1⟩:=Whe ha;obtain⟨_,_,e2⟩:=Whe hb;refine Prod.ext ?_ e;rw[e1,e2];simp only[e]
nonrec def tP:FF:=λds H=>match ds with
 |[d]=>(P6 d H).bind λxs=>(fM xs).bind λnss=>if xs.length<=1000000/\nss.Nodup/\∀ns∈nss,ns.length<=1000000 then B3 (.ref H.length,H++[.lst ((X8 nss).map W4)])else B0
 |_=>B0
open Classical in
nonrec def V0(vs:List Vb)(v:Vb):Nat:=vs.findIdx λu=>decide (u=v)
theorem Zrs{vs:List Vb}(h:vs.Nodup){i:Nat}(hi:i<vs.length):V0 vs vs[i]=i:=by
 unfold V0;rw[List.findIdx_eq hi];refine⟨by simp,λj hj=>?_⟩;have:=iZ.mp h j i f8 hi hj;simpa using this
nonrec def gQ(vs:List Vb)(x y:Ve):Bool:=decide (Ua x.1<Ua y.1)||(decide (Ua x.1=Ua y.1)&&decide (V0 vs x.2<V0 vs y.2))
nonrec def mK(x y:Ve):Bool:=decide (Ua x.1<Ua y.1)
theorem Ztc{vs:List Vb}{x y:Ve}:gQ vs x y=B1 ↔ Ua x.1<Ua y.1\/(Ua x.1=Ua y.1/\V0 vs x.2<V0 vs y.2):=by unfold gQ;simp
theorem Zyx{vs:List Vb}{x y:Ve}:gQ vs x y=B2 ↔ ¬ (Ua x.1<Ua y.1\/(Ua x.1=Ua y.1/\V0 vs x.2<V0 vs y.2)):=by rw[<- Ztc,Wfk]
theorem Zyo{prog:Vl}{w:Vs}{A:Vo}{s:Vd}(vs:List Vb):M6 (Vi prog w) A s oneType' (λx=>∃i t,x.1=.int i t) (λx y=>V0 vs y.2<V0 vs x.2) mK (gQ vs):=by
 refine⟨λx y Q E⟨i,t,hx⟩⟨j,u,hy⟩q=>?_,λx y h=>?_,λx y z h k=>?_,λx y h=>?_,λx y h=>?_,λx y z h k=>?_,λx y h=>?_⟩
 ·rw[hx,hy];refine PySem.W.kat_lt_int ?_;unfold mK at q;rw[hx,hy]at q;exact q
 ·rw[oQ,Ztc];unfold mK;rw[decide_eq_true_eq];omega
 ·unfold mK at *;rw[decide_eq_false_iff_not]at *;omega
 ·unfold mK at *;rw[decide_eq_true_eq]at h;rw[decide_eq_false_iff_not];omega
 ·unfold mK at h;rw[decide_eq_true_eq]at h;rw[Ztc];exact .inl h
 ·rw[Zyx]at *;omega
 ·rw[Ztc]at h;rw[Zyx];omega
theorem Zx8{h:C5}{vs:List Vb}{nss:List (List Int)}{keys:Array Vb}{arr:Array Ve}(hv:Vm (J5 h) vs nss)(hn:vs.Nodup)(hk:Vw keys.toList (nss.map λr=>(r.length:Int)))(so:arr.toList.Pairwise (D1 (gQ vs)))(pm:arr.toList.Perm (keys.toList.zip vs)):(arr.toList.map (·.2)).map (J3 h)=X8 nss:=by
 have ln:=Prd.len hv;have lk:keys.toList.length=vs.length:=by have:=hk.length;rw[Xj]at this;omega
 have lz:(keys.toList.zip vs).length=vs.length:=by rw[Wfr,lk,Nat.min_self]
 have nn:∀i(h1:i<keys.toList.length)(h2:i<nss.length),Ua keys.toList[i]=(nss[i].length:Int):=λi h1 h2=>by
  have e:=hk.nums;have e1:(keys.toList.map Ua)[i]? = (nss.map λr=>(r.length:Int))[i]? := by rw[e]
  rw[Xy,Xy,bS h1,bS h2]at e1;simpa using e1
 have rr:∀i(h1:i<vs.length)(h2:i<nss.length),J3 h vs[i]=nss[i]:=λi h1 h2=>by
  have e:=Zgy hv λv ns z=>I0 z;have e1:(vs.map (J3 h))[i]? = nss[i]? := by rw[e]
  rw[Xy,bS h1,bS h2]at e1;simpa using e1
 have ez:(keys.toList.zip vs).map (λx=>(J3 h x.2,V0 vs x.2))=nss.zipIdx:=by
  refine List.ext_getElem (by rw[Xj,lz,List.length_zipIdx];omega) λi h1 h2=>?_;rw[Xj,lz]at h1;rw[List.getElem_map,Wee,List.getElem_zipIdx];show (J3 h vs[i],V0 vs vs[i])=_;rw[rr i h1 f8,Zrs hn h1,vL]
 have num:∀x∈arr.toList,Ua x.1=((J3 h x.2).length:Int):=λx hx=>by
  obtain⟨i,hi,rfl⟩:=Xz.mp (pm.mem_iff.mp hx);rw[lz]at hi;rw[Wee];show Ua keys.toList[i]=((J3 h vs[i]).length:Int)
  rw[nn i f8 f8,rr i hi f8]
 rw[K7];have:=Zpi (xs:=arr.toList.map λx=>(J3 h x.2,V0 vs x.2)) ?_ (by rw[<- ez];exact pm.map _)
 ·rw[<- this,K7];rfl
 ·rw[lG];refine(Wdu.mpr λ{x y}sb=>?_);have hs:=Wdu.mp so sb;have hx:=num x (sb.subset g8);have hy:=num y (sb.subset g8);have hs:gQ vs y x=B2:=hs;rw[Zyx,hx,hy]at hs;rw[oA];show (J3 h x.2).length<(J3 h y.2).length\/((J3 h x.2).length=(J3 h y.2).length/\V0 vs x.2<=V0 vs y.2);omega
section
variable{prog:Vl}{w:Vs}{A:Vo}{E:Vb->Vd->Prop}{s:Vd}
theorem Zw6{F:Vb->List Int->Prop}:∀{vs:List Vb}{nss:List (List Int)},Vm F vs nss->∀(i:Nat)(v:Vb),vs[i]? = B3 v->∃ns,nss[i]? = B3 ns/\F v ns
 |_,_,.nil,i,v,h=>by simp at h
 |_,_,.cons h t,0,v,e=>by simp at e;subst e;exact⟨_,rfl,h⟩
 |_,_,.cons h t,i+1,v,e=>by simpa using Zw6 t i v (by simpa using e)
theorem Zvf{a:Vh}{vs:List Vb}{nss:List (List Int)}{n:Nat}{P:PySem.Fin->Vd->Prop}(g0:s.heap.get? a=B3 (Vp "list" vs.toArray n))(hl:vs.length<=1000000)(hz:∀ns∈nss,ns.length<=1000000)(hv:Vm (J5 s.heap) vs nss)(hn:vs.Nodup)
  (q:∀h' tk c(out:List Vb),out.Perm vs->out.map (J3 s.heap)=X8 nss->(∀b o,b≠a->s.heap.get? b=B3 o->h'.get? b=B3 o)->h'.get? a=B3 (Vp "list" out.toArray c)->P (.done (.ret .none)) { s with heap:=h',toks:=tk }):Vk (Vi prog w) A (Builtin.«list.sort» ⟨[.ref a],[(Ue "key",.builtin "len")]⟩) P E s:=by
 have sz:sizeLine=16777216:=Vx;have ln:=Prd.len hv;have t1:=R5.update s.heap a (Ud λ_=>(#[]:Array Vb));obtain⟨c1,g1⟩:∃c,(s.heap.update a (Ud λ_=>(#[]:Array Vb))).get? a=B3 (Vp "list" #[] c):=⟨_,pN g0 λ_=> #[]⟩
 have ta:∀b b9,Q0 s.heap b b9->b≠a:=λb b9⟨o,e1,e2,n,e3⟩z=>by
  subst z;rw[g0]at e1;cases e1;exact absurd (show Ul "list" = Ul "tuple" from e2) g9
 generalize hS:((s.heap.update a (Ud λ_=>(#[]:Array Vb))).push (Vp "tuple" vs.toArray 0)).objs.size=kS;have hlt:∀b o,s.heap.get? b=B3 o->b≠kS:=λb o e z=>by
  have:=Xh e;rw[<- hS,Uej,Wec]at z;exact Xp (gA this) z
 rw[ksk_t4];unfold ksk_tree;refine Va (pJ g0 rfl (Va (lR g0 rfl (Va (Uec g1 rfl (Va (wpAny_newTuple (Va (dD (Vq ?_) (R4 _))) (show vs.length<=_ by omega))))) (by rw[Xk];omega) (R4 _))));show Vk (Vi prog w) A (ksk_rest a (.builtin "len") B2 vs.toArray c1 (.ref (((s.heap.update a (Ud λ_=>(#[]:Array Vb))).push (Vp "tuple" vs.toArray 0)).objs.size))) P E { s with heap:=((s.heap.update a (Ud λ_=>(#[]:Array Vb))).push (Vp "tuple" vs.toArray 0)).push (Vp "list" #[] 0) };rw[hS];unfold ksk_rest;refine Va (eI ?_);rw[List.forIn_toArray];refine Va (ksk_fold (λi s'=>∃h' tk kA e,s'={ s with heap:=h',toks:=tk }/\(∀b o,b≠a->s.heap.get? b=B3 o->h'.get? b=B3 o)/\h'.get? a=B3 (Vp "list" #[] c1)/\h'.get? kS=B3 (Vp "list" kA e)/\Vw kA.toList ((nss.take i).map λr=>(r.length:Int))) vs 0 _
  ⟨_,s.toks,#[],0,rfl,λb o hb e=>Xb _ (Xb _ (t1.extBut b o hb e)),Xb _ (Xb _ g1),by rw[<- hS];exact Xi _ rfl,by simpa using IntsAre.nil⟩ ?step ?done)
 case step=>
  rintro j x _ hx ⟨h',tk,kA,e,rfl,k1,k2,k3,hk⟩;simp only[vL]at hk ⊢;have hj:j<vs.length:=(Xg.mp hx).1;obtain⟨ns,en,b,b9,rfl,ht,hi⟩:=Zw6 hv j x hx;have hzn:=hz ns (dZ en);have ht':Q0 h' b b9:=by
   obtain⟨o,e1,e2⟩:=id ht;exact⟨o,k1 b o (ta b b9 ht) e1,e2⟩
  have d4:b9.size=ns.length:=by rw[<- Xw];exact hi.length
  have hkz:kA.size<=vs.length:=by
   have:=hk.length;rw[Xw,Xj,Z5]at this;omega
  refine Va (jH (len_tuple (s:={ s with heap:=h',toks:=tk }) ht' f8 ?_));dsimp only;refine Va (lR (f:=(·.push (dG (↑b9.size) (tk+1)))) k3 rfl ?_ f8 (N2 (Wgo (Array.size_push ..)) f8));have s1:=R5.update h' kS (Ud (·.push (dG (↑b9.size) (tk+1))));have nka:a≠kS:=hlt a _ g0;refine Vc ⟨rfl,_,_,kA.push (dG (↑b9.size) (tk+1)),_,rfl,λb o hb e=>s1.extBut b o (hlt b o e) (k1 b o hb e),s1.extBut a _ nka k2,pN k3 (·.push (dG (↑b9.size) (tk+1))),?_⟩;have e2:(nss.take (j+1)).map (λr=>(r.length:Int))=(nss.take j).map (λr=>(r.length:Int))++[(ns.length:Int)]:=by rw[Wfd,en];simp
  have e3:(kA.push (dG (↑b9.size) (tk+1))).toList=kA.toList++[dG (↑b9.size) (tk+1)]:=by simp
  rw[e2,e3,d4];exact ksk_snoc hk
 case done=>
  rintro _ ⟨h',tk,kA,e,rfl,k1,k2,k3,hk⟩;have hk:Vw kA.toList (nss.map λr=>(r.length:Int)):=by
   rw[vL,iX f8]at hk;exact hk
  have nka:a≠kS:=hlt a _ g0;have hks:kA.size=vs.length:=by
   have:=hk.length;rw[Xw,Xj]at this;omega
  have ezl:(kA.zip vs.toArray).toList=kA.toList.zip vs:=by simp
  have fin:∀st:F7,wP st=B0->(S5 st).toList.Pairwise (D1 (gQ vs))->(S5 st).toList.Perm (kA.toList.zip vs)->Vk (Vi prog w) A (ksk_tail a B2 c1 (.ref kS) st) P E { s with heap:=h',toks:=tk }:=λst ef so pm=>by
   have p2:((S5 st).toList.map (·.2)).Perm vs:=by
    have:=pm.map (·.2)
    rwa [Wgz (Wgo (by rw[<- hks];exact Xw.symm))]at this
   have ll:=p2.length_eq;have el:(S5 st).map (·.2)=((S5 st).toList.map (·.2)).toArray:=by apply Wha.mp;simp
   have s1:=R5.update h' kS (Ud λ_=>(#[]:Array Vb));have g2:=s1.extBut a _ nka k2;have s2:=R5.update (h'.update kS (Ud λ_=>(#[]:Array Vb))) a (Ud λ_=>((S5 st).toList.map (·.2)).toArray);unfold ksk_tail;dsimp only;rw[el,ef];refine Va (lR k3 rfl ?_ f8 (R4 _));refine Va (wpAny_letGo (Va (Uec g2 rfl (Va (lR (f:=λ_=>((S5 st).toList.map (·.2)).toArray) g2 rfl ?_ (R4 _) (by rw[Xk,ll];omega))))));show Vk _ _ (if (c1 != c1)=B1 then _ else _) _ _ _;rw[d9 g8];exact Vc (q _ _ _ _ p2 (Zx8 hv hn hk so pm) (λb o hb e=>s2.extBut b o hb (s1.extBut b o (hlt b o e) (k1 b o hb e))) (pN g2 λ_=>((S5 st).toList.map (·.2)).toArray))
  refine Va (pJ k3 rfl ?_);unfold ksk_end;dsimp only;rw[d9 g8];by_cases few:vs.toArray.size<2
  ·rw[d7 few,d7 few];refine Va (Vc (Va (Vc ?_)));dsimp only;refine fin _ rfl ?_ (by rw[<- ezl];exact Y3.refl _);have l2:(kA.zip vs.toArray).toList.length<2:=by rw[ezl,Wfr];simp at few;omega
   show (kA.zip vs.toArray).toList.Pairwise _;generalize (kA.zip vs.toArray).toList=l at l2
   match l,l2 with
   |[],_=>exact .nil
   |[_],_=>exact Wfh ..
   |_::_::_,h=>simp at h;omega
  ·rw[d9 few,d9 few,ksk_kind hk (by simp at few;omega)];refine Va (Vc ?_);refine Va (Vr (Zq5 (E:=E) (Zyo vs) (a:=kA.zip vs.toArray) (g:=7) (Q:=λ_ st=>wP st=B0/\(S5 st).toList.Pairwise (D1 (gQ vs))/\(S5 st).toList.Perm (kA.toList.zip vs)) (λx hx=>?_) ?_ λa' p' g' h1 h2=>⟨rfl,h1,by rw[<- ezl];exact h2⟩) ?_ λ_ _ e=>e)
   ·rw[ezl]at hx;exact hk.all _ (vR (a:=x.1) (b:=x.2) hx).1
   ·rw[ezl,iZ];intro i j hi hj hij;rw[Wfr]at hi hj;rw[Wee,Wee];show V0 vs vs[i]<V0 vs vs[j];rw[Zrs hn f8,Zrs hn f8];exact hij
   ·rintro⟨⟨⟩,st⟩ s' ⟨rfl,e1,e2,e3⟩;exact fin st e1 e2 e3
end
section
variable{prog:Vl}{w:Vs}{A:Vo}{E:Vb->Vd->Prop}{s:Vd}
theorem Zop{l L:Vh}{m:Str->Option Vb}{vs:List Vb}{nss:List (List Int)}{Q:Vb->Vd->Prop}(hn:s.heap.Ns L m)
  (hcol:∀R:List Vb->Vd->Prop,R vs { s with heap:=(s.heap.push (Vp "list" #[] 0)).update s.heap.objs.size (Ud (· ++ vs.toArray)) }->Vk (Vi prog w) A.in1 (collect (.ref l)) R E s)
  (hv:Vm (J5 s.heap) vs nss)(hz:vs.length<=1000000)(hz2:∀ns∈nss,ns.length<=1000000)(hd:vs.Nodup)
  (h:∀h' tk D c(out:List Vb),out.Perm vs->out.map (J3 s.heap)=X8 nss->h'.Ns L m->(∀b o,b≠L->s.heap.get? b=B3 o->h'.get? b=B3 o)->s.heap.objs.size<=D->h'.get? D=B3 (Vp "list" out.toArray c)->Q (.ref D) { s with heap:=h',toks:=tk }) :
  Vk (Vi prog w) A (call (.builtin "sorted") [.ref l] [(Ue "key",.builtin "len")]) Q E s:=by
 have sz:sizeLine=16777216:=Vx;have lt:=hn.lt;refine Ubj pH pL pK (ksk_s1 _ _) ?_;unfold Builtin.«sorted»;refine Va (m:=pF "sorted" 1 1 _) (Vc (Va (hcol _ (Va (dD ?_ f8)))));have k1:∀b o,s.heap.get? b=B3 o->((s.heap.push (Vp "list" #[] 0)).update s.heap.objs.size (Ud (· ++ vs.toArray))).get? b=B3 o:=λb o q=>by
  rw[Wek _ _ _ _ (Xp (Xh q))];exact Xb _ q
 have le:s.heap.objs.size<=((s.heap.push (Vp "list" #[] 0)).update s.heap.objs.size (Ud (· ++ vs.toArray))).objs.size:=iQ (Wge (Web _) ((Wec ..).trans (Uej ..)).symm);generalize (s.heap.push (Vp "list" #[] 0)).update s.heap.objs.size (Ud (· ++ vs.toArray))=h1 at *
 let h2:C5:=h1.push (Vp "list" vs.toArray 0)
 have at2:h2.get? h1.objs.size=B3 (Vp "list" vs.toArray 0):=Xi _ rfl;have kp:∀b o,s.heap.get? b=B3 o->h2.get? b=B3 o:=λb o e=>Xb _ (k1 b o e);have ltD:∀b o,s.heap.get? b=B3 o->b≠h1.objs.size:=λb o e=>Xp (Xo (Xh e) le);have LD:h1.objs.size≠L:=Uj (Xp (Xo lt le));have up:∀v ns,J5 s.heap v ns->J5 h2 v ns:=λv ns z=>z.mv λa b9 _ _ o e=>kp a o e;show Vk _ _ _ _ _ { s with heap:=h2 };refine Va (Vq (Ucd (s:={ s with heap:=h2 }) slot_list_sort ⟨_,at2,rfl⟩ entry_list_sort ?body (ksk_l1 _ _)))
 case body=>
  refine Zvf (s:={ s with heap:=h2 }) (nss:=nss) at2 f8 hz2 (Prd.imp hv λv ns _ z=>up v ns z) hd λh' tk c out p1 p2 k' g'=>⟨_,rfl,Vc ⟨_,rfl,h h' tk _ c out p1 ?_ (hn.at' λo e=>k' _ _ (Uj LD) (kp _ _ e)) (λb o _ e=>k' b o (ltD b o e) (kp b o e)) le g'⟩⟩
  rw[<- p2];refine iV λv hv'=>?_;obtain⟨ns,z⟩:=Zsk hv v (p1.mem_iff.mp hv');rw[I0 z];exact(I0 (up v ns z)).symm
end
theorem Zpe{X:Cx}{a:Vz}{f:AF}{p p2 kp pos:Pos}(hg:Gl X "sorted")(hm:X.mg "sorted" = B0)(hg2:Gl X "len")(hm2:X.mg "len" = B0)(hu:X.A.units+64<cLine)(ha:O2 X [a] f)(hs:Vg [a] X.env=[(B2,eval a X.env)]:=by rfl) :
  D6 X (.Call (.Name "sorted" p) [a] [⟨B3 "key",.Name "len" p2,kp⟩] pos) (E9 tP f):=by
 rintro b5 s σ H Q I ⟨ι,c6,Hd,d,c5,sr,hr,e,q⟩;obtain⟨⟨ds,H1⟩,e1,e⟩:=Zo e;dsimp only at e;unfold tP at e;split at e
 ·rename_i d0;obtain⟨ys,e2,e⟩:=Zo e;obtain⟨nss,e3,e⟩:=Zo e;split at e
  ·rename_i hc;show Vk _ _ (do callWith pos (<- eval (.Name "sorted" p) X.env) [] (K8 pos (Vg [a] X.env)) (pC pos (pI [⟨B3 "key",.Name "len" p2,kp⟩] X.env))) _ _ _;refine Va (dR I hg hm oE (Ubw (by rw[hs];rfl) rfl ?_));have hA:=ha pos b5 s σ H (λvs H'=>∃c7,Le X.K H ι H' c7/\C0 X.K H' c7 H1/\Vm (Rep X.K H' c7) [d0] vs) I ⟨ι,c6,Hd,_,_,sr,hr,e1,λvs H' c7 l h P=>⟨c7,l,h,P⟩⟩;rw[hs]at hA ⊢;refine Ueo rfl (D7 hA λus s1⟨vs,H2,I2,r2,ι2,l2,h2,P2⟩=>kws_cons (dR I2 hg2 hm2 Znl (kws_nil ?_)));obtain⟨v,rfl,r⟩:=U0 P2;obtain⟨u,rfl,ru⟩:=bH r2;obtain⟨ad,ws,rfl,hq,P3⟩:=iD h2 r e2;cases ru;obtain⟨bs,rfl⟩:=Zhr e3 P3;have lb:bs.length=ys.length:=by have:=Prd.len P3;simpa using this.symm
   show Vk _ _ (call (.builtin "sorted") [.ref ad] [(Ue "key",.builtin "len")]) _ _ _;obtain⟨m,hn,_⟩:=I2.loc;have hits:∀R:List Vb->Vd->Prop,R (bs.map Uc) { s1 with heap:=(s1.heap.push (Vp "list" #[] 0)).update s1.heap.objs.size (Ud (· ++ (bs.map Uc).toArray)) }->Vk (Vi X.prog X.w) X.A.in1 (collect (.ref ad)) R X.xe s1:=by
    rcases hq with hq |hq
    ·obtain⟨b9,ri,pl,hz⟩:=I2.list hq;have:=uA ri;subst this;exactλR hR=>Uep pl.isList hR (by rw[<- ri.length];exact hz)
    ·obtain⟨b9,ri,pl,hz⟩:=I2.tuple hq;have:=uA ri;subst this;exactλR hR=>Ze8 pl (by rw[<- ri.length];exact hz) hR
   have hv:=Zfg I2 e3 P3;have hp:=Zfr I2 e3 P3;have nd:(bs.map Uc).Nodup:=by
    have em:=Zgy hv λv ns z=>I0 z;have hm:((bs.map Uc).map (J3 s1.heap)).Nodup:=by rw[em];exact hc.2.1
    exact(lG.mp hm).imp λhne e=>hne (by rw[e])
   refine Zop hn hits hv (by rw[Xj];omega) hc.2.2 nd λh' tk Da c out p1 eo2 hn' kk hD hat=>?_;obtain⟨as,rfl,hin⟩:=Zly p1;have la:as.length=ys.length:=by
    have:=p1.length_eq;simp only[Xj]at this;omega
   have PS:Vm (Rep X.K H2 ι2) ((X8 nss).map W4) (as.map V.ref):=by
    rw[<- eo2,K7,K7];refine Zmn λb hb=>?_;obtain⟨ns,t1,t2⟩:=hp b (hin b hb);show Rep X.K H2 ι2 (W4 (J3 s1.heap (.ref b))) (.ref b);rw[I0 t1];exact t2
   have sz:sizeLine=16777216:=Vx;have va:D5 (as.map V.ref) (as.map Uc):=by
    clear hat PS la eo2 hin p1
    induction as with
    |nil=>exact .nil
    |cons b r ih=>exact .cons rfl ih
   have hl:(as.map V.ref).length<=sizeLine:=by rw[Xj];omega
   refine⟨.ref Da,_,uB (o:=.lst (as.map V.ref)) I2 kk (λm' hm'=>by rw[hm'.eq_nsMap,<- hn.eq_nsMap];exact hn') hD ⟨hl,as.map Uc,c,va,hat⟩,rfl,?_⟩;have hz2:((X8 nss).map W4).length<=sizeLine:=by rw[Prd.len PS,Xj];omega
   exact(cQ h2 PS (show O7 ((X8 nss).map W4) H1=B3 (d,c5)by unfold O7;rw[d7 hz2,e]) (λv H' c7 l h r=>q v H' c7 (l2.trans l) h r)).2 _ (I2.hok.fresh hD)
  ·cases e
 ·cases e
end DL
namespace DL
open PySem L2
theorem nN{n:Nat}(h:n<=1000000):n<=sizeLine:=by rw[Uy];omega
theorem Zke{xs:List D}{i:Int}{d:D}(h0:0<=i)(h:xs[i.toNat]? = B3 d):M0 xs i=B3 d:=by
 have:i=(i.toNat:Int):=by omega
 rw[this];exact Zi8 h
end DL
namespace LH
open PySem L2 DL
structure B7(S:List Nat)(H H':HD):Prop where
 old:∀m o,m∉S->H[m]? = B3 o->H'[m]? = B3 o
 len:H.length<=H'.length
theorem B7.trans{S:List Nat}{H H1 H2:HD}(a:B7 S H H1)(b:B7 S H1 H2):B7 S H H2:=⟨λm o h q=>b.old m o h (a.old m o h q),N2 a.len b.len⟩
theorem B7.refl{S:List Nat}{H:HD}:B7 S H H:=⟨λ_ _ _ q=>q,Xd _⟩
theorem B7.set{S:List Nat}{H:HD}{p:Nat}{o:DO}(h:p∈S):B7 S H (H.set p o):=⟨λm u hm q=>by rw[Z6 (λz=>hm (by rw[<- z];exact h))];exact q,by simp⟩
nonrec def C8(l:Int):Int:=if l<0 then -l else l
nonrec def Up(m:Int):Int->List Int->Prop
 |_,[]=>True
 |last,l::r=>last<C8 l/\C8 l<=m/\Up m (C8 l) r
theorem Ya3{m:Int}:∀(ls:List Int)(last:Int),(ls.map C8).Pairwise (· < ·)->(∀x∈ls.map C8,last<x/\x<=m)->Up m last ls
 |[],_,_,_=>trivial
 |l::r,last,p,h=>by
  rw[Xx,dX]at p;have h1:=h (C8 l) g8;exact⟨h1.1,h1.2,Ya3 r (C8 l) p.2 λx hx=>⟨p.1 x hx,(h x (by rw[Xx];exact Xv _ hx)).2⟩⟩
theorem Zr8(ns:List Int):R0 (ns.map .int)=B3 ns:=by
 induction ns with
 |nil=>rfl
 |cons n r ih=>simp[R0,ih]
def bK(d:D):Prop:=d=.str "all" \/ d=.str "some"
theorem Zpo(H:HD)(n:Nat)(i:Int):toP H n (.int i)=B3 (.int i):=by cases n<;>rw[toP]
theorem Ybc(H:HD)(n:Nat)(b:Bool):toP H n (.bl b)=B3 (.bool b):=by cases n<;>rw[toP]
theorem Zxp(H:HD)(i:Int):dat (.int i) H=B3 (.int i):=by
 simp[dat,Zpo,rN,xG,xE]
theorem Ycb(i j:Int)(H:HD):eqD (.int i) (.int j) H=B3 (.bl (i==j),H):=by
 simp[eqD,fL,Zxp,Ub]
theorem Zmi(H:HD)(n:Nat)(x:Str):toP H n (.str x)=B3 (.str x):=by cases n<;>rw[toP]
theorem Zov{x:Str}(h:(x.cps.toList.all λc=>decide (c<0x110000))=B1):Tcr x=B1:=by
 unfold Tcr;rw[<- Array.all_toList];exact h
theorem Ycl(xs:List D)(k:Nat):O0 xs (B3 (k:Int)) B0=xs.drop k:=by
 unfold O0;have h1:HT.sIx xs.length 0 (B3 (k:Int))=min k xs.length:=by
  show (if (k:Int)<0 then ((k:Int)+(xs.length:Int)).toNat else min (k:Int).toNat xs.length)=min k xs.length;rw[d9 f8,bO]
 have h2:HT.sIx xs.length xs.length B0=xs.length:=rfl;rw[h1,h2];by_cases h:k<=xs.length
 ·rw[vQ h];exact iX g8
 ·rw[Wgt f8,vY (Xd _),vY f8];simp
theorem Yab(xs:List D)(k:Nat):O0 xs B0 (B3 (k:Int))=xs.take k:=by
 unfold O0;have h1:HT.sIx xs.length 0 B0=0:=rfl;have h2:HT.sIx xs.length xs.length (B3 (k:Int))=min k xs.length:=by
  show (if (k:Int)<0 then ((k:Int)+(xs.length:Int)).toNat else min (k:Int).toNat xs.length)=min k xs.length;rw[d9 f8,bO]
 rw[h1,h2];simp
theorem ac{f:EF}{g:AF}{σ:SD}{H H1 H2:HD}{d:D}{ds:List D}(h1:f σ H=B3 (d,H1))(h2:g σ H1=B3 (ds,H2)):B5 f g σ H=B3 (d::ds,H2):=by
 unfold B5;rw[h1];simp only[Zb];rw[h2];rfl
theorem cb{g:FF}{f:AF}{σ:SD}{H H1:HD}{ds:List D}{r:Option (D×HD)}(h1:f σ H=B3 (ds,H1))(h2:g ds H1=r):E9 g f σ H=r:=by
 unfold E9;rw[h1];exact h2
theorem tu{n:Nat}{xs:List D}{H:HD}(h:H[n]? = B3 (.lst xs)):W7 [.ref n] H=B3 (.tup xs,H):=by
 simp[W7,P6,h]
theorem tp{f:AF}{σ:SD}{H H1:HD}{ds:List D}(h1:f σ H=B3 (ds,H1))(h2:ds.length<=1000000):G4 f σ H=B3 (.tup ds,H1):=by
 unfold G4;rw[h1];exact d7 (nN h2)
theorem ls{f:AF}{σ:SD}{H H1:HD}{ds:List D}(h1:f σ H=B3 (ds,H1))(h2:ds.length<=1000000):N3 f σ H=B3 (.ref H1.length,H1++[.lst ds]):=by
 unfold N3;rw[h1];exact d7 (nN h2)
theorem ca{n:Nat}{F:FF}{f:AF}{σ:SD}{H H1:HD}{ds:List D}{r:Option (D×HD)}(h1:f σ H=B3 (ds,H1))(hl:ds.length=n)(h2:F ds H1=r):D8 n F f σ H=r:=by
 unfold D8;rw[h1];simp only[Zb];rw[d7 hl];exact h2
theorem rt{f:EF}{σ:SD}{H H1:HD}{d:D}(h:f σ H=B3 (d,H1)):G5 f σ H=B3 (.rt d,σ,H1):=by
 unfold G5;rw[h];rfl
theorem op{g:F2}{fa fb:EF}{σ:SD}{H H1 H2:HD}{d1 d2:D}{r:Option (D×HD)}(h1:fa σ H=B3 (d1,H1))(h2:fb σ H1=B3 (d2,H2))(h3:g d1 d2 H2=r):B8 g fa fb σ H=r:=by
 unfold B8;rw[h1];simp only[Zb];rw[h2];exact h3
theorem Zu5{t:TF}{f g:SF}{σ:SD}{H H1:HD}{b:Bool}(h:t σ H=B3 (b,H1)):F4 t f g σ H=if b=B1 then f σ H1 else g σ H1:=by
 unfold F4;rw[h];rfl
theorem tof{f:EF}{σ:SD}{H H1:HD}{b:Bool}(h:f σ H=B3 (.bl b,H1)):E8 f σ H=B3 (b,H1):=by
 unfold E8;rw[h];rfl
theorem lenT(xs:List D)(H:HD):Q7 [.tup xs] H=B3 (.int xs.length,H):=by simp[Q7,P6]
theorem ixT{xs:List D}{i:Int}{d:D}{H:HD}(h:M0 xs i=B3 d):ixD (.tup xs) (.int i) H=B3 (d,H):=by simp[ixD,P6,h]
theorem sl{fe:EF}{fl fh:OF}{σ:SD}{H H1 H2 H3:HD}{d:D}{l h:Option Int}{r:Option (D×HD)}(h1:fe σ H=B3 (d,H1))(h2:fl σ H1=B3 (l,H2))(h3:fh σ H2=B3 (h,H3))(h4:W1 d l h H3=r):Q5 fe fl fh σ H=r:=by
 unfold Q5;rw[h1];simp only[Zb];rw[h2];simp only[Zb];rw[h3];exact h4
theorem os{f:EF}{σ:SD}{H H1:HD}{i:Int}(h:f σ H=B3 (.int i,H1)):R1 f σ H=B3 (B3 i,H1):=by
 unfold R1;rw[h];rfl
theorem slhi{xs:List D}{k:Nat}{H:HD}:W1 (.tup xs) B0 (B3 (k:Int)) H=B3 (.tup (xs.take k),H):=by
 rw[<- Yab];rfl
theorem adT{xs ys:List D}{H:HD}(h:xs.length+ys.length<=1000000):G0 (.tup xs) (.tup ys) H=B3 (.tup (xs++ys),H) :=
 d7 (nN (by rw[Y4];exact h))
theorem suI(i j:Int)(H:HD):A5 (.int i) (.int j) H=B3 (.int (i-j),H):=by simp[A5,T8,CT]
theorem muT{xs:List D}{k:Int}{H:HD}(h1 : -1000<=k)(h2:k<=1000)(h3:xs.length<=1000):V1 (.tup xs) (.int k) H=B3 (.tup (Xl k.toNat xs).flatten,H):=by
 have b:xs.length*k.toNat<=1000*1000:=Nat.mul_le_mul h3 f8;have sz:sizeLine=16777216:=Uy;have c : -(2 ^ 63)<=k/\k<2 ^ 63/\xs.length*k.toNat<=sizeLine:=⟨by omega,by omega,by omega⟩
 have l:(Xl k.toNat xs).flatten.length<=sizeLine:=by
  rw[List.length_flatten,Wgf,List.sum_replicate_nat,vN];omega
 show (if -(2 ^ 63)<=k/\k<2 ^ 63/\xs.length*k.toNat<=sizeLine then cE (Xl k.toNat xs).flatten H else B0)=_;rw[d7 c];exact d7 l
theorem B7.app{S:List Nat}{H:HD}(L:HD):B7 S H (H++L):=⟨λm o _ q=>by
 have:m<H.length:=(Xg.mp q).1;rw[Xs this];exact q,by simp⟩
theorem B7.weak{p:Nat}{H H1 H':HD}(e0:B7 [] H H1)(e:B7 [p] H1 H')(hp:H.length<=p):B7 [] H H':=⟨λm o _ q=>by
 have:m<H.length:=(Xg.mp q).1;exact e.old m o h9 (e0.old m o g8 q),N2 e0.len e.len⟩
nonrec def C2(ls:List Int):D:=.tup (ls.map .int)
theorem orF{t u:TF}{σ:SD}{H H1:HD}(h:t σ H=B3 (B2,H1)):kH t u σ H=u σ H1:=by unfold kH;rw[h];rfl
theorem orT{t u:TF}{σ:SD}{H H1:HD}(h:t σ H=B3 (B1,H1)):kH t u σ H=B3 (B1,H1):=by unfold kH;rw[h];rfl
theorem anF{t u:TF}{σ:SD}{H H1:HD}(h:t σ H=B3 (B2,H1)):dM t u σ H=B3 (B2,H1):=by unfold dM;rw[h];rfl
theorem anT{t u:TF}{σ:SD}{H H1:HD}(h:t σ H=B3 (B1,H1)):dM t u σ H=u σ H1:=by unfold dM;rw[h];rfl
end LH
namespace WP
open PySem L2 DL LH
def wE(r:Option (D×HD))(Q:D->HD->Prop):Prop:=∃d H,r=B3 (d,H)/\Q d H
def wT(r:Option (Bool×HD))(Q:Bool->HD->Prop):Prop:=∃d H,r=B3 (d,H)/\Q d H
def wA(r:Option (List D×HD))(Q:List D->HD->Prop):Prop:=∃d H,r=B3 (d,H)/\Q d H
def wO(r:Option (Option Int×HD))(Q:Option Int->HD->Prop):Prop:=∃d H,r=B3 (d,H)/\Q d H
def wI(r:Option ((List D×O4)×HD))(Q:List D->O4->HD->Prop):Prop:=∃d o H,r=B3 ((d,o),H)/\Q d o H
def wG(r:Option (SD×HD))(Q:SD->HD->Prop):Prop:=∃d H,r=B3 (d,H)/\Q d H
def wH(r:Option HD)(Q:HD->Prop):Prop:=∃H,r=B3 H/\Q H
def wS(r:Option (FD×SD×HD))(Q:FD->SD->HD->Prop):Prop:=∃x d H,r=B3 (x,d,H)/\Q x d H
def wN(n:Nat)(F:FF)(ds:List D)(H:HD)(Q:D->HD->Prop):Prop:=ds.length=n/\wE (F ds H) Q
def br(b:Bool)(P Q:Prop):Prop:=(b=B1->P)/\(b=B2->Q)
nonrec def gW(k:SD->HD->Prop)(Q:FD->SD->HD->Prop):FD->SD->HD->Prop
 |.nx,σ,H=>k σ H
 |r,σ,H=>Q r σ H
nonrec def fin(Q:D->HD->Prop):FD->SD->HD->Prop
 |.rt d,_,H=>Q d H
 |.nx,_,H=>Q .non H
 |_,_,_=>False
section
variable{σ:SD}{H:HD}{Q:D->HD->Prop}
theorem w_var{i:Nat}{d:D}(h:(σ[i]?).join=B3 d)(q:Q d H):wE (B4 i σ H) Q:=⟨d,H,by unfold B4;rw[h];rfl,q⟩
theorem w_c{d:D}(q:Q d H):wE (eC d σ H) Q:=⟨d,H,rfl,q⟩
theorem w_op{g:F2}{fa fb:EF}(h:wE (fa σ H) λx H1=>wE (fb σ H1) λy H2=>wE (g x y H2) Q):wE (B8 g fa fb σ H) Q:=by
 obtain⟨x,H1,e1,y,H2,e2,d,H3,e3,q⟩:=h;exact⟨d,H3,op e1 e2 e3,q⟩
theorem w_un{g:D->HD->Option (D×HD)}{fa:EF}(h:wE (fa σ H) λx H1=>wE (g x H1) Q):wE (F8 g fa σ H) Q:=by
 obtain⟨x,H1,e1,d,H3,e3,q⟩:=h;exact⟨d,H3,by unfold F8;rw[e1];exact e3,q⟩
theorem w_tof{f:EF}{Q:Bool->HD->Prop}(h:wE (f σ H) λd H1=>∃b,d=.bl b/\Q b H1):wT (E8 f σ H) Q:=by
 obtain⟨d,H1,e,b,rfl,q⟩:=h;exact⟨b,H1,tof e,q⟩
theorem w_bl{b:Bool}{P:Bool->Prop}(h:P b):∃c,D.bl b=.bl c/\P c:=⟨b,rfl,h⟩
theorem w_ttru{f:EF}{Q:Bool->HD->Prop}(h:wE (f σ H) λd H1=>∃b,dP d H1=B3 b/\Q b H1):wT (cJ f σ H) Q:=by
 obtain⟨d,H1,e,b,e2,q⟩:=h;exact⟨b,H1,by unfold cJ;rw[e];simp only[Zb];rw[e2];rfl,q⟩
theorem w_no{t:TF}{Q:Bool->HD->Prop}(h:wT (t σ H) λb H1=>Q (!b) H1):wT (gO t σ H) Q:=by
 obtain⟨b,H1,e,q⟩:=h;exact⟨!b,H1,by unfold gO;rw[e];rfl,q⟩
theorem w_an{t u:TF}{Q:Bool->HD->Prop}(h:wT (t σ H) λb H1=>br b (wT (u σ H1) Q) (Q B2 H1)):wT (dM t u σ H) Q:=by
 obtain⟨b,H1,e,q1,q2⟩:=h;cases b with
 |true=>obtain⟨c,H2,e2,q⟩:=q1 rfl;exact⟨c,H2,(anT e).trans e2,q⟩
 |false=>exact⟨B2,H1,anF e,q2 rfl⟩
theorem w_or{t u:TF}{Q:Bool->HD->Prop}(h:wT (t σ H) λb H1=>br b (Q B1 H1) (wT (u σ H1) Q)):wT (kH t u σ H) Q:=by
 obtain⟨b,H1,e,q1,q2⟩:=h;cases b with
 |true=>exact⟨B1,H1,orT e,q1 rfl⟩
 |false=>obtain⟨c,H2,e2,q⟩:=q2 rfl;exact⟨c,H2,(orF e).trans e2,q⟩
theorem w_ean{f g:EF}(h:wE (f σ H) λd H1=>∃b,d=.bl b/\br b (wE (g σ H1) Q) (Q (.bl B2) H1)):wE (eAn f g σ H) Q:=by
 obtain⟨d,H1,e,b,rfl,q1,q2⟩:=h;unfold eAn;rw[e];simp only[Zb,sE];cases b with
 |true=>rw[d7 rfl];exact q1 rfl
 |false=>rw[d9 g8];exact⟨_,_,rfl,q2 rfl⟩
theorem w_eif{t:TF}{f g:EF}(h:wT (t σ H) λb H1=>br b (wE (f σ H1) Q) (wE (g σ H1) Q)):wE (mM t f g σ H) Q:=by
 obtain⟨b,H1,e,q1,q2⟩:=h;unfold mM;rw[e];simp only[Zb];cases b with
 |true=>rw[d7 rfl];exact q1 rfl
 |false=>rw[d9 g8];exact q2 rfl
theorem w_anil{Q:List D->HD->Prop}(q:Q [] H):wA (C1 σ H) Q:=⟨[],H,rfl,q⟩
theorem w_acons{f:EF}{g:AF}{Q:List D->HD->Prop}(h:wE (f σ H) λd H1=>wA (g σ H1) λds H2=>Q (d::ds) H2):wA (B5 f g σ H) Q:=by
 obtain⟨d,H1,e1,ds,H2,e2,q⟩:=h;exact⟨d::ds,H2,ac e1 e2,q⟩
theorem w_cb{g:FF}{f:AF}(h:wA (f σ H) λds H1=>wE (g ds H1) Q):wE (E9 g f σ H) Q:=by
 obtain⟨ds,H1,e1,d,H2,e2,q⟩:=h;exact⟨d,H2,cb e1 e2,q⟩
theorem w_call{n:Nat}{F:FF}{f:AF}(h:wA (f σ H) λds H1=>wN n F ds H1 Q):wE (D8 n F f σ H) Q:=by
 obtain⟨ds,H1,e1,hl,d,H2,e2,q⟩:=h;exact⟨d,H2,ca e1 hl e2,q⟩
theorem w_n{n:Nat}{F:FF}{ds:List D}(hl:ds.length=n)(h:wE (F ds H) Q):wN n F ds H Q:=⟨hl,h⟩
theorem w_tup{f:AF}(h:wA (f σ H) λds H1=>ds.length<=1000000/\Q (.tup ds) H1):wE (G4 f σ H) Q:=by
 obtain⟨ds,H1,e1,hl,q⟩:=h;exact⟨_,H1,tp e1 hl,q⟩
theorem w_lst{f:AF}(h:wA (f σ H) λds H1=>ds.length<=1000000/\Q (.ref H1.length) (H1++[.lst ds])):wE (N3 f σ H) Q:=by
 obtain⟨ds,H1,e1,hl,q⟩:=h;exact⟨_,_,ls e1 hl,q⟩
theorem w_lm{g:D->List D->HD->Option (D×HD)}{fo:EF}{f:AF}(h:wE (fo σ H) λo H1=>cM o H1=B1/\wA (f σ H1) λds H2=>wE (g o ds H2) Q):wE (bE g fo f σ H) Q:=by
 obtain⟨o,H1,e1,i,ds,H2,e2,d,H3,e3,q⟩:=h;exact⟨d,H3,by unfold bE;rw[e1];simp only[Zb];rw[d7 i,e2];exact e3,q⟩
theorem w_dn(q:Q (.ref H.length) (H++[.dic [] B2])):wE (eDN σ H) Q:=⟨_,_,rfl,q⟩
theorem w_on{Q:Option Int->HD->Prop}(q:Q B0 H):wO (T1 σ H) Q:=⟨B0,H,rfl,q⟩
theorem w_os{f:EF}{Q:Option Int->HD->Prop}(h:wE (f σ H) λd H1=>∃i,d=.int i/\Q (B3 i) H1):wO (R1 f σ H) Q:=by
 obtain⟨d,H1,e,i,rfl,q⟩:=h;exact⟨B3 i,H1,os e,q⟩
theorem w_int{i:Int}{P:Int->Prop}(h:P i):∃c,D.int i=.int c/\P c:=⟨i,rfl,h⟩
theorem w_sl{fe:EF}{fl fh:OF}(h:wE (fe σ H) λx H1=>wO (fl σ H1) λl H2=>wO (fh σ H2) λu H3=>wE (W1 x l u H3) Q):wE (Q5 fe fl fh σ H) Q:=by
 obtain⟨x,H1,e1,l,H2,e2,u,H3,e3,d,H4,e4,q⟩:=h;exact⟨d,H4,sl e1 e2 e3 e4,q⟩
variable{R:FD->SD->HD->Prop}
theorem w_snil(q:R .nx σ H):wS (C4 σ H) R:=⟨_,_,_,rfl,q⟩
theorem w_seq{f g:SF}(h:wS (f σ H) (gW (λσ1 H1=>wS (g σ1 H1) R) R)):wS (B9 f g σ H) R:=by
 obtain⟨x,σ1,H1,e,k⟩:=h;unfold B9;rw[e];simp only[Zb];cases x with
 |nx=>exact k
 |bk=>exact⟨_,_,_,rfl,k⟩
 |ct=>exact⟨_,_,_,rfl,k⟩
 |rt d=>exact⟨_,_,_,rfl,k⟩
theorem w_kn{k:SD->HD->Prop}(h:k σ H):gW k R .nx σ H:=h
theorem w_kr{k:SD->HD->Prop}{d:D}(h:R (.rt d) σ H):gW k R (.rt d) σ H:=h
theorem cO{r:Option (FD×SD×HD)}{k:SD->HD->Prop}(J:SD->HD->Prop)(h:wS r λx σ H=>x=.nx/\J σ H)(q:∀σ H,J σ H->k σ H):wS r (gW k R):=by
 obtain⟨x,s,H,e,rfl,j⟩:=h;exact⟨_,s,H,e,q s H j⟩
theorem w_fr{d:D}(h:Q d H):fin Q (.rt d) σ H:=h
theorem w_fn(h:Q .non H):fin Q .nx σ H:=h
theorem w_ret{f:EF}(h:wE (f σ H) λd H1=>R (.rt d) σ H1):wS (G5 f σ H) R:=by
 obtain⟨d,H1,e,q⟩:=h;exact⟨_,_,_,rt e,q⟩
theorem w_expr{f:EF}(h:wE (f σ H) λd H1=>R .nx σ H1):wS (N7 f σ H) R:=by
 obtain⟨d,H1,e,q⟩:=h;exact⟨_,_,_,by unfold N7;rw[e];rfl,q⟩
theorem w_if{t:TF}{f g:SF}(h:wT (t σ H) λb H1=>br b (wS (f σ H1) R) (wS (g σ H1) R)):wS (F4 t f g σ H) R:=by
 obtain⟨b,H1,e,q1,q2⟩:=h;rw[Zu5 e];cases b with
 |true=>rw[d7 rfl];exact q1 rfl
 |false=>rw[d9 g8];exact q2 rfl
theorem w_set{i:Nat}{f:EF}(h:wE (f σ H) λd H1=>R .nx (σ.set i (B3 d)) H1):wS (D3 i f σ H) R:=by
 obtain⟨d,H1,e,q⟩:=h;exact⟨_,_,_,by unfold D3;rw[e];rfl,q⟩
theorem w_asg{f:EF}{g:GF}(h:wE (f σ H) λd H1=>wG (g d σ H1) λσ2 H2=>R .nx σ2 H2):wS (Y9 f g σ H) R:=by
 obtain⟨d,H1,e,σ2,H2,e2,q⟩:=h;exact⟨_,_,_,by unfold Y9;rw[e];simp only[Zb];rw[e2];rfl,q⟩
theorem w_gnm{i:Nat}{d:D}{Q:SD->HD->Prop}(h:Q (σ.set i (B3 d)) H):wG (F6 i d σ H) Q:=⟨_,_,rfl,h⟩
theorem w_gsb{fo fi:EF}{g:kG}{d:D}{Q:SD->HD->Prop}(h:wE (fo σ H) λo H1=>wE (fi σ H1) λi H2=>wH (g o i d H2) λH3=>Q σ H3):wG (cF fo fi g d σ H) Q:=by
 obtain⟨o,H1,e1,i,H2,e2,H3,e3,q⟩:=h;exact⟨σ,H3,by unfold cF;rw[e1];simp only[Zb];rw[e2];simp only[Zb];rw[e3];rfl,q⟩
theorem w_gtp{n:Nat}{g:GFs}{ds:List D}{Q:SD->HD->Prop}(hl:ds.length=n)(h:wG (g ds σ H) Q):wG (fD n g (.tup ds) σ H) Q:=by
 obtain⟨s,H1,e,q⟩:=h;exact⟨s,H1,by unfold fD;simp only[d7 hl];exact e,q⟩
theorem w_gnl{Q:SD->HD->Prop}(h:Q σ H):wG (gNl [] σ H) Q:=⟨_,_,rfl,h⟩
theorem w_gcn{g:GF}{h:GFs}{d:D}{r:List D}{Q:SD->HD->Prop}(q:wG (g d σ H) λσ1 H1=>wG (h r σ1 H1) Q):wG (cG g h (d::r) σ H) Q:=by
 obtain⟨s,H1,e,s2,H2,e2,q⟩:=q;exact⟨s2,H2,by unfold cG;simp only;rw[e];exact e2,q⟩
theorem w_for{it:ItF}{g:GF}{b:SF}(h:wI (it σ H) λxs own H1=>wS (N6 own g b xs σ H1) R):wS (K4 it g b σ H) R:=by
 obtain⟨xs,own,H1,e,q⟩:=h;unfold K4;rw[e];exact q
theorem P7{n N:Nat}{b:SF}{ds:List D}(hl:ds.length=n)(h:wS (b (ds.map B3++Xl (N-ds.length) B0) H) (fin Q)):wE (F1 n N b ds H) Q:=by
 obtain⟨x,s,H1,e,q⟩:=h;unfold F1;rw[d7 hl,e];simp only[Zb];cases x with
 |nx=>exact⟨_,_,rfl,q⟩
 |rt d=>exact⟨_,_,rfl,q⟩
 |bk=>exact q.elim
 |ct=>exact q.elim
theorem w_lc{it:ItF}{ci:List Nat}{tt:TF}{te:EF}(h:wI (it σ H) λxs own H1=>wA (W5 own (mT ci σ) tt te xs H1) λds H2=>ds.length<=1000000/\Q (.ref H2.length) (H2++[.lst ds])):wE (W2 it ci tt te σ H) Q:=by
 obtain⟨xs,own,H1,e,ds,H2,e2,hl,q⟩:=h;exact⟨_,_,by unfold W2;rw[e];simp only[Zb];rw[e2];exact d7 (nN hl),q⟩
theorem w_bt{P S:Prop}(h:P):br B1 P S:=⟨λ_=>h,nofun⟩
theorem w_bf{P S:Prop}(h:S):br B2 P S:=⟨nofun,λ_=>h⟩
theorem w_bnf{P S:Prop}(h:S):br (!B1) P S:=⟨nofun,λ_=>h⟩
theorem w_sz{ds:List D}{P:Prop}(h:ds.length<=1000000)(q:P):ds.length<=1000000/\P:=⟨h,q⟩
theorem w_addI{i j:Int}(q:Q (.int (i+j)) H):wE (G0 (.int i) (.int j) H) Q:=⟨_,_,rfl,q⟩
theorem w_addT{a b:List D}(h:a.length+b.length<=1000000)(q:Q (.tup (a++b)) H):wE (G0 (.tup a) (.tup b) H) Q:=⟨_,_,adT h,q⟩
theorem w_subI{i j:Int}(q:Q (.int (i-j)) H):wE (A5 (.int i) (.int j) H) Q:=⟨_,_,suI i j H,q⟩
theorem w_lt{i j:Int}(q:Q (.bl (decide (i<j))) H):wE (ltD (.int i) (.int j) H) Q:=⟨_,_,by simp[ltD,T8,CT],q⟩
theorem w_gt{i j:Int}(q:Q (.bl (decide (j<i))) H):wE (gtD (.int i) (.int j) H) Q:=⟨_,_,by simp[gtD,T8,CT],q⟩
theorem w_ge{i j:Int}(q:Q (.bl (decide (j<=i))) H):wE (geD (.int i) (.int j) H) Q:=⟨_,_,by simp[geD,T8,CT],q⟩
theorem w_mod{i j:Int}(h:0<j)(q:Q (.int (i % j)) H):wE (J2 (.int i) (.int j) H) Q:=⟨_,_,by have c:vC i j:=h;simp[J2,T8,c],q⟩
theorem w_fdiv{i j:Int}(h:0<j)(h2:j<1073741824)(q:Q (.int (i / j)) H):wE (bI (.int i) (.int j) H) Q:=⟨_,_,by have c:vB i j:=⟨h,h2⟩;simp[bI,T8,c],q⟩
theorem w_mulL{i j:Int}(h1 : -(2 ^ 64)<i)(h2:i<2 ^ 64)(q:Q (.int (i*j)) H):wE (V1 (.int i) (.int j) H) Q:=⟨_,_,by have c:gT i j:=.inl ⟨h1,h2⟩;simp[V1,c],q⟩
theorem w_mulR{i j:Int}(h1 : -(2 ^ 64)<j)(h2:j<2 ^ 64)(q:Q (.int (i*j)) H):wE (V1 (.int i) (.int j) H) Q:=⟨_,_,by have c:gT i j:=.inr ⟨h1,h2⟩;simp[V1,c],q⟩
theorem Zy2{i j:Int}(h1:0<=j)(h2:j<=1000000)(h3:i.natAbs<2 ^ 64)(q:Q (.int (i ^ j.toNat)) H):wE (mQ (.int i) (.int j) H) Q:=⟨_,_,by have c:vF i j:=⟨h1,h2,h3⟩;simp[mQ,T8,c],q⟩
theorem w_neg{i:Int}(q:Q (.int (-i)) H):wE (F9 (.int i) H) Q:=⟨_,_,rfl,q⟩
theorem w_eqI{i j:Int}(q:Q (.bl (i==j)) H):wE (eqD (.int i) (.int j) H) Q:=⟨_,_,Ycb _ _ _,q⟩
theorem w_lenT{xs:List D}(q:Q (.int xs.length) H):wE (Q7 [.tup xs] H) Q:=⟨_,_,lenT xs H,q⟩
theorem w_lenR{n:Nat}{xs:List D}(h:H[n]? = B3 (.lst xs))(q:Q (.int xs.length) H):wE (Q7 [.ref n] H) Q:=⟨_,_,by simp[Q7,P6,h],q⟩
theorem w_lenF{xs:List D}(q:Q (.int xs.length) H):wE (Q7 [.fl xs] H) Q:=⟨_,_,by simp[Q7,P6],q⟩
theorem w_abs{i:Int}(q:Q (.int (C8 i)) H):wE (mS [.int i] H) Q:=⟨_,_,rfl,q⟩
theorem w_ixT{xs:List D}{i:Int}{d:D}(h:M0 xs i=B3 d)(q:Q d H):wE (ixD (.tup xs) (.int i) H) Q:=⟨_,_,ixT h,q⟩
theorem w_ixR{n:Nat}{xs:List D}{i:Int}{d:D}(g:H[n]? = B3 (.lst xs))(h:M0 xs i=B3 d)(q:Q d H):wE (ixD (.ref n) (.int i) H) Q:=⟨_,_,by simp[ixD,P6,g,h],q⟩
theorem pW{xs:List D}{i:Int}{d:D}(h:M0 xs i=B3 d)(q:Q d H):wE (ixD (.fl xs) (.int i) H) Q:=⟨_,_,by simp[ixD,P6,h],q⟩
theorem w_intB{b:Bool}(q:Q (.int (if b then 1 else 0)) H):wE (intD [.bl b] H) Q:=⟨_,_,rfl,q⟩
theorem w_max{i j:Int}(q:Q (.int (if j > i then j else i)) H):wE (kF [.int i,.int j] H) Q:=⟨_,_,rfl,q⟩
theorem w_min{i j:Int}(q:Q (.int (if j<i then j else i)) H):wE (minD [.int i,.int j] H) Q:=⟨_,_,rfl,q⟩
theorem w_tupR{n:Nat}{xs:List D}(h:H[n]? = B3 (.lst xs))(q:Q (.tup xs) H):wE (W7 [.ref n] H) Q:=⟨_,_,tu h,q⟩
theorem fN{n:Nat}{xs:List D}{d:D}(h:H[n]? = B3 (.lst xs))(hl:xs.length<1000000)(q:Q .non (H.set n (.lst (xs++[d])))):wE (L3 (.ref n) [d] H) Q :=
 ⟨_,_,by simp[L3,h,Xo hl (nN (Xd _))],q⟩
theorem w_isnN{d:D}{b:Bool}(h:rX d .non=B3 b)(q:Q (.bl (!b)) H):wE (cH d .non H) Q:=⟨_,_,by simp[cH,h],q⟩
theorem Zwb{n:Nat}{b8:List (D×D)}{fz:Bool}(h:H[n]? = B3 (.dic b8 fz))(q:Q (.int b8.length) H):wE (mW [.ref n] H) Q:=⟨_,_,by simp[mW,mP,h],q⟩
theorem qA{n:Nat}{b8:List (D×D)}{fz:Bool}{k:D}{ks:List Int}(h:H[n]? = B3 (.dic b8 fz))(hk:nk k=B3 ks)(q:Q (.bl (cN b8 ks).isSome) H):wE (vH k (.ref n) H) Q:=⟨_,_,by simp[vH,mP,h,hk],q⟩
theorem w_truB{b:Bool}{P:Bool->Prop}(h:P b):∃c,dP (.bl b) H=B3 c/\P c:=⟨b,rfl,h⟩
theorem w_slhi{xs:List D}{k:Nat}(q:Q (.tup (xs.take k)) H):wE (W1 (.tup xs) B0 (B3 (k:Int)) H) Q:=⟨_,_,slhi,q⟩
variable{I:List D->O4->HD->Prop}
theorem w_isq{f:EF}(h:wE (f σ H) λd H1=>∃xs own,kO d H1=B3 (xs,own)/\I xs own H1):wI (K9 f σ H) I:=by
 obtain⟨d,H1,e,xs,own,e2,q⟩:=h;exact⟨xs,own,H1,by unfold K9;rw[e];simp only[Zb];rw[e2];rfl,q⟩
theorem w_itT{xs:List D}{P:List D->O4->Prop}(h:P xs []):∃ys own,kO (.tup xs) H=B3 (ys,own)/\P ys own:=⟨_,_,rfl,h⟩
theorem w_itR{n:Nat}{xs:List D}{P:List D->O4->Prop}(g:H[n]? = B3 (.lst xs))(h:P xs [(n,.lst xs)]):∃ys own,kO (.ref n) H=B3 (ys,own)/\P ys own:=⟨_,_,by simp[kO,g],h⟩
theorem w_ir1{f:AF}(h:wA (f σ H) λds H1=>∃j,ds=[.int j]/\Zn4 j/\I (K6 0 j.toNat) [] H1):wI (fB f σ H) I:=by
 obtain⟨ds,H1,e,j,rfl,s,q⟩:=h;exact⟨_,_,H1,by unfold fB;rw[e];exact d7 s,q⟩
theorem w_idic{f:EF}(h:wE (f σ H) λd H1=>∃n b8 fz,d=.ref n/\H1[n]? = B3 (.dic b8 fz)/\I (b8.map (·.1)) [(n,.dic b8 B1)] (H1.set n (.dic b8 B1))):wI (fK f σ H) I:=by
 obtain⟨d,H1,e,n,b8,fz,rfl,g,q⟩:=h;exact⟨_,_,_,by unfold fK;rw[e];simp only[Zb,g],q⟩
theorem Zsn{own:O4}{g:GF}{b:SF}(h:O8 own H)(q:R .nx σ H):wS (N6 own g b [] σ H) R:=⟨_,_,_,by rw[N6,d7 h],q⟩
nonrec def again(k:SD->HD->Prop)(R:FD->SD->HD->Prop):FD->SD->HD->Prop
 |.nx,σ,H=>k σ H
 |.ct,σ,H=>k σ H
 |.bk,σ,H=>R .nx σ H
 |.rt d,σ,H=>R (.rt d) σ H
theorem Zl5{own:O4}{g:GF}{b:SF}{x:D}{r:List D}(h:O8 own H)(q:wG (g x σ H) λσ1 H1=>wS (b σ1 H1) (again (λσ2 H2=>wS (N6 own g b r σ2 H2) R) R)):wS (N6 own g b (x::r) σ H) R:=by
 obtain⟨σ1,H1,e1,y,σ2,H2,e2,q⟩:=q;rw[N6,d7 h,e1];simp only[Zb];rw[e2];cases y with
 |nx=>exact q
 |ct=>exact q
 |bk=>exact⟨_,_,_,rfl,q⟩
 |rt d=>exact⟨_,_,_,rfl,q⟩
theorem w_agn{k:SD->HD->Prop}(h:k σ H):again k R .nx σ H:=h
theorem w_agr{k:SD->HD->Prop}{d:D}(h:R (.rt d) σ H):again k R (.rt d) σ H:=h
theorem T2{own:O4}{g:GF}{b:SF}(B6:List D->List D->SD->HD->Prop)(ho:∀d t σ H,B6 d t σ H->O8 own H)
  (st:∀d x t σ H,B6 d (x::t) σ H->wG (g x σ H) λσ1 H1=>wS (b σ1 H1) (again (λσ2 H2=>B6 (d++[x]) t σ2 H2) R))
  (q:∀d σ H,B6 d [] σ H->R .nx σ H):∀(t d:List D)(σ:SD)(H:HD),B6 d t σ H->wS (N6 own g b t σ H) R
 |[],d,σ,H,i=>Zsn (ho _ _ _ _ i) (q d σ H i)
 |x::t,d,σ,H,i=>by
  refine Zl5 (ho _ _ _ _ i) ?_;obtain⟨σ1,H1,e1,y,σ2,H2,e2,k⟩:=st d x t σ H i;refine⟨σ1,H1,e1,y,σ2,H2,e2,?_⟩;cases y with
  |nx=>exact T2 B6 ho st q t _ σ2 H2 k
  |ct=>exact T2 B6 ho st q t _ σ2 H2 k
  |bk=>exact k
  |rt d=>exact k
theorem tE{own:O4}{g:GF}{b:SF}(B6:SD->HD->Prop)(ho:∀σ H,B6 σ H->O8 own H):∀(xs:List D)(st:∀x∈xs,∀σ H,B6 σ H->wG (g x σ H) λσ1 H1=>wS (b σ1 H1) (again B6 R))(σ:SD)(H:HD),B6 σ H->(∀σ H,B6 σ H->R .nx σ H)->wS (N6 own g b xs σ H) R
 |[],st,σ,H,i,q=>Zsn (ho _ _ i) (q σ H i)
 |x::t,st,σ,H,i,q=>by
  refine Zl5 (ho _ _ i) ?_;obtain⟨σ1,H1,e1,y,σ2,H2,e2,k⟩:=st x g8 σ H i;refine⟨σ1,H1,e1,y,σ2,H2,e2,?_⟩;cases y with
  |nx=>exact tE B6 ho t (λz hz=>st z (by simp[hz])) σ2 H2 k q
  |ct=>exact tE B6 ho t (λz hz=>st z (by simp[hz])) σ2 H2 k q
  |bk=>exact k
  |rt d=>exact k
theorem w_wh{t:TF}{b:SF}{n:Nat}(h:wT (t σ H) λx H1=>br x (wS (b σ H1) (again (λσ2 H2=>wS (cC t b n σ2 H2) R) R)) (R .nx σ H1)):wS (cC t b (n+1) σ H) R:=by
 obtain⟨x,H1,e,q1,q2⟩:=h;rw[cC];dsimp only;rw[e];simp only[Zb];cases x with
 |true=>
  rw[d7 rfl];obtain⟨y,σ2,H2,e2,q⟩:=q1 rfl;rw[e2];cases y with
  |nx=>exact q
  |ct=>exact q
  |bk=>exact⟨_,_,_,rfl,q⟩
  |rt d=>exact⟨_,_,_,rfl,q⟩
 |false=>rw[d9 g8];exact⟨_,_,_,rfl,q2 rfl⟩
theorem Zme{t:TF}{b:SF}(B6:Nat->SD->HD->Prop)(st:∀m σ H,B6 m σ H->wT (t σ H) λx H1=>br x (∃m',m=m'+1/\wS (b σ H1) (again (B6 m') R)) (R .nx σ H1)):∀(n m:Nat)(σ:SD)(H:HD),m<n->B6 m σ H->wS (cC t b n σ H) R
 | 0,m,σ,H,h,i=>by omega
 |n+1,m,σ,H,h,i=>by
  refine w_wh ?_;obtain⟨x,H1,e,q1,q2⟩:=st m σ H i;refine⟨x,H1,e,λhx=>?_,q2⟩;obtain⟨m',rfl,y,σ2,H2,e2,q⟩:=q1 hx;refine⟨y,σ2,H2,e2,?_⟩;cases y with
  |nx=>exact Zme B6 st n m' σ2 H2 f8 q
  |ct=>exact Zme B6 st n m' σ2 H2 f8 q
  |bk=>exact q
  |rt d=>exact q
theorem Zqi{own:O4}{c0:SD}{tt:TF}{te:EF}{Q:List D->HD->Prop}(h:O8 own H)(q:Q [] H):wA (W5 own c0 tt te [] H) Q:=⟨_,_,by rw[W5,d7 h],q⟩
theorem Zma{own:O4}{c0:SD}{tt:TF}{te:EF}{x:D}{r:List D}{Q:List D->HD->Prop}(h:O8 own H)
  (q:wT (tt (B3 x::c0) H) λb H1=>br b (wE (te (B3 x::c0) H1) λe H2=>wA (W5 own c0 tt te r H2) λes H3=>Q (e::es) H3) (wA (W5 own c0 tt te r H1) Q)):wA (W5 own c0 tt te (x::r) H) Q:=by
 obtain⟨b,H1,e1,q1,q2⟩:=q;rw[W5,d7 h,e1];simp only[Zb];cases b with
 |true=>
  obtain⟨e,H2,e2,es,H3,e3,q⟩:=q1 rfl;exact⟨e::es,H3,by rw[d7 rfl,e2];simp only[Zb];rw[e3];rfl,q⟩
 |false=>rw[d9 g8];exact q2 rfl
theorem w_yes{Q:Bool->HD->Prop}(q:Q B1 H):wT (gU σ H) Q:=⟨_,_,rfl,q⟩
theorem Zr4{own:O4}{c0:SD}{tt:TF}{te:EF}(B6:List D->List D->List D->HD->Prop)(ho:∀d t o H,B6 d t o H->O8 own H)
  (st:∀d x t o H,B6 d (x::t) o H->wT (tt (B3 x::c0) H) λb H1=>br b (wE (te (B3 x::c0) H1) λe H2=>B6 (d++[x]) t (o++[e]) H2) (B6 (d++[x]) t o H1))
  {Q:List D->HD->Prop}:∀(t d o:List D)(H:HD),B6 d t o H->(∀d o' H',B6 d [] (o++o') H'->Q o' H')->wA (W5 own c0 tt te t H) Q
 |[],d,o,H,i,q=>Zqi (ho _ _ _ _ i) (q d [] H (by rw[Xq];exact i))
 |x::t,d,o,H,i,q=>by
  refine Zma (ho _ _ _ _ i) ?_;obtain⟨b,H1,e1,q1,q2⟩:=st d x t o H i;refine⟨b,H1,e1,λh=>?_,λh=>?_⟩
  ·obtain⟨e,H2,e2,k⟩:=q1 h;refine⟨e,H2,e2,?_⟩;refine Zr4 B6 ho st t _ _ H2 k λd' o' H' i'=>q d' (e::o') H' ?_;rw[T5]at i';exact i'
  ·exact Zr4 B6 ho st t _ _ H1 (q2 h) λd' o' H' i'=>q d' o' H' i'
theorem oB{own:O4}{c0:SD}{tt:TF}(f:D->Bool)(J:HD->Prop)(ho:∀H,J H->O8 own H){Q:List D->HD->Prop}:∀(xs:List D)(st:∀x∈xs,∀H,J H->wT (tt (B3 x::c0) H) λb H1=>b=f x/\J H1)(H:HD),J H->(∀H',J H'->Q (xs.filter f) H')->wA (W5 own c0 tt (B4 0) xs H) Q
 |[],st,H,j,q=>Zqi (ho H j) (q H j)
 |x::xs,st,H,j,q=>by
  refine Zma (ho H j) ?_;obtain⟨b,H1,e,rfl,j1⟩:=st x g8 H j;refine⟨_,H1,e,λh=>?_,λh=>?_⟩
  ·refine⟨x,H1,rfl,?_⟩;refine oB f J ho xs (λy hy=>st y (by simp[hy])) H1 j1 λH' j'=>?_;have:=q H' j'
   rwa [List.filter_cons_of_pos h]at this
  ·refine oB f J ho xs (λy hy=>st y (by simp[hy])) H1 j1 λH' j'=>?_;have:=q H' j'
   rwa [List.filter_cons_of_neg (by rw[h];simp)]at this
theorem tG{own:O4}{c0:SD}{te:EF}(g:D->D)(J:HD->Prop)(ho:∀H,J H->O8 own H){Q:List D->HD->Prop}:∀(xs:List D)(st:∀x∈xs,∀H,J H->wE (te (B3 x::c0) H) λd H1=>d=g x/\J H1)(H:HD),J H->(∀H',J H'->Q (xs.map g) H')->wA (W5 own c0 gU te xs H) Q
 |[],st,H,j,q=>Zqi (ho H j) (q H j)
 |x::xs,st,H,j,q=>by
  refine Zma (ho H j) (w_yes (w_bt ?_));obtain⟨b,H1,e,rfl,j1⟩:=st x g8 H j;exact⟨_,H1,e,tG g J ho xs (λy hy=>st y (by simp[hy])) H1 j1 q⟩
end
structure Fm(S:List Nat)(H H':HD):Prop where
 old:∀(m:Nat)(o:DO),m∉S->H[m]? = B3 o->H'[m]? = B3 o\/∃b8,o=.dic b8 B2/\H'[m]? = B3 (.dic b8 B1)
 len:H.length<=H'.length
theorem Fm.refl{S:List Nat}{H:HD}:Fm S H H:=⟨λ_ _ _ h=>.inl h,Xd _⟩
theorem Fm.trans{S:List Nat}{H H1 H2:HD}(a:Fm S H H1)(b:Fm S H1 H2):Fm S H H2:=by
 refine⟨λm o hm h=>?_,N2 a.len b.len⟩;rcases a.old m o hm h with h1 |⟨b8,rfl,h1⟩
 ·exact b.old m o hm h1
 ·rcases b.old m _ hm h1 with h2 |⟨k2,e,_⟩
  ·exact .inr ⟨b8,rfl,h2⟩
  ·cases e
theorem Fm.sub{S T:List Nat}{H H':HD}(a:Fm S H H')(h:∀m∈S,m∈T):Fm T H H':=⟨λm o hm q=>a.old m o (λz=>hm (h m z)) q,a.len⟩
theorem Fm.app{S:List Nat}{H:HD}(L:HD):Fm S H (H++L):=⟨λm o _ q=>.inl (by
 have:m<H.length:=(Xg.mp q).1;rw[Xs this];exact q),by simp⟩
theorem Fm.set{S:List Nat}{H:HD}{p:Nat}{o:DO}(h:p∈S):Fm S H (H.set p o):=⟨λm u hm q=>.inl (by rw[Z6 (λz=>hm (by rw[<- z];exact h))];exact q),by simp⟩
theorem Fm.new{S T:List Nat}{H H1 H':HD}(a:Fm S H H1)(b:Fm T H1 H')(h:∀m∈T,m∉S->H.length<=m):Fm S H H':=by
 refine⟨λm o hm q=>?_,N2 a.len b.len⟩;have lt:m<H.length:=(Xg.mp q).1;have ht:m∉T:=λz=>by have:=h m z hm;omega
 rcases a.old m o hm q with h1 |⟨b8,rfl,h1⟩
 ·exact b.old m o ht h1
 ·rcases b.old m _ ht h1 with h2 |⟨k2,e,_⟩
  ·exact .inr ⟨b8,rfl,h2⟩
  ·cases e
theorem Fm.lst{S:List Nat}{H H':HD}(x:Fm S H H'){m:Nat}{xs:List D}(hm:m∉S)(h:H[m]? = B3 (.lst xs)):H'[m]? = B3 (.lst xs):=by
 rcases x.old m _ hm h with h1 |⟨k2,e,_⟩
 ·exact h1
 ·cases e
theorem rV{H:HD}{n:Nat}{xs:List D}(h:H[n]? = B3 (.lst xs)):cM (.ref n) H=B1:=by simp[cM,h]
theorem A0{H:HD}{n:Nat}{o:DO}(h:H[n]? = B3 o):O8 [(n,o)] H:=by intro p hp;simp at hp;subst hp;exact h
theorem Q6{H:HD}:O8 [] H:=by intro p hp;cases hp
theorem last{H:HD}{o:DO}:(H++[o])[H.length]? = B3 o:=by simp
theorem appL{H:HD}{n:Nat}{o u:DO}(h:H[n]? = B3 o):(H++[u])[n]? = B3 o:=by
 rw[Xs (Xg.mp h).1];exact h
theorem A2{H:HD}{n m:Nat}{o u:DO}(hn:n≠m)(h:H[m]? = B3 o):(H.set n u)[m]? = B3 o:=by rw[Z6 hn];exact h
theorem M2{H:HD}{n:Nat}{o u:DO}(h:H[n]? = B3 u):(H.set n o)[n]? = B3 o:=wB (Xg.mp h).1
structure D0(d:D)(x:G3)(h:Nat):Prop where
 to:∀H n,toP H n d=B3 x
 lay:x.canLay0=B1
 dep:x.depth<=h
theorem D0.le{d:D}{x:G3}{h h':Nat}(f:D0 d x h)(l:h<=h'):D0 d x h':=⟨f.to,f.lay,N2 f.dep l⟩
theorem D0.int(i:Int):D0 (.int i) (.int i) 0:=⟨λH n=>Zpo H n i,rfl,Xd _⟩
theorem D0.bl(b:Bool):D0 (.bl b) (.bool b) 0:=⟨λH n=>Ybc H n b,rfl,Xd _⟩
theorem D0.str{s:Str}(h:Tcr s=B1):D0 (.str s) (.str s) 0:=⟨λH n=>Zmi H n s,h,Xd _⟩
structure C7(ds:List D)(xs:List G3)(h:Nat):Prop where
 to:∀H n,Zog H n ds=B3 xs
 lay:Tau xs=B1
 dep:Tcv xs<=h
 len:xs.length=ds.length
theorem C7.nil{h:Nat}:C7 [] [] h:=⟨λH n=>by rw[Zog],rfl,R4 _,rfl⟩
theorem C7.cons{d:D}{x:G3}{ds:List D}{xs:List G3}{h:Nat}(a:D0 d x h)(b:C7 ds xs h):C7 (d::ds) (x::xs) h :=
 ⟨λH n=>by rw[Zog,a.to,b.to];rfl,by simp[Tau,a.lay,b.lay],by simp only[Tcv];exact Nat.max_le.mpr ⟨a.dep,b.dep⟩,by simp[b.len]⟩
theorem C7.of{h:Nat}:∀ds:List D,(∀d∈ds,∃x,D0 d x h)->∃xs,C7 ds xs h
 |[],_=>⟨[],.nil⟩
 |d::ds,f=>by
  obtain⟨x,a⟩:=f d g8;obtain⟨xs,b⟩:=C7.of ds λe he=>f e (by simp[he]);exact⟨x::xs,.cons a b⟩
theorem D0.tup{ds:List D}{xs:List G3}{h:Nat}(f:C7 ds xs h):D0 (.tup ds) (.tuple xs) (h+1) :=
 ⟨λH n=>by cases n<;>rw[toP,f.to]<;>rfl,f.lay,Wfj f.dep⟩
theorem D0.dat{d:D}{x:G3}{h:Nat}(f:D0 d x h)(l:h<=30)(H:HD):DL.dat d H=B3 x:=by
 unfold DL.dat;rw[f.to];have:x.depth<=30:=N2 f.dep l;simp[rN,f.lay,this]
theorem C7.dat{ds:List D}{xs:List G3}{h:Nat}(f:C7 ds xs h)(l:h<30){H:HD}{p:Nat}(g:H[p]? = B3 (.lst ds)):DL.dat (.ref p) H=B3 (.list xs):=by
 unfold DL.dat;rw[toP];simp only[g];rw[f.to];have:(PyData.list xs).depth<=30:=N2 (Wfj f.dep) l;have h2:(PyData.list xs).canLay0=B1:=f.lay;simp[rN,h2,this]
mutual
theorem Zgx:∀x:G3,x.canLay0=B1->Ub x x=B1
 |.none,_=>by simp[Ub]
 |.bool _,_=>by simp[Ub]
 |.int _,_=>by simp[Ub]
 |.str _,_=>by simp[Ub]
 |.list xs,h=>by rw[Ub];exact Ze7 xs h
 |.tuple xs,h=>by rw[Ub];exact Ze7 xs h
 |.dict _,h=>by cases h
theorem Ze7:∀xs:List G3,Tau xs=B1->Ut xs xs=B1
 |[],_=>by rw[Ut]
 |x::xs,h=>by
  simp only[Tau,V6]at h;rw[Ut,Zgx x h.1,Ze7 xs h.2];rfl
end
theorem Zml{a b:D}{x y:G3}{H:HD}(h1:dat a H=B3 x)(h2:dat b H=B3 y):eqD a b H=B3 (.bl (Ub x y),H):=by
 unfold eqD;cases e:fL a b with
 |none=>rw[h1,h2];rfl
 |some p=>
  obtain⟨s,t⟩:=p;unfold fL at e;split at e
  ·cases e;unfold dat at h1 h2;rw[Zmi]at h1 h2;simp only[Zb]at h1 h2;split at h1
   ·split at h2
    ·cases h1;cases h2;simp[Ub]
    ·cases h2
   ·cases h1
  ·cases e
theorem Zx4{a b:D}{x y:G3}{H:HD}(h1:dat a H=B3 x)(h2:dat b H=B3 y):neD a b H=B3 (.bl (!Ub x y),H):=by
 unfold neD;cases e:fL a b with
 |none=>rw[h1,h2];rfl
 |some p=>
  obtain⟨s,t⟩:=p;unfold fL at e;split at e
  ·cases e;unfold dat at h1 h2;rw[Zmi]at h1 h2;simp only[Zb]at h1 h2;split at h1
   ·split at h2
    ·cases h1;cases h2;simp[Ub];rfl
    ·cases h2
   ·cases h1
  ·cases e
variable{H:HD}{Q:D->HD->Prop}
theorem Yar{a b:D}{x y:G3}{h k:Nat}(f:D0 a x h)(g:D0 b y k)(hh:h<=30)(hk:k<=30)(q:Q (.bl (Ub x y)) H):wE (eqD a b H) Q:=⟨_,_,Zml (f.dat hh H) (g.dat hk H),q⟩
theorem Zte{a b:D}{x y:G3}{h k:Nat}(f:D0 a x h)(g:D0 b y k)(hh:h<=30)(hk:k<=30)(q:Q (.bl (!Ub x y)) H):wE (neD a b H) Q:=⟨_,_,Zx4 (f.dat hh H) (g.dat hk H),q⟩
theorem Zm6{a:D}{x:G3}{h:Nat}(f:D0 a x h)(hh:h<=30)(q:Q (.bl B2) H):wE (neD a a H) Q:=Zte f f hh hh (by rw[Zgx x f.lay];exact q)
theorem Zvv{a:D}{x:G3}{h:Nat}(f:D0 a x h)(hh:h<=30)(q:Q (.bl B1) H):wE (eqD a a H) Q:=Yar f f hh hh (by rw[Zgx x f.lay];exact q)
theorem Zy3{xs:List D}{ys:List G3}{h:Nat}(f:C7 xs ys h):Ub (.tuple ys) (.tuple [])=xs.isEmpty:=by
 have:=f.len;cases ys with
 |nil=>cases xs with
  |nil=>rfl
  |cons _ _=>simp at this
 |cons p ps=>cases xs with
  |nil=>simp at this
  |cons _ _=>simp[Ub,Ut]
theorem Zxs{xs:List D}{ys:List G3}{h:Nat}(f:C7 xs ys h)(hh:h<30)(q:Q (.bl (!xs.isEmpty)) H):wE (neD (.tup xs) (.tup []) H) Q :=
 Zte (D0.tup f) (D0.tup (C7.nil (h:=0))) f8 f8 (by rw[Zy3 f];exact q)
theorem Zz9{a:D}{x:G3}{h k:Nat}{ds:List D}{xs:List G3}(f:D0 a x h)(g:C7 ds xs k)(hh:h<=30)(hk:k<30)(q:Q (.bl (!xs.any λz=>Ub z x)) H):wE (niD a (.tup ds) H) Q :=
 ⟨_,_,by unfold niD;rw[f.dat hh,Zb,(D0.tup g).dat hk];rfl,q⟩
theorem Zz5{a:D}{x:G3}{h k:Nat}{ds:List D}{xs:List G3}(f:D0 a x h)(g:C7 ds xs k)(hh:h<=30)(hk:k<30)(q:Q (.bl (xs.any λz=>Ub z x)) H):wE (inD a (.tup ds) H) Q :=
 ⟨_,_,by unfold inD;rw[f.dat hh,Zb,(D0.tup g).dat hk];rfl,q⟩
theorem w_neI{i j:Int}(q:Q (.bl (!(i==j))) H):wE (neD (.int i) (.int j) H) Q:=Zte (.int i) (.int j) f8 f8 (by simpa [Ub]using q)
def wX(n:Option (FD×SD×HD))(y:Option (Int×HD))(R:Int->HD->Prop):Prop:=n=B0/\∃i H,y=B3 (i,H)/\R i H
section
variable{σ:SD}{H:HD}{R:Int->HD->Prop}
theorem kN{f g:SF}{b:E7}(h:wS (f σ H) (gW (λσ1 H1=>wX (g σ1 H1) (b σ1 H1) R) λ_ _ _=>False)):wX (B9 f g σ H) (Y0 f b σ H) R:=by
 obtain⟨x,σ1,H1,e,k⟩:=h;unfold B9 Y0;rw[e];simp only[Zb];cases x with
 |nx=>exact k
 |bk=>exact k.elim
 |ct=>exact k.elim
 |rt d=>exact k.elim
theorem Zvy{f g:SF}{σ:SD}{H:HD}(e:f σ H=B0):B9 f g σ H=B0:=by unfold B9;rw[e];rfl
theorem Ycm{f g:SF}{a b:E7}(h:wX (f σ H) (a σ H) R):wX (B9 f g σ H) (eT f a b σ H) R:=by
 obtain⟨e,k⟩:=h;refine⟨Zvy e,?_⟩;unfold eT;rw[e];exact k
theorem Ybb{f g:SF}{a b:E7}(h:wS (f σ H) (gW (λσ1 H1=>wX (g σ1 H1) (b σ1 H1) R) λ_ _ _=>False)):wX (B9 f g σ H) (eT f a b σ H) R:=by
 obtain⟨x,σ1,H1,e,k⟩:=h;unfold B9 eT;rw[e];simp only[Zb];cases x with
 |nx=>exact k
 |bk=>exact k.elim
 |ct=>exact k.elim
 |rt d=>exact k.elim
theorem Znq{f g:SF}{a:E7}(h:wX (f σ H) (a σ H) R):wX (B9 f g σ H) (a σ H) R:=⟨Zvy h.1,h.2⟩
theorem Zvt{t:TF}{f g:SF}{a b:E7}(h:wT (t σ H) λc H1=>br c (wX (f σ H1) (a σ H1) R) (wX (g σ H1) (b σ H1) R)):wX (F4 t f g σ H) (dL t a b σ H) R:=by
 obtain⟨c,H1,e,q1,q2⟩:=h;rw[Zu5 e];unfold dL;rw[e];simp only[Zb];cases c with
 |true=>rw[d7 rfl,d7 rfl];exact q1 rfl
 |false=>rw[d9 g8,d9 g8];exact q2 rfl
theorem Zuu{g:SF}{fe:EF}(h:wE (fe σ H) λ_ H1=>R 0 H1):wX (B9 sErr g σ H) (tK fe σ H) R:=by
 obtain⟨d,H1,e,q⟩:=h;exact⟨rfl,0,H1,by unfold tK;rw[e];rfl,q⟩
theorem Yb7{it:ItF}{g:GF}{b:SF}{yb:E7}(h:wI (it σ H) λxs own H1=>wX (N6 own g b xs σ H1) (W6 own g b yb xs σ H1) R):wX (K4 it g b σ H) (dQ it g b yb σ H) R:=by
 obtain⟨xs,own,H1,e,q⟩:=h;unfold K4 dQ;rw[e];exact q
theorem Zy8{own:O4}{g:GF}{b:SF}{yb:E7}{x:D}{t:List D}(h:O8 own H)(q:wG (g x σ H) λσ1 H1=>wS (b σ1 H1) (again (λσ2 H2=>wX (N6 own g b t σ2 H2) (W6 own g b yb t σ2 H2) R) λ_ _ _=>False)) :
  wX (N6 own g b (x::t) σ H) (W6 own g b yb (x::t) σ H) R:=by
 obtain⟨σ1,H1,e1,y,σ2,H2,e2,q⟩:=q;rw[N6,W6,d7 h,d7 h,e1];simp only[Zb];rw[e2];cases y with
 |nx=>exact q
 |ct=>exact q
 |bk=>exact q.elim
 |rt d=>exact q.elim
theorem Zyh{own:O4}{g:GF}{b:SF}{yb:E7}{x:D}{t:List D}(h:O8 own H)(q:wG (g x σ H) λσ1 H1=>wX (b σ1 H1) (yb σ1 H1) R) :
  wX (N6 own g b (x::t) σ H) (W6 own g b yb (x::t) σ H) R:=by
 obtain⟨σ1,H1,e1,e2,i,H2,e3,q⟩:=q;rw[N6,W6,d7 h,d7 h,e1];simp only[Zb];rw[e2];exact⟨rfl,i,H2,e3,q⟩
def cB(n:Option (D×HD))(y:Option (Int×HD))(R:Int->HD->Prop):Prop:=n=B0/\∃i H,y=B3 (i,H)/\R i H
theorem sT{n N:Nat}{b:SF}{yb:E7}{ds:List D}(hl:ds.length=n)(h:wX (b (ds.map B3++Xl (N-ds.length) B0) H) (yb (ds.map B3++Xl (N-ds.length) B0) H) R):cB (F1 n N b ds H) (X9 n N yb ds H) R:=by
 obtain⟨e,q⟩:=h;unfold F1 X9;rw[d7 hl,d7 hl,e];exact⟨rfl,q⟩
theorem Zjd{n:Nat}{F:FF}{Y:T4}{fa:AF}{g:SF}(h:wA (fa σ H) λds H1=>ds.length=n/\cB (F ds H1) (Y ds H1) R):wX (B9 (N7 (D8 n F fa)) g σ H) (Q9 n Y fa σ H) R:=by
 obtain⟨ds,H1,e,hl,e1,q⟩:=h;refine⟨Zvy ?_,?_⟩
 ·unfold N7 D8;rw[e];simp only[Zb];rw[d7 hl,e1];rfl
 ·unfold Q9;rw[e];simp only[Zb];rw[d7 hl];exact q
theorem Zjf{n k:Nat}{F:FF}{Y:T4}{fa:AF}{g:SF}(h:wA (fa σ H) λds H1=>ds.length=n/\cB (F ds H1) (Y ds H1) R):wX (B9 (D3 k (D8 n F fa)) g σ H) (Q9 n Y fa σ H) R:=by
 obtain⟨ds,H1,e,hl,e1,q⟩:=h;refine⟨Zvy ?_,?_⟩
 ·unfold D3 D8;rw[e];simp only[Zb];rw[d7 hl,e1];rfl
 ·unfold Q9;rw[e];simp only[Zb];rw[d7 hl];exact q
end
end WP
set_option maxHeartbeats 8000000
local macro_rules|`(j8)=>`((DL.B4 0))|`(j9)=>`((DL.B4 1))|`(k6)=>`((DL.B4 2))|`(k7)=>`((DL.B4 3))|`(k8)=>`((DL.B4 4))|`(k9)=>`((DL.B4 5))|`(l9)=>`((DL.B4 6))|`(m7)=>`((DL.B4 7))
namespace K08
open PySem L2 DL
nonrec def sR:SF :=
 (B9 (D3 2 (E9 Zvx (B5 j8 C1)))
 (B9 (K4 (K9 j9) (F6 3) (B9 (F4 (E8 (B8 inD (F8 F9 k7) j8)) (B9 (G5 (eC .non))
 C4) C4)
 (B9 (F4 (E8 (B8 niD k7 j8)) (B9 (N7 (bE L3 k6 (B5 k7 C1)))
 C4) C4)
 C4)))
 (B9 (G5 (E9 W7 (B5 (E9 sS (B5 k6 C1)) C1)))
 C4)))
nonrec def iF:FF:=F1 2 4 sR
nonrec def kZ:SF :=
 (B9 (Y9 (eC (.bl B1)) (cF j8 j9 cL))
 (B9 (F4 (E8 (B8 gtD (E9 mW (B5 j8 C1)) k6)) (B9 sErr
 C4) C4)
 C4))
nonrec def L6:FF:=F1 3 3 kZ
nonrec def uY:E7 :=
 (Y0 (Y9 (eC (.bl B1)) (cF j8 j9 cL))
 (dL (E8 (B8 gtD (E9 mW (B5 j8 C1)) k6)) (tK (eJ (jC "more than " (jI k6 (jC " rows" gY))))) yNo))
nonrec def oH:T4:=X9 3 3 uY
nonrec def uP:SF :=
 (B9 (D3 2 eDN)
 (B9 (K4 (K9 j8) (F6 3) (B9 (F4 (E8 (B8 eqD (Q5 k7 (R1 (F8 F9 (eC j6))) T1) (G4 (B5 j9 C1)))) (B9 (Y9 (eC (.bl B1)) (cF k6 (Q5 k7 T1 (R1 (F8 F9 (eC j6)))) cL))
 C4) C4)
 C4))
 (B9 (G5 k6)
 C4)))
nonrec def oF:FF:=F1 2 4 uP
nonrec def lE:SF :=
 (B9 (D3 3 eDN)
 (B9 (K4 (K9 j8) (F6 4) (B9 (D3 5 (B8 inD (Q5 k8 (R1 (F8 F9 (eC j6))) T1) (G4 (B5 (G4 (B5 j9 C1)) (B5 (G4 (B5 (F8 F9 j9) C1)) C1)))))
 (B9 (N7 (D8 3 L6 (B5 k7 (B5 (mM (cJ k9) (Q5 k8 T1 (R1 (F8 F9 (eC j6)))) k8) (B5 k6 C1)))))
 C4)))
 (B9 (G5 k7)
 C4)))
nonrec def Zb6:FF:=F1 3 6 lE
nonrec def uX:E7 :=
 (Y0 (D3 3 eDN)
 (dQ (K9 j8) (F6 4) (B9 (D3 5 (B8 inD (Q5 k8 (R1 (F8 F9 (eC j6))) T1) (G4 (B5 (G4 (B5 j9 C1)) (B5 (G4 (B5 (F8 F9 j9) C1)) C1)))))
 (B9 (N7 (D8 3 L6 (B5 k7 (B5 (mM (cJ k9) (Q5 k8 T1 (R1 (F8 F9 (eC j6)))) k8) (B5 k6 C1)))))
 C4)) (Y0 (D3 5 (B8 inD (Q5 k8 (R1 (F8 F9 (eC j6))) T1) (G4 (B5 (G4 (B5 j9 C1)) (B5 (G4 (B5 (F8 F9 j9) C1)) C1)))))
 (Q9 3 oH (B5 k7 (B5 (mM (cJ k9) (Q5 k8 T1 (R1 (F8 F9 (eC j6)))) k8) (B5 k6 C1)))))))
nonrec def Zc7:T4:=X9 3 6 uX
nonrec def lD:SF :=
 (B9 (D3 3 eDN)
 (B9 (K4 (K9 j8) (F6 4) (B9 (F4 (E8 (B8 niD (Q5 k8 (R1 (F8 F9 (eC j6))) T1) (G4 (B5 (G4 (B5 j9 C1)) (B5 (G4 (B5 (F8 F9 j9) C1)) C1))))) (B9 (N7 (D8 3 L6 (B5 k7 (B5 k8 (B5 k6 C1)))))
 C4) C4)
 C4))
 (B9 (D3 5 (D8 2 oF (B5 j8 (B5 (F8 F9 j9) C1))))
 (B9 (K4 (fK (D8 2 oF (B5 j8 (B5 j9 C1)))) (F6 6) (B9 (K4 (fK k9) (F6 7) (B9 (D3 4 (D8 2 iF (B5 l9 (B5 m7 C1))))
 (B9 (F4 (E8 (B8 cH k8 (eC .non))) (B9 (N7 (D8 3 L6 (B5 k7 (B5 k8 (B5 k6 C1)))))
 C4) C4)
 C4)))
 C4))
 (B9 (G5 k7)
 C4)))))
nonrec def Zcj:FF:=F1 3 8 lD
nonrec def uT:E7 :=
 (Y0 (D3 3 eDN)
 (eT (K4 (K9 j8) (F6 4) (B9 (F4 (E8 (B8 niD (Q5 k8 (R1 (F8 F9 (eC j6))) T1) (G4 (B5 (G4 (B5 j9 C1)) (B5 (G4 (B5 (F8 F9 j9) C1)) C1))))) (B9 (N7 (D8 3 L6 (B5 k7 (B5 k8 (B5 k6 C1)))))
 C4) C4)
 C4))
 (dQ (K9 j8) (F6 4) (B9 (F4 (E8 (B8 niD (Q5 k8 (R1 (F8 F9 (eC j6))) T1) (G4 (B5 (G4 (B5 j9 C1)) (B5 (G4 (B5 (F8 F9 j9) C1)) C1))))) (B9 (N7 (D8 3 L6 (B5 k7 (B5 k8 (B5 k6 C1)))))
 C4) C4)
 C4) (dL (E8 (B8 niD (Q5 k8 (R1 (F8 F9 (eC j6))) T1) (G4 (B5 (G4 (B5 j9 C1)) (B5 (G4 (B5 (F8 F9 j9) C1)) C1))))) (Q9 3 oH (B5 k7 (B5 k8 (B5 k6 C1)))) yNo))
 (Y0 (D3 5 (D8 2 oF (B5 j8 (B5 (F8 F9 j9) C1))))
 (dQ (fK (D8 2 oF (B5 j8 (B5 j9 C1)))) (F6 6) (B9 (K4 (fK k9) (F6 7) (B9 (D3 4 (D8 2 iF (B5 l9 (B5 m7 C1))))
 (B9 (F4 (E8 (B8 cH k8 (eC .non))) (B9 (N7 (D8 3 L6 (B5 k7 (B5 k8 (B5 k6 C1)))))
 C4) C4)
 C4)))
 C4) (dQ (fK k9) (F6 7) (B9 (D3 4 (D8 2 iF (B5 l9 (B5 m7 C1))))
 (B9 (F4 (E8 (B8 cH k8 (eC .non))) (B9 (N7 (D8 3 L6 (B5 k7 (B5 k8 (B5 k6 C1)))))
 C4) C4)
 C4)) (Y0 (D3 4 (D8 2 iF (B5 l9 (B5 m7 C1))))
 (dL (E8 (B8 cH k8 (eC .non))) (Q9 3 oH (B5 k7 (B5 k8 (B5 k6 C1)))) yNo)))))))
nonrec def Zdo:T4:=X9 3 8 uT
nonrec def uI:SF :=
 (B9 (D3 1 (N3 (B5 (G4 C1) C1)))
 (B9 (K4 (K9 j8) (F6 2) (B9 (D3 1 (B8 G0 j9 (W2 (K9 j9) [2] gU (B8 G0 j8 (G4 (B5 j9 C1))))))
 C4))
 (B9 (G5 (Q5 j9 T1 (R1 (F8 F9 (eC j6)))))
 C4)))
nonrec def Zhu:FF:=F1 1 3 uI
nonrec def lC:SF :=
 (B9 (D3 2 (E9 Q7 (B5 (B8 ixD j8 (eC j7)) C1)))
 (B9 (F4 (E8 (B8 eqD (B8 ixD (B8 ixD j8 (eC j7)) (F8 F9 (eC j6))) (eC (.str "all")))) (B9 (D3 4 (D8 3 Zb6 (B5 (B8 ixD j8 (eC j6)) (B5 k6 (B5 j9 C1)))))
 C4) (B9 (D3 4 (D8 3 Zcj (B5 (B8 ixD j8 (eC j6)) (B5 k6 (B5 j9 C1)))))
 C4))
 (B9 (D3 3 (W2 (fK k8) [4] (gO (cJ (E9 vE (B5 (W2 (K9 (D8 1 Zhu (B5 j8 C1))) [1] gU (B8 vH j8 j9)) C1)))) j8))
 (B9 (G5 (G4 (B5 (Q5 (B8 ixD j8 (eC j7)) T1 (R1 (F8 F9 (eC j6)))) (B5 (E9 W7 (B5 (E9 nR (B5 k7 C1)) C1)) C1))))
 C4))))
nonrec def iO:FF:=F1 2 5 lC
nonrec def vA:E7 :=
 (Y0 (D3 2 (E9 Q7 (B5 (B8 ixD j8 (eC j7)) C1)))
 (dL (E8 (B8 eqD (B8 ixD (B8 ixD j8 (eC j7)) (F8 F9 (eC j6))) (eC (.str "all")))) (Q9 3 Zc7 (B5 (B8 ixD j8 (eC j6)) (B5 k6 (B5 j9 C1)))) (Q9 3 Zdo (B5 (B8 ixD j8 (eC j6)) (B5 k6 (B5 j9 C1))))))
nonrec def Zby:T4:=X9 2 5 vA
nonrec def lB:SF :=
 (B9 (D3 3 j8)
 (B9 (K4 (fB (B5 j9 C1)) (F6 4) (B9 (D3 3 (D8 2 iO (B5 k7 (B5 k6 C1))))
 C4))
 (B9 (G5 k7)
 C4)))
nonrec def dS:FF:=F1 3 5 lB
nonrec def uM:E7 :=
 (Y0 (D3 3 j8)
 (dQ (fB (B5 j9 C1)) (F6 4) (B9 (D3 3 (D8 2 iO (B5 k7 (B5 k6 C1))))
 C4) (Q9 2 Zby (B5 k7 (B5 k6 C1)))))
nonrec def Zeq:T4:=X9 3 5 uM
nonrec def uJ:SF :=
 (B9 (D3 2 (B8 ixD (N3 (B5 (eC (.int 2147483647)) (B5 (eC (.int 2147483629)) (B5 (eC (.int 2147483587)) (B5 (eC (.int 2147483579)) (B5 (eC (.int 2147483563)) (B5 (eC (.int 2147483549)) (B5 (eC (.int 2147483543)) C1)))))))) (B8 J2 j9 (eC (.int 7)))))
 (B9 (D3 3 (B8 J2 (B8 V1 (B8 G0 (B8 J2 j8 (eC (.int 998244353))) (B8 V1 (eC (.int 104729)) (B8 G0 j9 (eC j6)))) (B8 G0 (B8 G0 (B8 V1 j9 j9) (B8 V1 (eC (.int 7)) j9)) (eC (.int 13)))) k6))
 (B9 (D3 3 (B8 J2 (B8 mQ k7 (eC (.int 5))) (eC (.int 1000000007))))
 (B9 (D3 3 (B8 J2 (B8 G0 (B8 G0 (B8 V1 k7 (eC (.int 48271))) (B8 V1 (eC (.int 31)) j9)) (eC (.int 5))) k6))
 (B9 (G5 (B8 bI (B8 J2 (B8 mQ k7 (eC (.int 3))) (eC (.int 998244353))) (eC (.int 8))))
 C4)))))
nonrec def Zhn:FF:=F1 2 4 uJ
nonrec def uR:SF :=
 (B9 (D3 2 (N3 C1))
 (B9 (D3 3 (E9 mS (B5 j8 C1)))
 (B9 (D3 4 (B8 geD k7 (B8 mQ (eC (.int 10)) (eC (.int 18)))))
 (B9 (K4 (fB (B5 j9 C1)) (F6 5) (B9 (F4 (dM (cJ k8) (E8 (B8 gtD k7 (eC j7)))) (B9 (N7 (bE L3 k6 (B5 (B8 J2 k7 (eC (.int 10007))) C1)))
 (B9 (D3 3 (B8 bI k7 (eC (.int 10007))))
 C4)) (B9 (N7 (bE L3 k6 (B5 (D8 2 Zhn (B5 j8 (B5 k9 C1))) C1)))
 C4))
 C4))
 (B9 (G5 k6)
 C4)))))
nonrec def lA:FF:=F1 2 6 uR
nonrec def tV:SF :=
 (B9 (F4 (E8 (B8 ltD j9 (E9 Q7 (B5 j8 C1)))) (B9 (G5 (B8 ixD j8 j9))
 C4) C4)
 (B9 (G5 (B8 G0 (B8 G0 (B8 V1 (eC (.int 67)) j9) (eC (.int 19))) (E9 Q7 (B5 j8 C1))))
 C4))
nonrec def fT:FF:=F1 2 2 tV
nonrec def uL:SF :=
 (B9 (D3 2 (N3 C1))
 (B9 (K4 (fB (B5 j9 C1)) (F6 3) (B9 (D3 4 (B8 ixD (N3 (B5 (eC (.str "all")) (B5 (eC (.str "some")) C1))) (B8 J2 (B8 ixD j8 (B8 G0 (eC j6) k7)) (eC (.int 2)))))
 (B9 (F4 (E8 (B8 eqD (B8 J2 (B8 ixD j8 (eC j7)) (eC (.int 4))) (eC j6))) (B9 (D3 4 (B8 ixD (N3 (B5 (eC (.str "some")) (B5 (eC (.str "all")) C1))) (B8 J2 (B8 G0 k7 (B8 ixD j8 (eC j6))) (eC (.int 2)))))
 C4) C4)
 (B9 (F4 (E8 (B8 eqD (B8 J2 (B8 ixD j8 (eC j7)) (eC (.int 4))) (eC (.int 2)))) (B9 (D3 4 (B8 ixD (N3 (B5 (eC (.str "all")) (B5 (eC (.str "some")) C1))) (E9 intD (B5 (B8 gtD (B8 J2 (B8 ixD j8 (B8 G0 (eC j6) k7)) (eC (.int 3))) (eC j7)) C1))))
 C4) C4)
 (B9 (N7 (bE L3 k6 (B5 k8 C1)))
 C4)))))
 (B9 (G5 (E9 W7 (B5 k6 C1)))
 C4)))
nonrec def Ze6:FF:=F1 2 5 uL
nonrec def uE:SF :=
 (B9 (D3 3 (D8 2 lA (B5 j8 (B5 (B8 G0 j9 (eC j6)) C1))))
 (B9 (D3 4 (N3 C1))
 (B9 (K4 (fB (B5 j9 C1)) (F6 5) (B9 (F4 (E8 (B8 ltD (B8 J2 (B8 ixD k7 (B8 G0 (eC j6) k9)) (B8 G0 j9 (eC j6))) (B8 G0 k6 (B8 J2 (B8 ixD k7 (eC j7)) (eC (.int 3)))))) (B9 (N7 (bE L3 k8 (B5 (B8 ixD (N3 (B5 (B8 G0 k9 (eC j6)) (B5 (B8 A5 (B8 A5 (eC j7) k9) (eC j6)) C1))) (B8 J2 (B8 bI (B8 ixD k7 (B8 G0 (eC j6) k9)) (B8 G0 j9 (eC j6))) (eC (.int 2)))) C1)))
 C4) C4)
 C4))
 (B9 (G5 (E9 W7 (B5 k8 C1)))
 C4))))
nonrec def Zh5:FF:=F1 3 6 uE
nonrec def uK:SF :=
 (B9 (D3 2 (D8 2 lA (B5 (D8 2 fT (B5 j8 (B5 (eC j7) C1))) (B5 (eC (.int 14)) C1))))
 (B9 (D3 3 (B8 ixD (N3 (B5 (B8 J2 (B8 ixD k6 (eC j7)) (B8 G0 j9 (eC j6))) (B5 (B8 A5 j9 (B8 J2 (B8 ixD k6 (eC j7)) (eC (.int 3)))) (B5 j9 C1)))) (B8 J2 (B8 ixD k6 (eC j6)) (eC (.int 3)))))
 (B9 (D3 4 (D8 2 Ze6 (B5 (Q5 k6 (R1 (eC (.int 2))) T1) (B5 (E9 kF (B5 (eC j7) (B5 k7 C1))) C1))))
 (B9 (D3 5 (B8 ixD (N3 (B5 (B8 J2 (B8 ixD k6 (eC (.int 12))) (eC (.int 5))) (B5 (B8 J2 (B8 ixD k6 (eC (.int 12))) (eC (.int 11))) (B5 (B8 G0 (eC (.int 5)) (B8 J2 (B8 ixD k6 (eC (.int 12))) (eC (.int 16)))) C1)))) (B8 J2 (B8 ixD k6 (eC (.int 11))) (eC (.int 3)))))
 (B9 (D3 6 (W2 (fB (B5 k9 C1)) [0,4] gU (D8 3 Zh5 (B5 (D8 2 fT (B5 j9 (B5 (B8 G0 (eC j6) j8) C1))) (B5 (E9 Q7 (B5 k6 C1)) (B5 (eC j6) C1))))))
 (B9 (F4 (E8 (B8 gtD (B8 J2 (B8 ixD k6 (eC (.int 13))) (eC (.int 3))) (eC j7))) (B9 (D3 6 (W2 (K9 l9) [] (E8 (B8 neD j8 (G4 C1))) j8))
 C4) C4)
 (B9 (G5 (G4 (B5 k8 (B5 (E9 W7 (B5 l9 C1)) C1))))
 C4)))))))
nonrec def Zfe:FF:=F1 2 7 uK
nonrec def uQ:SF :=
 (B9 (D3 3 eDI)
 (B9 (K4 (K9 (B8 G0 j8 j9)) (F6 4) (B9 (F4 (E8 (B8 neD (E9 mS (B5 k8 C1)) k6)) (B9 (F4 (E8 (B8 iinD (F8 F9 k8) k7)) (B9 (G5 (eC .non))
 C4) C4)
 (B9 (Y9 (eC (.bl B1)) (cF k7 k8 sP))
 C4)) C4)
 C4))
 (B9 (G5 (E9 W7 (B5 (E9 tT (B5 k7 C1)) C1)))
 C4)))
nonrec def Zc5:FF:=F1 3 5 uQ
nonrec def uZ:SF :=
 (B9 (D3 2 (E9 Q7 (B5 j8 C1)))
 (B9 (D3 3 eDN)
 (B9 (F4 (E8 (B8 eqD (B8 ixD j8 (F8 F9 (eC j6))) (eC (.str "all")))) (B9 (K4 (K9 j9) (F6 4) (B9 (Y9 (eC (.bl B1)) (cF k7 (E9 W7 (B5 (W2 (K9 k8) [2] (E8 (B8 neD (E9 mS (B5 j8 C1)) j9)) j8) C1)) cL))
 C4))
 (B9 (G5 (E9 nG (B5 k7 C1)))
 C4)) C4)
 (B9 (K4 (K9 j9) (F6 4) (B9 (F4 (dM (E8 (B8 niD k6 k8)) (E8 (B8 niD (F8 F9 k6) k8))) (B9 (Y9 (eC (.bl B1)) (cF k7 k8 cL))
 C4) C4)
 (B9 (K4 (K9 j9) (F6 5) (B9 (F4 (dM (E8 (B8 inD k6 k8)) (E8 (B8 inD (F8 F9 k6) k9))) (B9 (D3 6 (D8 3 Zc5 (B5 k8 (B5 k9 (B5 k6 C1)))))
 (B9 (F4 (E8 (B8 cH l9 (eC .non))) (B9 (Y9 (eC (.bl B1)) (cF k7 l9 cL))
 C4) C4)
 C4)) C4)
 C4))
 C4)))
 (B9 (G5 (E9 nG (B5 k7 C1)))
 C4)))))
nonrec def Zcr:FF:=F1 2 7 uZ
nonrec def uW:SF :=
 (B9 (K4 (K9 j9) (F6 2) (B9 (F4 (E8 (B8 eqD (W2 (K9 k6) [0] (E8 (B8 niD j8 j9)) j8) (N3 C1))) (B9 (G5 (eC (.bl B1)))
 C4) C4)
 C4))
 (B9 (G5 (eC (.bl B2)))
 C4))
nonrec def Zcq:FF:=F1 2 3 uW
nonrec def uN:SF :=
 (B9 (D3 1 (N3 C1))
 (B9 (K4 (K9 (E9 tP (B5 j8 C1))) (F6 2) (B9 (F4 (gO (cJ (D8 2 Zcq (B5 k6 (B5 j9 C1))))) (B9 (N7 (bE L3 j9 (B5 k6 C1)))
 C4) C4)
 C4))
 (B9 (G5 (E9 nR (B5 j9 C1)))
 C4)))
nonrec def Zfa:FF:=F1 1 3 uN
nonrec def uU:SF :=
 (B9 (D3 1 (N3 (B5 j8 C1)))
 (B9 (D3 2 (N3 (B5 (eC j7) C1)))
 (B9 (cC (E8 (B8 neD (B8 ixD (B8 ixD j9 (F8 F9 (eC j6))) (eC j7)) (G4 C1))) (B9 (Y9 (B8 ixD j9 (F8 F9 (eC j6))) (fD 2 (cG (F6 4) (cG (F6 5) gNl))))
 (B9 (D3 3 (D8 2 Zcr (B5 k8 (B5 k9 C1))))
 (B9 (N7 (bE L3 k6 (B5 (E9 kF (B5 (B8 ixD k6 (F8 F9 (eC j6))) (B5 (E9 Q7 (B5 k7 C1)) C1))) C1)))
 (B9 (N7 (bE L3 j9 (B5 (G4 (B5 (Q5 k8 T1 (R1 (F8 F9 (eC j6)))) (B5 (E9 W7 (B5 (D8 1 Zfa (B5 k7 C1)) C1)) C1))) C1)))
 C4)))) 20)
 (B9 (G5 (G4 (B5 j9 (B5 k6 C1))))
 C4))))
nonrec def Zdb:FF:=F1 1 6 uU
nonrec def uS:SF :=
 (B9 (D3 3 (N3 C1))
 (B9 (D3 4 (eC (.bl B2)))
 (B9 (sL 5 (B9 (N7 (D8 3 dS (B5 j8 (B5 j9 (B5 k6 C1)))))
 C4) (yX "TooMany" (Q9 3 Zeq (B5 j8 (B5 j9 (B5 k6 C1))))) (B9 (D3 3 (N3 (B5 (dO [("TooMany",B1)] k9) (B5 (dO [("TooMany",B2)] k9) (B5 (dO [("TooMany",B2)] k9) C1)))))
 (B9 (N7 (bE L3 k7 (B5 (dO [("TooMany",B2)] k9) C1)))
 C4)))
 (B9 (sH (B9 (N7 (D8 3 dS (B5 j8 (B5 j9 (B5 k6 C1)))))
 C4) (Q9 3 Zeq (B5 j8 (B5 j9 (B5 k6 C1)))) (B9 (D3 4 (eC (.bl B1)))
 C4))
 (B9 (G5 (eAn k8 (B8 eqD k7 (N3 (B5 (eC (.bl B1)) (B5 (eC (.bl B2)) (B5 (eC (.bl B2)) (B5 (eC (.bl B2)) C1))))))))
 C4)))))
nonrec def Zcn:FF:=F1 3 6 uS
nonrec def uV:SF :=
 (B9 (Y9 j8 (fD 2 (cG (F6 3) (cG (F6 4) gNl))))
 (B9 (F4 (kH (E8 (B8 gtD (B8 J2 j9 (eC (.int 6))) (eC j7))) (E8 (B8 gtD (E9 Q7 (B5 k7 C1)) (eC (.int 5))))) (B9 (G5 j8)
 C4) C4)
 (B9 (D3 2 (E9 W7 (B5 (W2 (K9 (Q5 k8 T1 (R1 (B8 G0 (eC j6) (B8 J2 (B8 bI j9 (eC (.int 6))) (eC (.int 20))))))) [] gU (E9 W7 (B5 (W2 (K9 j8) [] gU (F8 F9 j8)) C1))) C1)))
 (B9 (G5 (G4 (B5 k7 (B5 (B8 V1 (B8 G0 k8 k6) (B8 G0 (eC j6) (B8 J2 (B8 bI j9 (eC (.int 120))) (eC (.int 3))))) C1))))
 C4))))
nonrec def Zcp:FF:=F1 2 5 uV
nonrec def sJ:SF :=
 (B9 (D3 1 (D8 2 Zfe (B5 j8 (B5 (eC (.int 8)) C1))))
 (B9 (F4 (E8 (B8 eqD (B8 J2 (B8 ixD (D8 2 lA (B5 (D8 2 fT (B5 j8 (B5 (eC j6) C1))) (B5 (eC (.int 29)) C1))) (eC (.int 28))) (eC (.int 4))) (eC j6))) (B9 (D3 1 (G4 (B5 (B8 V1 (G4 (B5 (eC (.str "some")) C1)) (E9 Q7 (B5 (B8 ixD j9 (eC j7)) C1))) (B5 (B8 ixD j9 (eC j6)) C1))))
 C4) C4)
 (B9 (D3 1 (D8 2 Zcp (B5 j9 (B5 (B8 ixD (D8 2 lA (B5 (D8 2 fT (B5 j8 (B5 (eC (.int 3)) C1))) (B5 (eC (.int 32)) C1))) (eC (.int 31))) C1))))
 (B9 (Y9 (D8 1 Zdb (B5 j9 C1)) (fD 2 (cG (F6 4) (cG (F6 5) gNl))))
 (B9 (D3 2 (B8 ixD (D8 2 lA (B5 (D8 2 fT (B5 j8 (B5 (eC (.int 2)) C1))) (B5 (eC (.int 31)) C1))) (eC (.int 30))))
 (B9 (K4 (K9 (mL (B5 (N3 (B5 (E9 minD (B5 (eC j6) (B5 (E9 Q7 (B5 (B8 ixD j9 (eC j7)) C1)) C1))) (B5 (B8 J2 k6 (E9 Q7 (B5 k8 C1))) (B5 (E9 Q7 (B5 (B8 ixD j9 (eC j7)) C1)) C1)))) C1))) (F6 3) (B9 (K4 (K9 (N3 (B5 (eC (.int 2000)) (B5 (E9 kF (B5 (eC j6) (B5 (B8 ixD k9 k7) C1))) C1)))) (F6 6) (B9 (F4 (E8 (B8 neD (D8 3 dS (B5 j9 (B5 k7 (B5 l9 C1)))) (B8 ixD k8 k7))) (B9 (G5 (eC (.bl B2)))
 C4) C4)
 C4))
 (B9 (F4 (E8 (B8 gtD (B8 ixD k9 k7) (eC j6))) (B9 (K4 (K9 (mL (B5 (N3 (B5 (eC j6) (B5 (B8 G0 (eC j6) (B8 J2 (B8 bI k6 (eC (.int 9))) (B8 A5 (B8 ixD k9 k7) (eC j6)))) (B5 (B8 A5 (B8 ixD k9 k7) (eC j6)) C1)))) C1))) (F6 6) (B9 (F4 (gO (cJ (D8 3 Zcn (B5 j9 (B5 k7 (B5 l9 C1)))))) (B9 (G5 (eC (.bl B2)))
 C4) C4)
 C4))
 C4) C4)
 (B9 (D3 7 (B8 J2 (B8 bI k6 (eC (.int 63))) (B8 G0 k7 (eC j6))))
 (B9 (F4 (E8 (B8 neD (D8 3 dS (B5 (B8 ixD k8 m7) (B5 (B8 A5 k7 m7) (B5 (eC (.int 2000)) C1)))) (B8 ixD k8 k7))) (B9 (G5 (eC (.bl B2)))
 C4) C4)
 C4)))))
 (B9 (G5 (B8 eqD (D8 3 dS (B5 j9 (B5 (eC j7) (B5 (eC j6) C1)))) j9))
 C4)))))))
nonrec def nA:FF:=F1 1 8 sJ
end K08
set_option maxHeartbeats 4000000
namespace K08
open PySem L2 DL LH WP
nonrec def kS(d:D):Bool:=match d with
 |.str x=>x == "some"
 |_=>B2
nonrec def kJ(b:Bool):D:=if b then .str "some" else .str "all"
theorem Zho{d:D}(h:bK d):d=kJ (kS d):=by
 rcases h with rfl |rfl<;>rfl
theorem Zzp(a b:Bool)(H:HD):eqD (kJ a) (kJ b) H=B3 (.bl (a==b),H):=by
 cases a<;>cases b<;>rfl
theorem at0(a b:D):M0 [a,b] 0=B3 a:=Zi8 (j:=0) rfl
theorem at1(a b:D):M0 [a,b] 1=B3 b:=Zi8 (j:=1) rfl
structure Cl(ks:List D)(b7:List j5):Prop where
 hk:∀d∈ks,bK d
 hu:∀ls∈b7,Up ks.length 0 ls
 hl:b7.length<=1000
 h8:ks.length<=8
nonrec def G8(ks:List D)(b7:List j5):D:=.tup [.tup ks,.tup (b7.map C2)]
variable{H:HD}{Q:D->HD->Prop}
theorem qC{ks:List D}{b7:List (List Int)}(q:Q (.tup ks) H):wE (ixD (G8 ks b7) j7 H) Q:=⟨_,_,ixT (at0 _ _),q⟩
theorem qB{ks:List D}{b7:List (List Int)}(q:Q (.tup (b7.map C2)) H):wE (ixD (G8 ks b7) j6 H) Q:=⟨_,_,ixT (at1 _ _),q⟩
local macro_rules | `(tactic| fail $s:str)=>do
 if s.getString == "g" then `(tactic| (repeat fail "go")) else if s.getString == "i" then `(tactic| ((repeat fail "go"); (refine WP.w_if ?_; (repeat fail "go")))) else Lean.Macro.throwUnsupported
local macro_rules | `(tactic| fail $s:str)=>do
 if s.getString == "lk" then `(tactic| first | assumption | with_reducible exact WP.last | (with_reducible refine WP.appL ?_; fail "lk"))
 else if s.getString == "go" then do
  let a0 <- `(by with_unfolding_all rfl)
  let a1 <- `(?_)
  let a2 <- `(by first | (simp; done) | (simp; omega) | omega)
  let a3 <- `(by decide)
  let a4 <- `(by with_unfolding_all first | exact(rfl:_=true) | exact(rfl:_=false))
  let a5 <- `(by fail "lk")
  let a6 <- `(by with_unfolding_all exact rfl)
  let t<-([("w_var",[a0,a1]),("w_c w_seq w_kn w_set w_op w_acons w_anil w_call w_cb w_tof w_bl w_bt w_bf w_bnt w_bnf w_ret w_fr w_kr w_snil w_expr w_for w_or w_an w_no w_ttru w_eif w_eno w_ean w_eorr w_un w_ch w_int w_tup w_lst w_lm w_tm w_dm w_dn w_on w_os w_sl w_rv w_lc w_asg w_gnm w_gsb w_gcn w_gnl",[a1]),("w_n w_gtp w_ixT w_isN w_isnN w_isBl w_isnBl",[a0,a1]),("w_sz w_addT",[a2,a1]),("w_mod",[a3,a1]),("w_fdiv w_mulL w_mulR",[a3,a3,a1]),("w_eqI' w_neI' w_eqS' w_neS'",[a4,a1]),("w_lenR w_tupR w_itR",[a5,a1]),("w_ixR",[a5,a0,a1]),("w_isi'",[a0,a0,a4,a1]),("w_addI w_subI w_lt w_le w_gt w_ge w_slhi w_sllo w_sllo1 w_neg w_eqI w_neI w_eqS w_neS w_lenT w_lenF w_abs w_intI w_intB w_max w_min w_truB w_truT w_truN w_isq w_itT w_itF w_ir1 w_ir2 w_ir3 w_idic w_enum w_enum1 w_zip w_yes w_retn w_fn w_agn w_agr w_kb w_kc w_agb w_agc w_brk w_cnt",[a1]),("w_bT w_bF",[a6,a1])].flatMap fun p=>(p.1.splitOn " ").map fun n=>(`WP++n.toName,p.2):List (Lean.Name×List Lean.Term)).foldrM (fun p (r:Lean.TSyntax `tactic) => `(tactic| first | with_reducible refine $(Lean.Syntax.mkApp (Lean.mkIdent p.1) p.2.toArray) | $r:tactic)) (<- `(tactic| fail "no"))
  return t
 else Lean.Macro.throwUnsupported
local macro_rules | `(tactic| fail $s:str)=>do
 if s.getString == "go" then `(tactic| first | with_reducible refine w_lenP ?_ | with_reducible refine w_addP (by omega) ?_ | with_reducible refine qC ?_ | with_reducible refine qB ?_)
 else Lean.Macro.throwUnsupported
variable{H:HD}{Q:D->HD->Prop}
theorem Ybm{t:TF}{f g:SF}{σ:SD}{R:FD->SD->HD->Prop}(B:Bool)(h:wT (t σ H) λb H'=>H'=H/\b=B)(ht:B=B1->wS (f σ H) R)(hf:B=B2->wS (g σ H) R):wS (F4 t f g σ H) R:=by
 obtain⟨b,H1,e,rfl,rfl⟩:=h;exact w_if ⟨_,_,e,ht,hf⟩
theorem mod7(k:Int):k % 7=0\/k % 7=1\/k % 7=2\/k % 7=3\/k % 7=4\/k % 7=5\/k % 7=6:=by
 obtain⟨n,hn⟩:=Wff (bN k (show (7:Int)≠0 by decide));have h1:=bP k (show (0:Int)<7 by decide);rw[hn]at h1 ⊢;exact(by decide:∀n:Nat,n<7->((n:Int)=0\/(n:Int)=1\/(n:Int)=2\/(n:Int)=3\/(n:Int)=4\/(n:Int)=5\/(n:Int)=6)) n (Int.ofNat_lt.mp h1)
theorem pV{cell k:Int}(h0:0<=k)(h1:k<=100)(q:∀r H',0<=r->r<2147483648->Fm [] H H'->Q (.int r) H'):wE (Zhn [.int cell,.int k] H) Q:=by
 refine P7 rfl ?_;show wS (uJ [B3 (.int cell),B3 (.int k),B0,B0] H) _;unfold uJ;obtain⟨P,hP,hP2,eP⟩:∃P:Int,0<P/\P<2147483648/\M0 [D.int 2147483647,.int 2147483629,.int 2147483587,.int 2147483579,.int 2147483563,.int 2147483549,.int 2147483543] (k % 7)=B3 (.int P):=by
  rcases mod7 k with h |h |h |h |h |h |h<;>rw[h]
  ·exact⟨2147483647,by decide,by decide,rfl⟩
  ·exact⟨2147483629,by decide,by decide,rfl⟩
  ·exact⟨2147483587,by decide,by decide,rfl⟩
  ·exact⟨2147483579,by decide,by decide,rfl⟩
  ·exact⟨2147483563,by decide,by decide,rfl⟩
  ·exact⟨2147483549,by decide,by decide,rfl⟩
  ·exact⟨2147483543,by decide,by decide,rfl⟩
 fail "g";refine w_ixR last eP ?_;fail "g";have c0:=bN cell (show (998244353:Int)≠0 by decide);have c1:=bP cell (show (0:Int)<998244353 by decide);generalize cell % 998244353=c at *;refine w_mulL f8 f8 ?_;fail "g";refine w_mulL f8 f8 ?_;fail "g";refine w_mod hP ?_;have a0:=bN ((c+104729*(k+1))*(k*k+7*k+13)) (show P≠0 by omega);have a1:=bP ((c+104729*(k+1))*(k*k+7*k+13)) hP;generalize (c+104729*(k+1))*(k*k+7*k+13) % P=a at *;fail "g";refine Zy2 g9 g9 f8 ?_;fail "g";have b0:=bN (a ^ (5:Int).toNat) (show (1000000007:Int)≠0 by decide);have b1:=bP (a ^ (5:Int).toNat) (show (0:Int)<1000000007 by decide);generalize a ^ (5:Int).toNat % 1000000007=b at *;refine w_mod hP ?_;have d0:=bN (b*48271+31*k+5) (show P≠0 by omega);have d1:=bP (b*48271+31*k+5) hP;generalize (b*48271+31*k+5) % P=d at *;fail "g";refine Zy2 g9 g9 f8 ?_;fail "g";have e0:=bN (d ^ (3:Int).toNat) (show (998244353:Int)≠0 by decide);have e1:=bP (d ^ (3:Int).toNat) (show (0:Int)<998244353 by decide);generalize d ^ (3:Int).toNat % 998244353=e at *;exact q _ _ f8 f8 (Fm.app _)
def kE(ds:List Int):Prop:=∀d∈ds,0<=d/\d<2147483648
theorem tX{cell:Int}{many:Nat}(h1:many<=100)(q:∀(ds:List Int)p H',ds.length=many->kE ds->H'[p]? = B3 (.lst (ds.map .int))->H.length<=p->Fm [] H H'->Q (.ref p) H'):wE (lA [.int cell,.int many] H) Q:=by
 refine P7 rfl ?_;show wS (uR [B3 (.int cell),B3 (.int many),B0,B0,B0,B0] H) _;unfold uR;fail "g";refine Zy2 g9 g9 g9 ?_;fail "g";generalize decide ((10:Int) ^ (18:Int).toNat<=C8 cell)=wide;refine⟨_,rfl,⟨by omega,by omega⟩,?_⟩;rw[show ((many:Int)).toNat=many by omega];refine T2 (λd t σ H'=>d++t=K6 0 many/\∃(ds:List Int)(L:Int)(z5:Option D),ds.length=d.length/\kE ds/\H'[H.length]? = B3 (.lst (ds.map .int))/\Fm [H.length] (H++[.lst []]) H'/\0<=L/\σ=[B3 (.int cell),B3 (.int many),B3 (.ref H.length),B3 (.int L),B3 (.bl wide),z5]) (λ_ _ _ _ _=>Q6) (λd x t σ H1⟨e0,ds,L,z5,e1,e2,e3,x1,hL,e5⟩=>?_) (λd σ H1⟨e0,ds,L,z5,e1,e2,e3,x1,hL,e5⟩=>?_) _ [] _ _ ⟨rfl,[],C8 cell,_,rfl,(by intro d h;cases h),last,Fm.refl,(by unfold C8;split<;>omega),rfl⟩
 ·subst e5;have hx:x∈K6 0 many:=by rw[<- e0];simp
  simp only[K6,Xr,oO]at hx;obtain⟨i,hi,rfl⟩:=hx;have hd:d.length<=100:=by
   have:=congrArg iP e0;simp[K6]at this;omega
  fail "g";refine Ybm (wide&&decide (0<L)) ?_ (λh=>?_) (λh=>?_)
  ·fail "g";cases wide
   ·exact⟨(λz=>nomatch z),λ_=>⟨rfl,rfl⟩⟩
   ·refine⟨λ_=>?_,(λz=>nomatch z)⟩;fail "g";exact⟨rfl,by simp⟩
  ·fail "g";refine⟨rV e3,?_⟩;fail "g";refine fN e3 h9 ?_;fail "g";have m0:=bN L (show (10007:Int)≠0 by decide);have m1:=bP L (show (0:Int)<10007 by decide);refine⟨by rw[<- e0];simp,ds++[L % 10007],L / 10007,_,by simp[e1],?_,?_,x1.trans (Fm.set g8),Int.ediv_nonneg hL g9,rfl⟩
   ·intro y hy;rcases Xf.mp hy with h |h
    ·exact e2 y h
    ·simp at h;subst h;exact⟨m0,by omega⟩
   ·rw[U7];exact M2 e3
  ·fail "g";refine⟨rV e3,?_⟩;fail "g";refine pV f8 f8 λr H2 r0 r1 x2=>?_;fail "g";have e3':=x2.lst g8 e3;refine fN e3' h9 ?_;fail "g";refine⟨by rw[<- e0];simp,ds++[r],L,_,by simp[e1],?_,?_,(x1.trans (x2.sub g8)).trans (Fm.set g8),hL,rfl⟩
   ·intro y hy;rcases Xf.mp hy with h |h
    ·exact e2 y h
    ·simp at h;subst h;exact⟨r0,r1⟩
   ·rw[U7];exact M2 e3'
 ·subst e5;have hd:d.length=many:=by
   have:=congrArg iP e0;simpa [K6]using this
  fail "g";exact q ds _ H1 f8 e2 e3 (Xd _) ((Fm.app (S:=[]) _).new x1 (by intro m hm _;simp at hm;omega))
theorem w_at{ns:List Int}{k:Int}(h0:0<=k)(h1:k<=1000)(q:∀c,Q (.int c) H):wE (fT [.fl (ns.map .int),.int k] H) Q:=by
 refine P7 rfl ?_;show wS (tV [B3 (.fl (ns.map .int)),B3 (.int k)] H) _;unfold tV;fail "i";refine⟨λh=>?_,λh=>?_⟩
 ·have lt:k.toNat<ns.length:=by have:=of_decide_eq_true h;simp at this;omega
  fail "g";refine pW (Zke h0 (d:=.int ns[k.toNat]) (by rw[Xy,bS lt];rfl)) ?_;fail "g";exact q _
 ·fail "g";exact q _
theorem T0{p:Nat}{ds:List Int}{i:Int}(g:H[p]? = B3 (.lst (ds.map .int)))(hd:kE ds)(h0:0<=i)(h1:i<ds.length)(q:∀r,0<=r->r<2147483648->Q (.int r) H):wE (ixD (.ref p) (.int i) H) Q:=by
 have lt:i.toNat<ds.length:=by omega
 have hm:=hd _ (Wgw lt);exact w_ixR g (Zke h0 (d:=.int ds[i.toNat]) (by rw[Xy,bS lt];rfl)) (q _ hm.1 hm.2)
theorem Zwp{r:Int}(h0:0<=r)(h1:r<2):∃k,bK k/\M0 [D.str "all",.str "some"] r=B3 k:=by
 rcases(show r=0\/r=1 by omega)with rfl |rfl
 ·exact⟨_,.inl rfl,rfl⟩
 ·exact⟨_,.inr rfl,rfl⟩
theorem Ycq{r:Int}(h0:0<=r)(h1:r<2):∃k,bK k/\M0 [D.str "some",.str "all"] r=B3 k:=by
 rcases(show r=0\/r=1 by omega)with rfl |rfl
 ·exact⟨_,.inr rfl,rfl⟩
 ·exact⟨_,.inl rfl,rfl⟩
theorem fA(r:Int):0<=r % 2/\r % 2<2:=by omega
theorem Zyl{p:Nat}{ds:List Int}{many:Nat}(g:H[p]? = B3 (.lst (ds.map .int)))(hd:kE ds)(hl:many+1<=ds.length)(h100:many<=100)(q:∀ks H',(∀d∈ks,bK d)->ks.length=many->Fm [] H H'->Q (.tup ks) H'):wE (Ze6 [.ref p,.int many] H) Q:=by
 refine P7 rfl ?_;show wS (uL [B3 (.ref p),B3 (.int many),B0,B0,B0] H) _;unfold uL;fail "g";have hp:p<H.length:=(Xg.mp g).1;refine⟨_,rfl,⟨by omega,by omega⟩,?_⟩;rw[show ((many:Int)).toNat=many by omega];refine T2 (λd t σ H'=>d++t=K6 0 many/\∃(ks:List D)(z3 z4:Option D),ks.length=d.length/\(∀d∈ks,bK d)/\H'[H.length]? = B3 (.lst ks)/\Fm [H.length] (H++[.lst []]) H'/\σ=[B3 (.ref p),B3 (.int many),B3 (.ref H.length),z3,z4]) (λ_ _ _ _ _=>Q6) (λd x t σ H1 zz=>?_) (λd σ H1 zz=>?_) _ [] _ _ ⟨rfl,[],_,_,rfl,(by intro d h;cases h),last,Fm.refl,rfl⟩
 ·obtain⟨e0,ks,z3,z4,e1,e2,e3,x1,e5⟩:=zz;subst e5;have hx:x∈K6 0 many:=by rw[<- e0];simp
  simp only[K6,Xr,oO]at hx;obtain⟨i,hi,rfl⟩:=hx;have hdl:d.length<=100:=by
   have:=congrArg iP e0;simp[K6]at this;omega
  have gp:H1[p]? = B3 (.lst (ds.map .int)):=x1.lst h9 (appL g);have Jn:∀(L:List D){H2:HD},Fm [H.length] (H++[.lst []]) H2->H2[p]? = B3 (.lst (ds.map .int))->H2[H.length]? = B3 (.lst ks)->Fm [H.length] (H++[.lst []]) (H2++[.lst L])/\(H2++[.lst L])[p]? = B3 (.lst (ds.map .int))/\(H2++[.lst L])[H.length]? = B3 (.lst ks):=λL H2 a b c=>⟨a.trans (Fm.app _),appL b,appL c⟩
  refine w_gnm (w_seq ?_);refine cO (λσ H2=>(Fm [H.length] (H++[.lst []]) H2/\H2[p]? = B3 (.lst (ds.map .int))/\H2[H.length]? = B3 (.lst ks))/\∃k,bK k/\σ=[B3 (.ref p),B3 (.int many),B3 (.ref H.length),B3 (.int (0+i)),B3 k]) ?_ ?_
  ·fail "g";refine T0 (appL gp) hd f8 f8 λr r0 r1=>?_;fail "g";obtain⟨k,hk,ek⟩:=Zwp (fA r).1 (fA r).2;refine w_ixR last ek ?_;exact⟨rfl,Jn _ x1 gp e3,k,hk,rfl⟩
  rintro _ H2 ⟨⟨x2,g2,e4⟩,k,hk,rfl⟩;refine w_seq (cO (λσ H2=>(Fm [H.length] (H++[.lst []]) H2/\H2[p]? = B3 (.lst (ds.map .int))/\H2[H.length]? = B3 (.lst ks))/\∃k,bK k/\σ=[B3 (.ref p),B3 (.int many),B3 (.ref H.length),B3 (.int (0+i)),B3 k]) ?_ ?_)
  ·(refine WP.w_if ?_;fail "g")
   refine T0 g2 hd f8 f8 λr r0 r1=>?_;fail "g";refine⟨λh=>?_,λh=>?_⟩
   ·fail "g";refine T0 (appL g2) hd f8 f8 λr' r0' r1'=>?_;fail "g";obtain⟨k2,hk2,ek2⟩:=Ycq (fA (0+(i:Int)+r')).1 (fA _).2;refine w_ixR last ek2 ?_;fail "g";exact⟨rfl,Jn _ x2 g2 e4,k2,hk2,rfl⟩
   ·fail "g";exact⟨rfl,⟨x2,g2,e4⟩,k,hk,rfl⟩
  rintro _ H3 ⟨⟨x3,g3,e6⟩,k,hk,rfl⟩;refine w_seq (cO (λσ H2=>(Fm [H.length] (H++[.lst []]) H2/\H2[p]? = B3 (.lst (ds.map .int))/\H2[H.length]? = B3 (.lst ks))/\∃k,bK k/\σ=[B3 (.ref p),B3 (.int many),B3 (.ref H.length),B3 (.int (0+i)),B3 k]) ?_ ?_)
  ·(refine WP.w_if ?_;fail "g")
   refine T0 g3 hd f8 f8 λr r0 r1=>?_;fail "g";refine⟨λh=>?_,λh=>?_⟩
   ·fail "g";refine T0 (appL g3) hd f8 f8 λr' r0' r1'=>?_;fail "g";obtain⟨k2,hk2,ek2⟩:=Zwp (r:=if decide (0<r' % 3)=B1 then 1 else 0) (by split<;>omega) (by split<;>omega);refine w_ixR last ek2 ?_;fail "g";exact⟨rfl,Jn _ x3 g3 e6,k2,hk2,rfl⟩
   ·fail "g";exact⟨rfl,⟨x3,g3,e6⟩,k,hk,rfl⟩
  rintro _ H4 ⟨⟨x4,g4,e7⟩,k,hk,rfl⟩;fail "g";refine⟨rV e7,?_⟩;fail "g";refine fN e7 f8 ?_;fail "g";refine⟨by rw[<- e0];simp,ks++[k],_,_,by simp[e1],?_,M2 e7,x4.trans (Fm.set g8),rfl⟩;intro y hy;rcases Xf.mp hy with h |h
  ·exact e2 y h
  ·simp at h;subst h;exact hk
 ·obtain⟨e0,ks,z3,z4,e1,e2,e3,x1,e5⟩:=zz;subst e5;have hdl:d.length=many:=by
   have:=congrArg iP e0;simpa [K6]using this
  fail "g";exact q ks H1 e2 f8 ((Fm.app (S:=[]) _).new x1 (by intro m hm _;simp at hm;omega))
theorem Zqc{m:Int}:∀(ls:List Int)(last l:Int),Up m last ls->(∀x∈ls,C8 x<C8 l)->last<C8 l->C8 l<=m->Up m last (ls++[l])
 |[],last,l,_,_,h1,h2=>⟨h1,h2,trivial⟩
 |x::r,last,l,u,h,h1,h2=>by
  obtain⟨u1,u2,u3⟩:=u;exact⟨u1,u2,Zqc r (C8 x) l u3 (λy hy=>h y (by simp[hy])) (h x g8) h2⟩
theorem uO(lo:Int)(m:Nat):K6 lo (m+1)=.int lo::K6 (lo+1) m:=by
 unfold K6;rw[List.range_succ_eq_map,Xx,K7];have e0:D.int (lo+((0:Nat):Int))=.int lo:=by simp
 rw[e0];refine congrArg (P9 _) (iV λa _=>?_);show D.int _=D.int _
 congr 1
 omega
theorem Zyn{cell:Int}{M:Nat}{wide:Int}(hM:M<=8)(q:∀ls H',Up M 0 ls->Fm [] H H'->Q (C2 ls) H'):wE (Zh5 [.int cell,.int M,.int wide] H) Q:=by
 refine P7 rfl ?_;show wS (uE [B3 (.int cell),B3 (.int M),B3 (.int wide),B0,B0,B0] H) _;unfold uE;fail "g";rw[show (M:Int)+1=((M+1:Nat):Int)by omega];refine tX f8 λds p H1 l1 d1 g1 n1 x1=>?_;fail "g";refine⟨_,rfl,⟨by omega,by omega⟩,?_⟩;rw[bO];refine T2 (λd t σ H'=>∃ls:List Int,t=K6 (d.length:Int) (M-d.length)/\H'[p]? = B3 (.lst (ds.map .int))/\H'[H1.length]? = B3 (.lst (ls.map .int))/\ls.length<=d.length/\d.length<=M/\Up M 0 ls/\(∀x∈ls,C8 x<=d.length)/\Fm [] H H'/\∃z,σ=[B3 (.int cell),B3 (.int M),B3 (.int wide),B3 (.ref p),B3 (.ref H1.length),z]) (λ_ _ _ _ _=>Q6) (λd x t σ H2 zz=>?_) (λd σ H2 zz=>?_) _ [] _ _ ⟨[],by simp,appL g1,last,by simp,by simp,trivial,by simp,x1.trans (Fm.app _),B0,rfl⟩
 ·obtain⟨ls,i1,i2,i3,i4,i5,i6,i7,i8,z,i9⟩:=zz;subst i9;obtain⟨k,hk⟩:∃k,M-d.length=k+1:=by
   cases h:M-d.length with
   |zero=>rw[h]at i1;simp[K6]at i1
   |succ k=>exact⟨k,rfl⟩
  rw[hk,uO]at i1;obtain⟨rfl,rfl⟩:=P9.inj i1;have tl:K6 ((d.length:Int)+1) k=K6 (((d++[D.int (d.length:Int)]).length:Nat):Int) (M-(d++[D.int (d.length:Int)]).length):=by
   simp only[Y4,cX,iR]
   congr 1
   omega
  fail "i";refine T0 i2 d1 f8 f8 λr r0 r1=>?_;fail "g";refine w_mod f8 ?_;fail "g";refine T0 i2 d1 f8 f8 λr' r0' r1'=>?_;fail "g";refine⟨λh=>?_,λh=>?_⟩
  ·fail "g";refine⟨rV i3,?_⟩;fail "g";refine T0 (appL i2) d1 f8 f8 λr2 r20 r21=>?_;fail "g";refine w_fdiv f8 f8 ?_;fail "g";have m2:r2 / ((M:Int)+1) % 2=0\/r2 / ((M:Int)+1) % 2=1:=by omega
   obtain⟨l,hl,el⟩:∃l:Int,C8 l=(d.length:Int)+1/\M0 [D.int ((d.length:Int)+1),.int (0-(d.length:Int)-1)] (r2 / ((M:Int)+1) % 2)=B3 (.int l):=by
    rcases m2 with z |z<;>rw[z]
    ·exact⟨_,by unfold C8;split<;>omega,rfl⟩
    ·exact⟨_,by unfold C8;split<;>omega,rfl⟩
   refine w_ixR last el ?_;fail "g";refine fN (appL i3) h9 ?_;fail "g";have np:H1.length≠p:=by have:=(Xg.mp g1).1;omega
   refine⟨ls++[l],tl,A2 np (appL i2),by rw[M2 (appL i3)];simp,by simp;omega,by simp;omega,Zqc ls 0 l i6 (λx hx=>by have:=i7 x hx;omega) f8 f8,λx hx=>?_,?_,_,rfl⟩
   ·rcases Xf.mp hx with z |z
    ·have:=i7 x z;simp;omega
    ·simp at z;subst z;simp;omega
   ·exact(i8.trans (Fm.app _)).new (Fm.set (S:=[H1.length]) g8) (λq hq _=>by simp at hq;subst hq;exact x1.len)
  ·fail "g";exact⟨ls,tl,i2,i3,by simp;omega,by simp;omega,i6,λx hx=>by have:=i7 x hx;simp;omega,i8,_,rfl⟩
 ·obtain⟨ls,i1,i2,i3,i4,i5,i6,i7,i8,z,i9⟩:=zz;subst i9;fail "g";exact q ls H2 i6 i8
theorem pT{p:Nat}{xs:List D}{k:Nat}(g:H[p]? = B3 (.lst xs))(q:Q (.ref H.length) (H++[.lst (xs.drop k)])):wE (W1 (.ref p) (B3 (k:Int)) B0 H) Q :=
 ⟨_,_,by rw[<- Ycl];simp only[W1,g],q⟩
theorem kE.drop{ds:List Int}(h:kE ds)(k:Nat):kE (ds.drop k):=λd hd=>h d (iW hd)
theorem uF(ls:List Int):C7 (ls.map .int) (ls.map .int) 0:=by
 induction ls with
 |nil=>exact .nil
 |cons l r ih=>exact .cons (.int l) ih
theorem Zru{sd:D}{most:Nat}(at':∀(H:HD)(k:Int)(Q:D->HD->Prop),0<=k->k<=1000->(∀c,Q (.int c) H)->wE (fT [sd,.int k] H) Q)(hm:2<=most/\most<=8)(q:∀ks b7 H',Cl ks b7->ks.length<=most->b7.length<=20->Fm [] H H'->Q (G8 ks b7) H'):wE (Zfe [sd,.int most] H) Q:=by
 refine P7 rfl ?_;show wS (uK [B3 sd,B3 (.int most),B0,B0,B0,B0,B0] H) _;unfold uK;fail "g";refine at' _ _ _ f8 f8 λc=>?_;fail "g";refine tX (many:=14) f8 λds pd H1 l1 d1 g1 n1 x1=>?_;fail "g";refine T0 g1 d1 f8 f8 λa a0 a1=>?_;fail "g";refine w_mod f8 ?_;fail "g";refine T0 g1 d1 f8 f8 λa' a0' a1'=>?_;fail "g";refine T0 (appL g1) d1 f8 f8 λb b0 b1=>?_;fail "g";have m3:b % 3=0\/b % 3=1\/b % 3=2:=by omega
 obtain⟨N,hN,eN⟩:∃N:Nat,N<=most/\M0 [D.int (a % ((most:Int)+1)),.int ((most:Int)-a' % 3),.int (most:Int)] (b % 3)=B3 (.int N):=by
  have e1:=bN a (show (most:Int)+1≠0 by omega);have e2:=bP a (show 0<(most:Int)+1 by omega);rcases m3 with z |z |z<;>rw[z]
  ·refine⟨(a % ((most:Int)+1)).toNat,by omega,?_⟩;rw[vX e1];rfl
  ·refine⟨((most:Int)-a' % 3).toNat,by omega,?_⟩;rw[vX f8];rfl
  ·exact⟨most,Xd _,rfl⟩
 refine w_ixR last eN ?_;fail "g";refine pT (k:=2) (appL g1) ?_;fail "g";rw[show (if (N:Int) > 0 then (N:Int)else 0)=(N:Int)by split<;>omega];rw[<- List.map_drop];refine Zyl (many:=N) last (d1.drop 2) h9 f8 λks H2 hk lk x2=>?_;have X2:Fm [] H H2:=((x1.trans (Fm.app _)).trans (Fm.app _)).trans x2;have g2:=x2.lst g8 (appL (u:=DO.lst ((ds.drop 2).map D.int)) (appL (u:=DO.lst [D.int (a % ((most:Int)+1)),.int ((most:Int)-a' % 3),.int (most:Int)]) g1));fail "g";refine T0 g2 d1 f8 f8 λu0 u1 u2=>?_;fail "g";refine T0 g2 d1 f8 f8 λv0 v1 v2=>?_;fail "g";refine T0 g2 d1 f8 f8 λy0 y1 y2=>?_;fail "g";refine T0 (appL g2) d1 f8 f8 λe e0 e1=>?_;fail "g";have m3':e % 3=0\/e % 3=1\/e % 3=2:=by omega
 obtain⟨Z,hZ,eZ⟩:∃Z:Nat,Z<=20/\M0 [D.int (u0 % 5),.int (v0 % 11),.int (5+y0 % 16)] (e % 3)=B3 (.int Z):=by
  rcases m3' with z |z |z<;>rw[z]
  ·refine⟨(u0 % 5).toNat,by omega,?_⟩;rw[vX f8];rfl
  ·refine⟨(v0 % 11).toNat,by omega,?_⟩;rw[vX f8];rfl
  ·refine⟨(5+y0 % 16).toNat,by omega,?_⟩;rw[vX f8];rfl
 refine w_ixR last eZ ?_;fail "g";refine⟨_,rfl,⟨by omega,by omega⟩,?_⟩;rw[bO];have Y:Fm [] H (H2++[DO.lst [D.int (u0 % 5),.int (v0 % 11),.int (5+y0 % 16)]]):=X2.trans (Fm.app _);refine Zr4 (λd t o H'=>∃b7:List j5,o=b7.map C2/\b7.length=d.length/\d.length+t.length=Z/\(∀ls∈b7,Up N 0 ls)/\(∀x∈t,∃i:Nat,x=.int i/\i<=100)/\True/\H'[pd]? = B3 (.lst (ds.map .int))/\Fm [] H H') (λ_ _ _ _ _=>Q6) (λd x t o H3 zz=>?_) _ [] [] _ ⟨[],rfl,rfl,by simp[K6],by simp,λx hx=>?_,trivial,appL g2,Y⟩ (λd o H3 zz=>?_)
 ·obtain⟨b7,i1,i2,i3,i4,i5,i6,i7,i8⟩:=zz;obtain⟨i,rfl,hi⟩:=i5 x g8;fail "g";refine at' _ _ _ f8 f8 λcell=>?_;fail "g";rw[lk];refine Zyn f8 λls H4 u x4=>?_;refine⟨b7++[ls],by rw[i1];simp,by simp[i2],by simp at i3 ⊢;omega,λy hy=>?_,λy hy=>i5 y (by simp[hy]),trivial,x4.lst g8 i7,i8.trans x4⟩;rcases Xf.mp hy with z |z
  ·exact i4 y z
  ·simp at z;subst z;exact u
 ·simp only[K6,Xr,oO]at hx;obtain⟨k,hk,rfl⟩:=hx;exact⟨k,by simp,by omega⟩
 obtain⟨b7,i1,i2,i3,i4,i5,i6,i7,i8⟩:=zz;rw[Weh]at i1;simp only[iR,Nat.add_zero]at i3;subst i1;refine⟨by simp;omega,?_⟩;show wS (B9 _ _ [B3 sd,B3 (.int most),B3 (.ref pd),B3 (.int N),B3 (.tup ks),B3 (.int Z),B3 (.ref H3.length)] (H3++[.lst (b7.map C2)])) _;refine w_seq (cO (λσ H'=>∃(rs:List j5)(pr:Nat),H'[pr]? = B3 (.lst (rs.map C2))/\rs.length<=20/\(∀ls∈rs,Up N 0 ls)/\Fm [] H H'/\σ=[B3 sd,B3 (.int most),B3 (.ref pd),B3 (.int N),B3 (.tup ks),B3 (.int Z),B3 (.ref pr)]) ?_ ?_)
 ·(refine WP.w_if ?_;fail "g")
  refine T0 (appL i7) d1 f8 f8 λr r0 r1=>?_;fail "g";refine⟨λh=>?_,λh=>?_⟩
  ·fail "g";refine oB (λd=>match d with |.tup xs=> !xs.isEmpty |_=>B1) (λH'=>H'=H3++[.lst (b7.map C2)]) (λ_ j=>by rw[j];exact A0 last) _ (λx hx H4 j=>?_) _ rfl λH4 j=>?_
   ·obtain⟨ls,hls,rfl⟩:=Xr.mp hx;subst j;fail "g";refine Zte (D0.tup (uF ls)) (D0.tup (h:=0) C7.nil) f8 f8 ?_;refine⟨_,rfl,?_,rfl⟩;cases ls<;>simp[Ub,Ut,C2]
   ·subst j;have ef:(b7.map C2).filter (λd=>match d with |.tup xs=> !xs.isEmpty |_=>B1)=(b7.filter λls=> !ls.isEmpty).map C2:=by
     rw[Wfs]
     congr 1
     exact Wgn λls _=>by cases ls<;>rfl
    rw[ef];have lf:=lH (λls:List Int=> !ls.isEmpty) b7;refine⟨by simp;omega,?_⟩;fail "g";exact⟨rfl,_,_,last,by omega,λls h=>i4 ls (L8.mp h).1,(i8.trans (Fm.app _)).trans (Fm.app _),rfl⟩
  ·fail "g";exact⟨rfl,b7,_,last,by omega,i4,i8.trans (Fm.app _),rfl⟩
 rintro _ H4 ⟨rs,pr,g4,l4,u4,X4,rfl⟩;fail "g";refine q ks rs H4 ⟨hk,λls h=>by rw[lk];exact u4 ls h,by omega,by omega⟩ f8 l4 X4
variable{σ:SD}{H:HD}{Q:D->HD->Prop}
theorem Znr:∀ls:List Int,mY (ls.map .int)=B3 ls
 |[]=>rfl
 |l::r=>by simp[mY,eY,Znr r]
theorem Znc(ls:List Int):nk (C2 ls)=B3 ls:=Znr ls
theorem sX{m:Int}:∀(ls:List Int)(last:Int),Up m last ls->ls.length<=(m-last).toNat
 |[],_,_=>R4 _
 |x::r,last,u=>by
  obtain⟨u1,u2,u3⟩:=u;have:=sX r _ u3;simp only[cX];omega
theorem fR{m:Int}:∀(ls:List Int)(last:Int),0<=last->Up m last ls->∀l∈ls,last<C8 l/\C8 l<=m
 |[],_,_,_,_,h=>by cases h
 |l::r,last,h0,u,x,h=>by
  obtain⟨u1,u2,u3⟩:=u;rcases Xn.mp h with rfl |h
  ·exact⟨u1,u2⟩
  ·have:=fR r (C8 l) f8 u3 x h;omega
structure R(M:Nat)(ls:List Int):Prop where
 nd:(ls.map C8).Nodup
 rg:∀x∈ls,1<=C8 x/\C8 x<=M
theorem R.sub{M:Nat}{a b:List Int}(h:R M b)(s:a.Sublist b):R M a:=⟨(s.map C8).nodup h.nd,λx hx=>h.rg x (s.subset hx)⟩
theorem R.perm{M:Nat}{a b:List Int}(h:R M b)(s:a.Perm b):R M a:=⟨(s.map C8).nodup_iff.mpr h.nd,λx hx=>h.rg x (s.mem_iff.mp hx)⟩
theorem Zwl:∀(M:Nat)(l:List Int),l.Nodup->(∀x∈l,1<=x/\x<=(M:Int))->l.length<=M
 | 0,[],_,_=>Xd _
 | 0,x::r,_,h=>by have:=h x g8;omega
 |M+1,l,nd,h=>by
  have:=Zwl M (l.erase ((M:Int)+1)) (nd.erase _) λx hx=>by
   have h1:=h x (List.mem_of_mem_erase hx);have h2:x≠(M:Int)+1:=λz=>by subst z;exact(List.Nodup.not_mem_erase nd) hx
   omega
  have h3:=List.length_erase (a:=(M:Int)+1) (l:=l);split at h3<;>omega
theorem R.len{M:Nat}{ls:List Int}(h:R M ls):ls.length<=M:=by
 have:=Zwl M (ls.map C8) h.nd λx hx=>by
  obtain⟨y,hy,rfl⟩:=Xr.mp hx;exact h.rg y hy
 simpa using this
theorem R.inj{M:Nat}{ls:List Int}(h:R M ls){x y:Int}(hx:x∈ls)(hy:y∈ls)(e:C8 x=C8 y):x=y:=by
 obtain⟨i,hi,rfl⟩:=Xz.mp hx;obtain⟨j,hj,rfl⟩:=Xz.mp hy;have:=(Wgs (xs:=ls.map C8) (i:=i) (j:=j) (h₀:=by simpa using hi) (h₁:=by simpa using hj) h.nd).mp (by simpa using e);subst this;rfl
theorem fJ{M:Nat}:∀{ls:List Int}{last:Int},0<=last->Up M last ls->R M ls/\∀x∈ls,last<C8 x
 |[],_,_,_=>⟨⟨.nil,by simp⟩,by simp⟩
 |l::r,last,h0,u=>by
  obtain⟨u1,u2,u3⟩:=u;obtain⟨h1,h2⟩:=fJ f8 u3;refine⟨⟨?_,λx hx=>?_⟩,λx hx=>?_⟩
  ·rw[Xx,fY];refine⟨λz=>?_,h1.nd⟩;obtain⟨y,hy,e⟩:=Xr.mp z;have:=h2 y hy;omega
  ·rcases Xn.mp hx with rfl |hx
   ·omega
   ·exact h1.rg x hx
  ·rcases Xn.mp hx with rfl |hx
   ·exact u1
   ·have:=h2 x hx;omega
theorem tO(x:Int):C8 (-x)=C8 x:=by unfold C8;split<;>split<;>omega
theorem Zpn{x y:Int}(h:C8 x=C8 y):x=y\/x = -y:=by unfold C8 at h;split at h<;>split at h<;>omega
nonrec def kL(a b:List Int)(n:Int):Option j5 :=
 if n∉a \/ -n∉b then B0
 else if (b.filter λx=>decide (x ≠ -n)).any (λx=>decide (-x∈a.filter λx=>decide (x≠n)))=B1 then B0
 else B3 (O5 ((a.filter λx=>decide (x≠n))++(b.filter λx=>decide (x ≠ -n)).filter λx=>decide (x∉a.filter λx=>decide (x≠n))))
theorem R.join0{M:Nat}{a b:List Int}(ha:R M a)(hb:R M b)(h:b.any (λx=>decide (-x∈a))=B2):R M (a++b.filter λx=>decide (x∉a)):=by
 have hb':=hb.sub (List.filter_sublist (p:=λx=>decide (x∉a)) (l:=b));refine⟨?_,λx hx=>?_⟩
 ·rw[U7,iS];refine⟨ha.nd,hb'.nd,λx hx y hy e=>?_⟩;obtain⟨u,hu,rfl⟩:=Xr.mp hx;obtain⟨v,hv,rfl⟩:=Xr.mp hy;obtain⟨hv1,hv2⟩:=L8.mp hv;rcases Zpn e with z |z
  ·rw[z]at hu;exact(of_decide_eq_true hv2) hu
  ·have:=Wgi.mp h v hv1;rw[z]at hu;exact this (f6 hu)
 ·rcases Xf.mp hx with z |z
  ·exact ha.rg x z
  ·exact hb'.rg x z
nonrec def kI:Option (List Int)->D
 |none=>.non
 |some ls=>C2 ls
theorem Zq4(ls:List Int)(x:Int):((ls.map PyData.int).any λz=>Ub z (.int x))=decide (x∈ls):=by
 rw[oQ,lF,decide_eq_true_iff];constructor
 ·rintro⟨z,hz,e⟩;obtain⟨y,hy,rfl⟩:=Xr.mp hz;have:y=x:=by simpa [Ub]using e
  subst this;exact hy
 ·intro h;exact⟨.int x,Xr.mpr ⟨x,h,rfl⟩,by simp[Ub]⟩
theorem Zyv{x:Int}{ls:List Int}(q:Q (.bl (decide (x∈ls))) H):wE (inD (.int x) (.tup (ls.map .int)) H) Q:=Zz5 (.int x) (uF ls) f8 f8 (by rw[Zq4];exact q)
theorem Zu9{x:Int}{ls:List Int}(q:Q (.bl (!decide (x∈ls))) H):wE (niD (.int x) (.tup (ls.map .int)) H) Q:=Zz9 (.int x) (uF ls) f8 f8 (by rw[Zq4];exact q)
theorem Zzb{xs:List D}(q:Q (.ref H.length) (H++[.lst xs])):wE (Zvx [.tup xs] H) Q:=⟨_,_,rfl,q⟩
theorem Zzg{p:Nat}{zs:List Int}(g:H[p]? = B3 (.lst (zs.map .int)))(hl:zs.length<=60)(nd:(zs.map C8).Nodup)(q:Q (.ref H.length) (H++[.lst ((O5 zs).map .int)])):wE (sS [.ref p] H) Q:=by
 refine⟨_,_,?_,q⟩;unfold sS;simp only[P6,g,Zb];have e:R0 (zs.map .int)=B3 zs:=by
  clear g nd hl q
  induction zs with
  |nil=>rfl
  |cons z r ih=>simp[R0,ih]
 rw[e];simp only[Zb];exact d7 ⟨by omega,nd⟩
theorem Zt7{p:Nat}{zs:List Int}(g:H[p]? = B3 (.dci (zs.map λx=>(x,.bl B1))))(hl:zs.length<=60)(nd:(zs.map C8).Nodup)(q:Q (.ref H.length) (H++[.lst ((O5 zs).map .int)])):wE (tT [.ref p] H) Q:=by
 refine⟨_,_,?_,q⟩;unfold tT;simp only[g];have e:(zs.map λx=>(x,D.bl B1)).map (·.1)=zs:=by rw[K7];exact List.map_id' zs
 rw[e];exact d7 ⟨by simp;omega,nd⟩
nonrec def K5(a b:List Int):Option j5:=if b.any (λx=>decide (-x∈a))=B1 then B0 else B3 (O5 (a++b.filter λx=>decide (x∉a)))
theorem Zil(a b:List Int)(n:Int)(h:n∈a /\ -n∈b):kL a b n=K5 (a.filter λx=>decide (x≠n)) (b.filter λx=>decide (x ≠ -n)):=by
 unfold kL K5;rw[d9 (by simp[h.1,h.2])]
theorem Zv5{M:Nat}{a b:List Int}(ha:R M a)(hb:R M b)(hM:M<=8)(q:∀H',B7 [] H H'->Q (kI (K5 a b)) H'):wE (iF [C2 a,C2 b] H) Q:=by
 have la:=ha.len;have lb:=hb.len;refine P7 rfl ?_;show wS (sR [B3 (.tup (a.map .int)),B3 (.tup (b.map .int)),B0,B0] H) _;unfold sR;fail "g";refine Zzb ?_;fail "g";refine T2 (λd t σ H'=>∃(pre r:List Int)(z3:Option D),b=pre++r/\t=r.map .int/\pre.any (λx=>decide (-x∈a))=B2/\H'[H.length]? = B3 (.lst ((a++pre.filter λx=>decide (x∉a)).map .int))/\B7 [] H H'/\σ=[B3 (.tup (a.map .int)),B3 (.tup (b.map .int)),B3 (.ref H.length),z3]) (λ_ _ _ _ _=>Q6) (λd x t σ H1 zz=>?_) (λd σ H1 zz=>?_) _ [] _ _ ⟨[],b,_,rfl,rfl,rfl,by simp,B7.app _,rfl⟩
 ·obtain⟨pre,r,z3,i1,i2,i3,i4,i5,i6⟩:=zz;subst i6;cases r with
  |nil=>cases i2
  |cons l r=>
   obtain⟨rfl,rfl⟩:=P9.inj i2;fail "i";refine Zyv ?_;fail "g";refine⟨λz=>?_,λz=>?_⟩
   ·fail "g";have:kI (K5 a b)=.non:=by
     unfold K5;rw[d7 (by rw[i1];simp at z;simp[z])];rfl
    rw[<- this];exact q _ i5
   ·fail "i";refine Zu9 ?_;fail "g";have an:(pre++[l]).any (λx=>decide (-x∈a))=B2:=by rw[Wft,i3];simp at z ⊢;exact z
    have lp:pre.length<=8:=by rw[i1]at lb;simp at lb;omega
    refine⟨λy=>?_,λy=>?_⟩
    ·fail "g";refine⟨rV i4,?_⟩;fail "g";refine fN i4 (by have:=lH (λx=>decide (x∉a)) pre;simp at this ⊢;omega) ?_;fail "g";refine⟨pre++[l],r,_,by rw[i1];simp,rfl,an,?_,i5.weak (B7.set g8) (Xd _),rfl⟩;rw[M2 i4];have y:l∉a:=by simpa using y
     simp[dW,y]
    ·fail "g";refine⟨pre++[l],r,_,by rw[i1];simp,rfl,an,?_,i5,rfl⟩;rw[i4];have y:l∈a:=by simpa using y
     simp[dW,y]
 ·obtain⟨pre,r,z3,i1,i2,i3,i4,i5,i6⟩:=zz;subst i6;cases r with
  |cons l r=>cases i2
  |nil=>
   rw[Xq]at i1;subst i1;fail "g";have hj:=R.join0 ha hb i3;refine Zzg i4 (by have:=hj.len;omega) hj.nd ?_;fail "g";have:kI (K5 a b)=.tup ((O5 (a++b.filter λx=>decide (x∉a))).map .int):=by
    unfold K5;rw[d9 (by rw[i3];simp)];rfl
   rw[<- this];exact q _ (i5.trans (B7.app _))
nonrec def Z1(n:Int):List Int->List Int->Option j5
 |zs,[]=>B3 zs
 |zs,x::r=>if C8 x=n then Z1 n zs r else if -x∈zs then B0 else Z1 n (if x∈zs then zs else zs++[x]) r
theorem Zw7{M:Nat}{a:List Int}{n:Int}(ha:R M a)(h1:1<=n)(hn:n∈a)(b:List Int):∀(a2 a1:List Int),a=a1++a2->Z1 n (a1.filter λx=>decide (x≠n)) (a2++b)=Z1 n (a.filter λx=>decide (x≠n)) b
 |[],a1,e=>by rw[Xq]at e;subst e;rfl
 |x::a2,a1,e=>by
  have en:C8 n=n:=by unfold C8;split<;>omega
  have hx:x∈a:=by rw[e];simp
  have e':a=(a1++[x])++a2:=by rw[e];simp
  have ih:=Zw7 ha h1 hn b a2 (a1++[x]) e';rw[List.cons_append,Z1];rw[dW]at ih;split
  ·rename_i z;have:x=n:=ha.inj hx hn (by rw[z,en]);simpa [this]using ih
  ·rename_i z;have xn:x≠n:=λy=>z (by rw[y];exact en);have s1:∀y,y∈a1.filter (λx=>decide (x≠n))->y∈a:=λy hy=>by rw[e];exact gC _ (L8.mp hy).1
   rw[d9 (λy=>by
    have:=ha.inj (s1 _ y) hx (tO x);have:=(ha.rg x hx).1;unfold C8 at this;split at this<;>omega)]
   rw[d9 (λy=>by
    have nd:=ha.nd;rw[e,U7,iS]at nd;exact nd.2.2 (C8 x) (Xr.mpr ⟨x,(L8.mp y).1,rfl⟩) (C8 x) g8 rfl)]
   simpa [xn]using ih
theorem Zw8{M:Nat}{a b:List Int}{n:Int}(hb:R M b)(h1:1<=n)(hn : -n∈b):∀(b2 b1:List Int),b=b1++b2 ->
  Z1 n (a++(b1.filter λx=>decide (x ≠ -n)).filter λx=>decide (x∉a)) b2=if (b2.filter λx=>decide (x ≠ -n)).any (λx=>decide (-x∈a))=B1 then B0 else B3 (a++(b.filter λx=>decide (x ≠ -n)).filter λx=>decide (x∉a))
 |[],b1,e=>by rw[Xq]at e;subst e;rfl
 |x::b2,b1,e=>by
  have en:C8 (-n)=n:=by unfold C8;split<;>omega
  have hx:x∈b:=by rw[e];simp
  have e':b=(b1++[x])++b2:=by rw[e];simp
  have ih:=Zw8 (a:=a) hb h1 hn b2 (b1++[x]) e';rw[Z1];rw[dW,dW]at ih;split
  ·rename_i z;have:x = -n:=hb.inj hx hn (by rw[z,en]);simpa [this]using ih
  ·rename_i z;have xn:x ≠ -n:=λy=>z (by rw[y];exact en);have s1:∀y,y∈(b1.filter λx=>decide (x ≠ -n)).filter (λx=>decide (x∉a))->y∈b1:=λy hy=>(L8.mp (L8.mp hy).1).1;have c1:(-x∈a++(b1.filter λx=>decide (x ≠ -n)).filter λx=>decide (x∉a)) ↔ -x∈a:=by
    rw[Xf];refine⟨λy=>y.elim id λy=>?_,.inl⟩;have:=hb.inj (by rw[e];exact gC _ (s1 _ y)) hx (tO x);have:=(hb.rg x hx).1;unfold C8 at this;split at this<;>omega
   have c2:(x∈a++(b1.filter λx=>decide (x ≠ -n)).filter λx=>decide (x∉a)) ↔ x∈a:=by
    rw[Xf];refine⟨λy=>y.elim id λy=>?_,.inl⟩;have nd:=hb.nd;rw[e,U7,iS]at nd;exact absurd rfl (nd.2.2 (C8 x) (Xr.mpr ⟨x,s1 _ y,rfl⟩) (C8 x) g8)
   by_cases y : -x∈a
   ·rw[d7 (c1.mpr y),d7 (by simp[xn,y])]
   ·rw[d9 (λw=>y (c1.mp w))];by_cases w:x∈a
    ·rw[d7 (c2.mpr w)];simpa [xn,y,w]using ih
    ·rw[d9 (λv=>w (c2.mp v))];simpa [xn,y,w]using ih
theorem Zrc{M:Nat}{a b:List Int}{n:Int}(ha:R M a)(hb:R M b)(h1:1<=n)(hn:n∈a)(hm : -n∈b):(Z1 n [] (a++b)).map O5=kL a b n:=by
 have e1:=Zw7 ha h1 hn b a [] rfl;have e2:=Zw8 (a:=a.filter λx=>decide (x≠n)) hb h1 hm b [] rfl;rw[show ([]:List Int).filter (λx=>decide (x≠n))=[]from rfl]at e1;rw[e1];rw[show (([]:List Int).filter (λx=>decide (x ≠ -n))).filter (λx=>decide (x∉a.filter λx=>decide (x≠n)))=[]from rfl,Xq]at e2;rw[e2];rw[Zil a b n ⟨hn,hm⟩];unfold K5;split<;>rfl
theorem Zmb{M:Nat}{n:Int}:∀(xs zs:List Int),(∀x∈xs,1<=C8 x/\C8 x<=M)->R M zs->∀ys,Z1 n zs xs=B3 ys->R M ys
 |[],zs,_,hz,ys,e=>by cases e;exact hz
 |x::r,zs,hx,hz,ys,e=>by
  rw[Z1]at e;split at e
  ·exact Zmb r zs (λy hy=>hx y (by simp[hy])) hz ys e
  ·split at e
   ·cases e
   ·rename_i h1 h2;refine Zmb r _ (λy hy=>hx y (by simp[hy])) ?_ ys e;split
    ·exact hz
    ·rename_i h3;refine⟨?_,λy hy=>?_⟩
     ·rw[U7,iS];refine⟨hz.nd,by simp,λu hu v hv e=>?_⟩;obtain⟨y,hy,rfl⟩:=Xr.mp hu;simp at hv;subst hv;rcases Zpn e with z |z
      ·exact h3 (z ▸ hy)
      ·exact h2 (z ▸ hy)
     ·rcases Xf.mp hy with z |z
      ·exact hz.rg y z
      ·simp at z;subst z;exact hx y g8
theorem Zm0:∀l:List Int,l.Pairwise (· <= ·)->l.Nodup->l.Pairwise (· < ·)
 |[],_,_=>.nil
 |x::r,p,nd=>by
  rw[dX]at p ⊢;rw[fY]at nd;refine⟨λy hy=>?_,Zm0 r p.2 nd.2⟩;have:=p.1 y hy;have:x≠y:=λz=>nd.1 (z ▸ hy);omega
theorem Zvu{M:Nat}{fs:List Int}(h:R M fs):Up M 0 (O5 fs):=by
 have h2:=h.perm (uH fs);refine Ya3 _ 0 (Zm0 _ ?_ h2.nd) λx hx=>?_
 ·have:=Zmy fs;rw[lG];exact this
 ·obtain⟨y,hy,rfl⟩:=Xr.mp hx;have:=h2.rg y hy;omega
structure CR(ks:List D)(b7:List j5):Prop where
 hk:∀d∈ks,bK d
 h8:ks.length<=8
 hr:∀ls∈b7,R ks.length ls
 hl:b7.length<=1000
theorem Yac{xs:List D}{i:Nat}{d:D}(h:xs[i]? = B3 d):M0 xs (i:Int)=B3 d:=Zi8 h
theorem Zmo{b:Bool}(q:Q (.bl (!b)) H):wE (eqD (kJ b) (.str "all") H) Q:=by
 refine⟨_,_,Zzp b B2 H,?_⟩;cases b<;>exact q
theorem Ybu{p q:Nat}{xs ys:List D}(h1:H[p]? = B3 (.lst xs))(h2:H[q]? = B3 (.lst ys))(hl:xs.length+ys.length<=100000)(k:Q (.ref H.length) (H++[.lst (xs++ys)])):wE (G0 (.ref p) (.ref q) H) Q:=by
 have z:(xs++ys).length<=sizeLine:=nN h9;exact⟨_,_,by simp only[G0,h1,h2];exact d7 z,k⟩
variable{σ:SD}{H:HD}{Q:D->HD->Prop}
theorem Zoa{n:Int}:∀(ls:List Int)(last:Int),last<=n->Up (n+1) last ls->Up n last ls\/∃a l,ls=a++[l]/\C8 l=n+1/\Up n last a
 |[],_,_,_=>.inl trivial
 |l::r,last,h0,u=>by
  obtain⟨h1,h2,h3⟩:=u;by_cases e:C8 l=n+1
  ·cases r with
   |nil=>exact .inr ⟨[],l,rfl,e,trivial⟩
   |cons x t=>have:=h3.1;have:=h3.2.1;omega
  ·rcases Zoa r (C8 l) f8 h3 with z |⟨a,x,rfl,hx,ua⟩
   ·exact .inl ⟨h1,by omega,z⟩
   ·exact .inr ⟨l::a,x,rfl,hx,h1,by omega,ua⟩
theorem kT{n:Nat}{ls:List Int}(h:Up ((n+1:Nat):Int) 0 ls):Up n 0 ls\/∃a l,ls=a++[l]/\C8 l=n+1/\Up n 0 a:=Zoa (n:=n) ls 0 f8 (by simpa using h)
nonrec def J8(n:Nat)(ls:List Int):List Int:=if ls.drop (ls.length-1)=[(n:Int)+1]\/ls.drop (ls.length-1)=[-((n:Int)+1)]then ls.take (ls.length-1)else ls
theorem S3{n:Nat}{l:Int}:C8 l=(n:Int)+1 ↔ l=(n:Int)+1\/l = -((n:Int)+1):=by unfold C8;split<;>omega
theorem Zhq(a:List Int)(l:Int):(a++[l]).drop ((a++[l]).length-1)=[l]:=by simp
theorem Zfs(a:List Int)(l:Int):(a++[l]).take ((a++[l]).length-1)=a:=by simp
theorem Zlo{n:Nat}{a:List Int}{l:Int}(h:C8 l=n+1):J8 n (a++[l])=a:=by
 unfold J8;rw[Zhq,Zfs,d7];rcases S3.mp h with rfl |rfl<;>simp
theorem Zxe{ls:List Int}{x:Int}(h:ls.drop (ls.length-1)=[x]):x∈ls:=iW (i:=ls.length-1) (by rw[h];simp)
theorem Zjo{n:Nat}{ls:List Int}(h:Up (n:Int) 0 ls){x:Int}(hx:C8 x=n+1):ls.drop (ls.length-1)≠[x]:=λz=>by
 have:=(fR ls 0 (V5 _) h x (Zxe z)).2;omega
theorem Zn5{n:Nat}{ls:List Int}(h:Up (n:Int) 0 ls):J8 n ls=ls:=by
 unfold J8;rw[d9];rintro(z |z)
 ·exact Zjo h (S3.mpr (.inl rfl)) z
 ·exact Zjo h (S3.mpr (.inr rfl)) z
theorem Zn6{n:Nat}{ls:List Int}(h:Up ((n+1:Nat):Int) 0 ls):Up n 0 (J8 n ls):=by
 rcases kT h with z |⟨a,l,rfl,hl,ha⟩
 ·rw[Zn5 z];exact z
 ·rw[Zlo hl];exact ha
def Z0(n:Nat)(b7:List j5)(x:List Int):Prop:=(x∈b7/\Up (n:Int) 0 x)\/∃a b,a++[(n:Int)+1]∈b7/\b++[-((n:Int)+1)]∈b7/\K5 a b=B3 x
theorem iG{n:Nat}{a:List Int}{l:Int}(h:Up ((n+1:Nat):Int) 0 (a++[l]))(hl:C8 l=n+1):Up (n:Int) 0 a:=by
 rcases kT h with z |⟨a',l',e,hl',ha⟩
 ·have:=(fR _ 0 (V5 _) z l g8).2;omega
 ·obtain⟨rfl,e2⟩:=List.append_inj' e rfl;exact ha
nonrec def fH:Nat->List j5
 | 0=>[[]]
 |n+1=>fH n++((fH n).map (· ++ [(n:Int)+1])++(fH n).map (· ++ [-((n:Int)+1)]))
theorem Zm1:∀n:Nat,(fH n).length=3 ^ n
 | 0=>rfl
 |n+1=>by rw[fH];simp[Zm1 n,Wgp];omega
theorem Zgw:∀(n:Nat)(ls:List Int),Up (n:Int) 0 ls->ls∈fH n
 | 0,ls,h=>by
  cases ls with
  |nil=>simp[fH]
  |cons l r=>have:=h.1;have:=h.2.1;simp at *;omega
 |n+1,ls,h=>by
  rw[fH];rcases kT h with z |⟨a,l,rfl,hl,ha⟩
  ·exact gC _ (Zgw n ls z)
  ·refine Xu _ ?_;rcases S3.mp hl with rfl |rfl
   ·exact gC _ (Xr.mpr ⟨a,Zgw n a ha,rfl⟩)
   ·exact Xu _ (Xr.mpr ⟨a,Zgw n a ha,rfl⟩)
theorem tI:∀(xs ys:List j5),xs.Nodup->(∀x∈xs,x∈ys)->xs.length<=ys.length
 |[],_,_,_=>R4 _
 |x::r,ys,nd,h=>by
  rw[fY]at nd;have:=tI r (ys.erase x) nd.2 λy hy=>(Wfv λz=>nd.1 (by rw[<- z];exact hy)).mpr (h y (by simp[hy]));have hx:=h x g8;rw[Wfc hx]at this;have:=Wfn hx;simp only[cX];omega
theorem Yb0{n:Nat}(hn:n<=6){T:List (List Int)}(nd:T.Nodup)(h:∀x∈T,Up (n:Int) 0 x):T.length<=729:=by
 have:=tI T (fH n) nd λx hx=>Zgw n x (h x hx);rw[Zm1]at this;have:3 ^ n<=3 ^ 6:=Wef f8 hn;omega
variable{σ:SD}{H:HD}{Q:D->HD->Prop}
nonrec def kvT(xs:List Int):D×D:=(C2 xs,.bl B1)
nonrec def J9(xss:List j5)(xs:List Int):List j5:=if xs∈xss then xss else xss++[xs]
theorem Zxu{xs:List Int}:∀xss:List j5,(cN (xss.map kvT) xs).isSome=decide (xs∈xss)
 |[]=>by simp[cN]
 |y::r=>by
  unfold cN;rw[Xx,vP];by_cases h:y=xs
  ·subst h;have e:(nk (kvT y).1==B3 y)=B1:=by show (nk (C2 y)==B3 y)=B1;rw[Znc];simp
   simp[e]
  ·have e:(nk (kvT y).1==B3 xs)=B2:=by show (nk (C2 y)==B3 xs)=B2;rw[Znc];simpa using h
   simp only[e];have:=Zxu (xs:=xs) r;unfold cN at this;rw[this];have h2:¬ xs=y:=λz=>h z.symm;simp[h2]
theorem putT(xss:List j5)(xs:List Int):hG (xss.map kvT) (C2 xs) xs (.bl B1)=(J9 xss xs).map kvT:=by
 unfold hG J9;rw[Zxu];by_cases h:xs∈xss
 ·rw[d7 (by simpa using h),d7 h,K7];refine iV λy _=>?_;show (if nk (C2 y)=B3 xs then (C2 y,D.bl B1)else kvT y)=kvT y;split<;>rfl
 ·rw[d9 (by simpa using h),d9 h,U7];rfl
theorem nH{xss:List (List Int)}{xs:List Int}{p:Nat}{R:HD->Prop}(g:H[p]? = B3 (.dic (xss.map kvT) B2))(hl:xss.length<=1000000)(q:R (H.set p (.dic ((J9 xss xs).map kvT) B2))):wH (cL (.ref p) (C2 xs) (.bl B1) H) R:=by
 have sz:sizeLine=16777216:=Uy;refine⟨_,?_,q⟩;unfold cL;simp only[g,Znc,Zb];rw[d7 h9,putT]
theorem Zuj(xss:List j5)(xs:List Int):(J9 xss xs).length<=xss.length+1:=by unfold J9;split<;>simp
theorem Zev:∀xss:List j5,fM (xss.map C2)=B3 xss
 |[]=>rfl
 |xs::r=>by
  have e:vG (C2 xs)=B3 xs:=by
   show R0 (xs.map .int)=B3 xs
   induction xs with
   |nil=>rfl
   |cons x t ih=>rw[Xx,R0,ih];rfl
  rw[Xx,fM,e,Zb,Zev r];rfl
theorem cT{xss:List (List Int)}{xs y:List Int}:y∈J9 xss xs ↔ y∈xss\/y=xs:=by
 unfold J9;split
 ·rename_i h;constructor
  ·exact .inl
  ·rintro(z |z)
   ·exact z
   ·rw[z];exact h
 ·simp
theorem W8{xss:List (List Int)}{xs:List Int}(h:xss.Nodup):(J9 xss xs).Nodup:=by
 unfold J9;split
 ·exact h
 ·rename_i hn;rw[iS];exact⟨h,by simp,λa ha b hb z=>hn (by simp at hb;rw[<- hb,<- z];exact ha)⟩
theorem Zu2(xs:List D):O0 xs (B3 (-1)) B0=xs.drop (xs.length-1):=by
 unfold O0;have h1:HT.sIx xs.length 0 (B3 (-1))=xs.length-1:=by
  show (if (-1:Int)<0 then ((-1:Int)+(xs.length:Int)).toNat else min (-1:Int).toNat xs.length)=xs.length-1;rw[d7 f8];omega
 have h2:HT.sIx xs.length xs.length B0=xs.length:=rfl;rw[h1,h2];exact iX g8
theorem Zg3(xs:List D):O0 xs B0 (B3 (-1))=xs.take (xs.length-1):=by
 unfold O0;have h1:HT.sIx xs.length xs.length (B3 (-1))=xs.length-1:=by
  show (if (-1:Int)<0 then ((-1:Int)+(xs.length:Int)).toNat else min (-1:Int).toNat xs.length)=xs.length-1;rw[d7 f8];omega
 have h2:HT.sIx xs.length 0 B0=0:=rfl;rw[h1,h2];simp
nonrec def kR:D->List Int
 |.tup ds=>ds.filterMap λ
  |.int i=>B3 i
  |_=>B0
 |_=>[]
theorem Zg2(ls:List Int):kR (C2 ls)=ls:=by
 show (ls.map D.int).filterMap _=ls
 induction ls with
 |nil=>rfl
 |cons l r ih=>rw[Xx,Wdj];simp only[];rw[ih]
variable{σ:SD}{H:HD}{Q:D->HD->Prop}
theorem Znz:∀a b:List Int,Ut (a.map .int) (b.map .int)=decide (a=b)
 |[],[]=>by simp[Ut]
 |[],_::_=>by simp[Ut]
 |_::_,[]=>by simp[Ut]
 |x::a,y::b=>by
  rw[Xx,Xx,Ut,Znz a b,Ub];by_cases h:x=y<;>simp[h]
theorem kU(a:List Int):D0 (C2 a) (.tuple (a.map .int)) 1:=D0.tup (uF a)
theorem Zje(a b:List Int):Ub (.tuple (a.map .int)) (.tuple (b.map .int))=decide (a=b):=by
 rw[<- Znz];simp[Ub]
theorem Zyq{a b:List Int}(q:Q (.bl (decide (a=b))) H):wE (eqD (C2 a) (C2 b) H) Q:=Yar (kU a) (kU b) f8 f8 (by rw[Zje];exact q)
nonrec def Q8(n:Nat)(a:List Int):Bool:=decide (a.drop (a.length-1)=[(n:Int)+1]\/a.drop (a.length-1)=[-((n:Int)+1)])
theorem Zne{a:List Int}{n:Nat}:([Tdn ([(n:Int)+1].map .int),.tuple ([-((n:Int)+1)].map .int)].any λz=>Ub z (.tuple ((a.drop (a.length-1)).map .int)))=Q8 n a:=by
 unfold Q8;rw[oN,oN,List.any_nil,Zje,Zje,Bool.or_false];generalize a.drop (a.length-1)=b;by_cases h1:b=[(n:Int)+1]<;>by_cases h2:b=[-((n:Int)+1)]<;>simp[h1,h2,eq_comm]
theorem Zla(n:Nat):C7 [.tup [.int ((n:Int)+1)],.tup [.int (-((n:Int)+1))]] [Tdn ([(n:Int)+1].map .int),.tuple ([-((n:Int)+1)].map .int)] 1:=C7.cons (kU [(n:Int)+1]) (C7.cons (kU [-((n:Int)+1)]) C7.nil)
theorem Znx{a:List Int}{n:Nat}(q:Q (.bl (Q8 n a)) H):wE (inD (C2 (a.drop (a.length-1))) (.tup [.tup [.int ((n:Int)+1)],.tup [.int (-((n:Int)+1))]]) H) Q:=Zz5 (kU _) (Zla n) f8 f8 (by rw[Zne];exact q)
theorem Zm4{a:List Int}{n:Nat}(q:Q (.bl (!Q8 n a)) H):wE (niD (C2 (a.drop (a.length-1))) (.tup [.tup [.int ((n:Int)+1)],.tup [.int (-((n:Int)+1))]]) H) Q:=Zz9 (kU _) (Zla n) f8 f8 (by rw[Zne];exact q)
theorem tN{ls:List Int}(q:Q (C2 (ls.drop (ls.length-1))) H):wE (W1 (C2 ls) (B3 (-1)) B0 H) Q:=by
 refine⟨.tup (O0 (ls.map .int) (B3 (-1)) B0),H,rfl,?_⟩;rw[Zu2,Xj,<- List.map_drop];exact q
theorem Zmq{ls:List Int}(q:Q (C2 (ls.take (ls.length-1))) H):wE (W1 (C2 ls) B0 (B3 (-1)) H) Q:=by
 refine⟨.tup (O0 (ls.map .int) B0 (B3 (-1))),H,rfl,?_⟩;rw[Zg3,Xj,<- List.map_take];exact q
theorem tH{xss:List (List Int)}{xs:List Int}{p lim:Nat}(g:H[p]? = B3 (.dic (xss.map kvT) B2))(hl:(J9 xss xs).length<=lim)(h2:lim<=100000)(q:Q .non (H.set p (.dic ((J9 xss xs).map kvT) B2))):wE (L6 [.ref p,C2 xs,.int lim] H) Q:=by
 refine P7 rfl ?_;show wS (kZ [B3 (.ref p),B3 (C2 xs),B3 (.int lim)] H) _;unfold kZ;have l0:xss.length<=(J9 xss xs).length:=by unfold J9;split<;>simp
 fail "g";refine nH g f8 ?_;fail "i";refine Zwb (M2 g) ?_;fail "g";refine⟨λz=>?_,λz=>?_⟩
 ·simp at z;omega
 ·fail "g";exact q
theorem Zpc{ls:List Int}{L:Int}(h:ls.drop (ls.length-1)=[L]):ls=ls.take (ls.length-1)++[L]:=by rw[<- h,bA]
theorem O1{H1:HD}{p:Nat}{o:DO}(e:B7 [] H H1)(h:H.length<=p):B7 [] H (H1.set p o):=e.weak (B7.set g8) h
theorem Zi3{b7:List (List Int)}{L:Int}(hl:b7.length<=1000)(q:∀p(X:List j5)H',H'[p]? = B3 (.dic (X.map kvT) B2)->X.Nodup->X.length<=1000->(∀a,a∈X ↔ a++[L]∈b7)->H.length<=p->B7 [] H H'->Q (.ref p) H'):wE (oF [.tup (b7.map C2),.int L] H) Q:=by
 refine P7 rfl ?_;show wS (uP [B3 (.tup (b7.map C2)),B3 (.int L),B0,B0] H) _;unfold uP;fail "g";refine T2 (λd t σ H'=>∃(dr tr X:List j5)(z3:Option D),t=tr.map C2/\b7=dr++tr/\X.Nodup/\X.length<=dr.length/\(∀a,a∈X ↔ a++[L]∈dr)/\H'[H.length]? = B3 (.dic (X.map kvT) B2)/\B7 [] H H'/\σ=[B3 (.tup (b7.map C2)),B3 (.int L),B3 (.ref H.length),z3]) (λ_ _ _ _ _=>Q6) (λd x t σ H1 zz=>?_) (λd σ H1 zz=>?_) _ [] _ _ ⟨[],b7,[],_,rfl,rfl,.nil,Xd _,by simp,last,B7.app _,rfl⟩
 ·obtain⟨dr,tr,X,z3,i1,i2,i3,i4,i5,i6,i7,rfl⟩:=zz;cases tr with
  |nil=>cases i1
  |cons ls tr=>
   obtain⟨rfl,rfl⟩:=P9.inj i1;have ld:dr.length<=1000:=by rw[i2]at hl;simp at hl;omega
   fail "i";refine tN ?_;fail "g";refine Zyq (b:=[L]) ?_;fail "g";refine⟨λz=>?_,λz=>?_⟩
   ·have z:ls.drop (ls.length-1)=[L]:=by simpa using z
    fail "g";refine Zmq ?_;fail "g";refine nH i6 f8 ?_;fail "g";refine⟨dr++[ls],tr,J9 X (ls.take (ls.length-1)),_,rfl,by rw[i2];simp,W8 i3,by have:=Zuj X (ls.take (ls.length-1));simp;omega,λa=>?_,M2 i6,O1 i7 (Xd _),rfl⟩;rw[cT,i5,Xf,Xe];refine or_congr pQ ⟨λe=>?_,λe=>?_⟩
    ·subst e;exact(Zpc z).symm
    ·rw[<- e,Zfs]
   ·have z:ls.drop (ls.length-1)≠[L]:=by simpa using z
    fail "g";refine⟨dr++[ls],tr,X,_,rfl,by rw[i2];simp,i3,by simp;omega,λa=>?_,i6,i7,rfl⟩;rw[i5,Xf,Xe];refine⟨.inl,λh=>h.resolve_right λe=>z ?_⟩;rw[<- e,Zhq]
 ·obtain⟨dr,tr,X,z3,i1,i2,i3,i4,i5,i6,i7,rfl⟩:=zz;cases tr with
  |cons b tr=>cases i1
  |nil=>
   rw[Xq]at i2;subst i2;fail "g";exact q _ X _ i6 i3 f8 i5 (Xd _) i7
theorem Zpw{b7:List (List Int)}{n lim:Nat}(hl:b7.length<=1000)(hlim:lim<=100000)(hB:∀T:List j5,T.Nodup->(∀x∈T,∃ls∈b7,x=J8 n ls)->T.length<=lim)
  (q:∀p(X:List j5)H',H'[p]? = B3 (.dic (X.map kvT) B2)->X.Nodup->(∀x,x∈X ↔∃ls∈b7,x=J8 n ls)->H.length<=p->B7 [] H H'->Q (.ref p) H'):wE (Zb6 [.tup (b7.map C2),.int ((n:Int)+1),.int lim] H) Q:=by
 refine P7 rfl ?_;show wS (lE [B3 (.tup (b7.map C2)),B3 (.int ((n:Int)+1)),B3 (.int lim),B0,B0,B0] H) _;unfold lE;fail "g";refine T2 (λd t σ H'=>∃(dr tr X:List j5)(z4 z5:Option D),t=tr.map C2/\b7=dr++tr/\X.Nodup/\(∀x,x∈X ↔∃ls∈dr,x=J8 n ls)/\H'[H.length]? = B3 (.dic (X.map kvT) B2)/\B7 [] H H'/\σ=[B3 (.tup (b7.map C2)),B3 (.int ((n:Int)+1)),B3 (.int lim),B3 (.ref H.length),z4,z5]) (λ_ _ _ _ _=>Q6) (λd x t σ H1 zz=>?_) (λd σ H1 zz=>?_) _ [] _ _ ⟨[],b7,[],_,_,rfl,rfl,.nil,by simp,last,B7.app _,rfl⟩
 ·obtain⟨dr,tr,X,z4,z5,i1,i2,i3,i4,i5,i6,rfl⟩:=zz;cases tr with
  |nil=>cases i1
  |cons ls tr=>
   obtain⟨rfl,rfl⟩:=P9.inj i1;have nx:∀x,x∈J9 X (J8 n ls) ↔∃y∈dr++[ls],x=J8 n y:=λx=>by
    rw[cT,i4];constructor
    ·rintro(⟨y,hy,rfl⟩ |rfl)
     ·exact⟨y,by simp[hy],rfl⟩
     ·exact⟨ls,by simp,rfl⟩
    ·rintro⟨y,hy,rfl⟩;rcases Xf.mp hy with h |h
     ·exact .inl ⟨y,h,rfl⟩
     ·rw[Xe]at h;subst h;exact .inr rfl
   have bd:=hB (J9 X (J8 n ls)) (W8 i3) λx hx=>by
    obtain⟨y,hy,e⟩:=(nx x).mp hx;refine⟨y,?_,e⟩;rw[i2];rcases Xf.mp hy with h |h
    ·simp[h]
    ·rw[Xe]at h;simp[h]
   fail "g";refine tN ?_;fail "g";refine Znx ?_;fail "g";have es:J8 n ls=if Q8 n ls=B1 then ls.take (ls.length-1)else ls:=by unfold J8 Q8;simp
   refine⟨λz=>?_,λz=>?_⟩
   ·rw[d7 z]at es;fail "g";refine Zmq ?_;fail "g";rw[<- es];refine tH i5 bd hlim ?_;fail "g";exact⟨dr++[ls],tr,_,_,_,rfl,by rw[i2];simp,W8 i3,nx,M2 i5,O1 i6 (Xd _),rfl⟩
   ·rw[d9 (by rw[z];simp)]at es;fail "g";have e2:C2 ls=C2 (J8 n ls):=by rw[es]
    rw[e2];refine tH i5 bd hlim ?_;fail "g";exact⟨dr++[ls],tr,_,_,_,rfl,by rw[i2];simp,W8 i3,nx,M2 i5,O1 i6 (Xd _),rfl⟩
 ·obtain⟨dr,tr,X,z4,z5,i1,i2,i3,i4,i5,i6,rfl⟩:=zz;cases tr with
  |cons b tr=>cases i1
  |nil=>
   rw[Xq]at i2;subst i2;fail "g";exact q _ X _ i5 i3 i4 (Xd _) i6
variable{σ:SD}{H:HD}{Q:D->HD->Prop}
theorem sW{n:Nat}{ls:List Int}(h:Up ((n+1:Nat):Int) 0 ls):Q8 n ls=B2 ↔ Up (n:Int) 0 ls:=by
 unfold Q8;rw[decide_eq_false_iff_not];constructor
 ·intro z;rcases kT h with u |⟨a,l,rfl,hl,ha⟩
  ·exact u
  ·rw[Zhq]at z;rcases S3.mp hl with rfl |rfl<;>simp at z
 ·rintro u (z |z)
  ·exact Zjo u (S3.mpr (.inl rfl)) z
  ·exact Zjo u (S3.mpr (.inr rfl)) z
theorem uD(X:List j5):(X.map kvT).map (·.1)=X.map C2:=by rw[K7];rfl
theorem Zl0(o:Option j5):∃b:Bool,rX (kI o) .non=B3 b/\(b=B1 ↔ o=B0):=by
 cases o with
 |none=>exact⟨B1,rfl,by simp⟩
 |some x=>exact⟨B2,rfl,by simp⟩
section
variable{b7:List (List Int)}{n lim:Nat}
nonrec abbrev xQ:SF:=(B9 (D3 4 (D8 2 iF (B5 l9 (B5 m7 C1))))
 (B9 (F4 (E8 (B8 cH k8 (eC .non))) (B9 (N7 (D8 3 L6 (B5 k7 (B5 k8 (B5 k6 C1))))) C4) C4)
 C4))
def Pr(n:Nat)(b7 A B:List j5)(x:List Int):Prop:=(x∈b7/\Q8 n x=B2)\/∃a∈A,∃b∈B,K5 a b=B3 x
theorem pX{A1 B X:List (List Int)}{a:List Int}{p pa pb:Nat}{A:List (List Int)}{z4 z7:Option D}{R:FD->SD->HD->Prop}{H0:HD}(hn:n<=8)(hlim:lim<=100000)(ha:K08.R n a)(hBr:∀b∈B,K08.R n b)(hp:H0.length<=p)(hpb:H0.length<=pb)
  (hB:∀T:List j5,T.Nodup->(∀x∈T,Pr n b7 (A1++[a]) B x)->T.length<=lim)
  (gp:H[p]? = B3 (.dic (X.map kvT) B2))(gb:H[pb]? = B3 (.dic (B.map kvT) B1))(ga:H[pa]? = B3 (.dic (A.map kvT) B1))(nd:X.Nodup)(hX:∀x,x∈X ↔ Pr n b7 A1 B x)(e0:B7 [] H0 H)
  (q:∀(X':List j5)z4 z7 H',H'[p]? = B3 (.dic (X'.map kvT) B2)->H'[pb]? = B3 (.dic (B.map kvT) B1)->H'[pa]? = B3 (.dic (A.map kvT) B1)->X'.Nodup->(∀x,x∈X' ↔ Pr n b7 (A1++[a]) B x)->B7 [] H0 H' ->
   R .nx [B3 (.tup (b7.map C2)),B3 (.int ((n:Int)+1)),B3 (.int lim),B3 (.ref p),z4,B3 (.ref pb),B3 (C2 a),z7] H') :
  wS (N6 [(pb,.dic (B.map kvT) B1)] (F6 7) xQ (B.map C2) [B3 (.tup (b7.map C2)),B3 (.int ((n:Int)+1)),B3 (.int lim),B3 (.ref p),z4,B3 (.ref pb),B3 (C2 a),z7] H) R:=by
 have npb:p≠pb:=λe=>by subst e;have:=gp.symm.trans gb;simp at this
 have npa:p≠pa:=λe=>by subst e;have:=gp.symm.trans ga;simp at this
 refine T2 (λd t σ H'=>∃(dr tr X':List j5)(z4 z7:Option D),t=tr.map C2/\B=dr++tr/\X'.Nodup/\(∀x,x∈X' ↔ Pr n b7 A1 B x\/∃b∈dr,K5 a b=B3 x)/\H'[p]? = B3 (.dic (X'.map kvT) B2)/\H'[pb]? = B3 (.dic (B.map kvT) B1)/\H'[pa]? = B3 (.dic (A.map kvT) B1)/\B7 [] H0 H'/\σ=[B3 (.tup (b7.map C2)),B3 (.int ((n:Int)+1)),B3 (.int lim),B3 (.ref p),z4,B3 (.ref pb),B3 (C2 a),z7]) (λ_ _ _ _ zz=>by obtain⟨dr,tr,X',z4,z7,i1,i2,i3,i4,i5,i6,i7,i8,i9⟩:=zz;exact A0 i6) (λd x t σ H1 zz=>?_) (λd σ H1 zz=>?_) _ [] _ _ ⟨[],B,X,_,_,rfl,rfl,nd,by simp[hX],gp,gb,ga,e0,rfl⟩
 ·obtain⟨dr,tr,X',z4,z7,i1,i2,i3,i4,i5,i6,i7,i8,rfl⟩:=zz;cases tr with
  |nil=>cases i1
  |cons b tr=>
   obtain⟨rfl,rfl⟩:=P9.inj i1;have hb:b∈B:=by rw[i2];simp
   unfold xQ;fail "g";refine Zv5 ha (hBr b hb) hn λH2 x2=>?_;fail "i";obtain⟨c,hc,hcn⟩:=Zl0 (K5 a b);refine w_isnN hc ?_;fail "g";have old2:∀{m:Nat}{o:DO},H1[m]? = B3 o->H2[m]? = B3 o:=λh=>x2.old _ _ g8 h;refine⟨λz=>?_,λz=>?_⟩
   ·cases eb:K5 a b with
    |none=>rw[hcn.mpr eb]at z;cases z
    |some y=>
     have nx:∀x,x∈J9 X' y ↔ Pr n b7 A1 B x\/∃b'∈dr++[b],K5 a b'=B3 x:=λx=>by
      rw[cT,i4];constructor
      ·rintro((h |⟨b',hb',e⟩) |rfl)
       ·exact .inl h
       ·exact .inr ⟨b',by simp[hb'],e⟩
       ·exact .inr ⟨b,by simp,eb⟩
      ·rintro(h |⟨b',hb',e⟩)
       ·exact .inl (.inl h)
       ·rcases Xf.mp hb' with h |h
        ·exact .inl (.inr ⟨b',h,e⟩)
        ·rw[Xe]at h;subst h;rw[eb]at e;cases e;exact .inr rfl
     have bd:=hB (J9 X' y) (W8 i3) λx hx=>by
      rcases(nx x).mp hx with (h |⟨a',ha',b',hb',e⟩) |⟨b',hb',e⟩
      ·exact .inl h
      ·exact .inr ⟨a',by simp[ha'],b',hb',e⟩
      ·refine .inr ⟨a,by simp,b',?_,e⟩;rw[i2];rcases Xf.mp hb' with h |h
       ·simp[h]
       ·rw[Xe]at h;simp[h]
     fail "g";refine tH (xs:=y) (old2 i5) bd hlim ?_;fail "g";exact⟨dr++[b],tr,_,_,_,rfl,by rw[i2];simp,W8 i3,nx,M2 (old2 i5),A2 npb (old2 i6),A2 npa (old2 i7),O1 (i8.trans x2) hp,rfl⟩
   ·have eb:K5 a b=B0:=hcn.mp (by cases c<;>simp_all);fail "g";refine⟨dr++[b],tr,X',_,_,rfl,by rw[i2];simp,i3,λx=>?_,old2 i5,old2 i6,old2 i7,i8.trans x2,rfl⟩;rw[i4];refine or_congr pQ ⟨λ⟨b',hb',e⟩=>⟨b',by simp[hb'],e⟩,λ⟨b',hb',e⟩=>?_⟩;rcases Xf.mp hb' with h |h
    ·exact⟨b',h,e⟩
    ·rw[Xe]at h;subst h;rw[eb]at e;cases e
 ·obtain⟨dr,tr,X',z4,z7,i1,i2,i3,i4,i5,i6,i7,i8,rfl⟩:=zz;cases tr with
  |cons b tr=>cases i1
  |nil=>
   rw[Xq]at i2;subst i2;refine q X' _ _ _ i5 i6 i7 i3 (λx=>?_) i8;rw[i4];unfold Pr;constructor
   ·rintro((h |⟨a',ha',b',hb',e⟩) |⟨b',hb',e⟩)
    ·exact .inl h
    ·exact .inr ⟨a',by simp[ha'],b',hb',e⟩
    ·exact .inr ⟨a,by simp,b',hb',e⟩
   ·rintro(h |⟨a',ha',b',hb',e⟩)
    ·exact .inl (.inl h)
    ·rcases Xf.mp ha' with h |h
     ·exact .inl (.inr ⟨a',h,b',hb',e⟩)
     ·rw[Xe]at h;subst h;exact .inr ⟨b',hb',e⟩
end
variable{σ:SD}{H:HD}{Q:D->HD->Prop}
section
variable{b7:List (List Int)}{n lim:Nat}
theorem Zo3(hu:∀ls∈b7,Up ((n+1:Nat):Int) 0 ls)(hn:n<=8)(hl:b7.length<=1000)(hlim:lim<=100000)(hB:∀T:List j5,T.Nodup->(∀x∈T,Z0 n b7 x)->T.length<=lim)
  (q:∀p(X:List j5)H',H'[p]? = B3 (.dic (X.map kvT) B2)->X.Nodup->(∀x,x∈X ↔ Z0 n b7 x)->H.length<=p->B7 [] H H'->Q (.ref p) H'):wE (Zcj [.tup (b7.map C2),.int ((n:Int)+1),.int lim] H) Q:=by
 refine P7 rfl ?_;show wS (lD [B3 (.tup (b7.map C2)),B3 (.int ((n:Int)+1)),B3 (.int lim),B0,B0,B0,B0,B0] H) _;unfold lD;have eP:C8 ((n:Int)+1)=n+1:=S3.mpr (.inl rfl);have eN:C8 (-((n:Int)+1))=n+1:=S3.mpr (.inr rfl);fail "g";refine cO (λσ H'=>∃(X:List j5)(z4:Option D),X.Nodup/\(∀x,x∈X ↔ x∈b7/\Q8 n x=B2)/\H'[H.length]? = B3 (.dic (X.map kvT) B2)/\B7 [] H H'/\σ=[B3 (.tup (b7.map C2)),B3 (.int ((n:Int)+1)),B3 (.int lim),B3 (.ref H.length),z4,B0,B0,B0]) ?_ ?_
 ·refine T2 (λd t σ H'=>∃(dr tr X:List j5)(z4:Option D),t=tr.map C2/\b7=dr++tr/\X.Nodup/\(∀x,x∈X ↔ x∈dr/\Q8 n x=B2)/\H'[H.length]? = B3 (.dic (X.map kvT) B2)/\B7 [] H H'/\σ=[B3 (.tup (b7.map C2)),B3 (.int ((n:Int)+1)),B3 (.int lim),B3 (.ref H.length),z4,B0,B0,B0]) (λ_ _ _ _ _=>Q6) (λd x t σ H1 zz=>?_) (λd σ H1 zz=>?_) _ [] _ _ ⟨[],b7,[],_,rfl,rfl,.nil,by simp,last,B7.app _,rfl⟩
  ·obtain⟨dr,tr,X,z4,i1,i2,i3,i4,i5,i6,rfl⟩:=zz;cases tr with
   |nil=>cases i1
   |cons ls tr=>
    obtain⟨rfl,rfl⟩:=P9.inj i1;have hls:ls∈b7:=by rw[i2];simp
    fail "i";refine tN ?_;fail "g";refine Zm4 ?_;fail "g";refine⟨λz=>?_,λz=>?_⟩
    ·have z:Q8 n ls=B2:=by simpa using z
     have nx:∀x,x∈J9 X ls ↔ x∈dr++[ls]/\Q8 n x=B2:=λx=>by
      rw[cT,i4,Xf,Xe];constructor
      ·rintro(⟨h,k⟩ |rfl)
       ·exact⟨.inl h,k⟩
       ·exact⟨.inr rfl,z⟩
      ·rintro⟨h |rfl,k⟩
       ·exact .inl ⟨h,k⟩
       ·exact .inr rfl
     have bd:=hB (J9 X ls) (W8 i3) λx hx=>by
      obtain⟨h,k⟩:=(nx x).mp hx;have hr:x∈b7:=by
       rw[i2];rcases Xf.mp h with h |h
       ·simp[h]
       ·rw[Xe]at h;simp[h]
      exact .inl ⟨hr,(sW (hu x hr)).mp k⟩
     fail "g";refine tH i5 bd hlim ?_;fail "g";exact⟨dr++[ls],tr,_,_,rfl,by rw[i2];simp,W8 i3,nx,M2 i5,O1 i6 (Xd _),rfl⟩
    ·have z:Q8 n ls=B1:=by simpa using z
     fail "g";refine⟨dr++[ls],tr,X,_,rfl,by rw[i2];simp,i3,λx=>?_,i5,i6,rfl⟩;rw[i4,Xf,Xe];refine⟨λh=>⟨.inl h.1,h.2⟩,λ⟨h,k⟩=>⟨h.resolve_right λe=>?_,k⟩⟩;subst e;rw[z]at k;cases k
  ·obtain⟨dr,tr,X,z4,i1,i2,i3,i4,i5,i6,rfl⟩:=zz;cases tr with
   |cons b tr=>cases i1
   |nil=>
    rw[Xq]at i2;subst i2;exact⟨rfl,X,_,i3,i4,i5,i6,rfl⟩
 rintro _ H1 ⟨X1,z4,j1,j2,j3,j4,rfl⟩;fail "g";refine Zi3 hl λpb B H2 g2 b1 b2 b3 b4 x2=>?_;fail "g";refine Zi3 hl λpa A H3 g3 a1 a2 a3 a4 x3=>?_;fail "g";refine⟨pa,A.map kvT,B2,rfl,g3,?_⟩;rw[uD];have lp:H.length<H1.length:=(Xg.mp j3).1;have l2:=x2.len;have npa:H.length≠pa:=by omega
 have npb:H.length≠pb:=by omega
 have nab:pa≠pb:=by have:=(Xg.mp g2).1;omega
 have Ra:∀a∈A,R n a:=λa ha=>(fJ (V5 _) (iG (hu _ ((a3 a).mp ha)) eP)).1;have Rb:∀b∈B,R n b:=λb hb=>(fJ (V5 _) (iG (hu _ ((b3 b).mp hb)) eN)).1;have JP:∀x,Pr n b7 A B x ↔ Z0 n b7 x:=λx=>by
  unfold Pr Z0;refine or_congr ⟨λh=>⟨h.1,(sW (hu x h.1)).mp h.2⟩,λh=>⟨h.1,(sW (hu x h.1)).mpr h.2⟩⟩ ⟨λ⟨a,ha,b,hb,e⟩=>⟨a,b,(a3 a).mp ha,(b3 b).mp hb,e⟩,λ⟨a,b,ha,hb,e⟩=>⟨a,(a3 a).mpr ha,b,(b3 b).mpr hb,e⟩⟩
 have E3:B7 [] H H3:=(j4.trans x2).trans x3;refine T2 (λd t σ H'=>∃(dr tr X:List j5)(fz:Bool)(z4 z6 z7:Option D),t=tr.map C2/\A=dr++tr/\X.Nodup/\(∀x,x∈X ↔ Pr n b7 dr B x)/\H'[H.length]? = B3 (.dic (X.map kvT) B2)/\H'[pb]? = B3 (.dic (B.map kvT) fz)/\H'[pa]? = B3 (.dic (A.map kvT) B1)/\B7 [] H H'/\σ=[B3 (.tup (b7.map C2)),B3 (.int ((n:Int)+1)),B3 (.int lim),B3 (.ref H.length),z4,B3 (.ref pb),z6,z7]) (λ_ _ _ _ zz=>by obtain⟨dr,tr,X,fz,z4,z6,z7,i1,i2,i3,i4,i5,i6,i7,i8,i9⟩:=zz;exact A0 i7) (λd x t σ H4 zz=>?_) (λd σ H4 zz=>?_) _ [] _ _ ⟨[],A,X1,B2,_,_,_,rfl,rfl,j1,λx=>by rw[j2];unfold Pr;simp,A2 (Uj npa) (x3.old _ _ g8 (x2.old _ _ g8 j3)),A2 nab (x3.old _ _ g8 g2),M2 g3,O1 E3 f8,rfl⟩
 ·obtain⟨dr,tr,X,fz,z4,z6,z7,i1,i2,i3,i4,i5,i6,i7,i8,rfl⟩:=zz;cases tr with
  |nil=>cases i1
  |cons a tr=>
   obtain⟨rfl,rfl⟩:=P9.inj i1;have hma:a∈A:=by rw[i2];simp
   fail "g";refine⟨pb,B.map kvT,fz,rfl,i6,?_⟩;rw[uD];refine pX (H0:=H) (A1:=dr) (A:=A) (pa:=pa) (X:=X) hn hlim (Ra a hma) Rb (Xd _) f8 (λT nd hT=>hB T nd λx hx=>(JP x).mp ?_) (A2 (Uj npb) i5) (M2 i6) (A2 (Uj nab) i7) i3 i4 (O1 i8 f8) λX' z4 z7 H5 h1 h2 h3 h4 h5 h6=>?_
   ·rcases hT x hx with h |⟨a',ha',b',hb',e⟩
    ·exact .inl h
    ·refine .inr ⟨a',?_,b',hb',e⟩;rw[i2];rcases Xf.mp ha' with h |h
     ·simp[h]
     ·rw[Xe]at h;simp[h]
   ·fail "g";exact⟨dr++[a],tr,X',B1,_,_,_,rfl,by rw[i2];simp,h4,h5,h1,h2,h3,h6,rfl⟩
 ·obtain⟨dr,tr,X,fz,z4,z6,z7,i1,i2,i3,i4,i5,i6,i7,i8,rfl⟩:=zz;cases tr with
  |cons b tr=>cases i1
  |nil=>
   rw[Xq]at i2;subst i2;fail "g";exact q _ X _ i5 i3 (λx=>(i4 x).trans (JP x)) (Xd _) i8
end
theorem Zvc{y pre:List Int}{l:Int}:y.Sublist (pre++[l]) ↔ y.Sublist pre\/∃z,y=z++[l]/\z.Sublist pre:=by
 rw[List.sublist_append_iff];constructor
 ·rintro⟨a,b,rfl,ha,hb⟩;have hb:b=[]\/b=[l]:=by
   cases b with
   |nil=>exact .inl rfl
   |cons x r=>
    have h1:x=l:=by have:=hb.subset (iU ..);simpa using this
    have h2:=hb.length_le;cases r with
    |nil=>rw[h1];exact .inr rfl
    |cons y z=>simp at h2
  rcases hb with rfl |rfl
  ·rw[Xq];exact .inl ha
  ·exact .inr ⟨a,rfl,ha⟩
 ·rintro(h |⟨z,rfl,h⟩)
  ·exact⟨y,[],by simp,h,by simp⟩
  ·exact⟨z,[l],rfl,h,by simp⟩
theorem Zu4{p:Nat}{xs:List D}(g:H[p]? = B3 (.lst xs))(q:Q (.ref H.length) (H++[.lst (xs.take (xs.length-1))])):wE (W1 (.ref p) B0 (B3 (-1)) H) Q:=by
 refine⟨.ref H.length,H++[.lst (O0 xs B0 (B3 (-1)))],by simp only[W1,g],?_⟩;rw[Zg3];exact q
nonrec def kC(l:Int)(d:D):D:=match d with
 |.tup xs=>.tup (xs++[.int l])
 |d=>d
theorem Zng(l:Int)(y:List Int):kC l (C2 y)=C2 (y++[l]):=by
 show D.tup _=D.tup _;rw[U7];rfl
theorem Yb9{ls:List Int}(hl:ls.length<=8)(q:∀p(L:List j5)H',H'[p]? = B3 (.lst (L.map C2))->(∀y,y∈L ↔ y.Sublist ls/\y.length<ls.length)->L.length<=256->B7 [] H H'->Q (.ref p) H'):wE (Zhu [C2 ls] H) Q:=by
 refine P7 rfl ?_;show wS (uI [B3 (.tup (ls.map .int)),B0,B0] H) _;unfold uI;fail "g";refine T2 (λd t σ H'=>∃(pre r:List Int)(L:List j5)(p:Nat)(z2:Option D),t=r.map .int/\ls=pre++r/\(∀y,y∈L ↔ y.Sublist pre/\y.length<pre.length)/\L.length+1=2 ^ pre.length/\H'[p]? = B3 (.lst ((L++[pre]).map C2))/\B7 [] H H'/\σ=[B3 (.tup (ls.map .int)),B3 (.ref p),z2]) (λ_ _ _ _ _=>Q6) (λd x t σ H1 zz=>?_) (λd σ H1 zz=>?_) _ [] _ _ ⟨[],ls,[],_,_,rfl,rfl,by simp,rfl,last,B7.app _,rfl⟩
 ·obtain⟨pre,r,L,p,z2,i1,i2,i3,i4,i5,i6,rfl⟩:=zz;cases r with
  |nil=>cases i1
  |cons l r=>
   obtain⟨rfl,rfl⟩:=P9.inj i1;have lp:pre.length<=8:=by rw[i2]at hl;simp at hl;omega
   have l2:2 ^ pre.length<=2 ^ 8:=Wef f8 lp;fail "g";refine tG (kC l) (λH'=>H'=H1) (λ_ e=>by subst e;exact A0 i5) _ (λy hy H3 e=>?_) _ rfl λH3 e=>?_
   ·subst e;obtain⟨z,hz,rfl⟩:=Xr.mp hy;have lz:z.length<=8:=by
     rcases Xf.mp hz with h |h
     ·have:=((i3 z).mp h).2;omega
     ·rw[Xe]at h;rw[h];exact lp
    show wE (B8 G0 _ _ [B3 (.tup (z.map .int)),B3 (.int l)] H3) _;fail "g";exact⟨by rw[Zng,C2,U7];rfl,rfl⟩
   ·subst e;have e2:((L++[pre]).map C2).map (kC l)=((L++[pre]).map (· ++ [l])).map C2:=by
     rw[K7,K7];exact iV λy _=>Zng l y
    rw[e2];refine⟨by simp;omega,?_⟩;refine Ybu (appL i5) last h9 ?_;rw[<- U7];fail "g";refine⟨pre++[l],r,L++[pre]++L.map (· ++ [l]),_,_,rfl,by rw[i2];simp,λy=>?_,?_,?_,(i6.trans (B7.app _)).trans (B7.app _),rfl⟩
    ·rw[Xf,Xf,Xe,Xr,Zvc,i3];simp only[Y4,cX,iR];constructor
     ·rintro((⟨h,k⟩ |rfl) |⟨z,hz,rfl⟩)
      ·exact⟨.inl h,by omega⟩
      ·exact⟨.inl (Wgq.refl _),by omega⟩
      ·have:=(i3 z).mp hz;exact⟨.inr ⟨z,rfl,this.1⟩,by simp;omega⟩
     ·rintro⟨h |⟨z,rfl,h⟩,k⟩
      ·by_cases e:y.length<pre.length
       ·exact .inl (.inl ⟨h,e⟩)
       ·exact .inl (.inr (h.eq_of_length_le f8))
      ·exact .inr ⟨z,(i3 z).mpr ⟨h,by simp at k;omega⟩,rfl⟩
    ·simp[Wgp];omega
    ·rw[last];simp
 ·obtain⟨pre,r,L,p,z2,i1,i2,i3,i4,i5,i6,rfl⟩:=zz;cases r with
  |cons b tr=>cases i1
  |nil=>
   rw[Xq]at i2;subst i2;have l2:2 ^ ls.length<=2 ^ 8:=Wef f8 hl;fail "g";refine Zu4 i5 ?_;fail "g";refine q _ L _ ?_ i3 f8 (i6.trans (B7.app _));rw[last];simp
variable{σ:SD}{H:HD}{Q:D->HD->Prop}
open Classical in
nonrec def K0(X:List j5)(x:List Int):Bool:=decide (∀y∈X,¬ (y.Sublist x/\y.length<x.length))
def PX(n:Nat)(b:Bool)(b7:List j5)(x:List Int):Prop:=if b=B1 then Z0 n b7 x else ∃ls∈b7,x=J8 n ls
theorem Znh{xss:List (List Int)}{p:Nat}(g:H[p]? = B3 (.lst (xss.map C2)))(hl:xss.length<=1000000)(q:Q (.ref H.length) (H++[.lst ((M1 xss).map C2)])):wE (nR [.ref p] H) Q:=by
 refine⟨_,_,?_,q⟩;unfold nR;simp only[P6,g,Zev,Zb];rw[d7 (by simpa using hl)];rfl
theorem Zp6:∀bs:List Bool,mU (bs.map .bl)=B3 bs
 |[]=>rfl
 |b::r=>by rw[Xx,mU,Zp6 r];rfl
theorem Yc4{p:Nat}{bs:List Bool}(g:H[p]? = B3 (.lst (bs.map .bl)))(q:Q (.bl (bs.any id)) H):wE (vE [.ref p] H) Q:=⟨_,_,by simp only[vE,g];rw[Zp6];rfl,q⟩
section
variable{ks:List D}{kd:D}{b7:List (List Int)}{lim:Nat}
theorem Zuw(hu:∀ls∈b7,Up ((ks.length+1:Nat):Int) 0 ls){x:List Int}(h:PX ks.length (kS kd) b7 x):Up (ks.length:Int) 0 x:=by
 have eP:C8 ((ks.length:Int)+1)=ks.length+1:=S3.mpr (.inl rfl);have eN:C8 (-((ks.length:Int)+1))=ks.length+1:=S3.mpr (.inr rfl);unfold PX at h;split at h
 ·rcases h with ⟨_,h⟩ |⟨a,b,ha,hb,e⟩
  ·exact h
  ·unfold K5 at e;split at e
   ·cases e
   ·rename_i z;cases e;exact Zvu (R.join0 (fJ (V5 _) (iG (hu _ ha) eP)).1 (fJ (V5 _) (iG (hu _ hb) eN)).1 (by simpa using z))
 ·obtain⟨ls,hl,rfl⟩:=h;exact Zn6 (hu ls hl)
theorem Zt4(c:Cl (ks++[kd]) b7)(hlim:lim<=100000)(hB:∀T:List j5,T.Nodup->(∀x∈T,PX ks.length (kS kd) b7 x)->T.length<=lim)
  (q:∀(X:List j5)H',X.Nodup->(∀x,x∈X ↔ PX ks.length (kS kd) b7 x)->B7 [] H H'->Q (G8 ks (M1 (X.filter (K0 X)))) H'):wE (iO [G8 (ks++[kd]) b7,.int lim] H) Q:=by
 have h8:=c.h8;have hl:=c.hl;have hn:ks.length<=8:=by simp at h8;omega
 have hu:∀ls∈b7,Up ((ks.length+1:Nat):Int) 0 ls:=λls h=>by have:=c.hu ls h;simpa using this
 have eL:(((ks++[kd]).length:Nat):Int)=(ks.length:Int)+1:=by simp
 have ek:kd=kJ (kS kd):=Zho (c.hk kd g8);refine P7 rfl ?_;show wS (lC [B3 (G8 (ks++[kd]) b7),B3 (.int lim),B0,B0,B0] H) _;unfold lC;fail "g";rw[eL];fail "g";refine cO (λσ H'=>∃(p:Nat)(X:List j5),X.Nodup/\(∀x,x∈X ↔ PX ks.length (kS kd) b7 x)/\H'[p]? = B3 (.dic (X.map kvT) B2)/\H.length<=p/\B7 [] H H'/\σ=[B3 (G8 (ks++[kd]) b7),B3 (.int lim),B3 (.int ((ks.length:Int)+1)),B0,B3 (.ref p)]) ?_ ?_
 ·(refine WP.w_if ?_;fail "g")
  refine w_ixT (nU ks kd) ?_;fail "g";rw[ek];refine Zmo ?_;rw[<- ek];fail "g";refine⟨λz=>?_,λz=>?_⟩
  ·have z:kS kd=B2:=by simpa using z
   have e:∀x,PX ks.length (kS kd) b7 x ↔∃ls∈b7,x=J8 ks.length ls:=λx=>by unfold PX;rw[z,d9 g8]
   fail "g";refine Zpw hl hlim (λT nd hT=>hB T nd λx hx=>(e x).mpr (hT x hx)) λp X H' g nd hX hp x=>?_;fail "g";exact⟨rfl,p,X,nd,λy=>(hX y).trans (e y).symm,g,hp,x,rfl⟩
  ·have z:kS kd=B1:=by simpa using z
   have e:∀x,PX ks.length (kS kd) b7 x ↔ Z0 ks.length b7 x:=λx=>by unfold PX;rw[z,d7 rfl]
   fail "g";refine Zo3 hu hn hl hlim (λT nd hT=>hB T nd λx hx=>(e x).mpr (hT x hx)) λp X H' g nd hX hp x=>?_;fail "g";exact⟨rfl,p,X,nd,λy=>(hX y).trans (e y).symm,g,hp,x,rfl⟩
 rintro _ H1 ⟨p,X,nd,hX,g,hp,x1,rfl⟩;have lX:X.length<=lim:=hB X nd λx hx=>(hX x).mp hx;fail "g";refine⟨p,X.map kvT,B2,rfl,g,?_⟩;rw[uD];refine oB (λd=>K0 X (kR d)) (λH'=>H'[p]? = B3 (.dic (X.map kvT) B1)/\B7 [] H H') (λ_ j=>A0 j.1) _ (λy hy H2 j=>?_) _ ⟨M2 g,O1 x1 hp⟩ λH2 j=>?_
 ·obtain⟨x,hx,rfl⟩:=Xr.mp hy;have ux:=Zuw (kd:=kd) hu ((hX x).mp hx);have lx:x.length<=8:=by have:=sX x 0 ux;omega
  show wT (gO _ [B3 (C2 x),B3 (.ref p)] H2) _;fail "g";refine Yb9 lx λph L H3 g3 hL l3 x3=>?_;fail "g";refine tG (λd=>.bl (decide (kR d∈X))) (λH'=>H'=H3) (λ_ e=>by subst e;exact A0 g3) _ (λy hy H4 e=>?_) _ rfl λH4 e=>?_
  ·subst e;obtain⟨z,hz,rfl⟩:=Xr.mp hy;show wE (B8 vH _ _ [B3 (C2 z),B3 (.ref p)] H4) _;fail "g";refine qA (x3.old _ _ g8 j.1) (Znc z) ?_;rw[Zxu,Zg2];exact⟨rfl,rfl⟩
  ·subst e;have e2:(L.map C2).map (λd=>D.bl (decide (kR d∈X)))=(L.map λy=>decide (y∈X)).map .bl:=by
    rw[K7,K7];refine iV λy _=>?_;show D.bl (decide (kR (C2 y)∈X))=_;rw[Zg2];rfl
   rw[e2];refine⟨by simp;omega,?_⟩;fail "g";refine Yc4 last ?_;fail "g";refine⟨?_,appL (x3.old _ _ g8 j.1),(j.2.trans x3).trans (B7.app _)⟩;rw[Zg2];unfold K0;rw[oQ,Wez,decide_eq_true_eq,<- Wfk,Wgr];simp only[lF,Function.comp,id,decide_eq_true_eq];constructor
   ·intro h y hy k;exact h ⟨y,(hL y).mpr k,hy⟩
   ·rintro h ⟨y,hy,hm⟩;exact h y hm ((hL y).mp hy)
 ·have e2:(X.map C2).filter (λd=>K0 X (kR d))=(X.filter (K0 X)).map C2:=by
   rw[Wfs]
   congr 1
   refine Wgn λy _=>?_;show K0 X (kR (C2 y))=_;rw[Zg2]
  rw[e2];have lf:=lH (K0 X) X;refine⟨by simp;omega,?_⟩;fail "g";refine⟨.tup (O0 (ks++[kd]) B0 (B3 (-1))),_,rfl,?_⟩;rw[Zg3,show (ks++[kd]).take ((ks++[kd]).length-1)=ks by simp];fail "g";refine Znh last f8 ?_;fail "g";exact q X _ nd hX ((j.2.trans (B7.app _)).trans (B7.app _))
end
variable{σ:SD}{H:HD}{Q:D->HD->Prop}
section
variable{ks:List D}{b7:List (List Int)}
nonrec def kB(d:D):D:=match d with
 |.tup xs=>.tup (xs.map λx=>match x with
  |.int i=>.int (-i)
  |x=>x)
 |d=>d
theorem Zua(ls:List Int):kB (C2 ls)=C2 (ls.map λx=> -x):=by
 show D.tup _=D.tup _;rw[K7,K7];rfl
theorem R.neg{M:Nat}{ls:List Int}(h:R M ls):R M (ls.map λx=> -x):=by
 refine⟨?_,λx hx=>?_⟩
 ·rw[K7];have:(C8 ∘ λx:Int=> -x)=C8:=by funext x;exact tO x
  rw[this];exact h.nd
 ·obtain⟨y,hy,rfl⟩:=Xr.mp hx;rw[tO];exact h.rg y hy
theorem Zwu{xs:List D}{k:Int}(h1:0<=k)(h2:k<=1000)(h3:xs.length<=1000)(q:Q (.tup (Xl k.toNat xs).flatten) H):wE (V1 (.tup xs) (.int k) H) Q:=⟨_,_,muT f8 h2 h3,q⟩
theorem Zoc{one:Int}(c:CR ks b7)(hr:b7.length<=20)(h0:0<=one)(q:∀rs H',CR ks rs->(∀ls∈rs,ls∈b7\/∃y∈b7,ls=y.map λx=> -x)->rs.length<=120->(rs.length<=20\/ks.length<=5)->Fm [] H H'->Q (G8 ks rs) H'):wE (Zcp [G8 ks b7,.int one] H) Q:=by
 refine P7 rfl ?_;show wS (uV [B3 (G8 ks b7),B3 (.int one),B0,B0,B0] H) _;unfold uV;have back:Q (G8 ks b7) H:=q b7 H c (λls h=>.inl h) f8 (.inl hr) Fm.refl;have h8:=c.h8;refine w_seq (w_asg ?_);fail "g";show wG (fD 2 (cG (F6 3) (cG (F6 4) gNl)) (.tup [.tup ks,.tup (b7.map C2)]) _ H) _;fail "i";fail "g";refine⟨λv=>?_,λv=>?_⟩
 ·fail "g";exact back
 fail "g";refine⟨λv=>?_,λv=>?_⟩
 ·fail "g";exact back
 fail "g";obtain⟨m,hm⟩:∃m:Nat,1+one / 6 % 20=m:=⟨(1+one / 6 % 20).toNat,by omega⟩
 rw[hm];fail "g";rw[<- List.map_take];refine tG kB (λH'=>Fm [] H H') (λ_ _=>Q6) _ (λy hy H2 j=>?_) _ Fm.refl λH2 j=>?_
 ·obtain⟨ls,hls,rfl⟩:=Xr.mp hy;have ll:=(c.hr ls (oY hls)).len;show wE (E9 W7 _ [B3 (.tup (ls.map .int))] H2) _;fail "g";refine tG (λx=>match x with |.int i=>.int (-i) |x=>x) (λH'=>H'=H2) (λ_ _=>Q6) _ (λz hz H3 j3=>?_) _ rfl λH3 j3=>?_
  ·obtain⟨x,_,rfl⟩:=Xr.mp hz;subst j3;fail "g";exact⟨rfl,rfl⟩
  ·subst j3;refine⟨by simp;omega,?_⟩;fail "g";exact⟨rfl,j.trans (Fm.app _)⟩
 ·have e1:((b7.take m).map C2).map kB=((b7.take m).map λls=>ls.map λx=> -x).map C2:=by
   rw[K7,K7];exact iV λls _=>Zua ls
  rw[e1];have lt:(b7.take m).length<=20:=by rw[Z5];omega
  refine⟨by simp at lt ⊢;omega,?_⟩;fail "g";refine Zwu f8 f8 (by simp at lt ⊢;omega) ?_;fail "g";rw[<- U7];have hn:(1+one / 120 % 3).toNat<=3:=by omega
  generalize (1+one / 120 % 3).toNat=n at hn;have e2:(Xl n ((b7++(b7.take m).map λls=>ls.map λx=> -x).map C2)).flatten=((Xl n (b7++(b7.take m).map λls=>ls.map λx=> -x)).flatten).map C2:=by
   rw[List.map_flatten,Wgf]
  rw[e2];have ln:(Xl n (b7++(b7.take m).map λls=>ls.map λx=> -x)).flatten.length<=120:=by
   have:n=0\/n=1\/n=2\/n=3:=by omega
   simp only[Z5]at lt;rcases this with rfl |rfl |rfl |rfl<;>simp[gB]<;>omega
  have af:∀ls∈(Xl n (b7++(b7.take m).map λls=>ls.map λx=> -x)).flatten,ls∈b7\/∃y∈b7,ls=y.map λx=> -x:=λls h=>by
   obtain⟨l,hl,hm⟩:=List.mem_flatten.mp h;rw[List.eq_of_mem_replicate hl]at hm;rcases Xf.mp hm with z |z
   ·exact .inl z
   ·obtain⟨y,hy,rfl⟩:=Xr.mp z;exact .inr ⟨y,oY hy,rfl⟩
  refine q _ _ ⟨c.hk,c.h8,λls h=>?_,by omega⟩ af ln (.inr (by simp at v;omega)) (j.trans (Fm.app _));rcases af ls h with z |⟨y,hy,rfl⟩
  ·exact c.hr ls z
  ·exact(c.hr y hy).neg
end
nonrec def mX(b7:List j5):List j5:=b7++b7.flatMap λa=>b7.map λb=>(K5 (a.take (a.length-1)) (b.take (b.length-1))).getD []
theorem Zgz(b7:List j5)(f:List Int->List j5)(k:Nat)(h:∀a,(f a).length=k):(b7.flatMap f).length=b7.length*k:=by
 induction b7 with
 |nil=>simp
 |cons a r ih=>rw[List.flatMap_cons,Y4,ih,h,cX,Nat.succ_mul];omega
theorem Zka{n:Nat}{b7:List (List Int)}{x:List Int}(h:Z0 n b7 x):x∈mX b7:=by
 unfold mX;rcases h with ⟨h,_⟩ |⟨a,b,ha,hb,e⟩
 ·exact gC _ h
 ·refine Xu _ (List.mem_flatMap.mpr ⟨_,ha,Xr.mpr ⟨_,hb,?_⟩⟩);rw[Zfs,Zfs,e];rfl
theorem Yc9{ks:List D}{kd:D}{b7:List (List Int)}(hu:∀ls∈b7,Up ((ks.length+1:Nat):Int) 0 ls)(h:ks.length<=6\/b7.length<=20){T:List (List Int)}(nd:T.Nodup)(hT:∀x∈T,PX ks.length (kS kd) b7 x):T.length<=729:=by
 rcases h with h |h
 ·exact Yb0 h nd λx hx=>Zuw (kd:=kd) hu (hT x hx)
 ·unfold PX at hT;split at hT
  ·have:=tI T (mX b7) nd λx hx=>Zka (hT x hx);have e:(mX b7).length=b7.length+b7.length*b7.length:=by
    unfold mX;rw[Y4,Zgz _ _ b7.length (λa=>by simp)]
   have:b7.length*b7.length<=20*20:=Nat.mul_le_mul h h;omega
  ·have:=tI T (b7.map (J8 ks.length)) nd λx hx=>by
    obtain⟨ls,hl,rfl⟩:=hT x hx;exact Xr.mpr ⟨ls,hl,rfl⟩
   rw[Xj]at this;omega
theorem Zwe{m:Int}:∀(ls:List Int)(last:Int),Up m last ls->Up m last (ls.map λx=> -x)
 |[],_,_=>trivial
 |l::r,last,h=>by
  obtain⟨h1,h2,h3⟩:=h;have e:=tO l;exact⟨by rw[e];exact h1,by rw[e];exact h2,by rw[e];exact Zwe r _ h3⟩
variable{σ:SD}{H:HD}{Q:D->HD->Prop}
nonrec def kvI(x:Int):Int×D:=(x,.bl B1)
theorem Zqr(k:Int):∀zs:List Int,(hW (zs.map kvI) k).isSome=decide (k∈zs)
 |[]=>rfl
 |z::r=>by
  have ih:=Zqr k r;unfold hW at ih ⊢;rw[Xx];by_cases e:z=k
  ·subst e;rw[Wdw (by simp[kvI])];simp
  ·rw[Wdx (by simp[kvI,e]),ih];have:¬ k=z:=λw=>e w.symm;simp[this]
theorem Ybv(k:Int)(zs:List Int):dN (zs.map kvI) k (.bl B1)=(if k∈zs then zs else zs++[k]).map kvI:=by
 unfold dN;by_cases h:k∈zs
 ·rw[d7 (by rw[Wgr,lF];exact⟨k,h,by simp[kvI]⟩),d7 h,K7];refine iV λx _=>?_;show (if x=k then (x,D.bl B1)else kvI x)=kvI x;split<;>rfl
 ·have hn:¬ ((zs.map kvI).any (λp=>decide (p.1=k))=B1):=by
   rw[Wgr,lF];rintro⟨x,hx,e⟩;have e:x=k:=of_decide_eq_true e;subst e;exact h hx
  rw[d9 hn,d9 h,U7];rfl
theorem pY{n:Nat}{b8:List (Int×D)}{k:Int}(g:H[n]? = B3 (.dci b8))(q:Q (.bl (hW b8 k).isSome) H):wE (iinD (.int k) (.ref n) H) Q:=⟨_,_,by simp[iinD,fE,g],q⟩
theorem Ya9{n:Nat}{b8:List (Int×D)}{k:Int}{v:D}{Z:HD->Prop}(g:H[n]? = B3 (.dci b8))(h:b8.length<=1000)(q:Z (H.set n (.dci (dN b8 k v)))):wH (sP (.ref n) (.int k) v H) Z:=by
 refine⟨_,?_,q⟩;have sz:=Vx;simp only[sP,g];exact d7 f8
theorem pZ(q:Q (.ref H.length) (H++[.dci []])):wE (eDI σ H) Q:=⟨_,_,rfl,q⟩
theorem Yaq{M:Nat}{a b:List Int}{n:Int}(ha:R M a)(hb:R M b)(hM:M<=8)(h1:1<=n)(hn:n∈a)(hm : -n∈b)(q:∀H',B7 [] H H'->Q (kI (kL a b n)) H'):wE (Zc5 [C2 a,C2 b,.int n] H) Q:=by
 have la:=ha.len;have lb:=hb.len;refine P7 rfl ?_;show wS (uQ [B3 (.tup (a.map .int)),B3 (.tup (b.map .int)),B3 (.int n),B0,B0] H) _;unfold uQ;fail "g";refine pZ ?_;have fj:=Zrc ha hb h1 hn hm;fail "g";rw[<- U7];refine T2 (λd t σ H'=>∃(pre r zs:List Int)(z4:Option D),a++b=pre++r/\t=r.map .int/\Z1 n zs r=Z1 n [] (a++b)/\R M zs/\H'[H.length]? = B3 (.dci (zs.map kvI))/\B7 [] H H'/\σ=[B3 (.tup (a.map .int)),B3 (.tup (b.map .int)),B3 (.int n),B3 (.ref H.length),z4]) (λ_ _ _ _ _=>Q6) (λd x t σ H1 zz=>?_) (λd σ H1 zz=>?_) _ [] _ _ ⟨[],a++b,[],_,rfl,rfl,rfl,⟨.nil,by simp⟩,last,B7.app _,rfl⟩
 ·obtain⟨pre,r,zs,z4,i1,i2,i3,i4,i5,i6,i7⟩:=zz;subst i7;cases r with
  |nil=>cases i2
  |cons l r=>
   obtain⟨rfl,rfl⟩:=P9.inj i2;have hl:1<=C8 l/\C8 l<=M:=by
    have:l∈a++b:=by rw[i1];simp
    rcases Xf.mp this with w |w
    ·exact ha.rg l w
    ·exact hb.rg l w
   have i1':a++b=(pre++[l])++r:=by rw[i1];simp
   rw[Z1]at i3;fail "i";fail "g";refine⟨λw=>?_,λw=>?_⟩
   ·have w:C8 l≠n:=by simpa using w
    rw[d9 w]at i3;fail "i";refine pY i5 ?_;rw[Zqr];fail "g";refine⟨λv=>?_,λv=>?_⟩
    ·fail "g";rw[d7 (of_decide_eq_true v)]at i3;rw[<- i3]at fj;have e:kI (kL a b n)=.non:=by rw[<- fj];rfl
     rw[<- e];exact q _ i6
    ·fail "g";rw[d9 (of_decide_eq_false v)]at i3;refine Ya9 i5 (by have:=i4.len;simp;omega) ?_;rw[Ybv];fail "g";refine⟨pre++[l],r,_,_,i1',rfl,i3,?_,M2 i5,i6.weak (B7.set g8) (Xd _),rfl⟩;have:=Zmb (M:=M) (n:=n) [l] zs (by simpa using hl) i4 (if l∈zs then zs else zs++[l]) (by rw[Z1,d9 w,d9 (of_decide_eq_false v)];rfl);exact this
   ·have w:C8 l=n:=by simpa using w
    rw[d7 w]at i3;fail "g";exact⟨pre++[l],r,zs,_,i1',rfl,i3,i4,i5,i6,rfl⟩
 ·obtain⟨pre,r,zs,z4,i1,i2,i3,i4,i5,i6,i7⟩:=zz;subst i7;cases r with
  |cons l r=>cases i2
  |nil=>
   rw[<- i3]at fj;have e:kI (kL a b n)=.tup ((O5 zs).map .int):=by rw[<- fj];rfl
   fail "g";refine Zt7 i5 (by have:=i4.len;omega) i4.nd ?_;fail "g";rw[<- e];exact q _ (i6.trans (B7.app _))
variable{σ:SD}{H:HD}{Q:D->HD->Prop}
theorem Zjy{n:Nat}{ls:List Int}(h:Up (n:Int) 0 ls)(p:Int->Bool)(hp:∀x,C8 x<=n->p x=B1):ls.filter p=ls:=List.filter_eq_self.mpr λx hx=>hp x (fR ls 0 (V5 _) h x hx).2
theorem Zpd{n:Nat}{ls:List Int}(h:Up ((n+1:Nat):Int) 0 ls):ls.filter (λx=>decide (C8 x≠(n:Int)+1))=J8 n ls:=by
 have p:∀x:Int,C8 x<=n->decide (C8 x≠(n:Int)+1)=B1:=λx hx=>f6 f8;rcases kT h with z |⟨a,l,rfl,hl,ha⟩
 ·rw[Zjy z _ p,Zn5 z]
 ·rw[dW,Zjy ha _ p,Zlo hl];simp[hl]
theorem Zw1{n:Nat}{ls:List Int}(h:Up ((n+1:Nat):Int) 0 ls){x:Int}(hx:C8 x=n+1):x∈ls ↔∃a,ls=a++[x]:=by
 constructor
 ·intro hm;rcases kT h with z |⟨a,l,rfl,hl,ha⟩
  ·have:=(fR ls 0 (V5 _) z x hm).2;omega
  ·rcases Xf.mp hm with z |z
   ·have:=(fR a 0 (V5 _) ha x z).2;omega
   ·rw[Xe]at z;subst z;exact⟨a,rfl⟩
 ·rintro⟨a,rfl⟩;simp
theorem Zp4{n:Nat}{a b:List Int}(ha:Up ((n+1:Nat):Int) 0 (a++[(n:Int)+1]))(hb:Up ((n+1:Nat):Int) 0 (b++[-((n:Int)+1)])):kL (a++[(n:Int)+1]) (b++[-((n:Int)+1)]) ((n:Int)+1)=K5 a b:=by
 have eP:C8 ((n:Int)+1)=n+1:=S3.mpr (.inl rfl);have eN:C8 (-((n:Int)+1))=n+1:=S3.mpr (.inr rfl);rw[Zil _ _ _ ⟨by simp,by simp⟩,dW,dW];rw[Zjy (iG ha eP) (λx=>decide (x≠(n:Int)+1)) λx hx=>f6 λz=>by rw[z,eP]at hx;omega,Zjy (iG hb eN) (λx=>decide (x ≠ -((n:Int)+1))) λx hx=>f6 λz=>by rw[z,eN]at hx;omega];simp
nonrec def jX:D->Int
 |.int i=>i
 |_=>0
section
variable{ks:List D}{kd:D}{b7:List (List Int)}{lim:Nat}
def Lr(n:Nat)(b7 dr:List j5)(x:List Int):Prop:=(x∈dr/\Up (n:Int) 0 x)\/∃a b,a++[(n:Int)+1]∈dr/\b++[-((n:Int)+1)]∈b7/\K5 a b=B3 x
theorem Zns{xss:List (List Int)}{p:Nat}{fz:Bool}(g:H[p]? = B3 (.dic (xss.map kvT) fz))(hl:xss.length<=1000000)(q:Q (.ref H.length) (H++[.lst ((M1 xss).map C2)])):wE (nG [.ref p] H) Q:=by
 have e:(xss.map kvT).map (·.1)=xss.map C2:=by rw[K7];rfl
 refine⟨_,_,?_,q⟩;unfold nG;simp only[g,e,Zev,Zb];rw[d7 (by simpa using hl)];rfl
theorem Zto{n:Nat}{ls:List Int}{dr X:List (List Int)}{p:Nat}{z0 z5 z6:Option D}{R:FD->SD->HD->Prop}{H0:HD}(hu:∀r∈b7,Up ((n+1:Nat):Int) 0 r)(hn:n+1<=8)(hls:ls∈b7)(hdr:∀x∈dr,x∈b7)(hp:H0.length<=p)
  (hB:∀T:List j5,T.Nodup->(∀x∈T,Z0 n b7 x)->T.length<=1000)(g:H[p]? = B3 (.dic (X.map kvT) B2))(nd:X.Nodup)(hX:∀x,x∈X ↔ Lr n b7 dr x\/(x=ls/\Up (n:Int) 0 x))(e0:B7 [] H0 H)
  (q:∀(X':List j5)z5 z6 H',H'[p]? = B3 (.dic (X'.map kvT) B2)->X'.Nodup->(∀x,x∈X' ↔ Lr n b7 (dr++[ls]) x)->B7 [] H0 H'->R .nx [z0,B3 (.tup (b7.map C2)),B3 (.int ((n:Int)+1)),B3 (.ref p),B3 (C2 ls),z5,z6] H') :
  wS (N6 [] (F6 5) (B9 (F4 (dM (E8 (B8 inD k6 k8)) (E8 (B8 inD (F8 F9 k6) k9))) (B9 (D3 6 (D8 3 Zc5 (B5 k8 (B5 k9 (B5 k6 C1)))))
   (B9 (F4 (E8 (B8 cH l9 (eC .non))) (B9 (Y9 (eC (.bl B1)) (cF k7 l9 cL)) C4) C4) C4)) C4) C4) (b7.map C2) [z0,B3 (.tup (b7.map C2)),B3 (.int ((n:Int)+1)),B3 (.ref p),B3 (C2 ls),z5,z6] H) R:=by
 have eP:C8 ((n:Int)+1)=n+1:=S3.mpr (.inl rfl);have eN:C8 (-((n:Int)+1))=n+1:=S3.mpr (.inr rfl);have rR:∀r∈b7,K08.R (n+1) r:=λr h=>(fJ (V5 _) (hu r h)).1;refine T2 (λd t σ H'=>∃(d2 t2 X':List j5)(z5 z6:Option D),t=t2.map C2/\b7=d2++t2/\X'.Nodup/\(∀x,x∈X' ↔ (Lr n b7 dr x\/(x=ls/\Up (n:Int) 0 x))\/∃a b,a++[(n:Int)+1]=ls/\b++[-((n:Int)+1)]∈d2/\K5 a b=B3 x)/\H'[p]? = B3 (.dic (X'.map kvT) B2)/\B7 [] H0 H'/\σ=[z0,B3 (.tup (b7.map C2)),B3 (.int ((n:Int)+1)),B3 (.ref p),B3 (C2 ls),z5,z6]) (λ_ _ _ _ _=>Q6) (λd x t σ H1 zz=>?_) (λd σ H1 zz=>?_) _ [] _ _ ⟨[],b7,X,_,_,rfl,rfl,nd,by simp[hX],g,e0,rfl⟩
 ·obtain⟨d2,t2,X',z5,z6,i1,i2,i3,i4,i5,i6,rfl⟩:=zz;cases t2 with
  |nil=>cases i1
  |cons r t2=>
   obtain⟨rfl,rfl⟩:=P9.inj i1;have hr:r∈b7:=by rw[i2];simp
   have skip:(¬ ∃a b,a++[(n:Int)+1]=ls/\b++[-((n:Int)+1)]=r)->∀x,(x∈X' ↔ (Lr n b7 dr x\/(x=ls/\Up (n:Int) 0 x))\/∃a b,a++[(n:Int)+1]=ls/\b++[-((n:Int)+1)]∈d2++[r]/\K5 a b=B3 x):=λno x=>by
    rw[i4];refine or_congr pQ ⟨λ⟨a,b,h1,h2,h3⟩=>⟨a,b,h1,by simp[h2],h3⟩,λ⟨a,b,h1,h2,h3⟩=>⟨a,b,h1,?_,h3⟩⟩;rcases Xf.mp h2 with h |h
    ·exact h
    ·rw[Xe]at h;exact absurd ⟨a,b,h1,h⟩ no
   fail "i";refine Zyv ?_;fail "g";refine⟨λz=>?_,λz=>?_⟩
   ·have z:(n:Int)+1∈ls:=by simpa using z
    obtain⟨a,rfl⟩:=(Zw1 (hu ls hls) eP).mp z;fail "g";refine Zyv ?_;fail "g";refine⟨λy=>?_,λy=>?_⟩
    ·have y : -((n:Int)+1)∈r:=by simpa using y
     obtain⟨b,rfl⟩:=(Zw1 (hu r hr) eN).mp y;fail "g";refine Yaq (M:=n+1) (rR _ hls) (rR _ hr) hn f8 z y λH2 x2=>?_;rw[Zp4 (hu _ hls) (hu _ hr)];fail "i";obtain⟨c,hc,hcn⟩:=Zl0 (K5 a b);refine w_isnN hc ?_;fail "g";have g2:H2[p]? = B3 (.dic (X'.map kvT) B2):=x2.old _ _ g8 i5;have inj:∀{a' b'},a'++[(n:Int)+1]=a++[(n:Int)+1]->b'++[-((n:Int)+1)]=b++[-((n:Int)+1)]->a'=a/\b'=b:=λh1 h2=>⟨Wfe h1,Wfe h2⟩
     refine⟨λw=>?_,λw=>?_⟩
     ·cases eb:K5 a b with
      |none=>rw[hcn.mpr eb]at w;cases w
      |some y=>
       have nx:∀x,x∈J9 X' y ↔ (Lr n b7 dr x\/(x=a++[(n:Int)+1]/\Up (n:Int) 0 x))\/∃a' b',a'++[(n:Int)+1]=a++[(n:Int)+1]/\b'++[-((n:Int)+1)]∈d2++[b++[-((n:Int)+1)]]/\K5 a' b'=B3 x:=λx=>by
        rw[cT,i4];constructor
        ·rintro((h |⟨a',b',h1,h2,h3⟩) |rfl)
         ·exact .inl h
         ·exact .inr ⟨a',b',h1,by simp[h2],h3⟩
         ·exact .inr ⟨a,b,rfl,by simp,eb⟩
        ·rintro(h |⟨a',b',h1,h2,h3⟩)
         ·exact .inl (.inl h)
         ·rcases Xf.mp h2 with h |h
          ·exact .inl (.inr ⟨a',b',h1,h,h3⟩)
          ·rw[Xe]at h;obtain⟨rfl,rfl⟩:=inj h1 h;rw[eb]at h3;cases h3;exact .inr rfl
       have bd:=hB X' i3 λx hx=>by
        rcases(i4 x).mp hx with (h |⟨rfl,h⟩) |⟨a',b',h1,h2,h3⟩
        ·rcases h with ⟨h1,h2⟩ |⟨a',b',h1,h2,h3⟩
         ·exact .inl ⟨hdr x h1,h2⟩
         ·exact .inr ⟨a',b',hdr _ h1,h2,h3⟩
        ·exact .inl ⟨hls,h⟩
        ·exact .inr ⟨a',b',by rw[h1];exact hls,by rw[i2];simp[h2],h3⟩
       fail "g";refine nH (xs:=y) g2 f8 ?_;fail "g";exact⟨d2++[b++[-((n:Int)+1)]],t2,_,_,_,rfl,by rw[i2];simp,W8 i3,nx,M2 g2,O1 (i6.trans x2) hp,rfl⟩
     ·have eb:K5 a b=B0:=hcn.mp (by cases c with |true=>rfl |false=>cases w);fail "g";refine⟨d2++[b++[-((n:Int)+1)]],t2,X',_,_,rfl,by rw[i2];simp,i3,λx=>?_,g2,i6.trans x2,rfl⟩;rw[i4];refine or_congr pQ ⟨λ⟨a',b',h1,h2,h3⟩=>⟨a',b',h1,by simp[h2],h3⟩,λ⟨a',b',h1,h2,h3⟩=>⟨a',b',h1,?_,h3⟩⟩;rcases Xf.mp h2 with h |h
      ·exact h
      ·rw[Xe]at h;obtain⟨rfl,rfl⟩:=inj h1 h;rw[eb]at h3;cases h3
    ·fail "g";refine⟨d2++[r],t2,X',_,_,rfl,by rw[i2,T5];rfl,i3,skip ?_,i5,i6,rfl⟩;rintro⟨a',b',h1,rfl⟩;exact absurd (show -((n:Int)+1)∈b'++[-((n:Int)+1)]from Xu _ (Xe.mpr rfl)) (of_decide_eq_false y)
   ·fail "g";refine⟨d2++[r],t2,X',_,_,rfl,by rw[i2,T5];rfl,i3,skip ?_,i5,i6,rfl⟩;rintro⟨a',b',rfl,h2⟩;exact absurd (show (n:Int)+1∈a'++[(n:Int)+1]from Xu _ (Xe.mpr rfl)) (of_decide_eq_false z)
 ·obtain⟨d2,t2,X',z5,z6,i1,i2,i3,i4,i5,i6,rfl⟩:=zz;cases t2 with
  |cons b tr=>cases i1
  |nil=>
   rw[Xq]at i2;subst i2;refine q X' _ _ _ i5 i3 (λx=>?_) i6;rw[i4];unfold Lr;constructor
   ·rintro((h |⟨rfl,h⟩) |⟨a',b',h1,h2,h3⟩)
    ·rcases h with ⟨h1,h2⟩ |⟨a',b',h1,h2,h3⟩
     ·exact .inl ⟨by simp[h1],h2⟩
     ·exact .inr ⟨a',b',by simp[h1],h2,h3⟩
    ·exact .inl ⟨by simp,h⟩
    ·exact .inr ⟨a',b',by rw[h1];simp,h2,h3⟩
   ·rintro(⟨h1,h2⟩ |⟨a',b',h1,h2,h3⟩)
    ·rcases Xf.mp h1 with h |h
     ·exact .inl (.inl (.inl ⟨h,h2⟩))
     ·rw[Xe]at h;exact .inl (.inr ⟨h,h2⟩)
    ·rcases Xf.mp h1 with h |h
     ·exact .inl (.inl (.inr ⟨a',b',h,h2,h3⟩))
     ·rw[Xe]at h;exact .inr ⟨a',b',h,h2,h3⟩
end
variable{σ:SD}{H:HD}{Q:D->HD->Prop}
section
variable{ks:List D}{kd:D}{b7:List (List Int)}{lim:Nat}
theorem Yc3(ls:List Int)(p:Int->Bool):(ls.map D.int).filter (λd=>p (jX d))=(ls.filter p).map D.int:=by
 rw[Wfs];rfl
theorem Zo5(c:Cl (ks++[kd]) b7)(hB:∀T:List j5,T.Nodup->(∀x∈T,PX ks.length (kS kd) b7 x)->T.length<=1000)
  (q:∀(X:List j5)p H',X.Nodup->(∀x,x∈X ↔ PX ks.length (kS kd) b7 x)->H'[p]? = B3 (.lst ((M1 X).map C2))->H.length<=p->B7 [] H H'->Q (.ref p) H'):wE (Zcr [.tup (ks++[kd]),.tup (b7.map C2)] H) Q:=by
 have h8:=c.h8;have hl:=c.hl;have hn:ks.length+1<=8:=by simpa using h8
 have hu:∀ls∈b7,Up ((ks.length+1:Nat):Int) 0 ls:=λls h=>by have:=c.hu ls h;simpa using this
 have eL:(((ks++[kd]).length:Nat):Int)=(ks.length:Int)+1:=by simp
 have ek:kd=kJ (kS kd):=Zho (c.hk kd g8);generalize hN:ks.length=n at *;refine P7 rfl ?_;show wS (uZ [B3 (.tup (ks++[kd])),B3 (.tup (b7.map C2)),B0,B0,B0,B0,B0] H) _;unfold uZ;fail "g";rw[eL];fail "i";refine w_ixT (nU ks kd) ?_;fail "g";rw[ek];refine Zmo ?_;rw[<- ek];fail "g";refine⟨λz=>?_,λz=>?_⟩
 ·have z:kS kd=B2:=by simpa using z
  have e:∀x,PX n (kS kd) b7 x ↔∃ls∈b7,x=J8 n ls:=λx=>by unfold PX;rw[z,d9 g8]
  fail "g";refine T2 (λd t σ H'=>∃(dr tr X:List j5)(z4:Option D),t=tr.map C2/\b7=dr++tr/\X.Nodup/\(∀x,x∈X ↔∃ls∈dr,x=J8 n ls)/\H'[H.length]? = B3 (.dic (X.map kvT) B2)/\B7 [] H H'/\σ=[B3 (.tup (ks++[kd])),B3 (.tup (b7.map C2)),B3 (.int ((n:Int)+1)),B3 (.ref H.length),z4,B0,B0]) (λ_ _ _ _ _=>Q6) (λd x t σ H1 zz=>?_) (λd σ H1 zz=>?_) _ [] _ _ ⟨[],b7,[],_,rfl,rfl,.nil,by simp,last,B7.app _,rfl⟩
  ·obtain⟨dr,tr,X,z4,i1,i2,i3,i4,i5,i6,rfl⟩:=zz;cases tr with
   |nil=>cases i1
   |cons ls tr=>
    obtain⟨rfl,rfl⟩:=P9.inj i1;have hls:ls∈b7:=by rw[i2];simp
    have nx:∀x,x∈J9 X (J8 n ls) ↔∃y∈dr++[ls],x=J8 n y:=λx=>by
     rw[cT,i4];constructor
     ·rintro(⟨y,hy,rfl⟩ |rfl)
      ·exact⟨y,by simp[hy],rfl⟩
      ·exact⟨ls,by simp,rfl⟩
     ·rintro⟨y,hy,rfl⟩;rcases Xf.mp hy with h |h
      ·exact .inl ⟨y,h,rfl⟩
      ·rw[Xe]at h;subst h;exact .inr rfl
    have bd:=hB X i3 λx hx=>(e x).mpr <|by
     obtain⟨y,hy,h⟩:=(i4 x).mp hx;exact⟨y,by rw[i2];simp[hy],h⟩
    fail "g";refine⟨ls.map .int,[],rfl,?_⟩;refine oB (λd=>decide (C8 (jX d)≠(n:Int)+1)) (λH'=>H'=H1) (λ_ _=>Q6) _ (λy hy H2 j=>?_) _ rfl λH2 j=>?_
    ·subst j;obtain⟨x,hx,rfl⟩:=Xr.mp hy;show wT (E8 _ [B3 (.int x),B3 (.int ((n:Int)+1))] H2) _;fail "g";refine⟨?_,rfl⟩;show (!decide (C8 x=(n:Int)+1))=decide (¬ C8 x=(n:Int)+1);rw[decide_not]
    ·subst j;rw[Yc3 ls λx=>decide (C8 x≠(n:Int)+1),Zpd (hu ls hls)];have ll:=sX _ 0 (Zn6 (hu ls hls));refine⟨by simp;omega,?_⟩;fail "g";refine nH (appL i5) f8 ?_;fail "g";exact⟨dr++[ls],tr,_,_,rfl,by rw[i2];simp,W8 i3,nx,M2 (appL i5),O1 (i6.trans (B7.app _)) (Xd _),rfl⟩
  ·obtain⟨dr,tr,X,z4,i1,i2,i3,i4,i5,i6,rfl⟩:=zz;cases tr with
   |cons b tr=>cases i1
   |nil=>
    rw[Xq]at i2;subst i2;have bd:=hB X i3 λx hx=>(e x).mpr ((i4 x).mp hx);fail "g";refine Zns i5 f8 ?_;fail "g";exact q X _ _ i3 (λx=>(i4 x).trans (e x).symm) last i6.len (i6.trans (B7.app _))
 ·have z:kS kd=B1:=by simpa using z
  have e:∀x,PX n (kS kd) b7 x ↔ Z0 n b7 x:=λx=>by unfold PX;rw[z,d7 rfl]
  fail "g";refine T2 (λd t σ H'=>∃(dr tr X:List j5)(z4 z5 z6:Option D),t=tr.map C2/\b7=dr++tr/\X.Nodup/\(∀x,x∈X ↔ Lr n b7 dr x)/\H'[H.length]? = B3 (.dic (X.map kvT) B2)/\B7 [] H H'/\σ=[B3 (.tup (ks++[kd])),B3 (.tup (b7.map C2)),B3 (.int ((n:Int)+1)),B3 (.ref H.length),z4,z5,z6]) (λ_ _ _ _ _=>Q6) (λd x t σ H1 zz=>?_) (λd σ H1 zz=>?_) _ [] _ _ ⟨[],b7,[],_,_,_,rfl,rfl,.nil,by simp[Lr],last,B7.app _,rfl⟩
  ·obtain⟨dr,tr,X,z4,z5,z6,i1,i2,i3,i4,i5,i6,rfl⟩:=zz;cases tr with
   |nil=>cases i1
   |cons ls tr=>
    obtain⟨rfl,rfl⟩:=P9.inj i1;have hls:ls∈b7:=by rw[i2];simp
    have hdr:∀x∈dr,x∈b7:=λx h=>by rw[i2];simp[h]
    have bd:=hB X i3 λx hx=>(e x).mpr <|by
     rcases(i4 x).mp hx with ⟨h1,h2⟩ |⟨a,b,h1,h2,h3⟩
     ·exact .inl ⟨hdr x h1,h2⟩
     ·exact .inr ⟨a,b,hdr _ h1,h2,h3⟩
    have eP:C8 ((n:Int)+1)=n+1:=S3.mpr (.inl rfl);have eN:C8 (-((n:Int)+1))=n+1:=S3.mpr (.inr rfl);have upi:Up (n:Int) 0 ls ↔ ((n:Int)+1∉ls /\ -((n:Int)+1)∉ls):=by
     constructor
     ·intro u;exact⟨λh=>by have:=(fR ls 0 (V5 _) u _ h).2;omega,λh=>by have:=(fR ls 0 (V5 _) u _ h).2;omega⟩
     ·rintro⟨h1,h2⟩;rcases kT (hu ls hls)with u |⟨a,l,rfl,hl,ha⟩
      ·exact u
      ·rcases S3.mp hl with rfl |rfl
       ·exact absurd (Xu _ (Xe.mpr rfl)) h1
       ·exact absurd (Xu _ (Xe.mpr rfl)) h2
    fail "g";refine cO (λσ H'=>∃X':List j5,H'[H.length]? = B3 (.dic (X'.map kvT) B2)/\X'.Nodup/\(∀x,x∈X' ↔ Lr n b7 dr x\/(x=ls/\Up (n:Int) 0 x))/\B7 [] H H'/\σ=[B3 (.tup (ks++[kd])),B3 (.tup (b7.map C2)),B3 (.int ((n:Int)+1)),B3 (.ref H.length),B3 (C2 ls),z5,z6]) ?_ ?_
    ·(refine WP.w_if ?_;fail "g")
     refine Zu9 ?_;fail "g";have no:¬ Up (n:Int) 0 ls->∀x,(x∈X ↔ Lr n b7 dr x\/(x=ls/\Up (n:Int) 0 x)):=λh x=>by
      rw[i4];exact⟨.inl,λk=>k.resolve_right λ⟨k1,k2⟩=>h (k1 ▸ k2)⟩
     refine⟨λy=>?_,λy=>?_⟩
     ·have y:(n:Int)+1∉ls:=by simpa using y
      fail "g";refine Zu9 ?_;fail "g";refine⟨λw=>?_,λw=>?_⟩
      ·have w : -((n:Int)+1)∉ls:=by simpa using w
       fail "g";refine nH (xs:=ls) i5 f8 ?_;fail "g";refine⟨rfl,_,M2 i5,W8 i3,λx=>?_,O1 i6 (Xd _),rfl⟩;rw[cT,i4];exact or_congr pQ ⟨λh=>⟨h,h ▸ upi.mpr ⟨y,w⟩⟩,λh=>h.1⟩
      ·have w : -((n:Int)+1)∈ls:=by simpa using w
       fail "g";exact⟨rfl,X,i5,i3,no λu=>(upi.mp u).2 w,i6,rfl⟩
     ·have y:(n:Int)+1∈ls:=by simpa using y
      fail "g";exact⟨rfl,X,i5,i3,no λu=>(upi.mp u).1 y,i6,rfl⟩
    ·rintro _ H2 ⟨X',g2,nd2,hX2,x2,rfl⟩;fail "g";refine Zto hu hn hls hdr (Xd _) (λT nd hT=>hB T nd λx hx=>(e x).mpr (hT x hx)) g2 nd2 hX2 x2 λX3 z5 z6 H3 g3 nd3 hX3 x3=>?_;fail "g";exact⟨dr++[ls],tr,X3,_,_,_,rfl,by rw[i2];simp,nd3,hX3,g3,x3,rfl⟩
  ·obtain⟨dr,tr,X,z4,z5,z6,i1,i2,i3,i4,i5,i6,rfl⟩:=zz;cases tr with
   |cons b tr=>cases i1
   |nil=>
    rw[Xq]at i2;subst i2;have e2:∀x,x∈X ↔ PX n (kS kd) b7 x:=λx=>(i4 x).trans (e x).symm;have bd:=hB X i3 λx hx=>(e2 x).mp hx;fail "g";refine Zns i5 f8 ?_;fail "g";exact q X _ _ i3 e2 last i6.len (i6.trans (B7.app _))
end
variable{σ:SD}{H:HD}{Q:D->HD->Prop}
theorem Zl4{m:Int}:∀(ls:List Int)(last:Int),0<=last->Up m last ls->ls.Pairwise λa b=>C8 a<C8 b
 |[],_,_,_=>.nil
 |l::r,last,h0,u=>by
  obtain⟨u1,u2,u3⟩:=u;have h1:0<=C8 l:=by omega
  exact .cons (λx hx=>(fR r _ h1 u3 x hx).1) (Zl4 r _ h1 u3)
theorem Zlu:∀(x y:List Int),x.Pairwise (λa b=>C8 a<C8 b)->y.Pairwise (λa b=>C8 a<C8 b)->(∀z∈y,z∈x)->y.Sublist x
 |[],y,_,_,h=>by
  cases y with
  |nil=>exact .slnil
  |cons b y=>exact absurd (h b g8) g8
 |a::x,[],_,_,_=>List.nil_sublist _
 |a::x,b::y,px,py,h=>by
  obtain⟨px1,px2⟩:=dX.mp px;obtain⟨py1,py2⟩:=dX.mp py;rcases Xn.mp (h b g8)with e |hb
  ·subst e;refine .cons₂ _ (Zlu x y px2 py2 λz hz=>?_);rcases Xn.mp (h z (by simp[hz]))with e |k
   ·subst e;have:=py1 _ hz;omega
   ·exact k
  ·refine .cons _ (Zlu x (b::y) px2 py λz hz=>?_);rcases Xn.mp (h z hz)with e |k
   ·subst e;have b1:=px1 _ hb;rcases Xn.mp hz with e |k
    ·subst e;omega
    ·have:=py1 _ k;omega
   ·exact k
theorem Zvn(a:List j5):(M1 a).Pairwise λa b=>HT.lexLt b a=B2:=by
 have:=wD (le:=λa b=> !HT.lexLt b a) (λa b c h1 h2=>by simp at h1 h2 ⊢;exact sU h1 h2) (λa b=>by
  cases e:HT.lexLt b a with
  |false=>simp
  |true=>simp[sZ e]) a
 exact this.imp λh=>by simpa using h
theorem Znf{a b:List (List Int)}(p:a.Perm b):M1 a=M1 b:=Zmw (Zvn a) ((iN a).trans p)
open Classical in
theorem Zv6{X:List (List Int)}:∀(k:Nat)(x:List Int),x.length<=k->x∈X->∃y∈X,y.Sublist x/\K0 X y=B1
 | 0,x,hk,hx=>⟨x,hx,Wgq.refl _,by unfold K0;exact f6 λy _⟨_,h⟩=>by omega⟩
 |k+1,x,hk,hx=>by
  by_cases e:K0 X x=B1
  ·exact⟨x,hx,Wgq.refl _,e⟩
  ·unfold K0 at e;rw[decide_eq_true_eq]at e;have e:∃y∈X,y.Sublist x/\y.length<x.length:=by
    refine Um λn=>e λy hy z=>n ⟨y,hy,z⟩
   obtain⟨y,hy,h1,h2⟩:=e;obtain⟨z,hz,s,m⟩:=Zv6 k y f8 hy;exact⟨z,hz,s.trans h1,m⟩
theorem Zuz{xss:List (List Int)}{p:Nat}(g:H[p]? = B3 (.lst (xss.map C2)))(hl:xss.length<=1000000)(nd:xss.Nodup)(h8:∀x∈xss,x.length<=1000000)(q:Q (.ref H.length) (H++[.lst ((X8 xss).map C2)])):wE (tP [.ref p] H) Q:=by
 refine⟨_,_,?_,q⟩;unfold tP;simp only[P6,g,Zev,Zb];rw[d7 ⟨by simpa using hl,nd,h8⟩];rfl
theorem Zyk{p r:Nat}{ds:List D}{xs:List G3}{h:Nat}(f:C7 ds xs h)(hh:h<30)(g1:H[p]? = B3 (.lst ds))(g2:H[r]? = B3 (.lst []))(q:Q (.bl ds.isEmpty) H):wE (eqD (.ref p) (.ref r) H) Q:=by
 refine⟨_,_,Zml (f.dat hh g1) ((C7.nil (h:=0)).dat f8 g2),?_⟩;have e:Ub (.list xs) (.list [])=ds.isEmpty:=by
  have l:=f.len;cases ds with
  |nil=>cases xs with
   |nil=>rfl
   |cons a b=>simp at l
  |cons d r=>cases xs with
   |nil=>simp at l
   |cons a b=>simp[Ub,Ut]
 rw[e];exact q
nonrec def gS(x y:List Int):Bool:=y.all λz=>decide (z∈x)
theorem Ycy(x y:List Int):((y.filter λz=> !decide (z∈x)).map D.int).isEmpty=gS x y:=by
 unfold gS
 induction y with
 |nil=>rfl
 |cons a y ih=>
  rw[Wfl,List.all_cons];by_cases h:a∈x
  ·simpa [h]using ih
  ·simp[h]
theorem Zow{x:List Int}{L:List (List Int)}{p:Nat}(g:H[p]? = B3 (.lst (L.map C2)))(h8:∀y∈L,y.length<=8)(q:∀H',B7 [] H H'->Q (.bl (L.any (gS x))) H'):wE (Zcq [C2 x,.ref p] H) Q:=by
 refine P7 rfl ?_;show wS (uW [B3 (C2 x),B3 (.ref p),B0] H) _;unfold uW;fail "g";refine T2 (λd t σ H'=>∃(dr tr:List j5)(z2:Option D),t=tr.map C2/\L=dr++tr/\dr.any (gS x)=B2/\B7 [] H H'/\σ=[B3 (C2 x),B3 (.ref p),z2]) (λ_ _ _ _ zz=>by obtain⟨dr,tr,z2,i1,i2,i3,i4,i5⟩:=zz;exact A0 (i4.old _ _ g8 g)) (λd y t σ H1 zz=>?_) (λd σ H1 zz=>?_) _ [] _ _ ⟨[],L,_,rfl,rfl,rfl,B7.refl,rfl⟩
 ·obtain⟨dr,tr,z2,i1,i2,i3,i4,rfl⟩:=zz;cases tr with
  |nil=>cases i1
  |cons y tr=>
   obtain⟨rfl,rfl⟩:=P9.inj i1;have hy:=h8 y (by rw[i2];simp);fail "i";refine⟨y.map .int,[],rfl,?_⟩;refine oB (λd=> !decide (jX d∈x)) (λH'=>H'=H1) (λ_ _=>Q6) _ (λd hd H2 j=>?_) _ rfl λH2 j=>?_
   ·subst j;obtain⟨z,hz,rfl⟩:=Xr.mp hd;show wT (E8 _ [B3 (.int z),B3 (C2 x)] H2) _;fail "g";refine Zu9 ?_;exact⟨_,rfl,rfl,rfl⟩
   ·subst j;rw[Yc3 y λz=> !decide (z∈x)];have lf:=lH (λz=> !decide (z∈x)) y;refine⟨by simp only[Xj];omega,?_⟩;fail "g";refine Zyk (uF _) f8 (appL last) last ?_;rw[Ycy];fail "g";refine⟨λz=>?_,λz=>?_⟩
    ·fail "g";have e:L.any (gS x)=B1:=by rw[i2,Wft,oN,z];simp
     rw[<- e];exact q _ (i4.trans ((B7.app _).trans (B7.app _)))
    ·fail "g";exact⟨dr++[y],tr,_,rfl,by rw[i2];simp,by rw[Wft,i3,oN,z];rfl,i4.trans ((B7.app _).trans (B7.app _)),rfl⟩
 ·obtain⟨dr,tr,z2,i1,i2,i3,i4,rfl⟩:=zz;cases tr with
  |cons b tr=>cases i1
  |nil=>
   rw[Xq]at i2;subst i2;fail "g";rw[<- i3];exact q _ i4
theorem Ztg{X Z dr tr:List (List Int)}{x:List Int}{m:Nat}(pz:Z.Perm X)(nd:X.Nodup)(hu:∀x∈X,Up (m:Int) 0 x)(sz:Z.Pairwise λa b=>a.length<=b.length)(e:Z=dr++x::tr):(dr.filter (K0 X)).any (gS x) = !K0 X x:=by
 classical
 have zX:∀y,y∈Z ↔ y∈X:=λy=>pz.mem_iff;have hx:x∈X:=(zX x).mp (by rw[e];simp);have sub:∀y∈X,(gS x y=B1 ↔ y.Sublist x):=λy hy=>by
  unfold gS;rw[vU];exact⟨λh=>Zlu x y (Zl4 x 0 (V5 _) (hu x hx)) (Zl4 y 0 (V5 _) (hu y hy)) λz hz=>by simpa using h z hz,λs z hz=>f6 (s.subset hz)⟩
 have ndz:Z.Nodup:=pz.nodup_iff.mpr nd;rw[e]at ndz sz;rw[oQ,Wez,lF];constructor
 ·rintro⟨y,hy,h⟩;obtain⟨hd,hm⟩:=L8.mp hy;have hyX:y∈X:=(zX y).mp (by rw[e];simp[hd]);have s:=(sub y hyX).mp h;rw[<- Wfk];intro k;unfold K0 at k;rw[decide_eq_true_eq]at k;have l:¬ y.length<x.length:=λl=>k y hyX ⟨s,l⟩;have:=s.eq_of_length_le f8;subst this;exact(iS.mp ndz).2.2 y hd y g8 rfl
 ·intro k;have e2:∃y∈X,y.Sublist x/\y.length<x.length:=by
   refine Um λn=>?_;unfold K0 at k;rw[decide_eq_false_iff_not]at k;exact k λy hy z=>n ⟨y,hy,z⟩
  obtain⟨y,hy,s,l⟩:=e2;obtain⟨z,hz,s2,m⟩:=Zv6 y.length y (Xd _) hy;have lz:=s2.length_le;have hzZ:=(zX z).mpr hz;rw[e]at hzZ;refine⟨z,L8.mpr ⟨?_,m⟩,(sub z hz).mpr (s2.trans s)⟩;rcases Xf.mp hzZ with h |h
  ·exact h
  ·rcases Xn.mp h with h |h
   ·subst h;omega
   ·have:=(dX.mp (L9.mp sz).2.1).1 z h;omega
theorem Zze{X:List (List Int)}{p m:Nat}(g:H[p]? = B3 (.lst ((M1 X).map C2)))(nd:X.Nodup)(hu:∀x∈X,Up (m:Int) 0 x)(hm:m<=8)(hl:X.length<=1000)(q:∀p H',H'[p]? = B3 (.lst ((M1 (X.filter (K0 X))).map C2))->B7 [] H H'->Q (.ref p) H'):wE (Zfa [.ref p] H) Q:=by
 have pz:(X8 (M1 X)).Perm X:=(Zry _).trans (iN _);have sz:=Ztl (M1 X);have lZ:=pz.length_eq;refine P7 rfl ?_;show wS (uN [B3 (.ref p),B0,B0] H) _;unfold uN;fail "g";refine Zuz (appL g) (by rw[(iN X).length_eq];omega) ((iN X).nodup_iff.mpr nd) (λx hx=>by have:=sX x 0 (hu x ((iN X).mem_iff.mp hx));omega) ?_;fail "g";generalize X8 (M1 X)=Z at *;refine T2 (λd t σ H'=>∃(dr tr:List j5)(z2:Option D),t=tr.map C2/\Z=dr++tr/\H'[H.length]? = B3 (.lst ((dr.filter (K0 X)).map C2))/\H'[(H++[DO.lst []]).length]? = B3 (.lst (Z.map C2))/\B7 [] H H'/\σ=[B3 (.ref p),B3 (.ref H.length),z2]) (λ_ _ _ _ zz=>by obtain⟨dr,tr,z2,i1,i2,i3,i4,i5⟩:=zz;exact A0 i4) (λd y t σ H1 zz=>?_) (λd σ H1 zz=>?_) _ [] _ _ ⟨[],Z,_,rfl,rfl,appL last,last,(B7.app _).trans (B7.app _),rfl⟩
 ·obtain⟨dr,tr,z2,i1,i2,i3,i4,i5,rfl⟩:=zz;cases tr with
  |nil=>cases i1
  |cons x tr=>
   obtain⟨rfl,rfl⟩:=P9.inj i1;have zX:∀y,y∈Z->Up (m:Int) 0 y:=λy h=>hu y (pz.mem_iff.mp h);have ld:(dr.filter (K0 X)).length<=1000:=by
    have:=lH (K0 X) dr;rw[i2]at lZ;simp at lZ;omega
   fail "i";refine Zow i3 (λy hy=>?_) λH2 x2=>?_
   ·have:=sX y 0 (zX y (by rw[i2];simp[(L8.mp hy).1]));omega
   rw[Ztg pz nd hu sz i2];fail "g";refine⟨λz=>?_,λz=>?_⟩
   ·have z:K0 X x=B1:=by simpa using z
    fail "g";have g3:=x2.old _ _ g8 i3;refine⟨by simp only[cM,g3],?_⟩;fail "g";refine fN g3 (by simp only[Xj];omega) ?_;fail "g";refine⟨dr++[x],tr,_,rfl,by rw[i2];simp,?_,?_,O1 (i5.trans x2) (Xd _),rfl⟩
    ·rw[M2 (x2.old _ _ g8 i3),dW,U7,Wfl,d7 z];rfl
    ·rw[Z6 g8];exact x2.old _ _ g8 i4
   ·have z:K0 X x=B2:=by simpa using z
    fail "g";refine⟨dr++[x],tr,_,rfl,by rw[i2];simp,?_,x2.old _ _ g8 i4,i5.trans x2,rfl⟩;rw[x2.old _ _ g8 i3,dW,Wfl,d9 (by rw[z];simp)];simp
 ·obtain⟨dr,tr,z2,i1,i2,i3,i4,i5,rfl⟩:=zz;cases tr with
  |cons b tr=>cases i1
  |nil=>
   rw[Xq]at i2;subst i2;have lf:=lH (K0 X) Z;fail "g";refine Znh i3 f8 ?_;fail "g";refine q _ _ ?_ (i5.trans (B7.app _));rw[Znf (pz.filter (K0 X))];exact last
variable{σ:SD}{H:HD}{Q:D->HD->Prop}
open Classical in
nonrec def XL(n:Nat)(b:Bool)(b7:List j5):List j5:=((mX b7++b7.map (J8 n)).filter λx=>decide (PX n b b7 x)).foldl J9 []
theorem Znw:∀(l a:List j5),a.Nodup->(l.foldl J9 a).Nodup
 |[],_,h=>h
 |x::l,a,h=>Znw l _ (W8 h)
theorem Zlh:∀(l a:List j5)(x:List Int),x∈l.foldl J9 a ↔ x∈a\/x∈l
 |[],a,x=>by simp
 |y::l,a,x=>by rw[Weg,Zlh l,cT,Xn,or_assoc]
theorem Zyr(n:Nat)(b:Bool)(b7:List j5):(XL n b b7).Nodup:=Znw _ _ .nil
open Classical in
theorem tJ{n:Nat}{b:Bool}{b7:List (List Int)}(x:List Int):x∈XL n b b7 ↔ PX n b b7 x:=by
 unfold XL;rw[Zlh,L8,decide_eq_true_eq];refine⟨λh=>(h.resolve_left g8).2,λh=>.inr ⟨?_,h⟩⟩;have h2:=h;unfold PX at h2;split at h2
 ·exact gC _ (Zka h2)
 ·obtain⟨ls,hl,rfl⟩:=h2;exact Xu _ (Xr.mpr ⟨ls,hl,rfl⟩)
nonrec def mZ(n:Nat)(b:Bool)(b7:List j5):List j5:=M1 ((XL n b b7).filter (K0 (XL n b b7)))
theorem Zlx{n:Nat}{b:Bool}{b7 X:List (List Int)}(nd:X.Nodup)(hX:∀x,x∈X ↔ PX n b b7 x):X.Perm (XL n b b7):=(List.perm_ext_iff_of_nodup nd (Zyr n b b7)).mpr λx=>(hX x).trans (tJ x).symm
theorem Zu1{X Y:List (List Int)}(p:X.Perm Y):K0 X=K0 Y:=by
 funext x;unfold K0;rw[oQ,decide_eq_true_eq,decide_eq_true_eq];exact⟨λh y hy=>h y (p.mem_iff.mpr hy),λh y hy=>h y (p.mem_iff.mp hy)⟩
theorem Zwv{n:Nat}{b:Bool}{b7 X:List (List Int)}(nd:X.Nodup)(hX:∀x,x∈X ↔ PX n b b7 x):M1 (X.filter (K0 X))=mZ n b b7:=by
 have p:=Zlx nd hX;unfold mZ;rw[Zu1 p];exact Znf (p.filter _)
structure Gp(ks:List D)(b7:List j5):Prop where
 cl:Cl ks b7
 fw:ks.length<=7\/b7.length<=20
section
variable{ks:List D}{kd:D}{b7:List (List Int)}{lim:Nat}
theorem Gp.up(g:Gp (ks++[kd]) b7):∀ls∈b7,Up ((ks.length+1:Nat):Int) 0 ls:=λls h=>by have:=g.cl.hu ls h;simpa using this
theorem Gp.few(g:Gp (ks++[kd]) b7){T:List (List Int)}(nd:T.Nodup)(hT:∀x∈T,PX ks.length (kS kd) b7 x):T.length<=729 :=
 Yc9 (kd:=kd) g.up (by rcases g.fw with h |h;{ left;simp at h;omega };{ exact .inr h }) nd hT
theorem Gp.step(g:Gp (ks++[kd]) b7):Gp ks (mZ ks.length (kS kd) b7):=by
 have h8:=g.cl.h8;simp at h8;have lX:=g.few (Zyr _ _ _) λx hx=>(tJ x).mp hx;have pm:=iN ((XL ks.length (kS kd) b7).filter (K0 (XL ks.length (kS kd) b7)));have lf:=lH (K0 (XL ks.length (kS kd) b7)) (XL ks.length (kS kd) b7);have ll:=pm.length_eq;refine⟨⟨λd hd=>g.cl.hk d (by simp[hd]),λls h=>?_,?_,by omega⟩,.inl f8⟩
 ·exact Zuw (kd:=kd) g.up ((tJ ls).mp (L8.mp (pm.mem_iff.mp h)).1)
 ·unfold mZ;omega
nonrec def rk(ks:List D)(b7:List j5):Nat->List j5
 | 0=>b7
 |i+1=>mZ (ks.length-(i+1)) (kS (ks.getD (ks.length-(i+1)) .non)) (rk ks b7 i)
nonrec def xk(ks:List D)(b7:List j5)(i:Nat):List j5:=XL (ks.length-(i+1)) (kS (ks.getD (ks.length-(i+1)) .non)) (rk ks b7 i)
nonrec def sk(ks:List D)(b7:List j5):Nat->Nat
 | 0=>0
 |i+1=>max (sk ks b7 i) (xk ks b7 i).length
nonrec def cK(ks:List D)(b7:List j5)(i:Nat):D:=G8 (ks.take (ks.length-i)) (rk ks b7 i)
theorem Zo0{ks:List D}{m:Nat}(h:m<ks.length):ks.take (m+1)=ks.take m++[ks[m]]:=by
 rw[Wfd,bS h];rfl
theorem sG(g:Gp ks b7){i r:Nat}(hr:ks.length-i=r+1):∃kd,ks.take (ks.length-i)=ks.take r++[kd]/\(ks.take r).length=r/\ks.length-(i+1)=r/\rk ks b7 (i+1)=mZ r (kS kd) (rk ks b7 i)/\xk ks b7 i=XL r (kS kd) (rk ks b7 i):=by
 have hl:r<ks.length:=by omega
 have e:ks.length-(i+1)=r:=by omega
 refine⟨ks[r],by rw[hr,Zo0 hl],by simp;omega,e,?_,?_⟩
 ·rw[rk,e,Wco,bS hl];rfl
 ·rw[xk,e,Wco,bS hl];rfl
theorem hU(g:Gp ks b7):∀i,i<=ks.length->Gp (ks.take (ks.length-i)) (rk ks b7 i)
 | 0,_=>by rw[vK,vS];exact g
 |i+1,h=>by
  obtain⟨kd,h1,h2,h3,h4,h5⟩:=sG g (i:=i) (r:=ks.length-(i+1)) f8;have ih:=hU g i f8;rw[h1]at ih;have:=ih.step;rw[h2]at this;rw[h4];exact this
theorem Zsi(g:Gp ks b7):∀i,i<=ks.length->sk ks b7 i<=729
 | 0,_=>by simp[sk]
 |i+1,h=>by
  obtain⟨kd,h1,h2,h3,h4,h5⟩:=sG g (i:=i) (r:=ks.length-(i+1)) f8;have ih:=hU g i f8;rw[h1]at ih;have:=ih.few (Zyr _ _ _) λx hx=>(tJ x).mp hx;rw[h2]at this;have s:=Zsi g i f8;rw[sk,h5];omega
theorem qO{i j:Nat}(h:i<=j):sk ks b7 i<=sk ks b7 j:=by
 induction j with
 |zero=>
  have:i=0:=by omega
  subst this;exact Xd _
 |succ j ih=>
  by_cases e:i=j+1
  ·subst e;exact Xd _
  ·have:=ih f8;rw[sk];omega
theorem Zp1{w:Nat}(hw:w<=ks.length):∀j,w+j<=ks.length->rk (ks.take (ks.length-w)) (rk ks b7 w) j=rk ks b7 (w+j)
 | 0,_=>rfl
 |j+1,h=>by
  have e:(ks.take (ks.length-w)).length-(j+1)=ks.length-(w+j+1):=by simp;omega
  have e2:(ks.take (ks.length-w)).getD (ks.length-(w+j+1)) .non=ks.getD (ks.length-(w+j+1)) .non:=by
   rw[Wco,Wco,Wdm f8]
  rw[rk,e,e2,Zp1 hw j f8];rfl
theorem Zm3(g:Gp ks b7){i:Nat}(h:i<ks.length)(hlim:lim<=100000)(hs:(xk ks b7 i).length<=lim)(q:∀H',B7 [] H H'->Q (cK ks b7 (i+1)) H'):wE (iO [cK ks b7 i,.int lim] H) Q:=by
 obtain⟨kd,h1,h2,h3,h4,h5⟩:=sG g (i:=i) (r:=ks.length-(i+1)) f8;have ga:=hU g i f8;unfold cK;rw[h1]at ga ⊢;refine Zt4 ga.cl hlim (λT nd hT=>?_) λX H2 nd hX x2=>?_
 ·rw[h5]at hs;rw[h2]at hT;exact N2 (tI T _ nd λx hx=>(tJ x).mpr (hT x hx)) hs
 ·rw[Zwv nd hX];have:=q H2 x2;unfold cK at this;rw[h4]at this;rw[h2];exact this
theorem Zjn(g:Gp ks b7){many:Nat}(hm:many<=ks.length)(hlim:lim<=100000)(hs:sk ks b7 many<=lim)(q:∀H',B7 [] H H'->Q (cK ks b7 many) H'):wE (dS [G8 ks b7,.int many,.int lim] H) Q:=by
 have h8:=g.cl.h8;have e0:G8 ks b7=cK ks b7 0:=by unfold cK;rw[vK,vS];rfl
 rw[e0];refine P7 rfl ?_;show wS (lB [B3 (cK ks b7 0),B3 (.int many),B3 (.int lim),B0,B0] H) _;unfold lB;fail "g";refine⟨_,rfl,⟨by omega,by omega⟩,?_⟩;rw[bO];refine T2 (λd t σ H'=>∃(i m:Nat)(z4:Option D),t=K6 (i:Int) m/\i+m=many/\B7 [] H H'/\σ=[B3 (cK ks b7 0),B3 (.int many),B3 (.int lim),B3 (cK ks b7 i),z4]) (λ_ _ _ _ _=>Q6) (λd x t σ H1 zz=>?_) (λd σ H1 zz=>?_) _ [] _ _ ⟨0,many,B0,rfl,by omega,B7.refl,rfl⟩
 ·obtain⟨i,m,z4,i1,i2,x1,rfl⟩:=zz;cases m with
  |zero=>cases i1
  |succ m=>
   rw[uO]at i1;obtain⟨rfl,rfl⟩:=P9.inj i1;fail "g";refine Zm3 g f8 hlim ?_ λH2 x2=>?_
   ·have:=qO (ks:=ks) (b7:=b7) (show i+1<=many by omega);rw[sk]at this;omega
   fail "g";exact⟨i+1,m,_,by simp,by omega,x1.trans x2,rfl⟩
 ·obtain⟨i,m,z4,i1,i2,x1,rfl⟩:=zz;cases m with
  |succ m=>rw[uO]at i1;cases i1
  |zero=>
   have:i=many:=by omega
   subst this;fail "g";exact q _ x1
end
variable{σ:SD}{H:HD}{Q:D->HD->Prop}
section
variable{ks:List D}{kd:D}{b7:List (List Int)}{lim:Nat}
theorem Zyz{d:D}(h:bK d):∃x,D0 d x 0:=by rcases h with rfl |rfl<;>exact⟨_,.str (Zov g9)⟩
theorem Zn2{ks:List D}(h:∀d∈ks,bK d):∃xs,C7 ks xs 0:=C7.of ks λd hd=>Zyz (h d hd)
theorem Zr1{a b:Nat}{o o':DO}(h:a≠b)(g:H[b]? = B3 o):(H.set a o')[b]? = B3 o:=(Z6 h).trans g
theorem Yc0(i:Nat):cK ks b7 i=.tup [.tup (ks.take (ks.length-i)),.tup ((rk ks b7 i).map C2)]:=rfl
theorem Zum(g:Gp ks b7)(q:∀p1 p2 H',H'[p1]? = B3 (.lst ((V4 (ks.length+1)).map (cK ks b7)))->H'[p2]? = B3 (.lst ((V4 (ks.length+1)).map λi=>.int (sk ks b7 i)))->B7 [] H H'->Q (.tup [.ref p1,.ref p2]) H'):wE (Zdb [G8 ks b7] H) Q:=by
 have h8:=g.cl.h8;have e0:G8 ks b7=cK ks b7 0:=by unfold cK;rw[vK,vS];rfl
 rw[e0];refine P7 rfl ?_;show wS (uU [B3 (cK ks b7 0),B0,B0,B0,B0,B0] H) _;unfold uU;fail "g";refine Zme (λm σ H'=>∃(i:Nat)(z3 z4 z5:Option D),i+m=ks.length/\H'[H.length]? = B3 (.lst ((V4 i).map (cK ks b7)++[cK ks b7 i]))/\H'[(H++[DO.lst [cK ks b7 0]]).length]? = B3 (.lst ((V4 i).map (λi=>.int (sk ks b7 i))++[.int (sk ks b7 i)]))/\B7 [] H H'/\σ=[B3 (cK ks b7 0),B3 (.ref H.length),B3 (.ref (H++[DO.lst [cK ks b7 0]]).length),z3,z4,z5]) (λm σ H1 zz=>?_) 20 ks.length _ _ f8 ⟨0,_,_,_,by omega,appL last,last,(B7.app _).trans (B7.app _),rfl⟩;obtain⟨i,z3,z4,z5,i1,g1,g2,x1,rfl⟩:=zz;have ga:=hU g i f8;obtain⟨kx,fk⟩:=Zn2 ga.cl.hk;fail "g";refine w_ixR g1 (nU _ _) ?_;fail "g";rw[Yc0 i];fail "g";refine Zxs fk f8 ?_;fail "g";refine⟨λz=>?_,λz=>?_⟩
 ·have hi:i<ks.length:=by
   refine Um λn=>?_;rw[show ks.length-i=0 by omega]at z;simp at z
  obtain⟨kd,h1,h2,h3,h4,h5⟩:=sG g (i:=i) (r:=ks.length-(i+1)) f8;refine⟨m-1,by omega,?_⟩;fail "g";refine w_ixR g1 (nU _ _) ?_;fail "g";rw[Yc0 i];fail "g";rw[h1]at ga ⊢;refine Zo5 ga.cl (λT nd hT=>N2 (ga.few nd hT) f8) λX pl H2 nd hX gl lp x2=>?_;have lX:X.length<=729:=ga.few nd λx hx=>(hX x).mp hx;have eX:(M1 X).length=(xk ks b7 i).length:=by
   rw[h2]at hX;rw[h5,(iN X).length_eq,(Zlx nd hX).length_eq]
  have g12:=x2.old _ _ g8 g1;have g22:=x2.old _ _ g8 g2;fail "g";refine⟨by simp only[cM,g22],?_⟩;fail "g";refine w_ixR g22 (nU _ _) ?_;fail "g";rw[Xj,eX];refine fN g22 h9 ?_;have n12:(H++[DO.lst [cK ks b7 0]]).length≠H.length:=by simp
  have npl:(H++[DO.lst [cK ks b7 0]]).length≠pl:=λe=>by
   have:=x1.len;have:=(Xg.mp g2).1;omega
  have npl1:H.length≠pl:=λe=>by
   have:=(Xg.mp g1).1;omega
  have gl2:=λo=>Zr1 (o':=o) npl gl;have g13:=λo=>Zr1 (o':=o) n12 g12;fail "g";refine⟨by simp only[cM,g13 _],?_⟩;fail "g";refine⟨.tup (O0 (ks.take (ks.length-(i+1))++[kd]) B0 (B3 (-1))),_,rfl,?_⟩;rw[Zg3,show (ks.take (ks.length-(i+1))++[kd]).take ((ks.take (ks.length-(i+1))++[kd]).length-1)=ks.take (ks.length-(i+1))by simp];fail "g";refine Zze (gl2 _) nd (λx hx=>Zuw (kd:=kd) ga.up ((hX x).mp hx)) h9 f8 λpq H3 gq x3=>?_;fail "g";refine fN (x3.old _ _ g8 (g13 _)) h9 ?_;fail "g";have es:M1 (X.filter (K0 X))=rk ks b7 (i+1):=by
   rw[Zwv nd hX,h4,h2]
  rw[es];refine⟨i+1,_,_,_,by omega,?_,?_,?_,rfl⟩
  ·rw[M2 (x3.old _ _ g8 (g13 _)),Wel,U7];rfl
  ·rw[Z6 (Uj n12),x3.old _ _ g8 (M2 g22),Wel,U7,sk];simp;split<;>omega
  ·exact O1 ((O1 (x1.trans x2) g8).trans x3) (Xd _)
 ·have hi:i=ks.length:=by
   refine Um λn=>?_;have:(ks.take (ks.length-i)).length=ks.length-i:=by simp
   cases e:ks.take (ks.length-i)with
   |nil=>rw[e]at this;simp at this;omega
   |cons a b=>rw[e]at z;simp at z
  subst hi;fail "g";refine q _ _ _ ?_ ?_ x1
  ·rw[g1,Wel,U7];rfl
  ·rw[g2,Wel,U7];rfl
end
variable{σ:SD}{H:HD}{Q:D->HD->Prop}{R:Int->HD->Prop}{P:SD->HD->Prop}
def wU(n:Option (FD×SD×HD))(y:Option (Int×HD))(P:SD->HD->Prop)(R:Int->HD->Prop):Prop:=wS n (λf σ H=>f=.nx/\P σ H)\/wX n y R
theorem Ydb{f g:SF}{b:E7}(h:wS (f σ H) (gW (λσ1 H1=>wU (g σ1 H1) (b σ1 H1) P R) λ_ _ _=>False)):wU (B9 f g σ H) (Y0 f b σ H) P R:=by
 obtain⟨x,σ1,H1,e,k⟩:=h;cases x with
 |nx=>
  rcases k with k |k
  ·exact .inl (w_seq ⟨_,_,_,e,k⟩)
  ·exact .inr (kN ⟨_,_,_,e,k⟩)
 |bk=>exact k.elim
 |ct=>exact k.elim
 |rt d=>exact k.elim
theorem Zyi{f:SF}{a:E7}(h:wU (f σ H) (a σ H) P R):wU (B9 f C4 σ H) (a σ H) P R:=by
 rcases h with ⟨x,σ1,H1,e,rfl,p⟩ |h
 ·exact .inl (w_seq ⟨_,_,_,e,w_snil ⟨rfl,p⟩⟩)
 ·exact .inr (Znq h)
theorem Ycc{y:Option (Int×HD)}(p:P σ H):wU (C4 σ H) y P R:=.inl (w_snil ⟨rfl,p⟩)
theorem qE{t:TF}{f g:SF}{a b:E7}(h:wT (t σ H) λc H1=>br c (wU (f σ H1) (a σ H1) P R) (wU (g σ H1) (b σ H1) P R)):wU (F4 t f g σ H) (dL t a b σ H) P R:=by
 obtain⟨c,H1,e,q1,q2⟩:=h;cases c with
 |true=>
  rcases q1 rfl with k |k
  ·left;rw[Zu5 e];exact k
  ·exact .inr (Zvt ⟨_,_,e,λ_=>k,λz=>by cases z⟩)
 |false=>
  rcases q2 rfl with k |k
  ·left;rw[Zu5 e];exact k
  ·exact .inr (Zvt ⟨_,_,e,(λz=>by cases z),λ_=>k⟩)
theorem Zrf{n:Nat}{F:FF}{Y:T4}{fa:AF}(h:wA (fa σ H) λds H1=>ds.length=n/\(wE (F ds H1) (λ_ H2=>P σ H2)\/cB (F ds H1) (Y ds H1) R)):wU (B9 (N7 (D8 n F fa)) C4 σ H) (Q9 n Y fa σ H) P R:=by
 obtain⟨ds,H1,e,hl,k⟩:=h;rcases k with k |k
 ·exact .inl (w_seq (w_expr (w_call ⟨_,_,e,hl,by obtain⟨d,H2,e2,p⟩:=k;exact⟨d,H2,e2,w_snil ⟨rfl,p⟩⟩⟩)))
 ·exact .inr (Zjd ⟨_,_,e,hl,k⟩)
theorem sM{it:ItF}{g:GF}{b:SF}{yb:E7}(h:wI (it σ H) λxs own H1=>wU (N6 own g b xs σ H1) (W6 own g b yb xs σ H1) P R):wU (K4 it g b σ H) (dQ it g b yb σ H) P R:=by
 obtain⟨xs,own,H1,e,q⟩:=h;rcases q with q |q
 ·exact .inl (w_for ⟨_,_,_,e,q⟩)
 ·exact .inr (Yb7 ⟨_,_,_,e,q⟩)
theorem nC{own:O4}{g:GF}{b:SF}{yb:E7}(B6:List D->List D->SD->HD->Prop)(ho:∀d t σ H,B6 d t σ H->O8 own H)
  (st:∀d x t σ H,B6 d (x::t) σ H->wG (g x σ H) λσ1 H1=>wU (b σ1 H1) (yb σ1 H1) (λσ2 H2=>B6 (d++[x]) t σ2 H2) R)
  (q:∀d σ H,B6 d [] σ H->P σ H):∀(t d:List D)(σ:SD)(H:HD),B6 d t σ H->wU (N6 own g b t σ H) (W6 own g b yb t σ H) P R
 |[],d,σ,H,i=>.inl (Zsn (ho _ _ _ _ i) ⟨rfl,q d σ H i⟩)
 |x::t,d,σ,H,i=>by
  obtain⟨σ1,H1,e1,k⟩:=st d x t σ H i;rcases k with ⟨f,σ2,H2,e2,rfl,i2⟩ |k
  ·rcases nC B6 ho st q t (d++[x]) σ2 H2 i2 with z |z
   ·exact .inl (Zl5 (ho _ _ _ _ i) ⟨_,_,e1,_,_,_,e2,z⟩)
   ·exact .inr (Zy8 (ho _ _ _ _ i) ⟨_,_,e1,_,_,_,e2,z⟩)
  ·exact .inr (Zyh (ho _ _ _ _ i) ⟨_,_,e1,k⟩)
theorem Zyb{f g:SF}{a:E7}(h:wU (f σ H) (a σ H) P R)(no:∀σ H,¬ P σ H):wX (B9 f g σ H) (a σ H) R:=by
 rcases h with ⟨x,σ1,H1,e,_,p⟩ |h
 ·exact(no _ _ p).elim
 ·exact Znq h
theorem nP(a b:Str):(a++b).length=a.length+b.length:=by
 show (a.cps++b.cps).size=_;rw[Wgj];rfl
theorem pU{n:Int}{c0 c1:Option D}{c d:Str}(hn:n.natAbs<1000000)(h1:c.length<=1000)(h2:d.length<=1000)(q:∀x,Q (.str x) H):wE (eJ (jC c (jI k6 (jC d gY))) [c0,c1,B3 (.int n)] H) Q:=by
 have ln:(toString n:Str).length<=13:=PySem.PyData.shown_int_le (i:=n) f8;have sz:sizeLine=16777216:=Vx;have z:eQ.length=0:=rfl;refine⟨_,_,?_,q (eQ++c++(toString n:Str)++d)⟩;unfold eJ;have e1:jC c (jI k6 (jC d gY)) [c0,c1,B3 (.int n)] H eQ=jI k6 (jC d gY) [c0,c1,B3 (.int n)] H (eQ++c):=d7 (by rw[nP];omega);have e2:jI k6 (jC d gY) [c0,c1,B3 (.int n)] H (eQ++c)=jC d gY [c0,c1,B3 (.int n)] H (eQ++c++(toString n:Str)):=d7 ⟨hn,by rw[nP,nP];omega⟩;have e3:jC d gY [c0,c1,B3 (.int n)] H (eQ++c++(toString n:Str))=B3 (eQ++c++(toString n:Str)++d,H):=d7 (by rw[nP,nP,nP];omega);rw[e1,e2,e3];rfl
theorem Zm9{xss:List (List Int)}{xs:List Int}{p lim:Nat}(g:H[p]? = B3 (.dic (xss.map kvT) B2))(h1:xss.length<=lim)(h2:lim<=1000)(q:(J9 xss xs).length<=lim->Q .non (H.set p (.dic ((J9 xss xs).map kvT) B2)))(r:R 0 (H.set p (.dic ((J9 xss xs).map kvT) B2))):wE (L6 [.ref p,C2 xs,.int lim] H) Q\/cB (L6 [.ref p,C2 xs,.int lim] H) (oH [.ref p,C2 xs,.int lim] H) R:=by
 by_cases hl:(J9 xss xs).length<=lim
 ·exact .inl (tH g hl f8 (q hl))
 ·right;refine sT rfl ?_;show wX (kZ [B3 (.ref p),B3 (C2 xs),B3 (.int lim)] H) (uY [B3 (.ref p),B3 (C2 xs),B3 (.int lim)] H) R;unfold kZ uY;refine kN ?_;fail "g";refine nH g f8 ?_;fail "g";refine Znq (Zvt ?_);fail "g";refine Zwb (M2 g) ?_;fail "g";refine⟨λz=>?_,λz=>?_⟩
  ·exact Zuu (pU f8 g9 g9 λ_=>r)
  ·simp at z;omega
variable{σ:SD}{H:HD}{Q:D->HD->Prop}
theorem qF{f g:SF}{a b:E7}{P:SD->HD->Prop}{R:Int->HD->Prop}(h:wU (f σ H) (a σ H) P R)(k:∀σ1 H1,P σ1 H1->wX (g σ1 H1) (b σ1 H1) R):wX (B9 f g σ H) (eT f a b σ H) R:=by
 rcases h with ⟨x,σ1,H1,e,rfl,p⟩ |h
 ·exact Ybb ⟨_,_,_,e,k σ1 H1 p⟩
 ·exact Ycm h
section
variable{b7:List (List Int)}{n lim:Nat}
theorem Zr9(hlim:lim<=1000)(no:∀X:List j5,X.Nodup->(∀x,x∈X ↔∃ls∈b7,x=J8 n ls)->lim<X.length) :
  cB (Zb6 [.tup (b7.map C2),.int ((n:Int)+1),.int lim] H) (Zc7 [.tup (b7.map C2),.int ((n:Int)+1),.int lim] H) λ_ H'=>B7 [] H H':=by
 refine sT rfl ?_;show wX (lE [B3 (.tup (b7.map C2)),B3 (.int ((n:Int)+1)),B3 (.int lim),B0,B0,B0] H) (uX [B3 (.tup (b7.map C2)),B3 (.int ((n:Int)+1)),B3 (.int lim),B0,B0,B0] H) _;unfold lE uX;refine kN ?_;fail "g";refine Zyb (P:=λ_ _=>∃X:List j5,X.Nodup/\(∀x,x∈X ↔∃ls∈b7,x=J8 n ls)/\X.length<=lim) (sM ?_) λ_ _⟨X,h1,h2,h3⟩=>by have:=no X h1 h2;omega
 fail "g";refine nC (λd t σ H'=>∃(dr tr X:List j5)(z4 z5:Option D),t=tr.map C2/\b7=dr++tr/\X.Nodup/\(∀x,x∈X ↔∃ls∈dr,x=J8 n ls)/\X.length<=lim/\H'[H.length]? = B3 (.dic (X.map kvT) B2)/\B7 [] H H'/\σ=[B3 (.tup (b7.map C2)),B3 (.int ((n:Int)+1)),B3 (.int lim),B3 (.ref H.length),z4,z5]) (λ_ _ _ _ _=>Q6) (λd x t σ H1 zz=>?_) (λd σ H1 zz=>?_) _ [] _ _ ⟨[],b7,[],_,_,rfl,rfl,.nil,by simp,by simp,last,B7.app _,rfl⟩
 ·obtain⟨dr,tr,X,z4,z5,i1,i2,i3,i4,il,i5,i6,rfl⟩:=zz;cases tr with
  |nil=>cases i1
  |cons ls tr=>
   obtain⟨rfl,rfl⟩:=P9.inj i1;have nx:∀x,x∈J9 X (J8 n ls) ↔∃y∈dr++[ls],x=J8 n y:=λx=>by
    rw[cT,i4];constructor
    ·rintro(⟨y,hy,rfl⟩ |rfl)
     ·exact⟨y,by simp[hy],rfl⟩
     ·exact⟨ls,by simp,rfl⟩
    ·rintro⟨y,hy,rfl⟩;rcases Xf.mp hy with h |h
     ·exact .inl ⟨y,h,rfl⟩
     ·rw[Xe]at h;subst h;exact .inr rfl
   have es:J8 n ls=if Q8 n ls=B1 then ls.take (ls.length-1)else ls:=by unfold J8 Q8;simp
   fail "g";refine Ydb ?_;fail "g";refine tN ?_;fail "g";refine Znx ?_;fail "g";refine Zrf ?_;fail "g";refine⟨λz=>?_,λz=>?_⟩
   ·rw[d7 z]at es;fail "g";refine Zmq ?_;fail "g";rw[<- es];exact⟨rfl,Zm9 i5 il hlim (λl=>⟨dr++[ls],tr,_,_,_,rfl,by rw[i2];simp,W8 i3,nx,l,M2 i5,O1 i6 (Xd _),rfl⟩) (O1 i6 (Xd _))⟩
   ·rw[d9 (by rw[z];simp)]at es;fail "g";have e2:C2 ls=C2 (J8 n ls):=by rw[es]
    refine⟨rfl,?_⟩;have u:=λ(Pp:HD->Prop)h=>Zm9 (R:=λ_ H'=>B7 [] H H') (Q:=λ_ H2=>Pp H2) (xs:=J8 n ls) i5 il hlim h (O1 i6 (Xd _));rw[<- e2]at u;exact u _ λl=>⟨dr++[ls],tr,_,_,_,rfl,by rw[i2];simp,W8 i3,nx,l,M2 i5,O1 i6 (Xd _),rfl⟩
 ·obtain⟨dr,tr,X,z4,z5,i1,i2,i3,i4,il,i5,i6,rfl⟩:=zz;cases tr with
  |cons b tr=>cases i1
  |nil=>
   rw[Xq]at i2;subst i2;exact⟨X,i3,i4,il⟩
theorem qD{A1 B X:List (List Int)}{a:List Int}{p pa pb:Nat}{A:List (List Int)}{z4 z7:Option D}{P:SD->HD->Prop}{H0:HD}(hn:n<=8)(hlim:lim<=1000)(ha:K08.R n a)(hBr:∀b∈B,K08.R n b)(hp:H0.length<=p)(hpb:H0.length<=pb)(hX0:X.length<=lim)
  (gp:H[p]? = B3 (.dic (X.map kvT) B2))(gb:H[pb]? = B3 (.dic (B.map kvT) B1))(ga:H[pa]? = B3 (.dic (A.map kvT) B1))(nd:X.Nodup)(hX:∀x,x∈X ↔ Pr n b7 A1 B x)(e0:B7 [] H0 H)
  (q:∀(X':List j5)z4 z7 H',H'[p]? = B3 (.dic (X'.map kvT) B2)->H'[pb]? = B3 (.dic (B.map kvT) B1)->H'[pa]? = B3 (.dic (A.map kvT) B1)->X'.Nodup->X'.length<=lim->(∀x,x∈X' ↔ Pr n b7 (A1++[a]) B x)->B7 [] H0 H' ->
   P [B3 (.tup (b7.map C2)),B3 (.int ((n:Int)+1)),B3 (.int lim),B3 (.ref p),z4,B3 (.ref pb),B3 (C2 a),z7] H') :
  wU (N6 [(pb,.dic (B.map kvT) B1)] (F6 7) xQ (B.map C2) [B3 (.tup (b7.map C2)),B3 (.int ((n:Int)+1)),B3 (.int lim),B3 (.ref p),z4,B3 (.ref pb),B3 (C2 a),z7] H)
   (W6 [(pb,.dic (B.map kvT) B1)] (F6 7) xQ (Y0 (D3 4 (D8 2 iF (B5 l9 (B5 m7 C1)))) (dL (E8 (B8 cH k8 (eC .non))) (Q9 3 oH (B5 k7 (B5 k8 (B5 k6 C1)))) yNo)) (B.map C2) [B3 (.tup (b7.map C2)),B3 (.int ((n:Int)+1)),B3 (.int lim),B3 (.ref p),z4,B3 (.ref pb),B3 (C2 a),z7] H) P (λ_ H'=>B7 [] H0 H'):=by
 have npb:p≠pb:=λe=>by subst e;have:=gp.symm.trans gb;simp at this
 have npa:p≠pa:=λe=>by subst e;have:=gp.symm.trans ga;simp at this
 refine nC (λd t σ H'=>∃(dr tr X':List j5)(z4 z7:Option D),t=tr.map C2/\B=dr++tr/\X'.Nodup/\X'.length<=lim/\(∀x,x∈X' ↔ Pr n b7 A1 B x\/∃b∈dr,K5 a b=B3 x)/\H'[p]? = B3 (.dic (X'.map kvT) B2)/\H'[pb]? = B3 (.dic (B.map kvT) B1)/\H'[pa]? = B3 (.dic (A.map kvT) B1)/\B7 [] H0 H'/\σ=[B3 (.tup (b7.map C2)),B3 (.int ((n:Int)+1)),B3 (.int lim),B3 (.ref p),z4,B3 (.ref pb),B3 (C2 a),z7]) (λ_ _ _ _ zz=>by obtain⟨dr,tr,X',z4,z7,i1,i2,i3,il,i4,i5,i6,i7,i8,i9⟩:=zz;exact A0 i6) (λd x t σ H1 zz=>?_) (λd σ H1 zz=>?_) _ [] _ _ ⟨[],B,X,_,_,rfl,rfl,nd,hX0,by simp[hX],gp,gb,ga,e0,rfl⟩
 ·obtain⟨dr,tr,X',z4,z7,i1,i2,i3,il,i4,i5,i6,i7,i8,rfl⟩:=zz;cases tr with
  |nil=>cases i1
  |cons b tr=>
   obtain⟨rfl,rfl⟩:=P9.inj i1;have hb:b∈B:=by rw[i2];simp
   unfold xQ;fail "g";refine Ydb ?_;fail "g";refine Zv5 ha (hBr b hb) hn λH2 x2=>?_;fail "g";refine Zyi (qE ?_);fail "g";obtain⟨c,hc,hcn⟩:=Zl0 (K5 a b);refine w_isnN hc ?_;fail "g";have old2:∀{m:Nat}{o:DO},H1[m]? = B3 o->H2[m]? = B3 o:=λh=>x2.old _ _ g8 h;refine⟨λz=>?_,λz=>?_⟩
   ·cases eb:K5 a b with
    |none=>rw[hcn.mpr eb]at z;cases z
    |some y=>
     have nx:∀x,x∈J9 X' y ↔ Pr n b7 A1 B x\/∃b'∈dr++[b],K5 a b'=B3 x:=λx=>by
      rw[cT,i4];constructor
      ·rintro((h |⟨b',hb',e⟩) |rfl)
       ·exact .inl h
       ·exact .inr ⟨b',by simp[hb'],e⟩
       ·exact .inr ⟨b,by simp,eb⟩
      ·rintro(h |⟨b',hb',e⟩)
       ·exact .inl (.inl h)
       ·rcases Xf.mp hb' with h |h
        ·exact .inl (.inr ⟨b',h,e⟩)
        ·rw[Xe]at h;subst h;rw[eb]at e;cases e;exact .inr rfl
     refine Zrf ?_;fail "g";refine⟨rfl,Zm9 (xs:=y) (old2 i5) il hlim (λl=>?_) (O1 (i8.trans x2) hp)⟩;exact⟨dr++[b],tr,_,_,_,rfl,by rw[i2];simp,W8 i3,l,nx,M2 (old2 i5),A2 npb (old2 i6),A2 npa (old2 i7),O1 (i8.trans x2) hp,rfl⟩
   ·have eb:K5 a b=B0:=hcn.mp (by cases c with |true=>rfl |false=>cases z);refine Ycc ⟨dr++[b],tr,X',_,_,rfl,by rw[i2];simp,i3,il,λx=>?_,old2 i5,old2 i6,old2 i7,i8.trans x2,rfl⟩;rw[i4];refine or_congr pQ ⟨λ⟨b',hb',e⟩=>⟨b',by simp[hb'],e⟩,λ⟨b',hb',e⟩=>?_⟩;rcases Xf.mp hb' with h |h
    ·exact⟨b',h,e⟩
    ·rw[Xe]at h;subst h;rw[eb]at e;cases e
 ·obtain⟨dr,tr,X',z4,z7,i1,i2,i3,il,i4,i5,i6,i7,i8,rfl⟩:=zz;cases tr with
  |cons b tr=>cases i1
  |nil=>
   rw[Xq]at i2;subst i2;refine q X' _ _ _ i5 i6 i7 i3 il (λx=>?_) i8;rw[i4];unfold Pr;constructor
   ·rintro((h |⟨a',ha',b',hb',e⟩) |⟨b',hb',e⟩)
    ·exact .inl h
    ·exact .inr ⟨a',by simp[ha'],b',hb',e⟩
    ·exact .inr ⟨a,by simp,b',hb',e⟩
   ·rintro(h |⟨a',ha',b',hb',e⟩)
    ·exact .inl (.inl h)
    ·rcases Xf.mp ha' with h |h
     ·exact .inl (.inr ⟨a',h,b',hb',e⟩)
     ·rw[Xe]at h;subst h;exact .inr ⟨b',hb',e⟩
theorem Zva(hu:∀ls∈b7,Up ((n+1:Nat):Int) 0 ls)(hn:n<=8)(hl:b7.length<=1000)(hlim:lim<=1000)(no:∀X:List j5,X.Nodup->(∀x,x∈X ↔ Z0 n b7 x)->lim<X.length) :
  cB (Zcj [.tup (b7.map C2),.int ((n:Int)+1),.int lim] H) (Zdo [.tup (b7.map C2),.int ((n:Int)+1),.int lim] H) λ_ H'=>B7 [] H H':=by
 refine sT rfl ?_;show wX (lD [B3 (.tup (b7.map C2)),B3 (.int ((n:Int)+1)),B3 (.int lim),B0,B0,B0,B0,B0] H) (uT [B3 (.tup (b7.map C2)),B3 (.int ((n:Int)+1)),B3 (.int lim),B0,B0,B0,B0,B0] H) _;unfold lD uT;have eP:C8 ((n:Int)+1)=n+1:=S3.mpr (.inl rfl);have eN:C8 (-((n:Int)+1))=n+1:=S3.mpr (.inr rfl);refine kN ?_;fail "g";refine qF (P:=λσ H'=>∃(X:List j5)(z4:Option D),X.Nodup/\X.length<=lim/\(∀x,x∈X ↔ x∈b7/\Q8 n x=B2)/\H'[H.length]? = B3 (.dic (X.map kvT) B2)/\B7 [] H H'/\σ=[B3 (.tup (b7.map C2)),B3 (.int ((n:Int)+1)),B3 (.int lim),B3 (.ref H.length),z4,B0,B0,B0]) (sM ?_) ?_
 ·fail "g";refine nC (λd t σ H'=>∃(dr tr X:List j5)(z4:Option D),t=tr.map C2/\b7=dr++tr/\X.Nodup/\X.length<=lim/\(∀x,x∈X ↔ x∈dr/\Q8 n x=B2)/\H'[H.length]? = B3 (.dic (X.map kvT) B2)/\B7 [] H H'/\σ=[B3 (.tup (b7.map C2)),B3 (.int ((n:Int)+1)),B3 (.int lim),B3 (.ref H.length),z4,B0,B0,B0]) (λ_ _ _ _ _=>Q6) (λd x t σ H1 zz=>?_) (λd σ H1 zz=>?_) _ [] _ _ ⟨[],b7,[],_,rfl,rfl,.nil,by simp,by simp,last,B7.app _,rfl⟩
  ·obtain⟨dr,tr,X,z4,i1,i2,i3,il,i4,i5,i6,rfl⟩:=zz;cases tr with
   |nil=>cases i1
   |cons ls tr=>
    obtain⟨rfl,rfl⟩:=P9.inj i1;fail "g";refine Zyi (qE ?_);fail "g";refine tN ?_;fail "g";refine Zm4 ?_;fail "g";refine⟨λz=>?_,λz=>?_⟩
    ·have z:Q8 n ls=B2:=by simpa using z
     have nx:∀x,x∈J9 X ls ↔ x∈dr++[ls]/\Q8 n x=B2:=λx=>by
      rw[cT,i4,Xf,Xe];constructor
      ·rintro(⟨h,k⟩ |rfl)
       ·exact⟨.inl h,k⟩
       ·exact⟨.inr rfl,z⟩
      ·rintro⟨h |rfl,k⟩
       ·exact .inl ⟨h,k⟩
       ·exact .inr rfl
     refine Zrf ?_;fail "g";exact⟨rfl,Zm9 i5 il hlim (λl=>⟨dr++[ls],tr,_,_,rfl,by rw[i2];simp,W8 i3,l,nx,M2 i5,O1 i6 (Xd _),rfl⟩) (O1 i6 (Xd _))⟩
    ·have z:Q8 n ls=B1:=by simpa using z
     refine Ycc ⟨dr++[ls],tr,X,_,rfl,by rw[i2];simp,i3,il,λx=>?_,i5,i6,rfl⟩;rw[i4,Xf,Xe];refine⟨λh=>⟨.inl h.1,h.2⟩,λ⟨h,k⟩=>⟨h.resolve_right λe=>?_,k⟩⟩;subst e;rw[z]at k;cases k
  ·obtain⟨dr,tr,X,z4,i1,i2,i3,il,i4,i5,i6,rfl⟩:=zz;cases tr with
   |cons b tr=>cases i1
   |nil=>
    rw[Xq]at i2;subst i2;exact⟨X,_,i3,il,i4,i5,i6,rfl⟩
 rintro _ H1 ⟨X1,z4,j1,jl,j2,j3,j4,rfl⟩;refine kN ?_;fail "g";refine Zi3 hl λpb B H2 g2 b1 b2 b3 b4 x2=>?_;fail "g";refine Zyb (P:=λ_ _=>∃X:List j5,X.Nodup/\(∀x,x∈X ↔ Z0 n b7 x)/\X.length<=lim) (sM ?_) λ_ _⟨X,h1,h2,h3⟩=>by have:=no X h1 h2;omega
 fail "g";refine Zi3 hl λpa A H3 g3 a1 a2 a3 a4 x3=>?_;fail "g";refine⟨pa,A.map kvT,B2,rfl,g3,?_⟩;rw[uD];have lp:H.length<H1.length:=(Xg.mp j3).1;have l2:=x2.len;have npa:H.length≠pa:=by omega
 have npb:H.length≠pb:=by omega
 have nab:pa≠pb:=by have:=(Xg.mp g2).1;omega
 have Ra:∀a∈A,R n a:=λa ha=>(fJ (V5 _) (iG (hu _ ((a3 a).mp ha)) eP)).1;have Rb:∀b∈B,R n b:=λb hb=>(fJ (V5 _) (iG (hu _ ((b3 b).mp hb)) eN)).1;have JP:∀x,Pr n b7 A B x ↔ Z0 n b7 x:=λx=>by
  unfold Pr Z0;refine or_congr ⟨λh=>⟨h.1,(sW (hu x h.1)).mp h.2⟩,λh=>⟨h.1,(sW (hu x h.1)).mpr h.2⟩⟩ ⟨λ⟨a,ha,b,hb,e⟩=>⟨a,b,(a3 a).mp ha,(b3 b).mp hb,e⟩,λ⟨a,b,ha,hb,e⟩=>⟨a,(a3 a).mpr ha,b,(b3 b).mpr hb,e⟩⟩
 have E3:B7 [] H H3:=(j4.trans x2).trans x3;refine nC (λd t σ H'=>∃(dr tr X:List j5)(fz:Bool)(z4 z6 z7:Option D),t=tr.map C2/\A=dr++tr/\X.Nodup/\X.length<=lim/\(∀x,x∈X ↔ Pr n b7 dr B x)/\H'[H.length]? = B3 (.dic (X.map kvT) B2)/\H'[pb]? = B3 (.dic (B.map kvT) fz)/\H'[pa]? = B3 (.dic (A.map kvT) B1)/\B7 [] H H'/\σ=[B3 (.tup (b7.map C2)),B3 (.int ((n:Int)+1)),B3 (.int lim),B3 (.ref H.length),z4,B3 (.ref pb),z6,z7]) (λ_ _ _ _ zz=>by obtain⟨dr,tr,X,fz,z4,z6,z7,i1,i2,i3,il,i4,i5,i6,i7,i8,i9⟩:=zz;exact A0 i7) (λd x t σ H4 zz=>?_) (λd σ H4 zz=>?_) _ [] _ _ ⟨[],A,X1,B2,_,_,_,rfl,rfl,j1,jl,λx=>by rw[j2];unfold Pr;simp,A2 (Uj npa) (x3.old _ _ g8 (x2.old _ _ g8 j3)),A2 nab (x3.old _ _ g8 g2),M2 g3,O1 E3 f8,rfl⟩
 ·obtain⟨dr,tr,X,fz,z4,z6,z7,i1,i2,i3,il,i4,i5,i6,i7,i8,rfl⟩:=zz;cases tr with
  |nil=>cases i1
  |cons a tr=>
   obtain⟨rfl,rfl⟩:=P9.inj i1;have hma:a∈A:=by rw[i2];simp
   fail "g";refine Zyi (sM ?_);fail "g";refine⟨pb,B.map kvT,fz,rfl,i6,?_⟩;rw[uD];exact qD (H0:=H) (A1:=dr) (A:=A) (pa:=pa) (X:=X) hn hlim (Ra a hma) Rb (Xd _) f8 il (A2 (Uj npb) i5) (M2 i6) (A2 (Uj nab) i7) i3 i4 (O1 i8 f8) λX' z4 z7 H5 h1 h2 h3 h4 hl' h5 h6=>⟨dr++[a],tr,X',B1,_,_,_,rfl,by rw[i2];simp,h4,hl',h5,h1,h2,h3,h6,rfl⟩
 ·obtain⟨dr,tr,X,fz,z4,z6,z7,i1,i2,i3,il,i4,i5,i6,i7,i8,rfl⟩:=zz;cases tr with
  |cons b tr=>cases i1
  |nil=>
   rw[Xq]at i2;subst i2;exact⟨X,i3,λx=>(i4 x).trans (JP x),il⟩
end
variable{σ:SD}{H:HD}{Q:D->HD->Prop}
theorem Zxa{n k:Nat}{F:FF}{Y:T4}{fa:AF}{P:SD->HD->Prop}{R:Int->HD->Prop}(h:wA (fa σ H) λds H1=>ds.length=n/\(wE (F ds H1) (λd H2=>P (σ.set k (B3 d)) H2)\/cB (F ds H1) (Y ds H1) R)):wU (B9 (D3 k (D8 n F fa)) C4 σ H) (Q9 n Y fa σ H) P R:=by
 obtain⟨ds,H1,e,hl,z⟩:=h;rcases z with z |z
 ·exact .inl (w_seq (w_set (w_call ⟨_,_,e,hl,by obtain⟨d,H2,e2,p⟩:=z;exact⟨d,H2,e2,w_snil ⟨rfl,p⟩⟩⟩)))
 ·exact .inr (Zjf ⟨_,_,e,hl,z⟩)
theorem Zyf{b su:SF}{y:E7}{Z:FD->SD->HD->Prop}(h:wX (b σ H) (y σ H) λ_ H1=>wS (su σ H1) Z):wS (sH b y su σ H) Z:=by
 obtain⟨e,i,H1,e1,f,σ2,H2,e2,k⟩:=h;unfold sH;rw[e,e1];exact⟨_,_,_,e2,k⟩
theorem Zzl{iE:Nat}{b su:SF}{y:E7}{xn:Str}{Z:FD->SD->HD->Prop}(hi:iE<σ.length)(h:wX (b σ H) (y σ H) λ_ H1=>wS (su (σ.set iE (B3 (.ref H1.length))) (H1++[.exc xn])) (gW (λσ2 H2=>Z .nx (σ2.set iE B0) H2) λ_ _ _=>False)):wS (sL iE b (yX xn y) su σ H) Z:=by
 obtain⟨e,i,H1,e1,f,σ2,H2,e2,k⟩:=h;unfold sL yX;rw[e,e1];simp only[Wfo,Zb];rw[d7 hi,e2];cases f with
 |nx=>exact⟨_,_,_,rfl,k⟩
 |bk=>exact k.elim
 |ct=>exact k.elim
 |rt d=>exact k.elim
theorem Zjl{fo:EF}{tb:List (Str×Bool)}(h:wE (fo σ H) λd H1=>∃n c b,d=.ref n/\H1[n]? = B3 (.exc c)/\tb.lookup c=B3 b/\Q (.bl b) H1):wE (dO tb fo σ H) Q:=by
 obtain⟨d,H1,e,n,c,b,rfl,g,l,q⟩:=h;refine⟨_,_,?_,q⟩;unfold dO;rw[e];simp only[Zb,g,l,Wfo]
theorem Ybo{p r:Nat}{ds:List D}{xs:List G3}{h:Nat}(f:C7 ds xs h)(hh:h<30)(g1:H[p]? = B3 (.lst ds))(g2:H[r]? = B3 (.lst ds))(q:Q (.bl B1) H):wE (eqD (.ref p) (.ref r) H) Q :=
 ⟨_,_,Zml (f.dat hh g1) (f.dat hh g2),by rw[Zgx (.list xs) f.lay];exact q⟩
section
variable{ks:List D}{kd:D}{b7:List (List Int)}{lim:Nat}
theorem Yam(g:Gp (ks++[kd]) b7)(hlim:lim<=1000)(no:lim<(XL ks.length (kS kd) b7).length) :
  cB (iO [G8 (ks++[kd]) b7,.int lim] H) (Zby [G8 (ks++[kd]) b7,.int lim] H) λ_ H'=>B7 [] H H':=by
 have h8:=g.cl.h8;have hl:=g.cl.hl;have hn:ks.length<=8:=by simp at h8;omega
 have eL:(((ks++[kd]).length:Nat):Int)=(ks.length:Int)+1:=by simp
 have ek:kd=kJ (kS kd):=Zho (g.cl.hk kd g8);have no':∀X:List j5,X.Nodup->(∀x,x∈X ↔ PX ks.length (kS kd) b7 x)->lim<X.length:=λX h1 h2=>by rw[(Zlx h1 h2).length_eq];exact no
 refine sT rfl ?_;show wX (lC [B3 (G8 (ks++[kd]) b7),B3 (.int lim),B0,B0,B0] H) (vA [B3 (G8 (ks++[kd]) b7),B3 (.int lim),B0,B0,B0] H) _;unfold lC vA;refine kN ?_;fail "g";rw[eL];fail "g";refine Znq (Zvt ?_);fail "g";refine w_ixT (nU ks kd) ?_;fail "g";rw[ek];refine Zmo ?_;rw[<- ek];fail "g";refine⟨λz=>?_,λz=>?_⟩
 ·have z:kS kd=B2:=by simpa using z
  have e:∀x,PX ks.length (kS kd) b7 x ↔∃ls∈b7,x=J8 ks.length ls:=λx=>by unfold PX;rw[z,d9 g8]
  refine Zjf ?_;fail "g";exact⟨rfl,Zr9 hlim λX h1 h2=>no' X h1 λx=>(h2 x).trans (e x).symm⟩
 ·have z:kS kd=B1:=by simpa using z
  have e:∀x,PX ks.length (kS kd) b7 x ↔ Z0 ks.length b7 x:=λx=>by unfold PX;rw[z,d7 rfl]
  refine Zjf ?_;fail "g";exact⟨rfl,Zva g.up hn hl hlim λX h1 h2=>no' X h1 λx=>(h2 x).trans (e x).symm⟩
theorem Zvm(g:Gp ks b7){i:Nat}(h:i<ks.length)(hlim:lim<=1000)(q:∀H',(xk ks b7 i).length<=lim->B7 [] H H'->Q (cK ks b7 (i+1)) H'):wE (iO [cK ks b7 i,.int lim] H) Q\/cB (iO [cK ks b7 i,.int lim] H) (Zby [cK ks b7 i,.int lim] H) λ_ H'=>B7 [] H H':=by
 by_cases hs:(xk ks b7 i).length<=lim
 ·exact .inl (Zm3 g h f8 hs λH'=>q H' hs)
 ·right;obtain⟨kd,h1,h2,h3,h4,h5⟩:=sG g (i:=i) (r:=ks.length-(i+1)) f8;have ga:=hU g i f8;unfold cK;rw[h1]at ga ⊢;refine Yam ga hlim ?_;rw[h5]at hs;rw[h2];omega
theorem Zv7(g:Gp ks b7){many:Nat}(hm:many<=ks.length)(hlim:lim<=1000)(no:lim<sk ks b7 many):cB (dS [G8 ks b7,.int many,.int lim] H) (Zeq [G8 ks b7,.int many,.int lim] H) λ_ H'=>B7 [] H H':=by
 have h8:=g.cl.h8;have e0:G8 ks b7=cK ks b7 0:=by unfold cK;rw[vK,vS];rfl
 rw[e0];refine sT rfl ?_;show wX (lB [B3 (cK ks b7 0),B3 (.int many),B3 (.int lim),B0,B0] H) (uM [B3 (cK ks b7 0),B3 (.int many),B3 (.int lim),B0,B0] H) _;unfold lB uM;refine kN ?_;fail "g";refine Zyb (P:=λ_ _=>sk ks b7 many<=lim) (sM ?_) λ_ _ h=>by omega
 fail "g";refine⟨_,rfl,⟨by omega,by omega⟩,?_⟩;rw[bO];refine nC (λd t σ H'=>∃(i m:Nat)(z4:Option D),t=K6 (i:Int) m/\i+m=many/\sk ks b7 i<=lim/\B7 [] H H'/\σ=[B3 (cK ks b7 0),B3 (.int many),B3 (.int lim),B3 (cK ks b7 i),z4]) (λ_ _ _ _ _=>Q6) (λd x t σ H1 zz=>?_) (λd σ H1 zz=>?_) _ [] _ _ ⟨0,many,B0,rfl,by omega,by simp[sk],B7.refl,rfl⟩
 ·obtain⟨i,m,z4,i1,i2,is,x1,rfl⟩:=zz;cases m with
  |zero=>cases i1
  |succ m=>
   rw[uO]at i1;obtain⟨rfl,rfl⟩:=P9.inj i1;fail "g";refine Zxa ?_;fail "g";refine⟨rfl,?_⟩;rcases Zvm (Q:=λd H2=>∃(i' m':Nat)(z4:Option D),K6 ((i:Int)+1) m=K6 (i':Int) m'/\i'+m'=many/\sk ks b7 i'<=lim/\B7 [] H H2/\[B3 (cK ks b7 0),B3 (.int many),B3 (.int lim),B3 d,B3 (.int (i:Int))]=[B3 (cK ks b7 0),B3 (.int many),B3 (.int lim),B3 (cK ks b7 i'),z4]) g (i:=i) f8 hlim (λH' hs x2=>⟨i+1,m,_,by simp,by omega,by rw[sk];omega,x1.trans x2,rfl⟩)with u |⟨u1,j,Hj,u2,u3⟩
   ·exact .inl u
   ·exact .inr ⟨u1,j,Hj,u2,x1.trans u3⟩
 ·obtain⟨i,m,z4,i1,i2,is,x1,rfl⟩:=zz;cases m with
  |succ m=>rw[uO]at i1;cases i1
  |zero=>
   have:i=many:=by omega
   subst this;exact is
theorem Zsp(g:Gp ks b7){many:Nat}(hm:many<=ks.length)(hlim:lim<=1000)(no:lim<sk ks b7 many)(q:∀H',B7 [] H H'->Q (.bl B1) H'):wE (Zcn [G8 ks b7,.int many,.int lim] H) Q:=by
 refine P7 rfl ?_;show wS (uS [B3 (G8 ks b7),B3 (.int many),B3 (.int lim),B0,B0,B0] H) _;unfold uS;fail "g";refine Zzl g8 (Zjd ?_);fail "g";refine⟨rfl,?_⟩;obtain⟨u1,j,H1,u2,x1⟩:=Zv7 (H:=H++[.lst []]) g hm hlim no;refine⟨u1,j,H1,u2,?_⟩;have ge:(H1++[DO.exc "TooMany"])[H1.length]? = B3 (DO.exc "TooMany"):=last;fail "g";refine Zjl ?_;fail "g";refine⟨_,_,B1,rfl,ge,rfl,?_⟩;fail "g";refine Zjl ?_;fail "g";refine⟨_,_,B2,rfl,ge,rfl,?_⟩;fail "g";refine Zjl ?_;fail "g";refine⟨_,_,B2,rfl,ge,rfl,?_⟩;fail "g";refine⟨by simp[cM],?_⟩;fail "g";refine Zjl ?_;fail "g";refine⟨_,_,B2,rfl,appL ge,rfl,?_⟩;fail "g";refine fN last g8 ?_;fail "g";refine Zyf (Zjd ?_);fail "g";refine⟨rfl,?_⟩;obtain⟨u1,j,H2,u2,x2⟩:=Zv7 (H:=(H1++[DO.exc "TooMany"]++[DO.lst [.bl B1,.bl B2,.bl B2]]).set (H1++[DO.exc "TooMany"]).length (DO.lst ([.bl B1,.bl B2,.bl B2]++[.bl B2]))) g hm hlim no;refine⟨u1,j,H2,u2,?_⟩;fail "g";have g2:=x2.old _ _ g8 (M2 (o:=DO.lst ([.bl B1,.bl B2,.bl B2]++[.bl B2])) (last (H:=H1++[DO.exc "TooMany"]) (o:=DO.lst [.bl B1,.bl B2,.bl B2])));refine Ybo (C7.cons (D0.bl B1) (C7.cons (D0.bl B2) (C7.cons (D0.bl B2) (C7.cons (D0.bl B2) C7.nil)))) f8 (appL g2) last ?_;fail "g";have x0:B7 [] H (H1++[DO.exc "TooMany"]):=((B7.app _).trans x1).trans (B7.app _);exact q _ (((O1 (x0.trans (B7.app _)) x0.len).trans x2).trans (B7.app _))
end
variable{σ:SD}{H:HD}{Q:D->HD->Prop}
theorem Zrj:∀(ns zs:List Int)(x:Int),x∈ns.foldl A3 zs->x∈zs\/x∈ns
 |[],zs,x,h=>.inl h
 |n::r,zs,x,h=>by
  rcases Zrj r _ x h with k |k
  ·unfold A3 at k;split at k
   ·exact .inl k
   ·rcases Xf.mp k with k |k
    ·exact .inl k
    ·rw[Xe]at k;subst k;exact .inr g8
  ·exact .inr (by simp[k])
theorem Zwi{ns:List Int}{x:Int}(h:x∈A9 (met ns)):x∈ns:=(Zrj ns [] x ((Zew _).mem_iff.mp h)).resolve_left g8
theorem pS{f:AF}(h:wA (f σ H) λds H1=>∃p ns,ds=[.ref p]/\H1[p]? = B3 (.lst (ns.map .int))/\ns.length<=4/\Q (.ref H1.length) (H1++[.lst ((A9 (met ns)).map .int)])):wE (mL f σ H) Q:=by
 obtain⟨ds,H1,e,p,ns,rfl,g,l,q⟩:=h;refine⟨_,_,?_,q⟩;unfold mL;rw[e];simp only[Zb,P6,g,Zr8];rw[d7 l]
theorem Zu8(b7:List j5):∃xs,C7 (b7.map C2) xs 1:=C7.of _ λd hd=>by
 obtain⟨ls,_,rfl⟩:=Xr.mp hd;exact⟨_,kU ls⟩
theorem Zi1{ks:List D}{b7:List (List Int)}(c:Cl ks b7):∃x,D0 (G8 ks b7) x 3:=by
 obtain⟨xs,f⟩:=Zn2 c.hk;obtain⟨ys,g⟩:=Zu8 b7;exact⟨_,D0.tup (C7.cons ((D0.tup f).le f8) (C7.cons (D0.tup g) C7.nil))⟩
section
variable{ks:List D}{b7:List (List Int)}
theorem Zq3{n m:Nat}(f:Nat->D)(h:m<=n):M0 ((V4 (n+1)).map f) (m:Int)=B3 (f m):=Yac (by rw[Xy,List.getElem?_range f8];rfl)
theorem Zy6(g:Gp ks b7){i:Nat}(h:i<=ks.length):∃x,D0 (cK ks b7 i) x 3:=Zi1 (hU g i h).cl
theorem Zzo(g:Gp ks b7){w j:Nat}(h:w+j<=ks.length):cK (ks.take (ks.length-w)) (rk ks b7 w) j=cK ks b7 (w+j):=by
 unfold cK;rw[Zp1 f8 j h]
 congr 1
 rw[List.take_take]
 congr 1
 simp;omega
theorem Zxn(g:Gp ks b7){w j:Nat}(h:w+j<=ks.length):sk (ks.take (ks.length-w)) (rk ks b7 w) j<=729:=Zsi (hU g w f8) j h9
nonrec abbrev sF:SF:=(B9 (K4 (K9 (N3 (B5 (eC (.int 2000)) (B5 (E9 kF (B5 (eC j6) (B5 (B8 ixD k9 k7) C1))) C1)))) (F6 6) (B9 (F4 (E8 (B8 neD (D8 3 dS (B5 j9 (B5 k7 (B5 l9 C1)))) (B8 ixD k8 k7))) (B9 (G5 (eC (.bl B2)))
 C4) C4)
 C4))
 (B9 (F4 (E8 (B8 gtD (B8 ixD k9 k7) (eC j6))) (B9 (K4 (K9 (mL (B5 (N3 (B5 (eC j6) (B5 (B8 G0 (eC j6) (B8 J2 (B8 bI k6 (eC (.int 9))) (B8 A5 (B8 ixD k9 k7) (eC j6)))) (B5 (B8 A5 (B8 ixD k9 k7) (eC j6)) C1)))) C1))) (F6 6) (B9 (F4 (gO (cJ (D8 3 Zcn (B5 j9 (B5 k7 (B5 l9 C1)))))) (B9 (G5 (eC (.bl B2)))
 C4) C4)
 C4))
 C4) C4)
 (B9 (D3 7 (B8 J2 (B8 bI k6 (eC (.int 63))) (B8 G0 k7 (eC j6))))
 (B9 (F4 (E8 (B8 neD (D8 3 dS (B5 (B8 ixD k8 m7) (B5 (B8 A5 k7 m7) (B5 (eC (.int 2000)) C1)))) (B8 ixD k8 k7))) (B9 (G5 (eC (.bl B2)))
 C4) C4)
 C4))))
theorem Ztw(g:Gp ks b7){m p4 p5:Nat}{dg:Int}{sc z6 z7:Option D}{Z:FD->SD->HD->Prop}(hm:m<=ks.length)(g4:H[p4]? = B3 (.lst ((V4 (ks.length+1)).map (cK ks b7))))(g5:H[p5]? = B3 (.lst ((V4 (ks.length+1)).map λi=>.int (sk ks b7 i))))(hd:0<=dg)
  (q:∀z6 z7 H',B7 [] H H'->Z .nx [sc,B3 (G8 ks b7),B3 (.int dg),B3 (.int m),B3 (.ref p4),B3 (.ref p5),z6,z7] H'):wS (sF [sc,B3 (G8 ks b7),B3 (.int dg),B3 (.int m),B3 (.ref p4),B3 (.ref p5),z6,z7] H) Z:=by
 have a4:∀i:Nat,i<=ks.length->M0 ((V4 (ks.length+1)).map (cK ks b7)) (i:Int)=B3 (cK ks b7 i):=λi h=>Zq3 _ h;have a5:M0 ((V4 (ks.length+1)).map λi=>D.int (sk ks b7 i)) (m:Int)=B3 (.int (sk ks b7 m)):=Zq3 (λi=>D.int (sk ks b7 i)) hm;obtain⟨y,fy⟩:=Zy6 g hm;have s7:=Zsi g m hm;unfold sF;fail "g";refine w_ixR g5 a5 ?_;fail "g";refine cO (λσ H'=>∃z6,B7 [] H H'/\σ=[sc,B3 (G8 ks b7),B3 (.int dg),B3 (.int m),B3 (.ref p4),B3 (.ref p5),z6,z7]) ?_ ?_
 ·refine tE (λσ H'=>∃z6,B7 [] (H++[.lst [.int 2000,.int (if (sk ks b7 m:Int) > 1 then (sk ks b7 m:Int)else 1)]]) H'/\σ=[sc,B3 (G8 ks b7),B3 (.int dg),B3 (.int m),B3 (.ref p4),B3 (.ref p5),z6,z7]) (by rintro σ H' ⟨z6,x,_⟩;exact A0 (x.old _ _ g8 last)) _ (λd hd σ H1 zz=>?_) _ _ ⟨_,B7.refl,rfl⟩ λσ H1⟨z6,x,e⟩=>⟨rfl,z6,(B7.app _).trans x,e⟩
  obtain⟨z6,x1,rfl⟩:=zz;obtain⟨l,rfl,hl1,hl2⟩:∃l:Nat,d=.int l/\sk ks b7 m<=l/\l<=100000:=by
   simp only[Xn,vT,or_false]at hd;rcases hd with rfl |rfl
   ·exact⟨2000,rfl,by omega,by omega⟩
   ·by_cases e:(sk ks b7 m:Int) > 1
    ·exact⟨sk ks b7 m,by rw[d7 e],by omega,by omega⟩
    ·exact⟨1,by rw[d9 e];rfl,by omega,by omega⟩
  fail "i";refine Zjn g hm hl2 hl1 λH2 x2=>?_;fail "g";refine w_ixR (x2.old _ _ g8 (x1.old _ _ g8 (appL g4))) (a4 m hm) ?_;refine Zm6 fy f8 ?_;fail "g";exact⟨_,x1.trans x2,rfl⟩
 rintro _ H1 ⟨z6,x1,rfl⟩;have g41:=x1.old _ _ g8 g4;have g51:=x1.old _ _ g8 g5;fail "g";refine cO (λσ H'=>∃z6,B7 [] H H'/\σ=[sc,B3 (G8 ks b7),B3 (.int dg),B3 (.int m),B3 (.ref p4),B3 (.ref p5),z6,z7]) ?_ ?_
 ·(refine WP.w_if ?_;fail "g")
  refine w_ixR g51 a5 ?_;fail "g";refine⟨λz=>?_,λz=>?_⟩
  ·have z:1<sk ks b7 m:=by simp at z;omega
   have hp:(0:Int)<(sk ks b7 m:Int)-1:=by omega
   fail "g";refine pS ?_;fail "g";refine w_ixR g51 a5 ?_;fail "g";refine w_mod hp ?_;fail "g";refine w_ixR g51 a5 ?_;fail "g";refine⟨_,[1,1+dg / 9 % ((sk ks b7 m:Int)-1),(sk ks b7 m:Int)-1],rfl,last,by simp,?_⟩;fail "g";generalize hE:A9 (met [1,1+dg / 9 % ((sk ks b7 m:Int)-1),(sk ks b7 m:Int)-1])=E;generalize hH:H1++[DO.lst [D.int 1,D.int (1+dg / 9 % ((sk ks b7 m:Int)-1)),D.int ((sk ks b7 m:Int)-1)]]=H2;have x2:B7 [] H H2:=by rw[<- hH];exact x1.trans (B7.app _)
   refine tE (λσ H'=>∃z6,B7 [] (H2++[.lst (E.map .int)]) H'/\σ=[sc,B3 (G8 ks b7),B3 (.int dg),B3 (.int m),B3 (.ref p4),B3 (.ref p5),z6,z7]) (by rintro σ H' ⟨z6,x,_⟩;exact A0 (x.old _ _ g8 last)) _ (λd hd σ H3 zz=>?_) _ _ ⟨_,B7.refl,rfl⟩ λσ H3 zz=>?_
   ·obtain⟨z6,x3,rfl⟩:=zz;obtain⟨l,rfl,hl⟩:∃l:Nat,d=.int l/\l<sk ks b7 m:=by
     obtain⟨i,hi,rfl⟩:=Xr.mp hd;rw[<- hE]at hi;have:=Zwi hi;have r0:=bN (dg / 9) (show (sk ks b7 m:Int)-1≠0 by omega);have r1:=bP (dg / 9) hp;simp only[Xn,vT,or_false]at this;refine⟨i.toNat,?_,?_⟩
     ·congr 1;rcases this with rfl |rfl |rfl<;>omega
     ·rcases this with rfl |rfl |rfl<;>omega
    fail "i";refine Zsp g hm f8 hl λH4 x4=>?_;fail "g";exact⟨_,x3.trans x4,rfl⟩
   ·obtain⟨z6,x,e⟩:=zz;fail "g";exact⟨rfl,z6,(x2.trans (B7.app _)).trans x,e⟩
  ·fail "g";exact⟨rfl,_,x1,rfl⟩
 rintro _ H2 ⟨z6,x2,rfl⟩;have g42:=x2.old _ _ g8 g4;have hp:(0:Int)<(m:Int)+1:=by omega
 fail "g";refine w_mod hp ?_;obtain⟨w,hw,hwm⟩:∃w:Nat,dg / 63 % ((m:Int)+1)=(w:Int)/\w<=m:=by
  have r0:=bN (dg / 63) (show (m:Int)+1≠0 by omega);have r1:=bP (dg / 63) hp;exact⟨(dg / 63 % ((m:Int)+1)).toNat,by omega,by omega⟩
 rw[hw];fail "i";refine w_ixR g42 (a4 w f8) ?_;fail "g";rw[show (m:Int)-(w:Int)=((m-w:Nat):Int)by omega];refine Zjn (lim:=2000) (hU g w f8) h9 f8 (N2 (Zxn g f8) f8) λH3 x3=>?_;rw[Zzo g f8,show w+(m-w)=m by omega];fail "g";refine w_ixR (x3.old _ _ g8 g42) (a4 m hm) ?_;refine Zm6 fy f8 ?_;fail "g";exact q _ _ _ (x2.trans x3)
end
variable{σ:SD}{H:HD}{Q:D->HD->Prop}
theorem Cl.cr{ks:List D}{b7:List (List Int)}(c:Cl ks b7):CR ks b7:=⟨c.hk,c.h8,λls h=>(fJ (V5 _) (c.hu ls h)).1,c.hl⟩
theorem Zz8(x:D):∀n:Nat,(Xl n [x]).flatten=Xl n x
 | 0=>rfl
 |n+1=>by rw[gB,iT,Zz8 x n];rfl
theorem pure_law(ns:List Int)(hns:ns.length<=63):∃c5,nA [.fl (ns.map .int)] []=B3 (.bl B1,c5):=by
 suffices h:wE (nA [.fl (ns.map .int)] []) λd _=>d=.bl B1 by
  obtain⟨d,H,e,rfl⟩:=h;exact⟨H,e⟩
 have at':∀(H:HD)(k:Int)(Q:D->HD->Prop),0<=k->k<=1000->(∀c,Q (.int c) H)->wE (fT [.fl (ns.map .int),.int k] H) Q:=λH k Q h0 h1 q=>w_at h0 h1 q;refine P7 rfl ?_;show wS (sJ [B3 (.fl (ns.map .int)),B0,B0,B0,B0,B0,B0,B0] []) _;unfold sJ;fail "g";refine Zru (most:=8) at' ⟨by omega,by omega⟩ λks0 rs0 H1 c0 l8 l20 x1=>?_;fail "g";refine cO (λσ H'=>∃ks,Cl ks rs0/\σ=[B3 (.fl (ns.map .int)),B3 (G8 ks rs0),B0,B0,B0,B0,B0,B0]) ?_ ?_
 ·(refine WP.w_if ?_;fail "g")
  refine at' _ _ _ f8 f8 λcell=>?_;fail "g";refine tX (many:=29) f8 λds p H2 ld dg g2 _ x2=>?_;fail "g";refine T0 g2 dg f8 f8 λr r0 r1=>?_;fail "g";refine⟨λz=>?_,λz=>?_⟩
  ·fail "g";refine Zwu f8 f8 g8 ?_;fail "g";rw[Zz8,bO];exact⟨rfl,Xl ks0.length (.str "some"),⟨λd hd=>by rw[List.mem_replicate]at hd;rw[hd.2];exact .inr rfl,λls h=>by rw[Wdz];exact c0.hu ls h,c0.hl,by rw[Wdz];exact c0.h8⟩,rfl⟩
  ·fail "g";exact⟨rfl,ks0,c0,rfl⟩
 rintro _ H2 ⟨ks,c1,rfl⟩;fail "g";refine at' _ _ _ f8 f8 λcell=>?_;fail "g";refine tX (many:=32) f8 λds p H3 ld dg g3 _ x3=>?_;fail "g";refine T0 g3 dg f8 f8 λr r0 r1=>?_;fail "g";refine Zoc c1.cr l20 r0 λb7 H4 cr hneg h120 hfew x4=>?_;have cl:Cl ks b7:=⟨cr.hk,λls h=>by
  rcases hneg ls h with z |⟨y,hy,rfl⟩
  ·exact c1.hu ls z
  ·exact Zwe y _ (c1.hu y hy),cr.hl,cr.h8⟩
 have gp:Gp ks b7:=⟨cl,hfew.elim .inr λh=>.inl f8⟩
 have h8:=cl.h8;fail "g";refine Zum gp λp4 p5 H5 g4 g5 x5=>?_;fail "g";refine at' _ _ _ f8 f8 λcell=>?_;fail "g";refine tX (many:=31) f8 λds6 p6 H6 ld6 dg6 g6 _ x6=>?_;have g46:=x6.lst g8 g4;have g56:=x6.lst g8 g5;fail "g";refine T0 g6 dg6 f8 f8 λd d0 d1=>?_;fail "g";refine pS ?_;fail "g";rw[Xj,List.length_range];refine w_mod f8 ?_;fail "g";refine⟨_,[if (ks.length:Int)<1 then (ks.length:Int)else 1,d % ((ks.length+1:Nat):Int),(ks.length:Int)],rfl,last,by simp,?_⟩;fail "g";generalize hE:A9 (met [if (ks.length:Int)<1 then (ks.length:Int)else 1,d % ((ks.length+1:Nat):Int),(ks.length:Int)])=E;generalize hH:H6++[DO.lst [D.int (if (ks.length:Int)<1 then (ks.length:Int)else 1),D.int (d % ((ks.length+1:Nat):Int)),D.int (ks.length:Int)]]=H7;have g47:H7[p4]? = B3 (.lst ((V4 (ks.length+1)).map (cK ks b7))):=by rw[<- hH];exact appL g46
 have g57:H7[p5]? = B3 (.lst ((V4 (ks.length+1)).map λi=>.int (sk ks b7 i))):=by rw[<- hH];exact appL g56
 refine cO (λσ H'=>∃z2 z3 z4 z5 z6 z7,σ=[B3 (.fl (ns.map .int)),B3 (G8 ks b7),z2,z3,z4,z5,z6,z7]) ?_ ?_
 ·refine tE (λσ H'=>∃z3 z6 z7,B7 [] (H7++[.lst (E.map .int)]) H'/\σ=[B3 (.fl (ns.map .int)),B3 (G8 ks b7),B3 (.int d),z3,B3 (.ref p4),B3 (.ref p5),z6,z7]) (by rintro σ H' ⟨z3,z6,z7,x,_⟩;exact A0 (x.old _ _ g8 last)) _ (λy hy σ H8 zz=>?_) _ _ ⟨_,_,_,B7.refl,rfl⟩ λσ H8⟨z3,z6,z7,x,e⟩=>⟨rfl,_,_,_,_,_,_,e⟩
  obtain⟨z3,z6,z7,x8,rfl⟩:=zz;obtain⟨m,rfl,hm⟩:∃m:Nat,y=.int m/\m<=ks.length:=by
   obtain⟨i,hi,rfl⟩:=Xr.mp hy;rw[<- hE]at hi;have:=Zwi hi;have r0:=bN d (show ((ks.length+1:Nat):Int)≠0 by omega);have r1:=bP d (show (0:Int)<((ks.length+1:Nat):Int)by omega);simp only[Xn,vT,or_false]at this;refine⟨i.toNat,?_,?_⟩
   ·congr 1
    rcases this with rfl |rfl |rfl
    ·split<;>omega
    ·omega
    ·omega
   ·rcases this with rfl |rfl |rfl
    ·split<;>omega
    ·omega
    ·omega
  refine w_gnm ?_;exact Ztw gp hm (x8.old _ _ g8 (appL g47)) (x8.old _ _ g8 (appL g57)) d0 λz6 z7 H9 x9=>w_agn ⟨_,_,_,x8.trans x9,rfl⟩
 rintro _ H8 ⟨z2,z3,z4,z5,z6,z7,rfl⟩;fail "g";refine Zjn (many:=0) (lim:=1) gp f8 f8 (by simp[sk]) λH9 x9=>?_;fail "g";have e0:cK ks b7 0=G8 ks b7:=by unfold cK;rw[vK,vS];rfl
 rw[e0];obtain⟨x,f⟩:=Zi1 cl;refine Zvv f f8 ?_;fail "g";rfl
end K08
set_option maxHeartbeats 8000000
namespace K08
open PySem PySem.Spec PyProof.Rows L2 DL
nonrec def top(i:Nat):D2:=PySem.Challenge.pw_allsome_k36_names_put_away.main.body.getD i (.Pass ⟨0,0,0,0⟩)
nonrec abbrev s0M:D2:=top 11
local macro_rules | `(tactic| fail $s:str)=>do
 if s.getString != "S" then Lean.Macro.throwUnsupported
 `(tactic| exact ⟨rfl,rfl,rfl,by decide +kernel,rfl,by decide +kernel,by decide +kernel⟩)
theorem Zmh:C3 ["one","other","told","literal"] ["one","other"] (F5 s0M):=by fail "S"
nonrec abbrev s1f:D2:=top 13
theorem Zfq:C3 ["told","row","limit"] ["told","row","limit"] (F5 s1f):=by fail "S"
nonrec abbrev s0N:D2:=top 14
theorem Zdp:C3 ["rows","literal","told","row"] ["rows","literal"] (F5 s0N):=by fail "S"
nonrec abbrev s1h:D2:=top 15
theorem Zbz:C3 ["rows","name","limit","told","row","has"] ["rows","name","limit"] (F5 s1h):=by fail "S"
nonrec abbrev s1g:D2:=top 16
theorem Zb7:C3 ["rows","name","limit","told","row","heads","one","other"] ["rows","name","limit"] (F5 s1g):=by fail "S"
nonrec abbrev s0O:D2:=top 17
theorem Zig:C3 ["row","told","literal"] ["row"] (F5 s0O):=by fail "S"
nonrec abbrev s0P:D2:=top 18
theorem Zbm:C3 ["claim","limit","name","stay","rows"] ["claim","limit"] (F5 s0P):=by fail "S"
nonrec abbrev s1e:D2:=top 19
theorem Zdt:C3 ["claim","many","limit","told","name"] ["claim","many","limit"] (F5 s1e):=by fail "S"
nonrec abbrev s0Z:D2:=top 21
theorem Ziz:C3 ["cell","k","prime","one"] ["cell","k"] (F5 s0Z):=by fail "S"
nonrec abbrev s0T:D2:=top 22
theorem Zfn:C3 ["cell","many","found","left_over","wide","k"] ["cell","many"] (F5 s0T):=by fail "S"
nonrec abbrev s0R:D2:=top 23
theorem Zq7:C3 ["script","k"] ["script","k"] (F5 s0R):=by fail "S"
nonrec abbrev s0W:D2:=top 24
theorem Zgd:C3 ["some","many","found","k","kind"] ["some","many"] (F5 s0W):=by fail "S"
nonrec abbrev s1c:D2:=top 25
theorem Zim:C3 ["cell","many","wide","some","found","k"] ["cell","many","wide"] (F5 s1c):=by fail "S"
nonrec abbrev s0S:D2:=top 26
theorem Zge:C3 ["script","most","some","many","kinds","size","rows"] ["script","most"] (F5 s0S):=by fail "S"
nonrec abbrev s0V:D2:=top 27
theorem Zdv:C3 ["row","other","name","found","one"] ["row","other","name"] (F5 s0V):=by fail "S"
nonrec abbrev s1d:D2:=top 28
theorem Zd2:C3 ["kinds","rows","name","found","row","other","both_v"] ["kinds","rows"] (F5 s1d):=by fail "S"
nonrec abbrev s0U:D2:=top 29
theorem Zd3:C3 ["row","others","other"] ["row","others"] (F5 s0U):=by fail "S"
nonrec abbrev s0X:D2:=top 30
theorem Zen:C3 ["rows","found","row"] ["rows"] (F5 s0X):=by fail "S"
nonrec abbrev s1a:D2:=top 31
theorem Zek:C3 ["claim","told","sizes","more","kinds","rows"] ["claim"] (F5 s1a):=by fail "S"
nonrec abbrev s1b:D2:=top 32
theorem Zez:C3 ["claim","many","most","kinds","own","e"] ["claim","many","most"] (F5 s1b):=by fail "S"
nonrec abbrev s0Y:D2:=top 33
theorem Zd1:C3 ["claim","one","turned_rows","kinds","rows"] ["claim","one"] (F5 s0Y):=by fail "S"
nonrec abbrev s0Q:D2:=top 34
theorem Zwc:C3 ["script","claim","drawn","many","told","sizes","most","first"] ["script"] (F5 s0Q):=by fail "S"
structure M3(K:Xa)(mg:Str->Option Vb):Prop where
 t0a:Tf K mg "both" K08.s0M
 t0b:Tf K mg "put_unlike" K08.s1f
 t0c:Tf K mg "heads_with" K08.s0N
 t0d:Tf K mg "rows_without" K08.s1h
 t0e:Tf K mg "rows_joined" K08.s1g
 t0f:Tf K mg "held_by" K08.s0O
 t0g:Tf K mg "last_put_away" K08.s0P
 t0h:Tf K mg "put_away" K08.s1e
 t0i:Tf K mg "_law_mix" K08.s0Z
 t0j:Tf K mg "_law_digits" K08.s0T
 t0k:Tf K mg "_law_at" K08.s0R
 t0l:Tf K mg "_law_kinds" K08.s0W
 t0m:Tf K mg "_law_row" K08.s1c
 t0n:Tf K mg "_law_claim" K08.s0S
 t0o:Tf K mg "_law_joined" K08.s0V
 t0p:Tf K mg "_law_rows_left" K08.s1d
 t0q:Tf K mg "_law_holds_one" K08.s0U
 t0r:Tf K mg "_law_least" K08.s0X
 t0s:Tf K mg "_law_put_away" K08.s1a
 t0t:Tf K mg "_law_refused" K08.s1b
 t0u:Tf K mg "_law_many_rows" K08.s0Y
 t0v:Tf K mg "law" K08.s0Q
 t0w:mg "ValueError" = B0
 t0x:mg "abs" = B0
 t0y:mg "any" = B0
 t0z:mg "int" = B0
 t0A:mg "isinstance" = B0
 t0B:mg "len" = B0
 t0C:mg "list" = B0
 t0D:mg "max" = B0
 t0E:mg "min" = B0
 t0F:mg "range" = B0
 t0G:mg "set" = B0
 t0H:mg "sorted" = B0
 t0I:mg "tuple" = B0
 t0J:mH K mg "ClaimError" ["TooMany"]
 t0K:mH K mg "TooMany" ["TooMany"]
 x_l:hV K ["TooMany"]
 t0L:∃c,mg "NotWon" = B3 (.ref c)/\gM K (.ref c) [("TooMany",B2)]
 x_v:gM K (.type "ValueError") [("TooMany",B1)]
 xt_0:∃c0 c1,jO K [c0,c1] [("TooMany",B2)]/\mg "NoText" = B3 (.ref c0)/\mg "NoStep" = B3 (.ref c1)
 xt_1:∃c0 c1 c2 c3,jO K [c0,c1,c2,c3] [("TooMany",B2)]/\mg "NoBack" = B3 (.ref c0)/\mg "NoLine" = B3 (.ref c1)/\mg "NoPick" = B3 (.ref c2)/\mg "NoRow" = B3 (.ref c3)
section
variable{P:Vl}{w:Vs}{K:Xa}{mg:Str->Option Vb}{base:C5}
local macro_rules | `(tactic| fail $s:str)=>do
 if s.getString.take 1 != "^" then Lean.Macro.throwUnsupported
 let w:=((s.getString.drop 1).toString.splitOn " ").toArray
 let g:=fun (x:String)=>Lean.mkIdent x.toName
 let n:=fun (k:Nat)=>Lean.Syntax.mkNumLit w[k]!
 `(tactic| (refine (fun h=>h:_->Fn _ _ _ _ _ $(n 0) _ _ (F1 $(n 1) $(n 2) $(g w[3]!))) (P8 (k:=$(n 4)) $(g w[5]!) $(g w[6]!) (by fail $(Lean.Syntax.mkStrLit ("~U"++w[7]!))) ?_); intro $(g "f") $(g "cdv") $(g "A") $(g "outer") $(g "s") $(g "H") $(g "E") $(g "hr"); unfold $(g w[3]!)))
local macro_rules | `(tactic| fail $s:str)=>do
 if s.getString.take 1 != "~" then Lean.Macro.throwUnsupported
 let ls:=("a=Q _;b=R rG ? ? ?;c=E Zf0;d=F _;e=E nd;f=R Zhb ? Zi9;g=R Zhb ? ?;h=E ( C6 ( pv 1 ) );i=E ( C6 ( pv 0 ) );j=R Zjq ?;k=R Zsx ? ? Zi9;l=E ( C6 ( pv 2 ) );m=E ( C6 ( pv 3 ) );n=E G9;o=R Zxf Tcx ? ? ? ?;p=E nJ nZ G9;q=R Zus ?;r=R G2 kX ? G9;s=R iJ ?;u=R Znm ?;v=I _;w=R Zwo ?;x=E ( C6 ( pv 4 ) );y=R Zr7 ?;z=R oJ @i4 ? ? ?;A=R bL @i4 ? ? ? ?;B=R iM Zqy ? T.t0B Znl ?;C=E Z2 Y8 ( C6 ( pv 0 ) ) G9 @f;D=R bL @i3 ? ? ? ?;E=R bL @i2 ? ? ? ?;F=R Zf7 Zmf ? T.t0I Zux ?;G=E nJ nZ ( C6 ( pv 1 ) );H=R Z2 Y8 ? ? @f;I=R Zvj ? ?;J=E nK ( C6 ( pv 0 ) );K=R R3 ( ok_put_unlike T ) ( hr.mono @d ) ? ?;L=E hr.mono @d;M=E Z2 Y8 ( C6 ( pv 2 ) ) G9 @f;N=R Zjj Zgg ?;O=R kY ( C6 ( pv 4 ) ) ? kW;P=E ( C6 ( pv 6 ) );Q=R bL @i1 ? ? ? ?;R=R nK ?;S=E Zqk;T=E nK ( C6 ( pv 1 ) );U=R bL @i5 ? ? ? ?;V=E hE;W=R Zob ? T.t0F ?;X=E Zr7 Zf0;Y=R oJ @i3 ? ? ?;Z=R Zlm Uv Uw Zdk ( C6 ( pv 2 ) ) ?;0=R bL @i3 ? ? ? Znd;1=R kY ( C6 ( pv 4 ) ) kW ?;2=R Zyu ? ? ? ? ? ?;3=E Zrd;4=E Zuy;5=E G2 Y2 ( C6 ( pv 1 ) ) G9;6=R oJ @i5 ? ? ?;7=R R3 ( ok_law_digits T ) ( hr.mono @d ) ? ?;8=R R3 ( ok_law_at T ) ( hr.mono @d ) ? ?;9=E iJ Zgg;aa=R R3 ( ok_put_away T ) ( hr.mono @d ) ? ?;ab=R P0 ( sY hr.units ) ? ? ?;ac=R R3 ( ok_heads_with T ) ( hr.mono @d ) ? ?;ad=R oJ @i6 ? ? ?;ae=R R3 ( ok_both T ) ( hr.mono @d ) ? ?;af=E ( C6 ( pv 7 ) );ag=E P0 Zp2 ( C6 ( pv 4 ) ) Zjx ( U5 _ );ah=R Zgv ?;ai=R G2 Y2 ? ?;aj=R gJ.pt ?;ak=E ( C6 ( pv 5 ) );al=R G2 kX ? ?;am=R G2 Y2 G9 ?;an=R P0 Zlr ? G9 ( U5 _ );ao=R Z2 Y8 ? G9 @f;ap=E T.x_l;aq=E T.t0A;ar=E Zgg;as=E Z2 Y8 ( C6 ( pv 1 ) ) G9 @f;au=E Z2 Y8 ( C6 ( pv 5 ) ) ( C6 ( pv 3 ) ) @f;av=R Znp ? ? Zx9;aw=R nS ( Zn1 hr.units ) ? ? ?;ax=R Zsl ? ? ( C6 ( pv 4 ) );ay=E iJ ( C6 ( pv 3 ) );az=R Zjw ?;aA=E ( Zc9 T );aB=E Zfw ( C6 ( pv 5 ) );aC=R oJ @i7 ? ? ?;aD=E Zjq Zf0;aE=R oJ @i2 ? ? ?;aF=R P0 ( tM hr.units ) ? Zqk ( U5 _ );aG=R Zlz ?;aH=R G2 tY ? ?;aI=R G2 Y2 ? G9;aJ=E G2 tY G9 ( C6 ( pv 1 ) );aK=R iM Zr5 ? T.t0x Zrv ?;aL=R Zl3 ? ?;aM=R Zjm ?;aN=R Z2 Y8 ( C6 ( pv 0 ) ) ? @f;aO=R P0 ( tM hr.units ) ? G9 ( U5 _ );aP=R G2 Zf4 ? G9;aQ=R iM ( Zsh @r ) ? T.t0D Yce ?;aR=R P0 ( Zm7 hr.units ) ? ? ( U5 _ );aS=R Zlw ? ?;aT=R Zdh ? ?;aU=R Zdh ? Zi6;aV=E nY ( C6 ( pv 0 ) ) ( C6 ( pv 1 ) ) ( sQ hr.units );aW=R P0 Zlr ? ( C6 ( pv 2 ) ) ( U5 _ );aX=R iM Zis ? T.t0B Znl ?;aY=R P0 ( tM hr.units ) ? ? ( U5 _ );aZ=R Zsx ? ? ?;a0=R iM ( Zgf hr.units ) ? T.t0H oE ?;a1=R Zl8 @i4 ? ? ? ?;a2=R bL @i3 ? ? ? ( C6 ( pv 0 ) );a3=R R3 ( Zd4 T ) ( hr.mono @d ) ? ?;a4=E G2 kX ( C6 ( pv 1 ) ) G9;a5=R G2 kX ? ( C6 ( pv 2 ) );a6=E G2 Zmr ( C6 ( pv 3 ) ) G9;a7=E G2 Y2 G9 ( C6 ( pv 3 ) );a8=R Z2 Y8 ( C6 ( pv 3 ) ) ? @f;a9=E G2 Y2 G9 ( C6 ( pv 5 ) );ba=R iM ( Zhl @r hr.units ) ? T.t0H oE ?;bb=E nJ nZ ( C6 ( pv 2 ) );bc=R Zlm Uv Uw Zdk ( C6 ( pv 1 ) ) ?;bd=R Z2 Y8 ( C6 ( pv 1 ) ) ? @f;be=R bL @i4 ? ? ? Zgg;bf=E G2 uG ( C6 ( pv 1 ) ) G9;bg=R Zwn ? ? T.t0H ? T.t0G ?;bh=E Z2 Y8 ( C6 ( pv 4 ) ) ( C6 ( pv 3 ) ) @f;bi=E G2 uG ( C6 ( pv 2 ) ) G9;bj=R Z2 Y8 ( C6 ( pv 2 ) ) ? @f;bk=E ( nB @r v1_0 ( nB @r v1_1 ( nB @r v1_2 ( nB @r v1_3 Zp7 ) ) ) )" : String).splitOn ";"
 let d:List (String×Lean.Term):=[("?",<- `(?_)),("_",<- `(_)),("@d",<- `(by decide)),("@o",<- `(by omega)),("@r",<- `(by rfl)),("@f",<- `(fun _ _=>rfl))]
 let pr:Lean.Term<- `((a))
 let na<- `(a (i:=0))
 let re<- `(tactic| refine _)
 let ex<- `(tactic| exact _)
 let k:List (String×Lean.TSyntax `tactic):=[("t",<- `(tactic| with_unfolding_all rfl)),("at",<- `(tactic| exact uC (C6 (pv 5)) (fun _=>rfl))),("%I",<- `(tactic| intro _ _ _ _ _ _)),("%F",<- `(tactic| first | exact Or.inl rfl | exact Or.inr rfl)),("%Q",<- `(tactic| rfl))]
 let o<- ((s.getString.drop 1).toString.splitOn " ").toArray.mapM fun w=>do
  if ["U1","U2","U3"].contains w then return <- `(tactic| (intro _ _ _ _ _ _ us hl; have e:=$(Lean.mkIdent ("us"++(w.drop 1).toString).toName) hl; (repeat obtain⟨_,e⟩:=e); rfl))
  if let some x:=k.lookup w then return x
  let some l:=ls.find? (·.startsWith (w ++ "=")) | Lean.Macro.throwUnsupported
  let ts:=(l.drop (w.length+1)).toString.splitOn " "
  let ap:=fun (l:List Lean.Term)=>Lean.Syntax.mkApp l.reverse.head! l.reverse.tail.toArray
  let st:=(ts.drop 1).foldl (init:=[[]]) fun st t=>if t == "(" then []::st else
    let y:Lean.Term×List (List Lean.Term):=if t == ")" then (⟨pr.raw.setArg 1 (ap st.head!)⟩,st.tail) else ((d.lookup t).getD (if t.startsWith "@i" then ⟨(na.raw[1][0].setArg 1 (Lean.mkIdent `i)).setArg 3 (Lean.Syntax.mkNumLit (t.drop 2).toString)⟩ else if t.all Char.isDigit then Lean.Syntax.mkNumLit t else ⟨Lean.mkIdent t.toName⟩),st)
    (y.1::y.2.head!)::y.2.tail
  let h:=ts.head!
  let e:=(ap st.head!).raw
  return if h == "R" then ⟨re.raw.setArg 1 e⟩ else if h == "E" then ⟨ex.raw.setArg 1 e⟩ else (k.lookup ("%"++h)).getD re
 `(tactic| ($[$o]*))
theorem ok_both(T:M3 K mg):Fn P w K mg base 1 "both" ["one","other"] iF:=by
 fail "^1 2 4 sR 0 T.t0a Zmh 2";fail "~g E";exact Zmh.nd;fail "~a d";refine Zf7 Zo1 ?_ T.t0C Zxj ?_;fail "~a b i c a g o a T Y";exact Zmh.nd;fail "~a d g k";refine P0 (Zn1 hr.units) ?_ (C6 (pv 0)) ?_;exact nJ nZ (C6 (pv 3));fail "~t f";exact iJ Zjx;fail "~f k";refine P0 (sY hr.units) (C6 (pv 3)) (C6 (pv 0)) ?_;fail "~t f q Z b m c a f s F a b";refine Zso ?_ T.t0H ?_ T.t0x ?_;fail "~a a b l c a c a"
theorem ok_put_unlike(T:M3 K mg):Fn P w K mg base 1 "put_unlike" ["told","row","limit"] L6:=by
 fail "^1 3 3 kZ 0 T.t0b Zfq 3";fail "~g N aV f k aW aX a b i c a";exact Zhb Zzc Zi9
theorem Zc9(T:M3 K mg):Z9 P w K mg base 1 "put_unlike" ["told","row","limit"] "TooMany" B0 oH:=by
 refine(λh=>h:_->Z9 P w K mg base 1 "put_unlike" ["told","row","limit"] "TooMany" B0 (X9 3 3 uY)) (sI (N:=["told","row","limit"]) (k:=0) T.t0b Zfq (by fail "~U3") ?_);intro C hE f cdv A outer s H E hr;unfold uY;fail "~I N aV w av aW aX a b i c a w";refine Zq2 ?_ ?_ ?_;fail "~a";exact Yax (mH.exc T.t0J g9) hE;refine Zmv ?_ Zf0;refine Zt8 ?_;refine qY ?_;refine pj_i (C6 (pv 2)) ?_;exact qY Ybf
theorem ok_heads_with(T:M3 K mg):Fn P w K mg base 1 "heads_with" ["rows","literal"] oF:=by
 fail "^1 2 4 uP 0 T.t0c Zdp 2";fail "~g";refine bL (i:=2) ?_ ?_ ?_ Znd;exact Zdp.nd;fail "~a d g o a J Y";exact Zdp.nd;fail "~a d f k aY";refine kY (C6 (pv 3)) ?_ kW;fail "~u p j b h c a f N";refine nY (C6 (pv 2)) ?_ (sQ hr.units);refine kY (C6 (pv 3)) kW ?_;fail "~u p f";exact iJ (C6 (pv 2))
theorem Zhh(T:M3 K mg):Fn P w K mg base 2 "rows_without" ["rows","name","limit"] Zb6:=by
 fail "^2 3 6 lE 1 T.t0d Zbz 3";have nd:=Zbz.nd;fail "~g 0 e a d g o a J z e a d g U e a d aw O u p j b j b h c a b j b G c a c a a t f q K a b m b ax at 1 u p b l c a a a f ay"
theorem Zgo(T:M3 K mg):Z9 P w K mg base 2 "rows_without" ["rows","name","limit"] "TooMany" B0 Zc7:=by
 refine(λh=>h:_->Z9 P w K mg base 2 "rows_without" ["rows","name","limit"] "TooMany" B0 (X9 3 6 uX)) (sI (N:=["rows","name","limit","told","row","has"]) (k:=1) T.t0d Zbz (by fail "~U3") ?_);intro C hE f cdv A outer s H E hr;unfold uX;have nd:=Zbz.nd;fail "~I 0 e a d w 2 3 a J z e a d g U e a d aw O u p j b j b h c a b j b G c a c a a t f q K a b m b ax at 1 u p b l c a a a I U e a d aw O u p j b j b h c a b j b G c a c a a t w az";refine nE (k:=1) (xn := "TooMany") (ps:=["told","row","limit"]) ?_ ?_ ?_ ?_;fail "~aA V L b m b ax at 1 u p b l c a a a"
theorem Zh9(T:M3 K mg):Fn P w K mg base 2 "rows_joined" ["rows","name","limit"] Zcj:=by
 fail "^2 3 8 lD 1 T.t0e Zb7 3";have nd:=Zb7.nd;fail "~g 0 e a d g o a J z e a d f k ab O u p j b j b h c a b j b G c a c a a t f q K a b m b x b l c a a a g U e a d ac a b i b G c a a g o a";refine Zfw ?_;fail "~ac a b i b h c a a ad e a d f o a aB aC e a d g A e a d ae a b P b af c a a f k ag f q K a b m b x b l c a a a f ay"
theorem Zg7(T:M3 K mg):Z9 P w K mg base 2 "rows_joined" ["rows","name","limit"] "TooMany" B0 Zdo:=by
 refine(λh=>h:_->Z9 P w K mg base 2 "rows_joined" ["rows","name","limit"] "TooMany" B0 (X9 3 8 uT)) (sI (N:=["rows","name","limit","told","row","heads","one","other"]) (k:=1) T.t0e Zb7 (by fail "~U3") ?_);intro C hE f cdv A outer s H E hr;unfold uT;have nd:=Zb7.nd;fail "~I 0 e a d";refine Yba ?_ ?_ ?_;fail "~o a J z e a d f k ab O u p j b j b h c a b j b G c a c a a t f q K a b m b x b l c a a a 2 3 a J z e a d f k ab O u p j b j b h c a b j b G c a c a a t f q K a b m b x b l c a a a w av ab O u p j b j b h c a b j b G c a c a a t w az";refine nE (k:=1) (xn := "TooMany") (ps:=["told","row","limit"]) ?_ ?_ ?_ ?_;fail "~aA V L b m b x b l c a a a I U e a d ac a b i b G c a a w 2 3 a";refine Zfw ?_;fail "~ac a b i b h c a a ad e a d f o a aB aC e a d g A e a d ae a b P b af c a a f k ag f q K a b m b x b l c a a a w 2 3 a aB aC e a d g A e a d ae a b P b af c a a f k ag f q K a b m b x b l c a a a I A e a d ae a b P b af c a a w av ag w az";refine nE (k:=1) (xn := "TooMany") (ps:=["told","row","limit"]) ?_ ?_ ?_ ?_;fail "~aA V L b m b x b l c a a a"
theorem Zot(T:M3 K mg):Fn P w K mg base 1 "held_by" ["row"] Zhu:=by
 fail "^1 1 3 uI 0 T.t0f Zig 1";have nd:=Zig.nd;fail "~g Q e a d y b aD c a g o a J aE e a d f Q e a d";refine G2 Y2 (C6 (pv 1)) ?_;refine nD (cn:=["literal"]) ?_ (kQ (x := "lesser") (cn:=["literal"]) (ci:=[2]) j0) ?_ ?_ ?_;fail "~a T v 4 v";refine G2 Y2 (C6 (pv 0)) ?_;fail "~j b h c a f s";refine kY (C6 (pv 1)) kW ?_;fail "~u p"
theorem Zd4(T:M3 K mg):Fn P w K mg base 3 "last_put_away" ["claim","limit"] iO:=by
 fail "^3 2 5 lC 2 T.t0g Zbm 2";have nd:=Zbm.nd;fail "~g E e a d B a b C c a g aZ aF H C p f A e a d";refine R3 (Zhh T) (hr.mono g9) ?_ ?_;fail "~a b C b l b h c a a a f A e a d";refine R3 (Zh9 T) (hr.mono g9) ?_ ?_;fail "~a b C b l b h c a a a g";refine Zih (i:=3) (cn:=["rows"]) ?_ (kQ (x := "row") (cn:=["rows"]) (ci:=[4]) j0) ?_ ?_ ?_ ?_ ?_ ?_;fail "~a";exact Zfw (C6 (pv 4));intro _ _ _ _ _ _ hcl;fail "~ah aG";refine uC ?_ (λ_=>rfl);refine iM (Zps (by rfl)) ?_ T.t0y Zz0 ?_;fail "~a b";refine nD (cn:=["rows"]) ?_ (Zxq hcl (x := "other") (cn:=["rows"]) (ci:=[1]) j0) ?_ ?_ ?_;fail "~a R";refine R3 (Zot T) (hr.mono g9) ?_ ?_;fail "~a b i c a v 4 v";refine nS (dinf hr.units) (C6 (pv 0)) (C6 (pv 1)) ?_;fail "~t c a";intro _ _ _ _ _ _ hcl;fail "~i e a a f s j b";refine kY ?_ kW ?_;fail "~C u p b F a b a0 a b m c a c a c a a"
theorem Zfy(T:M3 K mg):Z9 P w K mg base 3 "last_put_away" ["claim","limit"] "TooMany" B0 Zby:=by
 refine(λh=>h:_->Z9 P w K mg base 3 "last_put_away" ["claim","limit"] "TooMany" B0 (X9 2 5 vA)) (sI (N:=["claim","limit","name","stay","rows"]) (k:=2) T.t0g Zbm (by fail "~U2") ?_);intro C hE f cdv A outer s H E hr;unfold vA;have nd:=Zbm.nd;fail "~I E e a d B a b C c a w";refine Znp ?_ ?_ ?_;fail "~aF H C p w a1 e a d";refine nE (k:=2) (xn := "TooMany") (ps:=["rows","name","limit"]) ?_ ?_ ?_ ?_;exact(Zgo T);fail "~V L b C b l b h c a a a w a1 e a d";refine nE (k:=2) (xn := "TooMany") (ps:=["rows","name","limit"]) ?_ ?_ ?_ ?_;exact(Zg7 T);fail "~V L b C b l b h c a a a"
theorem ok_put_away(T:M3 K mg):Fn P w K mg base 4 "put_away" ["claim","many","limit"] dS:=by
 fail "^4 3 5 lB 3 T.t0h Zdt 3";have nd:=Zdt.nd;fail "~g a2 e a d g o a W a b h c a z e a d f D e a d a3 a b m b l c a a f ay"
theorem Zgh(T:M3 K mg):Z9 P w K mg base 4 "put_away" ["claim","many","limit"] "TooMany" B0 Zeq:=by
 refine(λh=>h:_->Z9 P w K mg base 4 "put_away" ["claim","many","limit"] "TooMany" B0 (X9 3 5 uM)) (sI (N:=["claim","many","limit","told","name"]) (k:=3) T.t0h Zdt (by fail "~U3") ?_);intro C hE f cdv A outer s H E hr;unfold uM;have nd:=Zdt.nd;fail "~I a2 e a d w 2 3 a W a b h c a z e a d f D e a d a3 a b m b l c a a w";refine Zl8 (i:=3) ?_ ?_ ?_ ?_;fail "~e a d";refine nE (k:=3) (xn := "TooMany") (ps:=["claim","limit"]) ?_ ?_ ?_ ?_;exact(Zfy T);fail "~V L b m b l c a a"
theorem Zo7(T:M3 K mg):Fn P w K mg base 1 "_law_mix" ["cell","k"] Zhn:=by
 fail "^1 2 4 uJ 0 T.t0i Ziz 2";have nd:=Ziz.nd;fail "~g E e a d H y b n b n b n b n b n b n b n c a a a a a a a a4 g D e a d a5 aH ai";exact G2 kX (C6 (pv 0)) G9;refine G2 tY G9 ?_;fail "~5 aI ai";exact G2 tY (C6 (pv 1)) (C6 (pv 1));fail "~aJ g D e a d r a6 g D e a d a5 aI ai";exact G2 tY (C6 (pv 3)) G9;fail "~aJ f s";refine G2 uG ?_ G9;fail "~r a6"
theorem ok_law_digits(T:M3 K mg):Fn P w K mg base 2 "_law_digits" ["cell","many"] lA:=by
 fail "^2 2 6 uR 1 T.t0j Zfn 2";have nd:=Zfn.nd;fail "~g E e a d X g D e a d aK a b i c a g A e a d";refine nS Yaj (C6 (pv 3)) ?_ (U5 _);exact G2 Zmr G9 G9;fail "~g o a W a b h c a 6 e a d f aZ aj aL";exact uC (C6 (pv 4)) (λ_=>rfl);fail "~aM";exact P0 Zlr (C6 (pv 3)) G9 (U5 _);fail "~g q Z b";exact G2 kX (C6 (pv 3)) G9;fail "~c a f D e a d";exact G2 uG (C6 (pv 3)) G9;fail "~f q Z b";refine R3 (Zo7 T) (hr.mono g9) ?_ ?_;fail "~a b i b ak c a a c a f";exact iJ (C6 (pv 2))
theorem ok_law_at(T:M3 K mg):Fn P w K mg base 1 "_law_at" ["script","k"] fT:=by
 fail "^1 2 2 tV 0 T.t0k Zq7 2";fail "~g k";refine P0 Zw4 (C6 (pv 1)) ?_ (U5 _);fail "~B a b i c a f s";exact Z2 Y8 (C6 (pv 0)) (C6 (pv 1)) (λ_ _=>rfl);fail "~f s ai aI aJ B a b i c a"
theorem Zkb(T:M3 K mg):Fn P w K mg base 1 "_law_kinds" ["some","many"] Ze6:=by
 fail "^1 2 5 uL 0 T.t0l Zgd 2";have nd:=Zgd.nd;fail "~g E e a d X g o a W a b h c a Y e a d g A e a d H y b S b S c a a r aN a7 g k aO r C f A e a d H y b S b S c a a r";refine G2 Y2 (C6 (pv 3)) ?_;fail "~C g k aO r C f A e a d H y b S b S c a a";refine Zf7 Zpy ?_ T.t0z Ya6 ?_;fail "~a b";refine nS Zlr ?_ G9 (U5 _);fail "~r aN a7 c a f q Z b x c a f s F a b l c a"
theorem Zou(T:M3 K mg):Fn P w K mg base 3 "_law_row" ["cell","many","wide"] Zh5:=by
 fail "^3 3 6 uE 2 T.t0m Zim 3";have nd:=Zim.nd;fail "~g D e a d 7 a b i b 5 c a a g A e a d X g o a W a b h c a 6 e a d f k";refine P0 Zw4 ?_ ?_ (U5 _);fail "~al a8 a9 5";refine G2 Y2 (C6 (pv 2)) ?_;fail "~r";exact Z2 Y8 (C6 (pv 3)) G9 (λ_ _=>rfl);fail "~f q";refine Zlm Uv Uw Zdk (C6 (pv 4)) ?_;fail "~b H y b";exact G2 Y2 (C6 (pv 5)) G9;fail "~b aP";exact G2 Zf4 G9 (C6 (pv 5));fail "~c a a r";refine G2 uG ?_ ?_;fail "~a8 a9 5 c a f s F a b x c a"
theorem Zkd(T:M3 K mg):Fn P w K mg base 4 "_law_claim" ["script","most"] Zfe:=by
 fail "^4 2 7 uK 3 T.t0n Zge 2";have nd:=Zge.nd;fail "~g E e a d 7 a b 8 a b i b n c a a b n c a a g D e a d H y b al M 5 b";refine G2 Zf4 (C6 (pv 1)) ?_;fail "~r M b h c a a a r M g A e a d";refine R3 (Zkb T) (hr.mono g9) ?_ ?_;fail "~a b";refine kY (C6 (pv 2)) ?_ kW;exact Znm G9;fail "~b aQ a b n b m c a a c a a g U e a d H y b r M b r M b am r M c a a a r M g";refine Zln (i:=6) (cn:=["script","kinds"]) ?_ (kQ (x := "k") (cn:=["script","kinds"]) (ci:=[0,4]) j0) ?_ ?_ ?_ ?_ ?_ ?_;fail "~a W a b ak c a v 4 v";refine R3 (Zou T) (hr.mono g9) ?_ ?_;fail "~a b 8 a b h b";exact G2 Y2 G9 (C6 (pv 0));fail "~c a a b B a b l c a b n c a a a e a a g k an r M f";refine Zln (i:=6) (cn:=[]) ?_ (kQ (x := "row") (cn:=[]) (ci:=[]) j0) ?_ ?_ ?_ ?_ ?_ ?_;fail "~a";exact nK (C6 (pv 6));fail "~v ah";refine P0 (Zm7 hr.units) (C6 (pv 0)) ?_ (U5 _);fail "~aD v i e a a f s j b x b F a b P c a c a a"
theorem Zj2(T:M3 K mg):Fn P w K mg base 1 "_law_joined" ["row","other","name"] Zc5:=by
 fail "^1 3 5 uQ 0 T.t0o Zdv 3";fail "~g";refine bL (i:=3) ?_ ?_ ?_ Zpt;exact Zdv.nd;fail "~a d g o a R";exact G2 Y2 (C6 (pv 0)) (C6 (pv 1));fail "~z";exact Zdv.nd;fail "~a d f k";refine P0 (Zm7 hr.units) ?_ (C6 (pv 2)) (U5 _);fail "~aK a b x c a g k";refine P0 iinf ?_ (C6 (pv 3)) ?_;exact nJ nZ (C6 (pv 4));fail "~t f";exact iJ Zjx;fail "~f N";exact nY (C6 (pv 3)) (C6 (pv 4)) rW;fail "~f s F a b";refine Zoj ?_ ?_ T.t0H ?_ T.t0x ?_;fail "~a a a b m c a c a"
theorem Zgt(T:M3 K mg):Fn P w K mg base 2 "_law_rows_left" ["kinds","rows"] Zcr:=by
 fail "^2 2 7 uZ 1 T.t0p Zd2 2";have nd:=Zd2.nd;fail "~g E e a d B a b i c a g 0 e a d g k aF aN p g o a T z e a d f N";refine nY (C6 (pv 3)) ?_ (sQ hr.units);fail "~F a b";refine nD (cn:=["name"]) ?_ (kQ (x := "one") (cn:=["name"]) (ci:=[2]) j0) ?_ ?_ ?_;fail "~a";exact nK (C6 (pv 4));fail "~v ah";refine P0 (Zm7 hr.units) ?_ (C6 (pv 1)) (U5 _);fail "~aK a b i c a v i c a f s ba a b m c a g o a T z e a d g k aj aL";refine P0 (sY hr.units) (C6 (pv 2)) (C6 (pv 4)) ?_;fail "~t aM";refine P0 (sY hr.units) ?_ (C6 (pv 4)) ?_;fail "~bb t f N";exact nY (C6 (pv 3)) (C6 (pv 4)) (sQ hr.units);fail "~f o a T 6 e a d f k aj aL";refine P0 (Zn1 hr.units) (C6 (pv 2)) (C6 (pv 4)) ?_;fail "~t aM";refine P0 (Zn1 hr.units) ?_ (C6 (pv 5)) ?_;fail "~bb t g";refine bL (i:=6) ?_ ?_ ?_ ?_;fail "~e a d";refine R3 (Zj2 T) (hr.mono g9) ?_ ?_;fail "~a b x b ak b l c a a a f k";exact P0 Zp2 (C6 (pv 6)) Zjx (U5 _);fail "~f N";exact nY (C6 (pv 3)) (C6 (pv 6)) (sQ hr.units);fail "~f s ba a b m c a"
theorem Zgs(T:M3 K mg):Fn P w K mg base 1 "_law_holds_one" ["row","others"] Zcq:=by
 fail "^1 2 3 uW 0 T.t0q Zd3 2";fail "~g o a T aE";exact Zd3.nd;fail "~a d f k aY";refine nD (cn:=["row"]) ?_ (kQ (x := "one") (cn:=["row"]) (ci:=[0]) j0) ?_ ?_ ?_;fail "~a";exact nK (C6 (pv 2));fail "~v ah";refine P0 (sY hr.units) (C6 (pv 0)) (C6 (pv 1)) ?_;fail "~t v i X f 9 f 9"
theorem Zlg(T:M3 K mg):Fn P w K mg base 2 "_law_least" ["rows"] Zfa:=by
 fail "^2 1 3 uN 1 T.t0r Zen 1";fail "~g Q";exact Zen.nd;fail "~a d X g o a R";refine Zpe ?_ T.t0H ?_ T.t0B hr.units ?_;fail "~a a b i c a aE";exact Zen.nd;fail "~a d f k aG";refine uC ?_ (λ_=>rfl);refine R3 (Zgs T) (hr.mono g9) ?_ ?_;fail "~a b l b h c a a f q bc b l c a f s a0 a b h c a"
theorem Zht(T:M3 K mg):Fn P w K mg base 3 "_law_put_away" ["claim"] Zdb:=by
 fail "^3 1 6 uU 2 T.t0s Zek 1";have nd:=Zek.nd;fail "~g Q e a d y b i c a g E e a d y b n c a g";refine Zqt Tcx ?_ ?_;fail "~aR ao bd p aD g";refine Zjj ?_ ?_;fail "~bd p aS a aT z e a d aU 6 e a d g D e a d";refine R3 (Zgt T) (hr.mono g9) ?_ ?_;fail "~a b x b ak c a a g q Z b aQ a b bj p b B a b m c a c a a c a f q bc b j b 1 u p b F a b";refine R3 (Zlg T) (hr.mono g9) ?_ ?_;fail "~a b m c a c a c a a c a f s j b h b l c a a"
theorem Zia(T:M3 K mg):Fn P w K mg base 5 "_law_refused" ["claim","many","most"] Zcn:=by
 fail "^5 3 6 uS 4 T.t0t Zez 3";have nd:=Zez.nd;obtain⟨cV_TooMany,hm_TooMany,RR_TooMany⟩:=T.t0K;obtain⟨C_TooMany,TC_TooMany,hn_TooMany,he_TooMany⟩:=RR_TooMany "TooMany" g9;obtain⟨u0_0,u0_1,J0,v0_0,v0_1⟩:=T.xt_0;obtain⟨c_NotWon,m_NotWon,j_NotWon⟩:=T.t0L;obtain⟨u1_0,u1_1,u1_2,u1_3,J1,v1_0,v1_1,v1_2,v1_3⟩:=T.xt_1;obtain⟨cV_ClaimError,hm_ClaimError,RR_ClaimError⟩:=T.t0J;obtain⟨C_ClaimError,TC_ClaimError,hn_ClaimError,he_ClaimError⟩:=RR_ClaimError "TooMany" g9;fail "~g D e a d X g be e a d g";refine Zup (iE:=5) (k:=4) (C:=C_ClaimError) (cV:=cV_ClaimError) (xn := "TooMany") (av:=B0) (ps:=["claim","many","limit"]) ?_ ?_ ?_ ?_ ?_ ?_ ?_ ?_ ?_ ?_ ?_ ?_;fail "~f q aa a b i b h b l c a a a";exact(Zgh T);exact TC_ClaimError.bound;exact hn_ClaimError;fail "~L b i b h b l c a a a";exact hm_ClaimError;exact he_ClaimError;fail "~e a a";intro ex;fail "~g D e a d y b";refine Zur (t:=[("TooMany",B1)]) (L:=["TooMany"]) ?_ ?_ (C6 (pv 5)) ?_ ?_ ?_;fail "~ap a";exact T.x_v;fail "~aq";exact T.t0w;fail "~b";refine Zna (t:=[("TooMany",B2)]) (cs:=[u1_0,u1_1,u1_2,u1_3]) (L:=["TooMany"]) ?_ ?_ (C6 (pv 5)) ?_ ?_ ?_ ?_;fail "~ap a bk";exact J1;exact(by decide:4<=1000);fail "~aq b";refine Zyd (t:=[("TooMany",B2)]) (c:=c_NotWon) (L:=["TooMany"]) ?_ ?_ (C6 (pv 5)) ?_ ?_ ?_;fail "~ap a";exact m_NotWon;exact j_NotWon;fail "~aq c a a a f q";refine Zlm Uv Uw Zdk (C6 (pv 3)) ?_;fail "~b";refine Zna (t:=[("TooMany",B2)]) (cs:=[u0_0,u0_1]) (L:=["TooMany"]) ?_ ?_ (C6 (pv 5)) ?_ ?_ ?_ ?_;fail "~ap a";exact(nB (by rfl) v0_0 (nB (by rfl) v0_1 Zp7));exact J0;exact(by decide:2<=1000);fail "~aq c a g";refine Zqg (k:=4) (C:=C_TooMany) (cV:=cV_TooMany) (xn := "TooMany") (av:=B0) (ps:=["claim","many","limit"]) ?_ ?_ ?_ ?_ ?_ ?_ ?_ ?_;fail "~f q aa a b i b h b l c a a a";exact(Zgh T);exact TC_TooMany.bound;fail "~L b i b h b l c a a a";exact hm_TooMany;exact he_TooMany;intro ex;fail "~f be e a d f s";refine Zyp (C6 (pv 4)) ?_;refine Zxh ?_;refine nS (tM hr.units) (C6 (pv 3)) ?_ (U5 _);fail "~y b ar b ar b ar b ar c a a a a"
theorem Zgr(T:M3 K mg):Fn P w K mg base 1 "_law_many_rows" ["claim","one"] Zcp:=by
 fail "^1 2 5 uV 0 T.t0u Zd1 2";have nd:=Zd1.nd;fail "~g";refine Zjj (C6 (pv 0)) ?_;fail "~aS a aT Y e a d aU z e a d g k aj";refine Zz7 ?_ ?_;fail "~an a4";refine Zx6 ?_;fail "~an B a b m c a f";exact iJ (C6 (pv 0));fail "~g E e a d F a b";refine nD (cn:=[]) ?_ (kQ (x := "row") (cn:=[]) (ci:=[]) j0) ?_ ?_ ?_;fail "~a R 1 u am r bf v 4 v F a b";refine nD (cn:=[]) ?_ (Ybh j0) ?_ ?_ ?_;fail "~a J v 4 v";exact nJ nZ (C6 (pv 0));fail "~c a c a f s j b m b aH";exact G2 Y2 (C6 (pv 4)) (C6 (pv 2));fail "~am r bf c a a"
theorem Ya0(T:M3 K mg):Fn P w K mg base 6 "law" ["script"] nA:=by
 fail "^6 1 8 sJ 5 T.t0v Zwc 1";have nd:=Zwc.nd;fail "~g Q e a d";refine R3 (Zkd T) (hr.mono g9) ?_ ?_;fail "~a b i b n c a a g k aO r ao 7 a b 8 a b i b n c a a b n c a a f Q e a d j b aH j b S c a B a b as c a b as c a a g Q e a d";refine R3 (Zgr T) (hr.mono g9) ?_ ?_;fail "~a b h b ao 7 a b 8 a b i b n c a a b n c a a c a a g";refine Zjj ?_ ?_;refine R3 (Zht T) (hr.mono g9) ?_ ?_;fail "~a b h c a aS a aT z e a d aU 6 e a d g E e a d ao 7 a b 8 a b i b n c a a b n c a a g o a R bg a a a b y b";refine iM (Zqo (by rfl)) ?_ T.t0E Yaf ?_;fail "~a b n b B a b as c a c a a b";refine G2 kX (C6 (pv 2)) ?_;fail "~B a b x c a b B a b as c a c a a a c a Y e a d g o a R y b n b aQ a b n b au c a a c a a ad e a d f k aR aa a b h b m b P c a a a bh f 9 g k an au f o a R bg a a a b y b n b am al bi aP au b aP au c a a a c a ad e a d f k aG";refine uC ?_ (λ_=>rfl);refine R3 (Zia T) (hr.mono g9) ?_ ?_;fail "~a b h b m b P c a a a f 9 g";refine bL (i:=7) ?_ ?_ ?_ ?_;fail "~e a d al bi";exact G2 Y2 (C6 (pv 3)) G9;fail "~f k aR aa a b";exact Z2 Y8 (C6 (pv 4)) (C6 (pv 7)) (λ_ _=>rfl);fail "~b";exact G2 Zf4 (C6 (pv 3)) (C6 (pv 7));fail "~b n c a a a bh f 9 f s";refine nS (tM hr.units) ?_ (C6 (pv 1)) (U5 _);fail "~aa a b h b n b n c a a a"
theorem Yae(T:M3 K mg):Fn P w K mg base 6 "law" ["script"] nA:=by
 exact Ya0 T
end
theorem walk{l:Tbz}{q:Vl}{loose:List Str}{XP:(Str->Option Vb)->C5->Prop}{YP:Vs->C5->Prop}{d:DefRec}{K:Params->Xa}(hn:l.most=B3 63)(hdf:d.params.defaults=[])
  (hd:d.name = "law")(hY:∀(w:Vs)(h:C5),YP w h->(K w.params).In h)(hT:∀(w:Vs)(mg:Str->Option Vb)(h:C5),(K w.params).In h->h.Ns Vn mg->M3 (K w.params) mg)
  (pure:∀ns:List Int,ns.length<=63->∃c5,nA [.fl (ns.map .int)] []=B3 (.bl B1,c5)):Wgb q loose XP YP l.row.toRowW d [] (λf vs=>Tco f vs):=by
 refine L2.walk_ofK (n:=63) (k:=6) (x := "script") (CX:=eS) (sp:=Yaz nA) hn g9 hdf ⟨rfl,by decide,by decide,rfl⟩ hY (λw mg fa h KX G hmg=>?_) (Zp0 pure) (λ_ _ _ _ z=>z);have T:=hT w mg h KX G;obtain⟨f,fd,F,hm⟩:=T.t0v;have e0:f=fa:=by rw[hd]at hmg;rw[hm]at hmg;cases hmg;rfl
 subst e0;have B:=F.binds (ps:=["script"]) (λ_ _ _ _ _ _ us hl=>by obtain⟨_,rfl⟩:=us1 hl;rfl);refine⟨fd,λs u=>?_,λbase kb nb=>?_⟩
 ·obtain⟨oc,od,kV,d6,pm,an,cdv,ct,osl,rfl,lk,hcd⟩:=F.ex;exact .of_eq rfl
 ·obtain⟨f',fd',G1,hb,hk,hm',oc',od',osl',lk'⟩:=(Yae (P:=l.prog) (w:=w) (base:=base) T).ex;have e1:f'=f:=by rw[hm]at hm';cases hm';rfl
  subst e1;have e2:fd'=fd:=by
   obtain⟨oc,od,kV,d6,pm,an,cdv,ct,osl,e3,lk,hcd⟩:=F.ex;rw[lk]at lk';have e4:=B3.inj lk';injection e4 with _ _ e5 _;injection e5 with e6;exact e6.symm
  subst e2;exact G1
end K08
open PySem PySem.W PyProof.Rows L2 DL
local macro_rules | `(tactic| fail $s:str)=>do
 if s.getString.take 1 != "=" then Lean.Macro.throwUnsupported
 let i:=Lean.mkIdent
 match (s.getString.drop 1).toString with
  | "T" => `(tactic| (show Tf (L2.KOf $(i `KX)) _ _ _; dsimp only[L2.KOf]; refine' qG $(i `KX) $(i `G) ?a ?l ?c ?k; (case a=>k_is); (case l=>k_is); (case c=>k_is); (case k=>k_is)))
  | "N" => `(tactic| (refine' PySem.W.mg_none_of $(i `KX) $(i `G) ?z; (case z=>k_is)))
  | _=>Lean.Macro.throwUnsupported
set_option maxRecDepth 100000 in
set_option maxHeartbeats 0 in
theorem PySem.Challenge.cw_allsome_k36_names_put_away_holds : PySem.Challenge.rw_allsome_k36_names_put_away.Holds := by
 w_on;o_law;refine holds_open (q:=(PySem.Challenge.vwOf PySem.Challenge.pw_allsome_k36_names_put_away)) (loose:=[]) (Xt:=PySem.Challenge.xt0) (XP:=XL (PySem.Challenge.vwOf PySem.Challenge.pw_allsome_k36_names_put_away) []) (Yf:=Hook.obs PySem.Challenge.hk0) (Ya:=Hook.val PySem.Challenge.hk0) (YP:=InK PySem.Challenge.mk0.heap_39) (N:=5476) PySem.Challenge.left0 (Hook.of PySem.Challenge.hk0) (Hook.keeps PySem.Challenge.hk0) (λs e=>xl_of s (Wfw.mp e).1) XL.keeps (by rfl) (by rfl) (by rfl) (λs e=>recFacts_of (Wfw.mp e).2) (by rfl) (by assumption) j0 ⟨rfl,rfl,rfl,rfl,rfl,by decide +kernel⟩ ?hw ?hc
 (case hw=>w_witness2)
 k_fill
 refine K08.walk (l:=PySem.Challenge.rw_allsome_k36_names_put_away) rfl rfl rfl (λw h Y=>Y) ?T K08.pure_law
 case T=>
  intro w mg h KX G;have t0J:mH (L2.KOf KX) mg "ClaimError" ["TooMany"]:=by
   dsimp only[L2.KOf]
   refine' ⟨_,Zm2 KX G ?za0 ?zf0 ?zp0 ?zq0 (Zsj KX G ?zb)⟩
   (case zb=>k_is);(case za0=>k_is);(case zf0=>k_is);(case zp0=>kernel_rfl);(case zq0=>kernel_rfl)
  have t0K:mH (L2.KOf KX) mg "TooMany" ["TooMany"]:=by
   dsimp only[L2.KOf]
   refine' ⟨_,Zm2 KX G ?za0 ?zf0 ?zp0 ?zq0 (Zsj KX G ?zb)⟩
   (case zb=>k_is);(case za0=>k_is);(case zf0=>k_is);(case zp0=>kernel_rfl);(case zq0=>kernel_rfl)
  have x_l:hV (L2.KOf KX) ["TooMany"]:=by
   dsimp only[L2.KOf]
   refine' Zxw ?za0 ?zg0 ?zh0 ?zi0 ?zj0 ?zl0 ?zm0 ?zn0 ?zo0 (Yc1)
   (case za0=>k_is);(case zg0=>k_is);(case zh0=>k_is);(case zi0=>k_is);(case zj0=>k_is);(case zl0=>k_is);(case zm0=>k_is);(case zn0=>k_is);(case zo0=>k_is)
  have t0L:∃c,mg "NotWon" = B3 (.ref c)/\gM (L2.KOf KX) (.ref c) [("TooMany",B2)]:=by
   dsimp only[L2.KOf]
   refine' ⟨_,kP KX G ?zc,Zmz ?za0 ?zs0 (Zsz)⟩
   (case zc=>k_is);(case za0=>k_is);(case zs0=>kernel_rfl)
  have x_v:gM (L2.KOf KX) (.type "ValueError") [("TooMany",B1)]:=by
   dsimp only[L2.KOf]
   refine' Zmz ?za0 ?zs0 (Zsz)
   (case za0=>k_is);(case zs0=>kernel_rfl)
  have xt_0:∃c0 c1,jO (L2.KOf KX) [c0,c1] [("TooMany",B2)]/\mg "NoText" = B3 (.ref c0)/\mg "NoStep" = B3 (.ref c1):=by
   dsimp only[L2.KOf]
   refine' ⟨_,_,Zmx ?za0 ?zs0 (Zqb),kP KX G ?zc0,kP KX G ?zc1⟩
   (case zc0=>k_is);(case zc1=>k_is);(case za0=>k_is);(case zs0=>kernel_rfl)
  have xt_1:∃c0 c1 c2 c3,jO (L2.KOf KX) [c0,c1,c2,c3] [("TooMany",B2)]/\mg "NoBack" = B3 (.ref c0)/\mg "NoLine" = B3 (.ref c1)/\mg "NoPick" = B3 (.ref c2)/\mg "NoRow" = B3 (.ref c3):=by
   dsimp only[L2.KOf]
   refine' ⟨_,_,_,_,Zmx ?za0 ?zs0 (Zqb),kP KX G ?zc0,kP KX G ?zc1,kP KX G ?zc2,kP KX G ?zc3⟩
   (case zc0=>k_is);(case zc1=>k_is);(case zc2=>k_is);(case zc3=>k_is);(case za0=>k_is);(case zs0=>kernel_rfl)
  exact⟨by fail "=T",by fail "=T",by fail "=T",by fail "=T",by fail "=T",by fail "=T",by fail "=T",by fail "=T",by fail "=T",by fail "=T",by fail "=T",by fail "=T",by fail "=T",by fail "=T",by fail "=T",by fail "=T",by fail "=T",by fail "=T",by fail "=T",by fail "=T",by fail "=T",by fail "=T",by fail "=N",by fail "=N",by fail "=N",by fail "=N",by fail "=N",by fail "=N",by fail "=N",by fail "=N",by fail "=N",by fail "=N",by fail "=N",by fail "=N",by fail "=N",t0J,t0K,x_l,t0L,x_v,xt_0,xt_1⟩
