import PyProof.Rows.All
import Wide.All
import OpenK.AllK
import Wide.FinOn
import Lean
import PyProof.EqAt
import PyProof.EqKinds
import PyProof.TupleCall
import PySem.Challenge.RW_rimread_k27_lenses
local macro_rules|`(tactic|show $t:term)=>`(tactic|refine $t)
local macro_rules | `(tactic|rfl')=> `(tactic|decide +kernel)
local macro_rules | `(tactic|lia)=>`(tactic|first|lia -verbose|omega)
theorem o_{p:Prop}(h:p:=by lia):p:=h
theorem d_{p:Prop}(h:p:=by decide):p:=h
theorem r_{p:Prop}(h:p:=by rfl'):p:=h
theorem s_{p:Prop}(h:p:=by simp):p:=h
set_option Elab.async false
set_option linter.all false
set_option maxRecDepth 100000
set_option maxHeartbeats 4000000
set_option compiler.extract_closed false
def Aa_:=@List.getElem?_eq_getElem
def Ab_:=@List.length_map
def Ac_:=@PySem.wpAny_bind
def Ad_:=@List.getD_eq_getElem?_getD
def Ae_:=@List.getElem?_eq_some_iff
def Af_:=@List.length_append
def Ag_:=@List.getElem?_map
def Ah_:=@PySem.Heap.get?_push_of_some
def Ai_:=@Nat.le_refl
def Aj_:=@PySem.wpAny_pure
def Ak_:=@List.mem_singleton
def Al_:=@List.getElem?_append_left
def Am_:=@List.mem_of_getElem?
def An_:=@List.mem_cons_of_mem
def Ao_:=@List.map_append
def Ap_:=@List.getElem?_append_right
def Aq_:=@List.mem_append
def Ar_:=@List.mem_cons_self
def As_:=@List.mem_map
def At_:=@List.size_toArray
def Au_:=@Option.some.inj
def Av_:=@List.mem_cons
def Aw_:=@PySem.Heap.lt_size
def Ax_:=@PySem.Heap.get?_push_size
def Ay_:=@List.map_cons
def Az_:=@Nat.zero_le
def AA_:=@PySem.PassesOwn.never
def AB_:=@PySem.F.plainAttrs_list
def AC_:=@Int.toNat_natCast
def AD_:=@List.mem_iff_getElem
def AE_:=@Nat.ne_of_lt
def AF_:=@List.flatten_cons
def AG_:=@Nat.le_trans
def AH_:=@Nat.le_of_lt
def AI_:=@PySem.F.slot_list_append
def AJ_:=@PySem.F.type_list_append
def AK_:=@Nat.lt_of_lt_of_le
def AL_:=@List.not_mem_nil
def AM_:=@List.nodup_append
def AN_:=@List.mem_append_left
def AO_:=@List.mem_append_right
def AP_:=@decide_eq_false
def AQ_:=@Option.map_eq_some_iff
def AR_:=@Bool.false_ne_true
def AS_:=@List.length_singleton
def AT_:=@List.flatten_append
def AU_:=@List.mem_iff_getElem?
def AV_:=@List.nodup_cons
def AW_:=@List.map_map
def AX_:=@Int.emod_lt_of_pos
def AY_:=@List.eq_nil_of_length_eq_zero
def AZ_:=@decide_eq_true
def A0_:=@PySem.Around.in1_units
def A1_:=@List.getElem?_inj
def A2_:=@Int.emod_nonneg
def A3_:=@List.mem_range
def A4_:=@List.length_cons
def A5_:=@PySem.wpAny_holding
def A6_:=@PySem.Heap.get?_update_other
def A7_:=@List.count_pos_iff
def A8_:=@List.nodup_nil
def A9_:=@Nat.lt_succ_of_lt
def Ba_:=@List.getElem?_eq_none
def Bb_:=@Prod.ext
def Bc_:=@Nat.lt_irrefl
def Bd_:=@PyProof.Rows.callWith_type1
def Be_:=@List.mem_filter
def Bf_:=@List.length_take
def Bg_:=@List.getElem_mem
def Bh_:=@Nat.not_lt_zero
def Bi_:=@List.append_assoc
def Bj_:=@of_decide_eq_true
def Bk_:=@Array.perm_iff_toList_perm
def Bl_:=@List.length_reverse
def Bm_:=@List.getLast?_eq_getElem?
def Bn_:=@List.length_range
def Bo_:=@PySem.wpAny_truthy_bool
def Bp_:=@List.take_of_length_le
def Bq_:=@PySem.Around.under_plainId
def Br_:=@Array.getD_eq_getD_getElem?
def Bs_:=@List.map_congr_left
def Bt_:=@Nat.le_add_right
def Bu_:=@PySem.wpAny_mono
def Bv_:=@PySem.mem_of_lookup
def Bw_:=@List.count_append
def Bx_:=@PySem.wpAny_newObj_type
def By_:=@List.append_nil
def Bz_:=@PySem.codeAny_builtin
def BA_:=@PySem.wpAny_loadPart'
def BB_:=@List.length_pos_iff
def BC_:=@List.filterMap_cons
def BD_:=@List.pairwise_map
def BE_:=@PySem.Paired.length
def BF_:=@List.take_append_drop
def BG_:=@List.length_drop
def BH_:=@List.sum_cons
def BI_:=@PySem.plainId_quiet
def BJ_:=@List.take_succ
def BK_:=@List.pairwise_iff_getElem
def BL_:=@List.mem_flatten
def BM_:=@Bool.and_eq_true
def BN_:=@Nat.lt_of_le_of_lt
def BO_:=@Bool.false_eq_true
def BP_:=@List.length_filterMap_le
def BQ_:=@List.dropLast_concat_getLast
def BR_:=@List.mem_of_getLast?
def BS_:=@PySem.F.plainAttrs_dict
def BT_:=@List.getElem?_set
def BU_:=@List.length_set
def BV_:=@Array.length_toList
def BW_:=@PySem.wpAny_call_entry
def BX_:=@Nat.succ_le_succ
def BY_:=@List.filter_append
def BZ_:=@PySem.wpAny_Call_Name_kw
def B0_:=@List.drop_eq_getElem_cons
def B1_:=@Nat.sub_self
def B2_:=@List.count_cons
def B3_:=@PySem.Heap.get?_none_of_le
def B4_:=@List.find?_cons
def B5_:=@Int.zero_add
def B6_:=@PySem.wpAny_typeNameOfWhole_itemiter
def B7_:=@List.getLast?_append
def B8_:=@Decidable.not_not
def B9_:=@PySem.F.slot_dict_itemiterator_next
def Ca_:=@List.getElem?_range
def Cb_:=@if_false
def Cc_:=@List.lookup_cons
def Cd_:=@PySem.Heap.size_push
def Ce_:=@PySem.F.plain_min_loop
def Cf_:=@Nat.mod_lt
def Cg_:=@Nat.not_lt
def Ch_:=@PySem.sizeLine_eq
def Ci_:=@List.mem_filterMap
def Cj_:=@of_decide_eq_false
def Ck_:=@PyProof.Rows.F.plain_set_update_loop
def Cl_:=@List.getElem?_reverse
def Cm_:=@PySem.wpAny_passesOwn
def Cn_:=@List.forIn_cons
def Co_:=@List.length_filter_le
def Cp_:=@PyProof.Rows.get?_update_seq
def Cq_:=@PySem.Heap.get?_push_ne
def Cr_:=@PySem.wpAny_typeNameOf_itemiter
def Cs_:=@PySem.wpAny_seqItems
def Ct_:=@Nat.mod_eq_of_lt
def Cu_:=@List.ext_getElem
def Cv_:=@beq_eq_false_iff_ne
def Cw_:=@PySem.Heap.SameBut.update
def Cx_:=@List.any_cons
def Cy_:=@PyProof.Rows.listUpdate_at
def Cz_:=@List.count_eq_zero
def CA_:=@List.range_succ
def CB_:=@Option.map_some
def CC_:=@Bool.eq_iff_iff
def CD_:=@PySem.wpAny_setField_rec
def CE_:=@Sum.inr.inj
def CF_:=@PySem.wpAny_pyNext_list_item
def CG_:=@PySem.wpAny_field
def CH_:=@List.length_eq_one_iff
def CI_:=@Array.getElem?_eq_none
def CJ_:=@PySem.wpAny_pyIter_list
def CK_:=@Option.isSome_map
def CL_:=@Nat.zero_add
def CM_:=@Nat.ne_of_gt
def CN_:=@PySem.wpAny_pyNext_list_end
def CO_:=@List.map_nil
def CP_:=@PySem.Heap.get?_update_self
def CQ_:=@PySem.F.slot_dict_setdefault
def CR_:=@PySem.wpAny_tryCatch
def CS_:=@List.sublist_flatten_of_mem
def CT_:=@List.take_length
def CU_:=@Nat.lt_succ_self
def CV_:=@PySem.call_meets
def CW_:=@List.any_eq_true
def CX_:=@PySem.wpAny_isInstance
def CY_:=@List.nodup_iff_pairwise_ne
def CZ_:=@PySem.wpAny_newList
def C0_:=@List.map_take
def C1_:=@Nat.le_succ
def C2_:=@PySem.wpAny_specialOf
def C3_:=@List.filter_map
def C4_:=@decide_eq_true_iff
def C5_:=@PySem.codeAny_mono
def C6_:=@PySem.wpAny_typeOf
def C7_:=@PySem.tupleKind_room_in1
def C8_:=@PyProof.Rows.F.entry_set_update_loop
def C9_:=@PySem.wpAny_rule
def Da_:=@PySem.wpAny_callSpecial?_slot
def Db_:=@PySem.W.cellsFrom_some
def Dc_:=@PySem.Calls.callWith_builtin
def Dd_:=@PySem.wpAny_letGo
def De_:=@PySem.wpAny_isOneOf_itemiter
def Df_:=@List.map_drop
def Dg_:=@List.perm_append_comm
def Dh_:=@List.length_replicate
def Di_:=@List.contains_iff_mem
def Dj_:=@PySem.isSubtype_tuple_tuple
def Dk_:=@PySem.wpAny_notOrdered_dict
def Dl_:=@PyProof.Rows.slot_tuple_getitem
def Dm_:=@PySem.F.args_dict_itemiterator_next_1
def Dn_:=@PySem.wpAny_execs_nil
def Do_:=@List.of_mem_zip
def Dp_:=@PySem.SeqAt.EqAt.same
def Dq_:=@PySem.pushCells_keeps
def Dr_:=@PyProof.Rows.listItems_at
def Ds_:=@PyProof.Rows.entry_list_sort
def Dt_:=@PySem.F.entry_dict_itemiterator_next
def Du_:=@PySem.F.slot_list_lt
def Dv_:=@List.nil_append
def Dw_:=@List.getLast?_eq_some_getLast
def Dx_:=@List.take_append_of_le_length
def Dy_:=@List.take_succ_cons
def Dz_:=@or_false
def DA_:=@PySem.wpAny_newTuple
def DB_:=@PyProof.Rows.slot_list_sort
def DC_:=@List.mem_zipIdx_iff_getElem?
def DD_:=@PySem.F.type_dict_setdefault
def DE_:=@PySem.Paired.snoc
def DF_:=@PyProof.Rows.seqEpoch_at
def DG_:=@List.not_lt
def DH_:=@Nat.log2_lt
def DI_:=@List.set_cons_zero
def DJ_:=@List.set_cons_succ
def DK_:=@PyProof.Rows.assignInOrder_cons
def DL_:=@PySem.Calls.spliced_cons
def DM_:=@PySem.SeqAt.EqAt.str_str
def DN_:=@PySem.SeqAt.EqAt.of_refs
def DO_:=@PySem.wpAny_tupleItemsOf
def DP_:=@Array.forIn_toList
def DQ_:=@List.mem_replicate
def DR_:=@List.cons.inj
def DS_:=@PySem.Calls.Name_function_global
def DT_:=@PySem.wpAny_standAt
def DU_:=@PySem.wpAny_newFunctionEnv_cells
def DV_:=@decide_eq_true_eq
def DW_:=@List.reverse_cons
def DX_:=@PySem.Calls.spliced_nil
def DY_:=@PySem.wpAny_dictEntries
def DZ_:=@Int.emod_eq_of_lt
def D0_:=@PySem.typeIs_str
def D1_:=@List.getElem?_eq_none_iff
def D2_:=@PyProof.Rows.size_push'
def D3_:=@Array.getElem?_eq_getElem
def D4_:=@List.mem_or_eq_of_mem_set
def D5_:=@List.map_flatten
def D6_:=@List.Pairwise.imp_of_mem
def D7_:=@Option.isSome_iff_exists
def D8_:=@PySem.wpAny_getItem_list_slice
def D9_:=@PyProof.noPylong_of_log2
def Ea_:=@PySem.wpAny_comprehension_free
def Eb_:=@beq_self_eq_true
def Ec_:=@Nat.lt_trans
def Ed_:=@PySem.wpAny_Dict_empty
def Ee_:=@PySem.Heap.size_update
def Ef_:=@PySem.F.slot_dict_values
def Eg_:=@PySem.F.entry_min_loop
def Eh_:=@PySem.F.slot_list_insert
def Ei_:=@PySem.F.type_list_insert
def Ej_:=@decide_eq_decide
def Ek_:=@PySem.F.slot_dict_update
def El_:=@PySem.F.type_dict_update
def Em_:=@List.getElem?_cons_succ
def En_:=@List.getLast?_cons_cons
def Eo_:=@List.getElem?_replicate
def Ep_:=@PySem.wpAny_Call_method0_late
def Eq_:=@PySem.F.slot_dict_items
def Er_:=@List.pairwise_singleton
def Es_:=@PySem.F.slot_list_count
def Et_:=@List.filter_cons_of_neg
def Eu_:=@List.filter_cons_of_pos
def Ev_:=@Nat.min_eq_left
def Ew_:=@PySem.wpAny_dictEpoch
def Ex_:=@PySem.wpAny_updateSeq
def Ey_:=@List.length_pos_of_mem
def Ez_:=@Prod.mk.inj
def EA_:=@List.head?_eq_getElem?
def EB_:=@List.getElem?_set_self
def EC_:=@PySem.wpAny_pyNext_range_end
def ED_:=@PySem.wpAny_pyIter_rangeiter
def EE_:=@PySem.seqIndex_of
def EF_:=@PyProof.Rows.subscriptTail_builtinR
def EG_:=@PySem.wpAny_Assign_Subscript
def EH_:=@PyProof.Rows.call_function_entry_kw
def EI_:=@PySem.F.slot_dict_items_iter
def EJ_:=@List.drop_eq_nil_of_le
def EK_:=@PySem.F.args_list_lt_2
def EL_:=@List.getElem_set_self
def EM_:=@List.getLast?_reverse
def EN_:=@List.filterMap_append
def EO_:=@PySem.wpAny_isTrue_Compare1
def EP_:=@Array.getElem?_toList
def EQ_:=@List.forIn_nil
def ER_:=@PySem.builtinLookup_eq_fast
def ES_:=@PySem.F.entry_list_lt
def ET_:=@List.getElem?_toArray
def EU_:=@List.reverse_reverse
def EV_:=@List.getLast?_concat
def EW_:=@List.dropLast_concat
def EX_:=@List.getElem?_set_ne
def EY_:=@PyProof.Rows.boot_range
def EZ_:=@PySem.wpAny_call
def E0_:=@PyProof.Rows.Subscript_
def E1_:=@PySem.SeqAt.EqAt.bool_bool
def E2_:=@beq_iff_eq
def E3_:=@bne_iff_ne
def E4_:=@PySem.codeAny_call_builtin
def E5_:=@List.getElem_toArray
def E6_:=@List.nodup_iff_count
def E7_:=@List.replicate_succ'
def E8_:=@List.getElem_zipWith
def E9_:=@PyProof.Rows.Constant_none
def Fa_:=@PySem.evalPart_none
def Fb_:=@List.all_cons
def Fc_:=@PySem.wpAny_attempt
def Fd_:=@List.filter_sublist
def Fe_:=@List.getD_cons_zero
def Ff_:=@List.getD_cons_succ
def Fg_:=@List.replicate_succ
def Fh_:=@List.flatMap_append
def Fi_:=@List.getElem_set_ne
def Fj_:=@PySem.W.pyHash_slot
def Fk_:=@PySem.Heap.get?_update_ne
def Fl_:=@PyProof.Rows.wpAny_call_entry_kw
def Fm_:=@PySem.evalArgs_none
def Fn_:=@PyProof.Rows.getElem?_mirror_all
def Fo_:=@PySem.seqIndex_neg
def Fp_:=@PySem.W.KasFin.intro
def Fq_:=@PyProof.Rows.plain_sorted
def Fr_:=@PyProof.Rows.entry_sorted
def Fs_:=@PyProof.Rows.collect_list
def Ft_:=@PySem.call_meetsIn
def Fu_:=@Nat.le_of_eq
def Fv_:=@Nat.add_comm
def Fw_:=@Sum.inl.inj
def Fx_:=@PySem.IsRange.new
def Fy_:=@PySem.wpAny_mkInt
def Fz_:=@PyProof.Rows.kind_sorted
namespace RimT
variable {α:Type}[DecidableEq α]
def Ju_(p:Nat):Nat->List α->List ((Nat×Nat)×α)
 |_,[]=>[]
 |k,w::l=>((p,k),w)::Ju_ p (k+1) l
def Hw_:Nat->List (List α)->List ((Nat×Nat)×α)
 |_,[]=>[]
 |o,l::T=>Ju_ o 0 l++Hw_ (o+1) T
abbrev ends(T:List (List α)):=Hw_ 0 T
def wi(T:List (List α))(e:Nat×Nat):Option α:=(T.getD e.1 [])[e.2]?
theorem hM_{p:Nat}{e:Nat×Nat}{w:α}:∀{l:List α}{k:Nat},(e,w)∈Ju_ p k l↔e.1=p/\k<=e.2/\l[e.2-k]?=some w
 |[],k=>by simp[Ju_]
 |a::l,k=>by
  rw[Ju_,Av_,hM_];constructor
  .rintro(h|⟨h1,h2,h3⟩)
   .cases h;simp
   .show⟨h1,o_,?_⟩;rw[show e.2-k=(e.2-(k+1))+1 by lia,Em_];show h3
  .rintro⟨h1,h2,h3⟩;by_cases z:e.2=k
   .left;rw[z,B1_,List.getElem?_cons_zero]at h3;cases h3;show Bb_ (Bb_ h1 z) rfl
   .right;show⟨h1,o_,?_⟩;rw[show e.2-k=(e.2-(k+1))+1 by lia,Em_]at h3;show h3
theorem h0_{e:Nat×Nat}{w:α}:∀{T:List (List α)}{o:Nat},(e,w)∈Hw_ o T↔o<=e.1/\(T.getD (e.1-o) [])[e.2]?=some w
 |[],o=>by simp[Hw_]
 |l::T,o=>by
  rw[Hw_,Aq_,hM_,h0_];constructor
  .rintro(⟨h1,h2,h3⟩|⟨h1,h2⟩)
   .show⟨o_,?_⟩;rw[h1,B1_];show h3
   .show⟨o_,?_⟩;rw[show e.1-o=(e.1-(o+1))+1 by lia];show h2
  .rintro⟨h1,h2⟩;by_cases z:e.1=o
   .left;rw[z,B1_]at h2;show⟨z,o_,h2⟩
   .right;show⟨o_,?_⟩;rw[show e.1-o=(e.1-(o+1))+1 by lia]at h2;show h2
variable{e:Nat×Nat}
theorem jr_{T:List (List α)}{w:α}:(e,w)∈ends T↔wi T e=some w:=by unfold ends;rw[h0_];simp[wi]
theorem l6_(p:Nat):∀(l:List α)(k:Nat),(Ju_ p k l).map (·.2)=l
 |[],_=>rfl
 |a::l,k=>by rw[Ju_,Ay_,l6_ p l]
theorem h1_:∀(T:List (List α))(o:Nat),(Hw_ o T).map (·.2)=T.flatten
 |[],_=>rfl
 |l::T,o=>by rw[Hw_,Ao_,l6_,h1_ T,AF_]
theorem i3_(p:Nat):∀(l:List α)(k:Nat),((Ju_ p k l).map (·.1)).Nodup
 |[],_=>A8_
 |a::l,k=>by
  rw[Ju_,Ay_,AV_];show⟨λh=>?_,i3_ p l (k+1)⟩;obtain⟨⟨e,w⟩,he,q⟩:=As_.mp h;have:=(hM_.mp he).2.1
  dsimp only at q
  rw[q]at this
  dsimp only at this
  lia
theorem h2_:∀(T:List (List α))(o:Nat),((Hw_ o T).map (·.1)).Nodup
 |[],_=>A8_
 |l::T,o=>by
  rw[Hw_,Ao_,AM_];show⟨i3_ o l 0,h2_ T (o+1),λa ha b hb e=>?_⟩;subst e;obtain⟨⟨e,w⟩,he,q⟩:=As_.mp ha;obtain⟨⟨e',w'⟩,he',q'⟩:=As_.mp hb;have h1:=(hM_.mp he).1;have h2:=(h0_.mp he').1
  dsimp only at q q'
  rw[q]at h1;rw[q']at h2;lia
theorem g9_(w:α):∀l:List ((Nat×Nat)×α),(l.map (·.2)).count w=(l.filter λx=>decide (x.2=w)).length
 |[]=>rfl
 |a::l=>by
  rw[Ay_,B2_,g9_ w l,List.filter_cons];by_cases h:a.2=w
  .simp[h]
  .simp[h]
theorem js_{T:List (List α)}{w:α}(h:T.flatten.count w=2):∃a b,(ends T).filter (λx=>decide (x.2=w))=[(a,w),(b,w)]/\a≠b/\∀e,wi T e=some w↔e=a\/e=b:=by
 have hl:((ends T).filter λx=>decide (x.2=w)).length=2:=by rw[<-g9_,h1_];show h
 have nd:(((ends T).filter λx=>decide (x.2=w)).map (·.1)).Nodup:=(h2_ T 0).sublist (List.Sublist.map _ Fd_)
 have mem:∀x,x∈(ends T).filter (λx=>decide (x.2=w))↔wi T x.1=some w/\x.2=w:=λx=>by
  rw[Be_,DV_];constructor
  .rintro⟨h1,h2⟩;show⟨?_,h2⟩;rw[<-jr_,<-h2];show h1
  .rintro⟨h1,h2⟩;show⟨?_,h2⟩;rw[<-jr_,<-h2]at h1;show h1
 generalize(ends T).filter (λx=>decide (x.2=w))=f at hl nd mem
 match f,hl with
 |[a,b],_ =>
  have ha:=(mem a).mp s_;have hb:=(mem b).mp s_;show⟨a.1,b.1,?_,?_,λe=>⟨λhe=>?_,?_⟩⟩
  .rw[show(a.1,w)=a from Bb_ rfl ha.2.symm,show(b.1,w)=b from Bb_ rfl hb.2.symm]
  .simp at nd;show nd
  .have:=(mem (e,w)).mpr ⟨he,rfl⟩
   rcases Av_.mp this with z|z
   .show .inl (by rw[<-z])
   .show .inr (by rw[<-Ak_.mp z])
  .rintro(rfl|rfl)
   .show ha.1
   .show hb.1
def Tw(T:List (List α)):Prop:=∀w,w∈T.flatten->T.flatten.count w=2
theorem l7_{T:List (List α)}{w:α}(h:wi T e=some w):w∈T.flatten:=by rw[<-h1_ T 0];show As_.mpr ⟨_,jr_.mpr h,rfl⟩
def Hk_(T:List (List α))(a b:Nat×Nat):Prop:=a≠b/\∃w,wi T a=some w/\wi T b=some w
theorem Hk_.symm{T:List (List α)}{a b:Nat×Nat}(h:Hk_ T a b):Hk_ T b a:=⟨λe=>h.1 e.symm,h.2.elim λw q=>⟨w,q.2,q.1⟩⟩
theorem jt_{T:List (List α)}(h:Tw T){a:Nat×Nat}{w:α}(ha:wi T a=some w):∃b,Hk_ T a b:=by
 obtain⟨x,y,_,ne,all⟩:=js_ (h w (l7_ ha))
 rcases(all a).mp ha with e|e
 .show⟨y,e▸ne,w,ha,(all y).mpr (.inr rfl)⟩
 .show⟨x,λz=>ne (by rw[<-z,e]),w,ha,(all x).mpr (.inl rfl)⟩
theorem d3_{T:List (List α)}(h:Tw T){a b c:Nat×Nat}(hb:Hk_ T a b)(hc:Hk_ T a c):b=c:=by
 obtain⟨n1,w,a1,b1⟩:=hb;obtain⟨n2,w',a2,c2⟩:=hc;rw[a1]at a2;cases a2;obtain⟨x,y,_,ne,all⟩:=js_ (h w (l7_ a1))
 rcases(all a).mp a1 with e|e <;> rcases(all b).mp b1 with e1|e1 <;> rcases(all c).mp c2 with e2|e2 <;> subst e <;> subst e1 <;> subst e2 <;> first|rfl|show absurd rfl n1|show absurd rfl n2
def rl(T:List (List α))(p:Nat):Nat:=(T.getD p []).length
def IsC(T:List (List α))(P:Nat)(c:Nat×Nat):Prop:=c.1<T.length/\c.2<rl T c.1+(if c.1<P then 1 else 0)
theorem cO_{T:List (List α)}(h:e.2<rl T e.1):∃w,wi T e=some w:=⟨_,Aa_ h⟩
theorem F8_{T:List (List α)}{w:α}(h:wi T e=some w):e.2<rl T e.1/\e.1<T.length:=by
 have h1:e.2<rl T e.1:=(Ae_.mp h).1;show⟨h1,?_⟩
 rcases Nat.lt_or_ge e.1 T.length with z|z
 .show z
 .unfold rl at h1;rw[Ad_,Ba_ z]at h1;simp at h1
def Nx(T:List (List α))(P:Nat)(c c':Nat×Nat):Prop:=(c.2=rl T c.1/\c'=((c.1+P-1)%P,0))\/(c.2<rl T c.1/\∃m,Hk_ T c m/\c'=if m.1<P then(m.1,m.2+1)else(m.1,(m.2+1)%rl T m.1))
variable{P:Nat}
theorem nx_c{T:List (List α)}(hP:0<P)(hPT:P<=T.length){c c':Nat×Nat}(hc:IsC T P c)(h:Nx T P c c'):IsC T P c':=by
 rcases h with⟨h1,rfl⟩|⟨h1,m,⟨_,w,_,hm⟩,rfl⟩
 .have:=Cf_ (c.1+P-1) hP;show⟨by change(c.1+P-1)%P<_;lia,by change 0<_;simp only[this,if_true];lia⟩
 .obtain⟨a,b⟩:=F8_ hm;split
  .rename_i z;show⟨b,by change m.2+1<_;simp only[z,if_true];lia⟩
  .show⟨b,?_⟩;have:=Cf_ (m.2+1) (show 0<rl T m.1 by lia);show AK_ this (Bt_ _ _)
theorem qj_{m a b:Nat}(ha:a<m)(hb:b<m)(h:(a+1)%m=(b+1)%m):a=b:=by
 by_cases z1:a+1=m <;> by_cases z2:b+1=m
 .lia
 .rw[z1,Nat.mod_self,Ct_ o_]at h;lia
 .rw[z2,Nat.mod_self,Ct_ o_]at h;lia
 .rw[Ct_ o_,Ct_ o_]at h;lia
theorem o8_{a b:Nat}(ha:a<P)(hb:b<P)(h:(a+P-1)%P=(b+P-1)%P):a=b:=by
 have e:∀x,x<P->(x+P-1)%P=if x=0 then P-1 else x-1:=λx hx=>by
  by_cases z:x=0
  .rw[if_pos z,z,CL_,Ct_ o_]
  .rw[if_neg z,show x+P-1=(x-1)+P by lia,Nat.add_mod_right,Ct_ o_]
 rw[e a ha,e b hb]at h;split at h <;> split at h <;> lia
theorem pT_{T:List (List α)}(h:Tw T)(hP:0<P){c d x:Nat×Nat}(hc:IsC T P c)(hd:IsC T P d)(h1:Nx T P c x)(h2:Nx T P d x):c=d:=by
 have post:∀{c:Nat×Nat},IsC T P c->c.2=rl T c.1->c.1<P:=λ{c} hc e=>by
  have:=hc.2;split at this
  .assumption
  .lia
 rcases h1 with⟨a1,a2⟩|⟨a1,m,am,a2⟩ <;> rcases h2 with⟨b1,b2⟩|⟨b1,m',bm,b2⟩
 .rw[a2]at b2;have e:=o8_ (post hc a1) (post hd b1) (congrArg Prod.fst b2);show Bb_ e (by rw[a1,b1,e])
 .exfalso;rw[a2]at b2;have lt:=Cf_ (c.1+P-1) hP;split at b2
  .have:=congrArg Prod.snd b2;dsimp only at this;lia
  .have:=congrArg Prod.fst b2;dsimp only at this;lia
 .exfalso;rw[b2]at a2;have lt:=Cf_ (d.1+P-1) hP;split at a2
  .have:=congrArg Prod.snd a2;dsimp only at this;lia
  .have:=congrArg Prod.fst a2;dsimp only at this;lia
 .rw[a2]at b2;obtain⟨_,w,_,wm⟩:=id am;obtain⟨_,w',_,wm'⟩:=id bm;have l1:=(F8_ wm).1;have l2:=(F8_ wm').1
  have e:m=m':=by
   split at b2 <;> split at b2
   .have e1:=congrArg Prod.fst b2;have e2:=congrArg Prod.snd b2;dsimp only at e1 e2;show Bb_ e1 o_
   .have e1:=congrArg Prod.fst b2;dsimp only at e1;lia
   .have e1:=congrArg Prod.fst b2;dsimp only at e1;lia
   .have e1:=congrArg Prod.fst b2;have e2:=congrArg Prod.snd b2;dsimp only at e1 e2;rw[<-e1]at e2 l2;show Bb_ e1 (qj_ l1 l2 e2)
  subst e;show d3_ h am.symm bm.symm
def corners(T:List (List α))(P:Nat):List (Nat×Nat):=(List.range T.length).flatMap λp=>(List.range (rl T p+(if p<P then 1 else 0))).map λk=>(p,k)
theorem bv_{T:List (List α)}{c:Nat×Nat}:c∈corners T P↔IsC T P c:=by
 unfold corners IsC;rw[List.mem_flatMap];constructor
 .rintro⟨p,hp,hc⟩;obtain⟨k,hk,rfl⟩:=As_.mp hc;show⟨A3_.mp hp,A3_.mp hk⟩
 .rintro⟨h1,h2⟩;show⟨c.1,A3_.mpr h1,As_.mpr ⟨c.2,A3_.mpr h2,rfl⟩⟩
inductive Way(T:List (List α))(P:Nat):List (Nat×Nat)->Nat×Nat->Prop
 |one {c d}:Nx T P c d->Way T P [c] d
 |more {l c d}:Way T P l c->Nx T P c d->Way T P (l++[c]) d
variable{d:Nat×Nat}
theorem l8_{T:List (List α)}{l:List (Nat×Nat)}(w:Way T P l d):l≠[]:=by
 cases w with
 |one _=>simp
 |more _ _=>simp
theorem l9_{β:Type}{l m:List β}{c:β}(h:l≠[])(e:(l++m).head?=some c):l.head?=some c:=by
 cases l with
 |nil=>show absurd rfl h
 |cons a r=>show e
theorem bS_{β:Type}[DecidableEq β]:∀{l m:List β},l.Nodup->(∀x∈l,x∈m)->l.length<=m.length
 |[],_,_,_=>Az_ _
 |a::l,m,nd,h=>by
  rw[AV_]at nd
  have:=bS_ (l:=l) (m:=m.erase a) nd.2 λx hx=>by
   have hne:x≠a:=λe=>by subst e;show nd.1 hx
   show(List.mem_erase_of_ne hne).mpr (h x (An_ _ hx))
  have ha:=h a Ar_;rw[List.length_erase_of_mem ha]at this;have:0<m.length:=Ey_ ha;simp only[A4_];lia
theorem ju_{T:List (List α)}(h:Tw T)(hP:0<P)(hPT:P<=T.length){c:Nat×Nat}:∀{l:List (Nat×Nat)}{d:Nat×Nat},Way T P l d->l.head?=some c->IsC T P c->IsC T P d/\(∀x∈l,IsC T P x)/\(∀x∈l,x=c\/∃y∈l,Nx T P y x)
  /\ ∃z∈l,Nx T P z d:=by
 intro l d w
 induction w with
 | @one a b hn =>
  intro hc ic;cases hc;show⟨nx_c hP hPT ic hn,λx hx=>by rw[Ak_.mp hx];show ic,λx hx=>.inl (Ak_.mp hx),c,s_,hn⟩
 | @more l' x y w hn ih =>
  intro hc ic;have hc':l'.head?=some c:=l9_ (l8_ w) hc;obtain⟨i1,i2,i3,z,hz,i4⟩:=ih hc' ic;show⟨nx_c hP hPT i1 hn,λq hq=>?_,λq hq=>?_,x,s_,hn⟩
  .rcases Aq_.mp hq with q'|q'
   .show i2 q q'
   .rw[Ak_.mp q'];show i1
  .rcases Aq_.mp hq with q'|q'
   .show(i3 q q').imp id λ⟨y,hy,e⟩=>⟨y,AN_ _ hy,e⟩
   .rw[Ak_.mp q'];show .inr ⟨z,AN_ _ hz,i4⟩
theorem qk_{T:List (List α)}(h:Tw T)(hP:0<P)(hPT:P<=T.length){c:Nat×Nat}{l:List (Nat×Nat)}(w:Way T P l d)(hc:l.head?=some c)(ic:IsC T P c)(nd:l.Nodup)(hd:d≠c):d∉l:=λhm=>by
 obtain⟨i1,i2,i3,z,hz,i4⟩:=ju_ h hP hPT w hc ic
 have key:∀{l:List (Nat×Nat)}{d:Nat×Nat},Way T P l d->l.head?=some c->l.Nodup->d∈l->d=c:=by
  intro l d w
  induction w with
  | @one a b hn =>
   intro hc nd hm;cases hc;show Ak_.mp hm
  | @more l' x y w hn ih =>
   intro hc nd hm;have hc':l'.head?=some c:=l9_ (l8_ w) hc;obtain⟨j1,j2,j3,z,hz,j4⟩:=ju_ h hP hPT w hc' ic;rw[AM_]at nd;have xnew:x∉l':=λq=>nd.2.2 x q x s_ rfl
   rcases Aq_.mp hm with q|q
   .rcases j3 y q with e|⟨u,hu,e⟩
    .show e
    .have:u=x:=pT_ h hP (j2 u hu) j1 e hn;show absurd (this▸hu) xnew
   .have e:=Ak_.mp q;subst e
    have:z=y:=pT_ h hP (j2 z hz) j1 j4 hn;show absurd (this▸hz) xnew
 show hd (key w hc nd hm)
theorem ql_{T:List (List α)}(h:Tw T)(hP:0<P)(hPT:P<=T.length){c:Nat×Nat}{l:List (Nat×Nat)}(w:Way T P l d)(hc:l.head?=some c)(ic:IsC T P c)(nd:l.Nodup):l.length<=(corners T P).length :=
 bS_ nd λx hx=>bv_.mpr ((ju_ h hP hPT w hc ic).2.1 x hx)
def ins(l:List α)(k:Nat)(w:α):List α:=l.take k++w::l.drop k
theorem gK_(l:List α)(k:Nat)(w:α):(ins l k w).length=l.length+1:=by unfold ins;simp only[Af_,Bf_,A4_,BG_];lia
theorem nm_(l:List α)(k:Nat)(w x:α):(ins l k w).count x=l.count x+if w=x then 1 else 0:=by
 unfold ins;rw[Bw_,B2_];have:=BF_ k l;have e:l.count x=(l.take k).count x+(l.drop k).count x:=by rw[<-Bw_,this]
 rw[e];by_cases h:w=x
 .simp[h];lia
 .simp[h]
def Gx_(T:List (List α))(c:Nat×Nat)(w:α):List (List α):=T.set c.1 (ins (T.getD c.1 []) c.2 w)
theorem h3_(x:α)(l':List α):∀(T:List (List α))(p:Nat),p<T.length->(T.set p l').flatten.count x+(T.getD p []).count x=T.flatten.count x+l'.count x
 |[],p,h=>absurd h s_
 |l::T,0,h=>by
  simp only[DI_,AF_,Bw_,Fe_];lia
 |l::T,p+1,h=>by have:=h3_ x l' T p (by simpa using h);simp only[DJ_,AF_,Bw_,Ff_];lia
theorem lj_(l':List α):∀(T:List (List α))(p:Nat),p<T.length->(T.set p l').flatten.length+(T.getD p []).length=T.flatten.length+l'.length
 |[],p,h=>absurd h s_
 |l::T,0,h=>by
  simp only[DI_,AF_,Af_,Fe_];lia
 |l::T,p+1,h=>by have:=lj_ l' T p (by simpa using h);simp only[DJ_,AF_,Af_,Ff_];lia
theorem d4_{T:List (List α)}{c:Nat×Nat}(h:c.1<T.length)(w x:α):(Gx_ T c w).flatten.count x=T.flatten.count x+if w=x then 1 else 0:=by have:=h3_ x (ins (T.getD c.1 []) c.2 w) T c.1 h;rw[nm_]at this;unfold Gx_;lia
theorem h4_{T:List (List α)}{c:Nat×Nat}(h:c.1<T.length)(w:α):(Gx_ T c w).flatten.length=T.flatten.length+1:=by have:=lj_ (ins (T.getD c.1 []) c.2 w) T c.1 h;rw[gK_]at this;unfold Gx_;lia
theorem aK_(T:List (List α))(c:Nat×Nat)(w:α):(Gx_ T c w).length=T.length:=by unfold Gx_;simp
theorem hN_{T:List (List α)}{c:Nat×Nat}(w:α)(p:Nat):rl T p<=rl (Gx_ T c w) p:=by
 unfold Gx_ rl;rw[Ad_,Ad_,BT_];by_cases h:c.1=p
 .subst h;by_cases h2:c.1<T.length
  .simp only[if_true,h2,Option.getD_some,gK_];rw[Ad_];lia
  .simp[h2,Ba_ (Cg_.mp h2)]
 .simp[h]
structure Gr(P W:Nat)(T:List (List Nat)):Prop where
 len:P<=T.length
 most:T.length<=P+10
 two:∀w,w<W->T.flatten.count w=2
 lt:∀w∈T.flatten,w<W
 ne:∀p,P<=p->p<T.length->0<rl T p
 tot:T.flatten.length=2*W
variable{T:List (List Nat)}
theorem Gr.tw{W:Nat}(g:Gr P W T):Tw T:=λw h=>g.two w (g.lt w h)
theorem o9_(P:Nat):Gr P 0 (List.replicate P []):=by
 have e:(List.replicate P ([]:List Nat)).flatten=[]:=by
  induction P with
  |zero=>rfl
  |succ n ih=>rw[Fg_,AF_,ih];rfl
 show⟨s_,s_,λw h=>absurd h o_,λw h=>(by rw[e]at h;cases h),λp h1 h2=>(by simp at h2;lia),(by rw[e];rfl)⟩
theorem h5_{c:Nat×Nat}(h:c.1<T.length){w x:Nat}(hx:x∈(Gx_ T c w).flatten):x=w\/x∈T.flatten:=by
 by_cases e:x=w
 .show .inl e
 .right;have:=A7_.mpr hx;rw[d4_ h,if_neg (λz=>e z.symm)]at this;show A7_.mp o_
theorem qm_{W:Nat}{c:Nat×Nat}(g:Gr P W T)(hc:c.1<T.length)(h:T.length<P+10):Gr P (W+1) (Gx_ T c W++[[W]]):=by
 have fl:(Gx_ T c W++[[W]]).flatten=(Gx_ T c W).flatten++[W]:=by rw[AT_];simp
 show⟨by simp[aK_];have:=g.len;lia,by simp[aK_];lia,λw hw=>?_,λw hw=>?_,λp h1 h2=>?_,?_⟩
 .rw[fl,Bw_,d4_ hc];by_cases e:w=W
  .subst e;have:T.flatten.count w=0:=Cz_.mpr λz=>absurd (g.lt w z) o_;simp[this]
  .have:=g.two w o_;rw[if_neg (λz=>e z.symm),this];rw[Cz_.mpr λz=>e (Ak_.mp z)]
 .rw[fl]at hw
  rcases Aq_.mp hw with hw|hw
  .rcases h5_ hc hw with e|e
   .lia
   .have:=g.lt w e;lia
  .have:=Ak_.mp hw;lia
 .simp only[Af_,aK_,AS_]at h2;by_cases e:p<T.length
  .have:=g.ne p h1 e;have a:=hN_ (T:=T) (c:=c) W p;unfold rl at a⊢;rw[Ad_,Al_ (by rw[aK_];show e),<-Ad_];unfold rl at this;lia
  .have e:p=T.length:=o_
   subst e;unfold rl;rw[Ad_,Ap_ (by rw[aK_];show Ai_ _),aK_];simp
 .rw[fl,Af_,h4_ hc,g.tot];simp;lia
theorem q7_{W:Nat}{c:Nat×Nat}(g:Gr P W T)(hc:c.1<T.length)(hd:d.1<T.length):Gr P (W+1) (Gx_ (Gx_ T c W) d W):=by
 have hd':d.1<(Gx_ T c W).length:=by rw[aK_];show hd
 show⟨by rw[aK_,aK_];show g.len,by rw[aK_,aK_];show g.most,λw hw=>?_,λw hw=>?_,λp h1 h2=>?_,?_⟩
 .rw[d4_ hd',d4_ hc];by_cases e:w=W
  .subst e;have:T.flatten.count w=0:=Cz_.mpr λz=>absurd (g.lt w z) o_;simp[this]
  .rw[if_neg (λz=>e z.symm),g.two w o_]
 .rcases h5_ hd' hw with e|e
  .lia
  .rcases h5_ hc e with e|e
   .lia
   .have:=g.lt w e;lia
 .rw[aK_,aK_]at h2;have:=g.ne p h1 h2;have a:=hN_ (T:=T) (c:=c) W p;have b:=hN_ (T:=Gx_ T c W) (c:=d) W p;lia
 .rw[h4_ hd',h4_ hc,g.tot];lia
theorem fw_{T:List (List α)}:(corners T P).length<=T.flatten.length+P:=by
 have key:∀n,n<=T.length->((List.range n).flatMap λp=>(List.range (rl T p+(if p<P then 1 else 0))).map λk=>(p,k)).length<=(T.take n).flatten.length+min n P:=λn=>by
  induction n with
  |zero=>intro _;simp
  |succ n ih =>
   intro h;have i:=ih o_;have e:T[n]?=some T[n]:=Aa_ o_;rw[CA_,Fh_,Af_,BJ_,e,AT_,Af_];have r:rl T n=T[n].length:=by unfold rl;rw[Ad_,e];rfl
   simp only[List.flatMap_cons,List.flatMap_nil,By_,Ab_,Bn_,Option.toList_some,AF_,List.flatten_nil,r];split <;> lia
 have:=key T.length (Ai_ _);rw[CT_]at this;unfold corners;lia
theorem Gr.corners{W:Nat}(g:Gr P W T):(corners T P).length<=2*W+P:=by have:=fw_ (T:=T) (P:=P);rw[g.tot]at this;show this
variable {S:Type}[DecidableEq S]
structure Net(S:Type) where
 posts:List S
 rows:List (S×List S)
 worths:List (S×(Int×Int))
def Net.all(N:Net S):List S:=(N.rows.map (·.2)).flatten
structure FY_(N:Net S):Prop where
 nd:(N.rows.map (·.1)).Nodup
 two:∀x∈N.all,N.all.count x=2
 few:N.rows.length<=16
 tot:N.all.length<=30
 pl:N.posts.length<=6
 wl:N.worths.length<=15
def Gy_(ns ws:Nat->S)(T:List (List Nat))(ord:List Nat):List (S×List S):=ord.map λp=>(ns p,(T.getD p []).map ws)
theorem dL_{α:Type}{l m:List (List α)}(h:l.Perm m):l.flatten.Perm m.flatten:=by
 induction h with
 |nil=>show .nil
 |cons x _ ih=>rw[AF_,AF_];show ih.append_left x
 |swap x y l=>rw[AF_,AF_,AF_,AF_,<-Bi_,<-Bi_];show List.perm_append_comm.append_right _
 |trans _ _ h1 h2=>show h1.trans h2
theorem i4_{α:Type}(d:α)(l:List α):(List.range l.length).map (λi=>l.getD i d)=l:=by
 apply Cu_
 .simp
 .intro i h1 h2;simp[h2]
theorem pa_{ns ws:Nat->S}{ord:List Nat}(h:ord.Perm (List.range T.length)):(((Gy_ ns ws T ord).map (·.2)).flatten).Perm (T.flatten.map ws):=by
 have e:(Gy_ ns ws T ord).map (·.2)=(ord.map λp=>T.getD p []).map λl=>l.map ws:=by unfold Gy_;rw[AW_,AW_];rfl
 rw[e,<-D5_];show List.Perm.map _ ?_;have h2:=h.map λp=>T.getD p [];rw[i4_]at h2;show dL_ h2
theorem f0_{α β:Type}[DecidableEq α][DecidableEq β]{f:α->β}{x:α}:∀{l:List α},(∀a∈l,f a=f x->a=x)->(l.map f).count (f x)=l.count x
 |[],_=>rfl
 |a::l,h=>by
  rw[Ay_,B2_,B2_,f0_ λa ha=>h a (An_ _ ha)];congr 1;by_cases e:a=x
  .subst e;simp
  .have:f a≠f x:=λz=>e (h a Ar_ z);simp[e,this]
theorem q8_{P W:Nat}{T:List (List Nat)}(g:Gr P W T){ns ws:Nat->S}{ord:List Nat}(h:ord.Perm (List.range T.length))(hP:P<=6)(hW:W<=15)
  (hn:∀a b,a<T.length->b<T.length->ns a=ns b->a=b) (hw:∀a b,a<W->b<W->ws a=ws b->a=b) {ps:List S} {wo:List (S×(Int×Int))} (hps:ps.length<=6) (hwo:wo.length<=15):FY_ (⟨ps,Gy_ ns ws T ord,wo⟩:Net S):=by
 have al:=pa_ (ns:=ns) (ws:=ws) h;have e:((Gy_ ns ws T ord).map (·.1))=ord.map ns:=by unfold Gy_;rw[AW_];rfl
 show⟨?_,λx hx=>?_,?_,?_,hps,hwo⟩
 .change((Gy_ ns ws T ord).map (·.1)).Nodup;rw[e];unfold List.Nodup;rw[BD_];show D6_ (λ{a b} ha hb ne z=>ne (hn a b (A3_.mp (h.mem_iff.mp ha)) (A3_.mp (h.mem_iff.mp hb)) z)) (h.nodup_iff.mpr List.nodup_range)
 .have hx':x∈T.flatten.map ws:=al.mem_iff.mp hx;obtain⟨w,hw1,rfl⟩:=As_.mp hx';change(((Gy_ ns ws T ord).map (·.2)).flatten).count (ws w)=2;rw[al.count_eq,f0_ λa ha z=>hw a w (g.lt a ha) (g.lt w hw1) z];show g.two w (g.lt w hw1)
 .change(Gy_ ns ws T ord).length<=16;unfold Gy_;have:=h.length_eq;rw[Bn_]at this;rw[Ab_];have:=g.most;lia
 .change(((Gy_ ns ws T ord).map (·.2)).flatten).length<=30;rw[al.length_eq,Ab_,g.tot];lia
abbrev End(S:Type):=S×Nat
def HL_:List (S×List (End S))->S->End S->List (S×List (End S))
 |[],w,e=>[(w,[e])]
 | (k,es)::r,w,e=>if k=w then(k,es++[e])::r else(k,es)::HL_ r w e
theorem h6_{w:S}{e:End S}:∀{a:List (S×List (End S))},(∀kv∈a,kv.1≠w)->HL_ a w e=a++[(w,[e])]
 |[],_=>rfl
 | (k,es)::r,h=>by have:k≠w:=h (k,es) Ar_;rw[HL_,if_neg this,h6_ λkv hkv=>h kv (An_ _ hkv)];rfl
theorem dM_{w:S}{e:End S}:∀{a:List (S×List (End S))},(∃kv∈a,kv.1=w)->∃i es,a[i]?=some (w,es)/\(∀j kv,j<i->a[j]?=some kv->kv.1≠w)/\HL_ a w e=a.set i (w,es++[e])
 |[],h=>by obtain⟨kv,hkv,_⟩:=h;cases hkv
 | (k,es)::r,h=>by
  by_cases hk:k=w
  .subst hk;show⟨0,es,rfl,λj kv hj=>absurd hj o_,by rw[HL_,if_pos rfl];rfl⟩
  .obtain⟨i,es',h1,h2,h3⟩:=dM_ (w:=w) (e:=e) (a:=r) (by
    obtain⟨kv,hkv,hw⟩:=h
    rcases Av_.mp hkv with rfl|hkv
    .show absurd hw hk
    .show⟨kv,hkv,hw⟩)
   show⟨i+1,es',h1,λj kv hj hkv=>?_,by rw[HL_,if_neg hk,h3];rfl⟩;cases j with
   |zero=>cases hkv;show hk
   |succ j=>show h2 j kv o_ hkv
def Gh_(p:S):Nat->List S->List (S×End S)
 |_,[]=>[]
 |k,w::ws=>(w,(p,k))::Gh_ p (k+1) ws
def occ(rows:List (S×List S)):List (S×End S):=(rows.map λr=>Gh_ r.1 0 r.2).flatten
def F3_(l:List (S×End S)):List (S×List (End S)):=l.foldl (λa x=>HL_ a x.1 x.2) []
theorem dN_(l:List (S×End S))(x:S×End S):F3_ (l++[x])=HL_ (F3_ l) x.1 x.2:=by unfold F3_;rw[List.foldl_append];rfl
theorem jv_{w:S}{e:End S}{kv:S×List (End S)}:∀{a:List (S×List (End S))},kv∈HL_ a w e->(kv.1=w/\((∃es,(w,es)∈a/\kv.2=es++[e])\/((∀x∈a,x.1≠w)/\kv.2=[e])))\/kv∈a
 |[],h=>by
  have:=Ak_.mp h;subst this;show .inl ⟨rfl,.inr ⟨λx hx=>(by cases hx),rfl⟩⟩
 | (k,es)::r,h=>by
  by_cases hk:k=w
  .subst hk;rw[HL_,if_pos rfl]at h
   rcases Av_.mp h with h|h
   .subst h;show .inl ⟨rfl,.inl ⟨es,Ar_,rfl⟩⟩
   .show .inr (An_ _ h)
  .rw[HL_,if_neg hk]at h
   rcases Av_.mp h with h|h
   .subst h;show .inr Ar_
   .rcases jv_ h with⟨e1,e2⟩|h
    .show .inl ⟨e1,?_⟩
     rcases e2 with⟨es',h1,h2⟩|⟨h1,h2⟩
     .show .inl ⟨es',An_ _ h1,h2⟩
     .show .inr ⟨λx hx=>?_,h2⟩
      rcases Av_.mp hx with rfl|hx
      .show hk
      .show h1 x hx
    .show .inr (An_ _ h)
theorem dO_{w:S}{e:End S}:∀{a:List (S×List (End S))},(HL_ a w e).map (·.1)=if(∃kv∈a,kv.1=w)then a.map (·.1)else a.map (·.1)++[w]
 |[]=>by simp[HL_]
 | (k,es)::r=>by
  by_cases hk:k=w
  .subst hk;rw[HL_,if_pos rfl,if_pos ⟨(k,es),Ar_,rfl⟩];rfl
  .rw[HL_,if_neg hk,Ay_,dO_ (a:=r)];by_cases hr:∃kv∈r,kv.1=w
   .rw[if_pos hr,if_pos (by obtain⟨kv,h1,h2⟩:=hr;show⟨kv,An_ _ h1,h2⟩)];rfl
   .rw[if_neg hr,if_neg (λ⟨kv,h1,h2⟩=>by
     rcases Av_.mp h1 with rfl|h1
     .show hk h2
     .show hr ⟨kv,h1,h2⟩)]
    rfl
theorem bq_:∀(n:Nat)(l:List (S×End S)),l.length=n->((F3_ l).map (·.1)).Nodup/\(∀kv∈F3_ l,kv.2=(l.filter λx=>decide (x.1=kv.1)).map (·.2))/\(∀x∈l,∃kv∈F3_ l,kv.1=x.1)/\(∀kv∈F3_ l,∃x∈l,x.1=kv.1)
 |0,l,h=>by
  have:=AY_ h;subst this;show⟨A8_,λkv hkv=>(by cases hkv),λx hx=>(by cases hx),λkv hkv=>(by cases hkv)⟩
 |n+1,l,h=>by
  obtain⟨m,x,rfl⟩:∃m x,l=m++[x]:=by show⟨l.dropLast,l.getLast (λe=>by rw[e]at h;cases h),(BQ_ _).symm⟩
  have hm:m.length=n:=by simpa using h
  obtain⟨h1,h2,h3,h4⟩:=bq_ n m hm;rw[dN_]
  have fe:∀w,((m++[x]).filter λy=>decide (y.1=w))=(m.filter λy=>decide (y.1=w))++(if x.1=w then[x]else[]):=λw=>by
   rw[BY_];by_cases e:x.1=w
   .simp[e]
   .simp[e]
  show⟨?_,λkv hkv=>?_,λy hy=>?_,λkv hkv=>?_⟩
  .rw[dO_];by_cases hc:∃kv∈F3_ m,kv.1=x.1
   .rw[if_pos hc];show h1
   .rw[if_neg hc];show AM_.mpr ⟨h1,s_,λa ha b hb e=>?_⟩;obtain⟨kv,hkv,rfl⟩:=As_.mp ha;show hc ⟨kv,hkv,by rw[e];show Ak_.mp hb⟩
  .rw[fe,Ao_]
   rcases jv_ hkv with⟨e1,e2⟩|hkv'
   .rw[e1,if_pos rfl]
    rcases e2 with⟨es,h5,h6⟩|⟨h5,h6⟩
    .rw[h6];have:=h2 _ h5;simp only at this;rw[this];rfl
    .rw[h6];have:(m.filter λy=>decide (y.1=x.1))=[]:=by show List.filter_eq_nil_iff.mpr λy hy z=>?_;obtain⟨kv2,h7,h8⟩:=h3 y hy;show h5 kv2 h7 (h8.trans (Bj_ z))
     rw[this];rfl
   .by_cases e:x.1=kv.1
    .
     exfalso;obtain⟨i,es,g1,g2,g3⟩:=dM_ (w:=x.1) (e:=x.2) (a:=F3_ m) ⟨kv,hkv',e.symm⟩;rw[g3]at hkv;obtain⟨j,hj,ej⟩:=AD_.mp hkv;rw[BU_]at hj;have hji:(F3_ m)[j]?=some ((F3_ m)[j]):=Aa_ hj;have hi:i<(F3_ m).length:=(Ae_.mp g1).1;by_cases hij:i=j
     .subst hij;rw[EL_]at ej;have e9:kv.2=es++[x.2]:=by rw[<-ej]
      obtain⟨j2,hj2,ej2⟩:=AD_.mp hkv';have k1:((F3_ m).map (·.1))[j2]?=((F3_ m).map (·.1))[i]?:=by rw[Ag_,Ag_,Aa_ hj2,ej2,g1];change some kv.1=some x.1;rw[e]
      have:=(A1_ (by rw[Ab_];show hj2) h1).mp k1;subst this;rw[Aa_ hj2,ej2]at g1;have e10:=congrArg Prod.snd (Au_ g1);rw[e9]at e10;have:=congrArg List.length e10;simp at this
     .rw[Fi_ hij]at ej;have k1:((F3_ m).map (·.1))[j]?=((F3_ m).map (·.1))[i]?:=by rw[Ag_,Ag_,hji,ej,g1];change some kv.1=some x.1;rw[e]
      show hij ((A1_ (by rw[Ab_];show hj) h1).mp k1).symm
    .rw[if_neg e];rw[h2 kv hkv'];simp
  .by_cases hc:∃kv∈F3_ m,kv.1=y.1
   .have hk:y.1∈(HL_ (F3_ m) x.1 x.2).map (·.1):=by
     rw[dO_];obtain⟨kv,g1,g2⟩:=hc;have:y.1∈(F3_ m).map (·.1):=As_.mpr ⟨kv,g1,g2⟩;split
     .show this
     .show AN_ _ this
    obtain⟨kv,g1,g2⟩:=As_.mp hk;show⟨kv,g1,g2⟩
   .rcases Aq_.mp hy with hy|hy
    .show absurd (h3 y hy) hc
    .have e:=Ak_.mp hy;subst e;have hk:y.1∈(HL_ (F3_ m) y.1 y.2).map (·.1):=by rw[dO_,if_neg hc];show AO_ _ (Ak_.mpr rfl)
     obtain⟨kv,g1,g2⟩:=As_.mp hk;show⟨kv,g1,g2⟩
  .rcases jv_ hkv with⟨e1,_⟩|hkv'
   .show⟨x,AO_ _ (Ak_.mpr rfl),e1.symm⟩
   .obtain⟨y,g1,g2⟩:=h4 kv hkv';show⟨y,AN_ _ g1,g2⟩
theorem gL_(p:S):∀(ws:List S)(k:Nat),(Gh_ p k ws).map (·.1)=ws
 |[],_=>rfl
 |w::ws,k=>by rw[Gh_,Ay_,gL_ p ws (k+1)]
theorem jw_(rows:List (S×List S)):(occ rows).map (·.1)=(rows.map (·.2)).flatten:=by unfold occ;rw[D5_,AW_];congr 1;show Bs_ λr _=>gL_ r.1 r.2 0
theorem e8_{p:S}{x:S×End S}:∀{ws:List S}{k:Nat},x∈Gh_ p k ws->x.2.1=p/\k<=x.2.2
 |[],_,h=>by cases h
 |w::ws,k,h=>by
  rcases Av_.mp h with rfl|h
  .show⟨rfl,Ai_ _⟩
  .have:=e8_ h;show⟨this.1,o_⟩
theorem kf_(p:S):∀(ws:List S)(k:Nat),((Gh_ p k ws).map (·.2)).Nodup
 |[],_=>A8_
 |w::ws,k=>by rw[Gh_,Ay_];show AV_.mpr ⟨λh=>?_,kf_ p ws (k+1)⟩;obtain⟨x,h1,h2⟩:=As_.mp h;have:=(e8_ h1).2;rw[h2]at this;simp only at this;lia
theorem nn_:∀{rows:List (S×List S)},(rows.map (·.1)).Nodup->((occ rows).map (·.2)).Nodup
 |[],_=>A8_
 |r::rows,h=>by have h':=AV_.mp h;have e:occ (r::rows)=Gh_ r.1 0 r.2++occ rows:=rfl;rw[e,Ao_];show AM_.mpr ⟨kf_ _ _ _,nn_ h'.2,λa ha b hb z=>?_⟩;obtain⟨x,x1,x2⟩:=As_.mp ha;obtain⟨y,y1,y2⟩:=As_.mp hb;have ex:=(e8_ x1).1;obtain⟨l,l1,l2⟩:=BL_.mp y1;obtain⟨r2,r3,rfl⟩:=As_.mp l1;have ey:=(e8_ l2).1;show h'.1 (As_.mpr ⟨r2,r3,?_⟩);change r2.1=r.1;rw[<-ey,<-ex,x2,y2,z]
def Gt_(N:Net S):List (S×List (End S)):=F3_ (occ N.rows)
theorem qn_(N:Net S):((Gt_ N).map (·.1)).Nodup:=(bq_ _ _ rfl).1
theorem i5_(w:S):∀l:List (S×End S),((l.filter λx=>decide (x.1=w)).map (·.2)).length=(l.map (·.1)).count w
 |[]=>rfl
 |x::l=>by
  have ih:=i5_ w l;rw[Ay_,B2_,<-ih];by_cases e:x.1=w
  .simp[e]
  .simp[e]
theorem jx_{N:Net S}(ok:FY_ N){kv:S×List (End S)}(h:kv∈Gt_ N):∃a b,kv.2=[a,b]:=by
 obtain⟨_,h2,_,h4⟩:=bq_ _ (occ N.rows) rfl;have hl:kv.2.length=2:=by rw[h2 kv h,i5_,jw_];obtain⟨x,x1,x2⟩:=h4 kv h;show ok.two kv.1 ?_;change kv.1∈(N.rows.map (·.2)).flatten;rw[<-jw_,<-x2];show As_.mpr ⟨x,x1,rfl⟩
 match hk:kv.2,hl with
 |[a,b],_=>show⟨a,b,rfl⟩
theorem no_{N:Net S}{kv:S×List (End S)}(h:kv∈Gt_ N){a:End S}(ha:a∈kv.2):(kv.1,a)∈occ N.rows:=by obtain⟨_,h2,_,_⟩:=bq_ _ (occ N.rows) rfl;rw[h2 kv h]at ha;obtain⟨x,x1,rfl⟩:=As_.mp ha;obtain⟨x2,x3⟩:=Be_.mp x1;have e:x.1=kv.1:=Bj_ x3;rw[<-e];show x2
theorem qo_{l:List (S×End S)}(h:(l.map (·.2)).Nodup){x y:S×End S}(hx:x∈l)(hy:y∈l)(e:x.2=y.2):x=y:=by obtain⟨i,hi,rfl⟩:=AD_.mp hx;obtain⟨j,hj,rfl⟩:=AD_.mp hy;have:=(A1_ (l:=l.map (·.2)) (i:=i) (j:=j) (by rw[Ab_];show hi) h).mp (by rw[Ag_,Ag_,Aa_ hi,Aa_ hj];show congrArg some e);subst this;rfl
theorem mN_{N:Net S}(ok:FY_ N){k1 k2:S×List (End S)}(h1:k1∈Gt_ N)(h2:k2∈Gt_ N){a:End S}(a1:a∈k1.2)(a2:a∈k2.2):k1.1=k2.1 :=
 (Ez_ (qo_ (nn_ ok.nd) (no_ h1 a1) (no_ h2 a2) rfl)).1
theorem np_{N:Net S}(ok:FY_ N){kv:S×List (End S)}(h:kv∈Gt_ N){a b:End S}(e:kv.2=[a,b]):a≠b:=by
 obtain⟨_,h2,_,_⟩:=bq_ _ (occ N.rows) rfl;have nd:kv.2.Nodup:=by rw[h2 kv h];have:=nn_ ok.nd;unfold List.Nodup at this⊢;rw[BD_]at this⊢;show this.filter _
 rw[e]at nd;intro z;subst z;simp at nd
theorem h7_{α:Type}:∀{a b:List α},a.Nodup->b.Nodup->(∀x,x∈a↔x∈b)->a.Perm b
 |[],b,_,_,h=>by
  have:b=[]:=List.eq_nil_iff_forall_not_mem.mpr λx hx=>absurd ((h x).mpr hx) AL_;rw[this]
 |x::a,b,na,nb,h=>by
  obtain⟨s,t,rfl⟩:=List.append_of_mem ((h x).mp Ar_);obtain⟨n1,n2⟩:=AV_.mp na;have p:(x::(s++t)).Perm (s++x::t):=List.perm_middle.symm;obtain⟨m1,m2⟩:=AV_.mp (p.nodup_iff.mpr nb);show(List.Perm.cons x (h7_ n2 m2 λy=>?_)).trans p;have hy:=h y;rw[<-p.mem_iff,Av_,Av_]at hy;constructor
  .intro hm;show(hy.mp (.inr hm)).resolve_left λz=>n1 (z▸hm)
  .intro hm;show(hy.mpr (.inr hm)).resolve_left λz=>m1 (z▸hm)
section
structure FK_(N:Net S):Prop where
 pnd:N.posts.Nodup
 pin:∀p∈N.posts,p∈N.rows.map (·.1)
 p0:0<N.posts.length
def pts(N:Net S):List S:=N.posts++(N.rows.map (·.1)).filter λx=>decide (x∉N.posts)
def Hb_(N:Net S)(x:S):List S:=((N.rows.find? λr=>decide (r.1=x)).map (·.2)).getD []
def trn(N:Net S):List (List S):=(pts N).map (Hb_ N)
theorem ma_{N:Net S}(ok:FY_ N)(po:FK_ N):(pts N).Nodup :=
 AM_.mpr ⟨po.pnd,ok.nd.filter _,λa ha b hb e=>by have:=(Be_.mp hb).2;rw[C4_]at this;show this (e▸ha)⟩
theorem d5_{N:Net S}(po:FK_ N){x:S}:x∈pts N↔x∈N.rows.map (·.1):=by
 unfold pts;rw[Aq_,Be_,C4_];constructor
 .rintro(h|h)
  .show po.pin x h
  .show h.1
 .intro h;by_cases hp:x∈N.posts
  .show .inl hp
  .show .inr ⟨h,hp⟩
theorem hO_{N:Net S}(ok:FY_ N)(po:FK_ N):(pts N).Perm (N.rows.map (·.1)):=h7_ (ma_ ok po) ok.nd λx=>d5_ po
theorem nq_{N:Net S}(ok:FY_ N)(po:FK_ N):(pts N).length=N.rows.length:=by rw[(hO_ ok po).length_eq,Ab_]
theorem nr_{x:S}{l:List S}:∀{rows:List (S×List S)},(rows.map (·.1)).Nodup->(x,l)∈rows->(rows.find? λr=>decide (r.1=x))=some (x,l)
 |[],_,h=>nomatch h
 |r::rows,nd,h=>by
  obtain⟨n1,n2⟩:=AV_.mp nd
  rcases Av_.mp h with e|h
  .subst e;rw[List.find?_cons_of_pos s_]
  .rw[List.find?_cons_of_neg (by simp only[DV_];show λz=>n1 (As_.mpr ⟨_,h,z.symm⟩))];show nr_ n2 h
theorem ck_{N:Net S}(ok:FY_ N){r:S×List S}(h:r∈N.rows):Hb_ N r.1=r.2:=by unfold Hb_;rw[nr_ ok.nd (l:=r.2) h];rfl
theorem ba_(N:Net S):(trn N).length=(pts N).length:=by unfold trn;rw[Ab_]
theorem ha_{N:Net S}(ok:FY_ N)(po:FK_ N):Tw (trn N):=by
 have e:(trn N).flatten.Perm N.all:=by
  unfold trn Net.all;have h1:((N.rows.map (·.1)).map (Hb_ N))=N.rows.map (·.2):=by rw[AW_];show Bs_ λr hr=>ck_ ok hr
  rw[<-h1];show dL_ ((hO_ ok po).map _)
 intro w hw;rw[e.count_eq];show ok.two w (e.mem_iff.mp hw)
variable (d0:S)
def phi(N:Net S)(c:Nat×Nat):End S:=((pts N).getD c.1 d0,c.2)
def pid(N:Net S)(x:S):Nat:=(pts N).idxOf x
variable {d0}
theorem h8_{N:Net S}(ok:FY_ N)(po:FK_ N){a b:Nat×Nat}(ha:a.1<(pts N).length)(hb:b.1<(pts N).length)(h:phi d0 N a=phi d0 N b):a=b:=by have h1:(pts N).getD a.1 d0=(pts N).getD b.1 d0:=congrArg Prod.fst h;have h2:a.2=b.2:=congrArg (λe:End S=>e.2) h;rw[Ad_,Ad_,Aa_ ha,Aa_ hb]at h1;have:=(A1_ (i:=a.1) (j:=b.1) ha (ma_ ok po)).mp (by rw[Aa_ ha,Aa_ hb];show congrArg some h1);show Bb_ this h2
theorem mb_{N:Net S}{x:S}(h:x∈pts N):pid N x<(pts N).length:=List.idxOf_lt_length_of_mem h
theorem mc_{N:Net S}{x:S}(h:x∈pts N):(pts N)[pid N x]?=some x:=by rw[Aa_ (mb_ h)];show congrArg some (List.getElem_idxOf (mb_ h))
theorem ns_{N:Net S}{x:S}(h:x∈pts N)(k:Nat):phi d0 N (pid N x,k)=(x,k):=by unfold phi;rw[Ad_,mc_ h];rfl
theorem q9_{N:Net S}(ok:FY_ N)(po:FK_ N){p:Nat}{x:S}(h:(pts N)[p]?=some x):pid N x=p:=by have hp:=(Ae_.mp h).1;have hm:=Am_ h;show(A1_ (mb_ hm) (ma_ ok po)).mp (by rw[mc_ hm,h])
theorem f1_{N:Net S}(ok:FY_ N)(po:FK_ N){p:Nat}{x:S}(h:(pts N)[p]?=some x):x∈N.posts↔p<N.posts.length:=by
 constructor
 .intro hx;obtain⟨j,hj,ej⟩:=AD_.mp hx;have e:(pts N)[j]?=some x:=by unfold pts;rw[Al_ hj,Aa_ hj,ej]
  have:=(A1_ (Ae_.mp h).1 (ma_ ok po)).mp (h.trans e.symm);lia
 .intro hp;unfold pts at h;rw[Al_ hp]at h;show Am_ h
theorem gM_{N:Net S}{p:Nat}{x:S}(h:(pts N)[p]?=some x):(trn N).getD p []=Hb_ N x:=by unfold trn;rw[Ad_,Ag_,h];rfl
theorem nt_{x:S×End S}:∀{rows:List (S×List S)},x∈occ rows↔∃r∈rows,r.1=x.2.1/\r.2[x.2.2]?=some x.1:=by
 intro rows
 have row:∀(p:S)(ws:List S)(k:Nat),x∈Gh_ p k ws↔p=x.2.1/\k<=x.2.2/\ws[x.2.2-k]?=some x.1:=by
  intro p ws
  induction ws with
  |nil=>intro k;simp[Gh_]
  |cons w ws ih =>
   intro k;rw[Gh_,Av_,ih];constructor
   .rintro(e|⟨e1,e2,e3⟩)
    .subst e;show⟨rfl,Ai_ _,s_⟩
    .show⟨e1,o_,?_⟩;rw[show x.2.2-k=(x.2.2-(k+1))+1 by lia];show e3
   .rintro⟨e1,e2,e3⟩;by_cases h:x.2.2=k
    .left;rw[h,B1_]at e3;have:w=x.1:=Au_ e3;show Bb_ this.symm (Bb_ e1.symm h)
    .right;show⟨e1,o_,?_⟩;rw[show x.2.2-k=(x.2.2-(k+1))+1 by lia]at e3;show e3
 unfold occ;rw[BL_];constructor
 .rintro⟨l,hl,hx⟩;obtain⟨r,hr,rfl⟩:=As_.mp hl;obtain⟨e1,_,e3⟩:=(row _ _ _).mp hx;show⟨r,hr,e1,e3⟩
 .rintro⟨r,hr,e1,e2⟩;show⟨_,As_.mpr ⟨r,hr,rfl⟩,(row _ _ _).mpr ⟨e1,Az_ _,e2⟩⟩
theorem pU_{N:Net S}(ok:FY_ N)(po:FK_ N){c:Nat×Nat}{w:S}(h:wi (trn N) c=some w):(w,phi d0 N c)∈occ N.rows:=by
 obtain⟨h1,h2⟩:=F8_ h;rw[ba_]at h2;have hx:(pts N)[c.1]?=some (pts N)[c.1]:=Aa_ h2;obtain⟨r,hr,er⟩:=As_.mp ((d5_ po).mp (Bg_ h2));have e:(trn N).getD c.1 []=r.2:=by rw[gM_ hx,<-er,ck_ ok hr]
 show nt_.mpr ⟨r,hr,?_,?_⟩
 .change r.1=(pts N).getD c.1 d0;rw[Ad_,hx,er];rfl
 .unfold wi at h;rw[e]at h;show h
theorem nu_{N:Net S}(ok:FY_ N)(po:FK_ N){a b:Nat×Nat}(m:Hk_ (trn N) a b):∃kv∈Gt_ N,kv.2=[phi d0 N a,phi d0 N b]\/kv.2=[phi d0 N b,phi d0 N a]:=by
 obtain⟨ne,w,wa,wb⟩:=m;have ha:=pU_ (d0:=d0) ok po wa;have hb:=pU_ (d0:=d0) ok po wb;obtain⟨_,h2,h3,_⟩:=bq_ _ (occ N.rows) rfl;obtain⟨kv,hkv,ekv⟩:=h3 _ ha;have ekv':kv.1=w:=ekv;have ma:phi d0 N a∈kv.2:=by rw[h2 kv hkv];show As_.mpr ⟨_,Be_.mpr ⟨ha,by simp[ekv']⟩,rfl⟩
 have mb:phi d0 N b∈kv.2:=by rw[h2 kv hkv];show As_.mpr ⟨_,Be_.mpr ⟨hb,by simp[ekv']⟩,rfl⟩
 have la:=(F8_ wa).2;have lb:=(F8_ wb).2;rw[ba_]at la lb;have pne:phi d0 N a≠phi d0 N b:=λz=>ne (h8_ ok po la lb z);obtain⟨x,y,exy⟩:=jx_ ok hkv;rw[exy]at ma mb;show⟨kv,hkv,?_⟩;rw[exy];simp only[Av_,AL_,Dz_]at ma mb
 rcases ma with ma|ma <;> rcases mb with mb|mb
 .show absurd (ma.trans mb.symm) pne
 .show .inl (by rw[ma,mb])
 .show .inr (by rw[ma,mb])
 .show absurd (ma.trans mb.symm) pne
def H5_(N:Net S):List (Nat×Nat):=N.rows.flatMap λr=>(List.range (r.2.length+if r.1∈N.posts then 1 else 0)).map λk=>(pid N r.1,k)
theorem LE_{N:Net S}(ok:FY_ N)(po:FK_ N){r:S×List S}(hr:r∈N.rows){k:Nat}(hk:k<r.2.length+if r.1∈N.posts then 1 else 0):IsC (trn N) N.posts.length (pid N r.1,k):=by
 have hm:r.1∈pts N:=(d5_ po).mpr (As_.mpr ⟨r,hr,rfl⟩);have e:=mc_ hm;show⟨by rw[ba_];show mb_ hm,?_⟩;change k<rl (trn N) (pid N r.1)+if pid N r.1<N.posts.length then 1 else 0;unfold rl;rw[gM_ e,ck_ ok hr];by_cases h:r.1∈N.posts
 .rw[if_pos ((f1_ ok po e).mp h)];rw[if_pos h]at hk;show hk
 .rw[if_neg (λz=>h ((f1_ ok po e).mpr z))];rw[if_neg h]at hk;show hk
theorem hP_{N:Net S}(ok:FY_ N)(po:FK_ N){c:Nat×Nat}:c∈H5_ N↔IsC (trn N) N.posts.length c:=by
 unfold H5_;rw[List.mem_flatMap];constructor
 .rintro⟨r,hr,hc⟩;obtain⟨k,hk,rfl⟩:=As_.mp hc;show LE_ ok po hr (A3_.mp hk)
 .rintro⟨h1,h2⟩;rw[ba_]at h1;have hx:(pts N)[c.1]?=some (pts N)[c.1]:=Aa_ h1;obtain⟨r,hr,er⟩:=As_.mp ((d5_ po).mp (Bg_ h1));show⟨r,hr,As_.mpr ⟨c.2,A3_.mpr ?_,?_⟩⟩
  .unfold rl at h2;rw[gM_ hx,<-er,ck_ ok hr]at h2;by_cases hp:r.1∈N.posts
   .rw[if_pos hp];rw[er]at hp;rw[if_pos ((f1_ ok po hx).mp hp)]at h2;show h2
   .rw[if_neg hp];rw[er]at hp;rw[if_neg (λz=>hp ((f1_ ok po hx).mpr z))]at h2;show h2
  .rw[er,q9_ ok po hx]
theorem pb_{N:Net S}(po:FK_ N):(H5_ N).map (phi d0 N)=(N.rows.map λr=>(List.range (r.2.length+if r.1∈N.posts then 1 else 0)).map λk=>(r.1,k)).flatten:=by unfold H5_;rw[List.flatMap_def,D5_,AW_];congr 1;apply Bs_;intro r hr;change(List.map _ _).map _=_;rw[AW_];apply Bs_;intro k _;show ns_ ((d5_ po).mpr (As_.mpr ⟨r,hr,rfl⟩)) k
end
abbrev Sd:=(Nat×Nat)×Bool
def tn(s:Sd):Sd:=(s.1,!s.2)
theorem He_(s:Sd):tn (tn s)=s:=by unfold tn;simp
theorem LG_(s:Sd):tn s≠s:=λh=>by have:=congrArg Prod.snd h;unfold tn at this;cases s.2 <;> simp_all
theorem i6_{a b:Sd}(h:a.1=b.1):a=b\/a=tn b:=by obtain⟨c,x⟩:=a;obtain⟨d,y⟩:=b;cases(show c=d from h);unfold tn;cases x <;> cases y <;> simp
structure Go(G:Sd->Sd->Prop):Prop where
 one:∀{a b c},G a b->G a c->b=c
 rev:∀{a b},G a b->G (tn b) (tn a)
 no:∀{a},¬ G a (tn a)
theorem Go.inj{G:Sd->Sd->Prop}(g:Go G){a b c:Sd}(h1:G a c)(h2:G b c):a=b:=by have:=g.one (g.rev h1) (g.rev h2);rw[<-He_ a,this,He_]
def Pa(G:Sd->Sd->Prop)(l:List Sd):Prop:=∀(i:Nat)(a b:Sd),l[i]?=some a->l[i+1]?=some b->G a b
theorem Pa.no_turn{G:Sd->Sd->Prop}(g:Go G){l:List Sd}(p:Pa G l):∀(n i:Nat)(a b:Sd),l[i]?=some a->l[i+n]?=some b->a≠tn b
 |0,i,a,b,ha,hb,e=>by
  rw[Nat.add_zero,ha]at hb;cases hb;show LG_ a e.symm
 |1,i,a,b,ha,hb,e=>by
  have h:=p i a b ha hb;have e':b=tn a:=by rw[e,He_]
  rw[e']at h;show g.no h
 |n+2,i,a,b,ha,hb,e=>by have l1:=(Ae_.mp hb).1;obtain⟨a',ha'⟩:∃a',l[i+1]?=some a':=⟨l[i+1],Aa_ o_⟩;obtain⟨b',hb'⟩:∃b',l[i+n+1]?=some b':=⟨l[i+n+1],Aa_ o_⟩;have h1:=p i a a' ha ha';have h2:=g.rev (p (i+n+1) b' b hb' hb);rw[<-e]at h2;have e2:=g.one h1 h2;show Pa.no_turn g p n (i+1) a' b' ha' (by rw[show i+1+n=i+n+1 by lia];show hb') e2
variable{G:Sd->Sd->Prop}{l:List Sd}
theorem Pa.nodup(g:Go G)(p:Pa G l){s:Sd}(h0:l[0]?=some s)(hs:∀j b,0<j->l[j]?=some b->b≠s):l.Nodup:=by
 rw[CY_,BK_]
 have key:∀(i j:Nat)(a:Sd),i<j->l[i]?=some a->l[j]?=some a->False:=by
  intro i
  induction i with
  |zero =>
   intro j a hij h1 h2;rw[h0]at h1;cases h1;show hs j _ hij h2 rfl
  |succ i ih =>intro j a hij h1 h2;obtain⟨j,rfl⟩:∃k,j=k+1:=⟨j-1,o_⟩;have l1:=(Ae_.mp h1).1;have l2:=(Ae_.mp h2).1;obtain⟨x,hx⟩:∃x,l[i]?=some x:=⟨l[i],Aa_ o_⟩;obtain⟨y,hy⟩:∃y,l[j]?=some y:=⟨l[j],Aa_ o_⟩;have e:=g.inj (p i x a hx h1) (p j y a hy h2);subst e;show ih j x o_ hx hy
 intro i j hi hj hij e;show key i j l[i] hij (Aa_ hi) (by rw[Aa_ hj,e])
theorem Pa.corners(g:Go G)(p:Pa G l)(nd:l.Nodup):(l.map (·.1)).Nodup:=by
 rw[CY_,BD_,BK_];rw[CY_,BK_]at nd;intro i j hi hj hij e
 rcases i6_ e with e|e
 .show nd i j hi hj hij e
 .show p.no_turn g (j-i) i _ _ (Aa_ hi) (by rw[show i+(j-i)=j by lia];show Aa_ hj) e
theorem Pa.back(g:Go G)(p:Pa G l):Pa G (l.reverse.map tn):=by intro i a b ha hb;have l1:=(Ae_.mp hb).1;rw[Ab_,Bl_]at l1;rw[Ag_,Cl_ o_]at ha hb;obtain⟨x,hx,rfl⟩:=AQ_.mp ha;obtain⟨y,hy,rfl⟩:=AQ_.mp hb;show g.rev (p (l.length-1-(i+1)) y x hy ?_);rw[show l.length-1-(i+1)+1=l.length-1-i by lia];show hx
theorem Pa.same{G:Sd->Sd->Prop}(g:Go G){l m:List Sd}(p:Pa G l)(q:Pa G m)(h:l[0]?=m[0]?):∀i,i<l.length->i<m.length->l[i]?=m[i]?
 |0,_,_=>h
 |i+1,h1,h2=>by have ih:=Pa.same g p q h i o_ o_;have e1:l[i+1]?=some l[i+1]:=Aa_ h1;have e2:m[i+1]?=some m[i+1]:=Aa_ h2;have e3:l[i]?=some l[i]:=Aa_ o_;have:=g.one (p i _ _ e3 e1) (q i _ _ (ih▸e3) e2);rw[e1,e2,this]
section
def beh(T:List (List α))(P:Nat)(e:Nat×Nat):Nat×Nat:=if P<=e.1/\e.2+1=rl T e.1 then(e.1,0)else(e.1,e.2+1)
theorem fx_(T:List (List α))(P:Nat)(e:Nat×Nat):(beh T P e).1=e.1:=by unfold beh;split <;> rfl
theorem gN_{T:List (List α)}{a b:Nat×Nat}(ha:a.2<rl T a.1)(hb:b.2<rl T b.1)(h:beh T P a=beh T P b):a=b:=by
 have e1:a.1=b.1:=by rw[<-fx_ T P a,h,fx_]
 obtain⟨p,k⟩:=a;obtain⟨q,j⟩:=b;cases(show p=q from e1);have e2:=congrArg Prod.snd h;unfold beh at e2
 dsimp only at ha hb e2⊢
 congr 1;by_cases c1:P<=p/\k+1=rl T p
 .rw[if_pos c1]at e2;by_cases c2:P<=p/\j+1=rl T p
  .lia
  .rw[if_neg c2]at e2
   dsimp only at e2
   lia
 .rw[if_neg c1]at e2;by_cases c2:P<=p/\j+1=rl T p
  .rw[if_pos c2]at e2
   dsimp only at e2
   lia
  .rw[if_neg c2]at e2
   dsimp only at e2
   lia
theorem JA_{T:List (List α)}{w:α}(h:wi T e=some w):IsC T P (beh T P e):=by
 obtain⟨h1,h2⟩:=F8_ h;show⟨by rw[fx_];show h2,?_⟩;rw[fx_];unfold beh;split
 .change 0<_;lia
 .rename_i c;change e.2+1<_;split
  .lia
  .have:¬ e.2+1=rl T e.1:=λz=>c ⟨o_,z⟩;lia
def Gg(T:List (List α))(P:Nat)(a b:Sd):Prop:=∃e f,Hk_ T e f/\((a=(e,true)/\b=(f,false))\/(a=(beh T P e,false)/\b=(beh T P f,true)))
theorem Hk_.lt{T:List (List α)}{a b:Nat×Nat}(h:Hk_ T a b):a.2<rl T a.1/\b.2<rl T b.1:=let⟨_,w,h1,h2⟩:=h;⟨(F8_ h1).1,(F8_ h2).1⟩
theorem Gr_{T:List (List α)}(tw:Tw T):Go (Gg T P) where
 one:=by
  rintro a b c ⟨e,f,m,h⟩ ⟨e',f',m',h'⟩
  rcases h with⟨rfl,rfl⟩|⟨rfl,rfl⟩ <;> rcases h' with⟨h1,rfl⟩|⟨h1,rfl⟩
  .cases h1;rw[d3_ tw m m']
  .cases h1
  .cases h1
  .have:=gN_ m.lt.1 m'.lt.1 (congrArg Prod.fst h1);subst this;rw[d3_ tw m m']
 rev:=by
  rintro a b ⟨e,f,m,h⟩
  rcases h with⟨rfl,rfl⟩|⟨rfl,rfl⟩
  .show⟨f,e,m.symm,.inl ⟨rfl,rfl⟩⟩
  .show⟨f,e,m.symm,.inr ⟨rfl,rfl⟩⟩
 no:=by
  rintro a ⟨e,f,m,h⟩
  rcases h with⟨rfl,h⟩|⟨rfl,h⟩
  .show m.1 (congrArg Prod.fst h)
  .show m.1 (gN_ m.lt.1 m.lt.2 (congrArg Prod.fst h))
def wr(T:List (List α))(P:Nat)(s:Sd):Option α :=
 if s.2=true then wi T s.1 else if s.1.2=0 then(if P<=s.1.1 then wi T (s.1.1,rl T s.1.1-1)else none)else wi T (s.1.1,s.1.2-1)
theorem i7_{T:List (List α)}(h:e.2<rl T e.1):wr T P (beh T P e,false)=wi T e:=by
 unfold wr;rw[if_neg s_,fx_];unfold beh;by_cases c:P<=e.1/\e.2+1=rl T e.1
 .rw[if_pos c]
  dsimp only
  rw[if_pos rfl,if_pos c.1,show rl T e.1-1=e.2 by lia]
 .rw[if_neg c]
  dsimp only
  rw[if_neg o_,show e.2+1-1=e.2 by lia]
theorem IH_{T:List (List α)}{a b:Sd}(h:Gg T P a b):∃w,wr T P a=some w/\wr T P (tn b)=some w:=by
 obtain⟨e,f,m,h⟩:=h;obtain⟨ne,w,h1,h2⟩:=m
 rcases h with⟨rfl,rfl⟩|⟨rfl,rfl⟩
 .show⟨w,h1,h2⟩
 .show⟨w,by rw[i7_ (F8_ h1).1];show h1,?_⟩;change wr T P (beh T P f,false)=some w;rw[i7_ (F8_ h2).1];show h2
variable{s:Sd}
theorem md_{T:List (List α)}{w:α}(hc:IsC T P s.1)(h:wr T P s=some w):∃e,wi T e=some w/\(s=(e,true)\/(s=(beh T P e,false))):=by
 obtain⟨c,b⟩:=s;cases b with
 |true=>show⟨c,h,.inl rfl⟩
 |false =>
  unfold wr at h;rw[if_neg s_]at h
  dsimp only at h
  by_cases c0:c.2=0
  .rw[if_pos c0]at h;by_cases cP:P<=c.1
   .rw[if_pos cP]at h;show⟨_,h,.inr ?_⟩;have:=(F8_ h).1;unfold beh
    dsimp only at this⊢
    rw[if_pos ⟨cP,o_⟩,<-c0]
   .rw[if_neg cP]at h;cases h
  .rw[if_neg c0]at h;show⟨_,h,.inr ?_⟩;have h1:=(F8_ h).1;have h2:=hc.2;unfold beh
   dsimp only at h1 h2⊢
   rw[if_neg (λz=>by have:=z.2;rw[if_neg o_]at h2;lia),show c.2-1+1=c.2 by lia]
theorem nv_{T:List (List α)}(tw:Tw T){w:α}(hc:IsC T P s.1)(h:wr T P s=some w):∃b,Gg T P s b:=by
 obtain⟨e,he,h⟩:=md_ hc h;obtain⟨f,m⟩:=jt_ tw he
 rcases h with rfl|rfl
 .show⟨_,e,f,m,.inl ⟨rfl,rfl⟩⟩
 .show⟨_,e,f,m,.inr ⟨rfl,rfl⟩⟩
theorem fy_{T:List (List α)}{b:Sd}(h:wr T P s=none):¬ Gg T P s b:=λg=>by obtain⟨w,h1,_⟩:=IH_ g;rw[h]at h1;cases h1
theorem gg_c{T:List (List α)}{a b:Sd}(h:Gg T P a b):IsC T P b.1:=by
 obtain⟨e,f,m,h⟩:=h;obtain⟨ne,w,h1,h2⟩:=m
 rcases h with⟨_,rfl⟩|⟨_,rfl⟩
 .have:=F8_ h2;show⟨this.2,AK_ this.1 (Bt_ _ _)⟩
 .show JA_ h2
def stt(T:List (List α))(pl:Nat):Sd:=if pl%2=0 then((pl/2,rl T (pl/2)),false)else((pl/2,0),true)
theorem IF_{T:List (List α)}(hPT:P<=T.length){pl:Nat}(h:pl<2*P):IsC T P (stt T pl).1:=by
 have h2:pl/2<P:=o_
 unfold stt;split
 .show⟨by change pl/2<_;lia,by change rl T (pl/2)<rl T (pl/2)+_;rw[if_pos h2];lia⟩
 .show⟨by change pl/2<_;lia,by change 0<rl T (pl/2)+_;rw[if_pos h2];lia⟩
theorem bF_{T:List (List α)}{pl:Nat}(h:pl<2*P):wr T P (tn (stt T pl))=none:=by
 have h2:pl/2<P:=o_
 unfold stt;split
 .change wi T (pl/2,rl T (pl/2))=none;show Ba_ (Ai_ _)
 .change wr T P ((pl/2,0),false)=none;unfold wr;rw[if_neg s_]
  dsimp only
  rw[if_pos rfl,if_neg o_]
theorem jy_{T:List (List α)}{a b:Nat}(h:stt T a=stt T b):a=b:=by
 unfold stt at h;by_cases ca:a%2=0
 .by_cases cb:b%2=0
  .rw[if_pos ca,if_pos cb]at h;have:=congrArg (λs:Sd=>s.1.1) h
   dsimp only at this
   lia
  .rw[if_pos ca,if_neg cb]at h;have:=congrArg Prod.snd h;cases this
 .by_cases cb:b%2=0
  .rw[if_neg ca,if_pos cb]at h;have:=congrArg Prod.snd h;cases this
  .rw[if_neg ca,if_neg cb]at h;have:=congrArg (λs:Sd=>s.1.1) h
   dsimp only at this
   lia
theorem me_{T:List (List α)}(hc:IsC T P s.1)(h:wr T P s=none):∃pl,pl<2*P/\tn s=stt T pl:=by
 obtain⟨⟨p,k⟩,b⟩:=s;obtain⟨h1,h2⟩:=hc
 dsimp only at h1 h2
 have hp:p<P:=by
  show B8_.mp λz=>?_;rw[if_neg z]at h2;cases b with
  |true =>
   have:wi T (p,k)=none:=h;obtain⟨w,hw⟩:=cO_ (T:=T) (e:=(p,k)) (by dsimp only;lia);rw[this]at hw;cases hw
  |false =>
   unfold wr at h;rw[if_neg s_]at h
   dsimp only at h
   by_cases k0:k=0
   .rw[if_pos k0,if_pos o_]at h;obtain⟨w,hw⟩:=cO_ (T:=T) (e:=(p,rl T p-1)) (by dsimp only;lia);rw[h]at hw;cases hw
   .rw[if_neg k0]at h;obtain⟨w,hw⟩:=cO_ (T:=T) (e:=(p,k-1)) (by dsimp only;lia);rw[h]at hw;cases hw
 rw[if_pos hp]at h2;cases b with
 |true =>
  have hk:k=rl T p:=by show B8_.mp λz=>?_;obtain⟨w,hw⟩:=cO_ (T:=T) (e:=(p,k)) (by dsimp only;lia);rw[show wi T (p,k)=none from h]at hw;cases hw
  show⟨2*p,o_,?_⟩;unfold stt tn;rw[if_pos o_,show 2*p/2=p by lia,hk];rfl
 |false =>
  have hk:k=0:=by
   show B8_.mp λz=>?_;unfold wr at h;rw[if_neg s_]at h
   dsimp only at h
   rw[if_neg z]at h;obtain⟨w,hw⟩:=cO_ (T:=T) (e:=(p,k-1)) (by dsimp only;lia);rw[h]at hw;cases hw
  show⟨2*p+1,o_,?_⟩;unfold stt tn;rw[if_neg o_,show(2*p+1)/2=p by lia,hk];rfl
end
section
variable {T:List (List α)}{P:Nat}
structure Ln(T:List (List α))(P:Nat)(s:Sd)(l:List Sd):Prop where
 pa:Pa (Gg T P) l
 hd:l[0]?=some s
 ed:∀x,l.getLast?=some x->wr T P x=none
variable{s:Sd}
theorem Ln.ne(h:Ln T P s l):l≠[]:=λe=>by have:=h.hd;rw[e]at this;cases this
theorem Ln.last(h:Ln T P s l):∃x,l.getLast?=some x/\l[l.length-1]?=some x:=by have:=h.ne;have hl:=BB_.mpr this;show⟨l[l.length-1],by rw[Bm_,Aa_ o_],Aa_ o_⟩
theorem Ln.le{m:List Sd}(tw:Tw T)(h:Ln T P s l)(k:Ln T P s m):m.length<=l.length:=by show Cg_.mp λz=>?_;obtain⟨x,hx,hx'⟩:=h.last;have hl:=BB_.mpr h.ne;have e:=h.pa.same (Gr_ tw) k.pa (by rw[h.hd,k.hd]) (l.length-1) o_ o_;rw[hx']at e;have:=k.pa (l.length-1) x m[l.length-1+1] e.symm (Aa_ o_);show fy_ (h.ed x hx) this
theorem Ln.one{m:List Sd}(tw:Tw T)(h:Ln T P s l)(k:Ln T P s m):l=m:=by
 have hl:l.length=m.length:=Nat.le_antisymm (k.le tw h) (h.le tw k);show List.ext_getElem? λi=>?_;by_cases c:i<l.length
 .show h.pa.same (Gr_ tw) k.pa (by rw[h.hd,k.hd]) i c o_
 .rw[Ba_ o_,Ba_ o_]
theorem Pa.allC(p:Pa (Gg T P) l)(h0:l[0]?=some s)(hc:IsC T P s.1):∀x∈l,IsC T P x.1:=λx hx=>by
 obtain⟨i,hi⟩:=AU_.mp hx;cases i with
 |zero=>rw[h0]at hi;cases hi;show hc
 |succ i =>have l1:=(Ae_.mp hi).1;show gg_c (p i l[i] x (Aa_ o_) hi)
theorem Pa.nd_first(tw:Tw T)(p:Pa (Gg T P) l)(h0:l[0]?=some s)(hs:wr T P (tn s)=none):l.Nodup:=by show p.nodup (Gr_ tw) h0 λj b hj hb e=>?_;subst e;obtain⟨j,rfl⟩:∃k,j=k+1:=⟨j-1,o_⟩;have l1:=(Ae_.mp hb).1;show fy_ hs ((Gr_ tw).rev (p j l[j] b (Aa_ o_) hb))
theorem Pa.short(tw:Tw T)(p:Pa (Gg T P) l)(h0:l[0]?=some s)(hc:IsC T P s.1)(nd:l.Nodup):l.length<=(RimT.corners T P).length:=by
 have:=bS_ (p.corners (Gr_ tw) nd) (m:=RimT.corners T P) λc hcm=>by obtain⟨x,hx,rfl⟩:=As_.mp hcm;show bv_.mpr (p.allC h0 hc x hx)
 rwa[Ab_]at this
theorem Ln.back(tw:Tw T){x:Sd}(h:Ln T P s l)(hs:wr T P (tn s)=none)(hx:l.getLast?=some x):Ln T P (tn x) (l.reverse.map tn):=by
 show⟨h.pa.back (Gr_ tw),?_,λy hy=>?_⟩
 .have:=BB_.mpr h.ne;rw[Ag_,Cl_ o_,Nat.sub_zero,<-Bm_,hx];rfl
 .rw[List.getLast?_map,EM_]at hy;have e:l.head?=some s:=by rw[EA_];show h.hd
  rw[e]at hy;cases hy;show hs
def wiL(T:List (List α))(P:Nat)(l:List Sd):List α:=l.filterMap (wr T P)
def ind(o:Option α)(w:α):Nat:=if o=some w then 1 else 0
def fC(T:List (List α))(P:Nat)(w:α)(c:Nat×Nat):Nat:=ind (wr T P (c,true)) w+ind (wr T P (c,false)) w
theorem LS_(w:α)(s:Sd):fC T P w s.1=ind (wr T P s) w+ind (wr T P (tn s)) w:=by
 obtain⟨c,b⟩:=s;unfold fC tn;cases b
 .change ind (wr T P (c,true)) w+ind (wr T P (c,false)) w=ind (wr T P (c,false)) w+ind (wr T P (c,true)) w;lia
 .rfl
theorem h9_(w:α):∀l:List Sd,(wiL T P l).count w=(l.map λs=>ind (wr T P s) w).sum
 |[]=>rfl
 |s::l=>by
  have ih:=h9_ w l;unfold wiL at ih⊢;rw[BC_,Ay_,BH_];cases h:wr T P s with
  |none =>
   dsimp only
   rw[ih];unfold ind;rw[if_neg s_];lia
  |some x =>
   dsimp only
   rw[B2_,ih];unfold ind;by_cases e:x=w
   .subst e;simp;lia
   .simp[e]
theorem lk_(w:α):∀(l:List Sd)(a:Sd),Pa (Gg T P) (a::l)->∀x,(a::l).getLast?=some x->((a::l).map λs=>ind (wr T P (tn s)) w).sum+ind (wr T P x) w=ind (wr T P (tn a)) w+((a::l).map λs=>ind (wr T P s) w).sum
 |[],a,p,x,hx=>by
  cases hx;simp
 |b::l,a,p,x,hx=>by
  have ih:=lk_ w l b (λi x y hx hy=>p (i+1) x y hx hy) x (by rw[En_]at hx;show hx);obtain⟨v,h1,h2⟩:=IH_ (p 0 a b rfl rfl);have e:ind (wr T P (tn b)) w=ind (wr T P a) w:=by rw[h1,h2]
  rw[e]at ih;rw[Ay_,BH_,Ay_ (f:=λs=>ind (wr T P s) w),BH_];lia
theorem nw_(w:α):∀l:List Sd,((l.map (·.1)).map (fC T P w)).sum=(l.map λs=>ind (wr T P s) w).sum+(l.map λs=>ind (wr T P (tn s)) w).sum
 |[]=>rfl
 |s::l=>by have:=nw_ w l;rw[Ay_,Ay_,BH_,Ay_,BH_,Ay_,BH_,this,LS_];lia
theorem ra_(w:α)(h:Ln T P s l)(hs:wr T P (tn s)=none):((l.map (·.1)).map (fC T P w)).sum=2*(wiL T P l).count w:=by
 obtain⟨x,hx,_⟩:=h.last;cases l with
 |nil=>show absurd rfl h.ne
 |cons a l =>
  have e:a=s:=by have:=h.hd;simpa using this
  subst e;have:=lk_ w l a h.pa x hx;rw[h.ed x hx,hs]at this;rw[nw_,h9_];unfold ind at this;simp only[reduceCtorEq,Cb_]at this;unfold ind;lia
theorem rb_(w:α){a x:Sd}(p:Pa (Gg T P) (a::l))(hx:(a::l).getLast?=some x)(g:Gg T P x a):(((a::l).map (·.1)).map (fC T P w)).sum=2*(wiL T P (a::l)).count w:=by have:=lk_ w l a p x hx;obtain⟨v,h1,h2⟩:=IH_ g;rw[h1,h2]at this;rw[nw_,h9_];lia
end
section
variable {T:List (List α)}{P:Nat}
theorem hQ_{β:Type}{f:β->Nat}:∀{l:List β},(∀c∈l,f c=0)->(l.map f).sum=0
 |[],_=>rfl
 |a::l,h=>by rw[Ay_,BH_,h a Ar_,hQ_ λc hc=>h c (An_ _ hc)]
theorem ll_{β:Type}{f:β->Nat}{a:β}:∀{l:List β},l.Nodup->a∈l->(∀c∈l,c≠a->f c=0)->(l.map f).sum=f a
 |x::l,nd,ha,h=>by
  have h':=AV_.mp nd;rw[Ay_,BH_];by_cases e:a=x
  .subst e;rw[hQ_ λc hc=>h c (An_ _ hc) λz=>h'.1 (z▸hc)];lia
  .rw[h x Ar_ (λz=>e z.symm),ll_ h'.2 ((Av_.mp ha).resolve_left e) λc hc=>h c (An_ _ hc)];lia
theorem lm_{β:Type}{f:β->Nat}{a b:β}:∀{l:List β},l.Nodup->a≠b->a∈l->b∈l->(∀c∈l,c≠a->c≠b->f c=0)->(l.map f).sum=f a+f b
 |x::l,nd,ab,ha,hb,h=>by
  have h':=AV_.mp nd;rw[Ay_,BH_];by_cases e:a=x
  .subst e;rw[ll_ h'.2 ((Av_.mp hb).resolve_left λz=>ab z.symm) λc hc hcb=>h c (An_ _ hc) (λz=>h'.1 (z▸hc)) hcb]
  .by_cases e2:b=x
   .subst e2;rw[ll_ h'.2 ((Av_.mp ha).resolve_left e) λc hc hca=>h c (An_ _ hc) hca (λz=>h'.1 (z▸hc))];lia
   .rw[h x Ar_ (λz=>e z.symm) (λz=>e2 z.symm),lm_ h'.2 ab ((Av_.mp ha).resolve_left e) ((Av_.mp hb).resolve_left e2) λc hc=>h c (An_ _ hc)];lia
theorem rc_(tw:Tw T){l:List (Nat×Nat)}(nd:l.Nodup)(hl:∀c,c∈l↔IsC T P c)(w:α):(l.map (fC T P w)).sum=if w∈T.flatten then 4 else 0:=by
 have split:∀l:List (Nat×Nat),(l.map (fC T P w)).sum=(l.map λc=>ind (wr T P (c,true)) w).sum+(l.map λc=>ind (wr T P (c,false)) w).sum:=by
  intro l
  induction l with
  |nil=>rfl
  |cons c l ih =>rw[Ay_,BH_,ih,Ay_,BH_,Ay_,BH_];unfold fC;lia
 rw[split];by_cases hw:w∈T.flatten
 .rw[if_pos hw];obtain⟨a,b,_,ab,hab⟩:=js_ (tw w hw);have wa:wi T a=some w:=(hab a).mpr (.inl rfl);have wb:wi T b=some w:=(hab b).mpr (.inr rfl);have ic:∀{e},wi T e=some w->IsC T P e:=λ{e} h=>⟨(F8_ h).2,AK_ (F8_ h).1 (Bt_ _ _)⟩;have i1:∀{s},wr T P s=some w->ind (wr T P s) w=1:=λ{s} h=>by unfold ind;rw[if_pos h]
  have i0:∀{s},wr T P s≠some w->ind (wr T P s) w=0:=λ{s} h=>by unfold ind;rw[if_neg h]
  rw[lm_ nd ab ((hl a).mpr (ic wa)) ((hl b).mpr (ic wb)) λc hc na nb=>i0 (s:=(c,true)) λz=>((hab c).mp z).elim na nb,i1 (s:=(a,true)) wa,i1 (s:=(b,true)) wb];have ba:wr T P (beh T P a,false)=some w:=by rw[i7_ (F8_ wa).1];show wa
  have bb:wr T P (beh T P b,false)=some w:=by rw[i7_ (F8_ wb).1];show wb
  rw[lm_ (a:=beh T P a) (b:=beh T P b) nd (λz=>ab (gN_ (F8_ wa).1 (F8_ wb).1 z)) ((hl _).mpr (JA_ wa)) ((hl _).mpr (JA_ wb)) λc hc na nb=>i0 (s:=(c,false)) λz=>?_,i1 ba,i1 bb];obtain⟨e,he,h⟩:=md_ ((hl c).mp hc) z
  rcases h with h|h
  .cases h
  .have hc':c=beh T P e:=congrArg Prod.fst h
   rcases(hab e).mp he with rfl|rfl
   .show na hc'
   .show nb hc'
 .rw[if_neg hw];have:∀s,ind (wr T P s) w=0->ind (wr T P s) w=0:=λ_ h=>h;rw[hQ_ λc hc=>?_,hQ_ λc hc=>?_]
  .unfold ind;show if_neg λz=>?_;obtain⟨e,he,_⟩:=md_ ((hl c).mp hc) z;show hw (l7_ he)
  .unfold ind;show if_neg λz=>hw (l7_ z)
theorem ln_(tw:Tw T){L:List (List Sd)}{l:List (Nat×Nat)}(nd:l.Nodup)(hl:∀c,c∈l↔IsC T P c)(hp:(L.map λm=>m.map (·.1)).flatten.Perm l)(w:α)
  (hs:∀m∈L,((m.map (·.1)).map (fC T P w)).sum=2*(wiL T P m).count w):((L.map (wiL T P)).flatten).count w=if w∈T.flatten then 2 else 0:=by
 have h1:(((L.map λm=>m.map (·.1)).flatten).map (fC T P w)).sum=2*((L.map (wiL T P)).flatten).count w:=by
  clear hp
  induction L with
  |nil=>rfl
  |cons m L ih =>rw[Ay_,AF_,Ao_,List.sum_append,hs m Ar_,ih λm' hm=>hs m' (An_ _ hm),Ay_,AF_,Bw_];lia
 rw[(hp.map _).sum_nat,rc_ tw nd hl]at h1;split at h1 <;> rename_i c
 .rw[if_pos c];lia
 .rw[if_neg c];lia
end
section
variable {T:List (List α)}{P:Nat}
def cs(l:List Sd):List (Nat×Nat):=l.map (·.1)
def H3_(T:List (List α))(P:Nat)(S:List (Nat×Nat)):Prop:=∀a b,Gg T P a b->b.1∈S->a.1∈S
theorem H3_.app{S S':List (Nat×Nat)}(h:H3_ T P S)(h':H3_ T P S'):H3_ T P (S++S'):=λa b g hb=>by
 rcases Aq_.mp hb with hb|hb
 .show Aq_.mpr (.inl (h a b g hb))
 .show Aq_.mpr (.inr (h' a b g hb))
theorem H3_.apart{S:List (Nat×Nat)}(h:H3_ T P S){l:List Sd}{s:Sd}(p:Pa (Gg T P) l)(h0:l[0]?=some s)(hs:s.1∉S):∀(k:Nat)(x:Sd),l[k]?=some x->x.1∉S
 |0,x,hx=>by rw[h0]at hx;cases hx;show hs
 |k+1,x,hx=>λhm=>by have l1:=(Ae_.mp hx).1;have e:l[k]?=some l[k]:=Aa_ o_;show H3_.apart h p h0 hs k _ e (h _ _ (p k _ x e hx) hm)
theorem a3_{c:Nat×Nat}:c∈cs l↔∃x∈l,x.1=c:=As_
theorem nx_(tw:Tw T)(p:Pa (Gg T P) l)(hf:∀s a,l[0]?=some s->Gg T P a s->a∈l)(he:∀x b,l.getLast?=some x->Gg T P x b->b∈l):H3_ T P (cs l):=λa b g hb=>by
 have go:=Gr_ (P:=P) tw;obtain⟨y,hy,ey⟩:=a3_.mp hb;obtain⟨k,hk⟩:=AU_.mp hy;have l1:=(Ae_.mp hk).1
 rcases i6_ ey with rfl|rfl
 .cases k with
  |zero=>show a3_.mpr ⟨a,hf y a hk g,rfl⟩
  |succ k =>have e:l[k]?=some l[k]:=Aa_ o_;rw[go.inj g (p k _ y e hk)];show a3_.mpr ⟨_,Am_ e,rfl⟩
 .have g':=go.rev g;by_cases c:k+1<l.length
  .have e:l[k+1]?=some l[k+1]:=Aa_ c;have:=go.one g' (p k _ _ hk e);show a3_.mpr ⟨_,Am_ e,by rw[<-this];rfl⟩
  .have e:l.getLast?=some (tn b):=by rw[Bm_,show l.length-1=k by lia];show hk
   show a3_.mpr ⟨tn a,he _ _ e g',rfl⟩
theorem Ln.shut(tw:Tw T){s:Sd}(h:Ln T P s l)(hs:wr T P (tn s)=none):H3_ T P (cs l):=nx_ tw h.pa (λs' a h0 g=>by rw[h.hd]at h0;cases h0;show absurd ((Gr_ tw).rev g) (fy_ hs)) λx b hx g=>absurd g (fy_ (h.ed x hx))
theorem ny_(tw:Tw T){s x:Sd}(p:Pa (Gg T P) l)(h0:l[0]?=some s)(hx:l.getLast?=some x)(g:Gg T P x s):H3_ T P (cs l):=nx_ tw p (λs' a h0' g'=>by
 rw[h0]at h0';cases h0';rw[(Gr_ tw).inj g' g];show BR_ hx) λx' b hx' g'=>by
 rw[hx]at hx';cases hx';rw[(Gr_ tw).one g' g];show Am_ h0
structure LnP(T:List (List α))(P p:Nat)(l:List Sd)(j:Nat):Prop where
 ln:Ln T P (stt T p) l
 jl:j<2*P
 ed:∃x,l.getLast?=some x/\tn x=stt T j
variable{p j:Nat}
theorem LnP.one(tw:Tw T){j':Nat}{l':List Sd}(h:LnP T P p l j)(h':LnP T P p l' j'):l=l'/\j=j':=by have e:=h.ln.one tw h'.ln;subst e;obtain⟨x,h1,h2⟩:=h.ed;obtain⟨y,h3,h4⟩:=h'.ed;rw[h1]at h3;cases h3;show⟨rfl,jy_ (h2.symm.trans h4)⟩
theorem LnP.back(tw:Tw T)(hp:p<2*P)(h:LnP T P p l j):LnP T P j (l.reverse.map tn) p:=by
 obtain⟨x,h1,h2⟩:=h.ed;have b:=h.ln.back tw (bF_ hp) h1;rw[h2]at b;show⟨b,hp,tn (stt T p),?_,He_ _⟩;have e:l.head?=some (stt T p):=by rw[EA_];show h.ln.hd
 rw[List.getLast?_map,EM_,e];rfl
theorem LnP.ne(tw:Tw T)(h:LnP T P p l j):j≠p:=λe=>by obtain⟨x,h1,h2⟩:=h.ed;subst e;have hl:=BB_.mpr h.ln.ne;rw[Bm_]at h1;show h.ln.pa.no_turn (Gr_ tw) (l.length-1) 0 _ _ h.ln.hd (by rw[CL_];show h1) h2.symm
theorem LnP.hits(tw:Tw T){i:Nat}(hi:i<2*P)(h:LnP T P p l j)(hm:(stt T i).1∈cs l):i=p\/i=j:=by
 obtain⟨y,hy,ey⟩:=a3_.mp hm;obtain⟨k,hk⟩:=AU_.mp hy;have l1:=(Ae_.mp hk).1;have sf:=bF_ (T:=T) hi
 rcases i6_ ey with rfl|e
 .cases k with
  |zero =>
   have:=h.ln.hd;rw[hk]at this;show .inl (jy_ (Au_ this))
  |succ k =>have e:l[k]?=some l[k]:=Aa_ o_;show absurd ((Gr_ tw).rev (h.ln.pa k _ _ e hk)) (fy_ sf)
 .by_cases c:k+1<l.length
  .have e':l[k+1]?=some l[k+1]:=Aa_ c;have:=h.ln.pa k _ _ hk e';rw[e]at this;show absurd this (fy_ sf)
  .obtain⟨x,h1,h2⟩:=h.ed;rw[Bm_,show l.length-1=k by lia,hk]at h1;cases h1;rw[e,He_]at h2;show .inr (jy_ h2)
theorem LnP.first(h:LnP T P p l j):(stt T p).1∈cs l:=a3_.mpr ⟨_,Am_ h.ln.hd,rfl⟩
theorem LnP.last(h:LnP T P p l j):(stt T j).1∈cs l:=by obtain⟨x,h1,h2⟩:=h.ed;show a3_.mpr ⟨x,BR_ h1,by rw[<-h2];rfl⟩
def OpL(T:List (List α))(P:Nat):Nat->List (Nat×Nat×List Sd)->Prop
 |0,O=>O=[]
 |i+1,O=>∃O' l j,OpL T P i O'/\LnP T P i l j/\O=if i<j then O'++[(i,j,l)]else O'
theorem OpL.one(tw:Tw T):∀{i:Nat}{O O':List (Nat×Nat×List Sd)},OpL T P i O->OpL T P i O'->O=O'
 |0,_,_,h,h'=>h.trans h'.symm
 |i+1,_,_,⟨A,l,j,h1,h2,h3⟩,⟨A',l',j',h1',h2',h3'⟩=>by obtain⟨rfl,rfl⟩:=h2.one tw h2';rw[h3,h3',OpL.one tw h1 h1']
theorem OpL.in_:∀{i:Nat}{O:List (Nat×Nat×List Sd)},OpL T P i O->∀t∈O,t.1<i/\t.1<t.2.1/\LnP T P t.1 t.2.2 t.2.1
 |0,_,h,t,ht=>by rw[h]at ht;cases ht
 |i+1,_,⟨A,l,j,h1,h2,h3⟩,t,ht=>by
  rw[h3]at ht;have old:t∈A->_:=λhA=>let z:=OpL.in_ h1 t hA;(⟨o_,z.2⟩:t.1<i+1/\t.1<t.2.1/\LnP T P t.1 t.2.2 t.2.1);by_cases c:i<j
  .rw[if_pos c]at ht
   rcases Aq_.mp ht with ht|ht
   .show old ht
   .rw[Ak_.mp ht];show⟨CU_ _,c,h2⟩
  .rw[if_neg c]at ht;show old ht
theorem OpL.all:∀{i:Nat}{O:List (Nat×Nat×List Sd)},OpL T P i O->∀p,p<i->∃l j,LnP T P p l j/\(p<j->(p,j,l)∈O)
 |0,_,h,p,hp=>absurd hp (Bh_ _)
 |i+1,_,⟨A,l,j,h1,h2,h3⟩,p,hp=>by
  by_cases e:p=i
  .subst e;show⟨l,j,h2,λc=>by rw[h3,if_pos c];show Aq_.mpr (.inr (Ak_.mpr rfl))⟩
  .obtain⟨l',j',z1,z2⟩:=OpL.all h1 p o_;show⟨l',j',z1,λc=>?_⟩;rw[h3];split
   .show Aq_.mpr (.inl (z2 c))
   .show z2 c
def csO(O:List (Nat×Nat×List Sd)):List (Nat×Nat):=(O.map λt=>cs t.2.2).flatten
variable{O:List (Nat×Nat×List Sd)}
theorem ia_{c:Nat×Nat}:c∈csO O↔∃t∈O,c∈cs t.2.2:=by
 unfold csO;rw[BL_];constructor
 .rintro⟨x,hx,hc⟩;obtain⟨t,ht,rfl⟩:=As_.mp hx;show⟨t,ht,hc⟩
 .rintro⟨t,ht,hc⟩;show⟨_,As_.mpr ⟨t,ht,rfl⟩,hc⟩
theorem OpL.passed(tw:Tw T){i:Nat}(hi:i<2*P)(h:OpL T P i O)(hl:LnP T P i l j):(stt T i).1∈csO O↔¬ i<j:=by
 rw[ia_];constructor
 .rintro⟨t,ht,hc⟩;obtain⟨h1,h2,h3⟩:=h.in_ t ht
  rcases h3.hits tw hi hc with e|e
  .lia
  .have b:=h3.back tw o_;rw[<-e]at b;have:=(hl.one tw b).2;lia
 .intro c;have:=hl.ne tw;obtain⟨l',j',h1,h2⟩:=h.all j o_;have b:=hl.back tw hi;have e:=(h1.one tw b).2;subst e;show⟨_,h2 o_,h1.last⟩
theorem OpL.put(tw:Tw T){i:Nat}(hi:i<2*P)(h:OpL T P i O)(hl:LnP T P i l j)(hn:(stt T i).1∉csO O):OpL T P (i+1) (O++[(i,j,l)]):=⟨O,l,j,h,hl,by rw[if_pos (B8_.mp λz=>hn ((h.passed tw hi hl).mpr z))]⟩
theorem OpL.skip(tw:Tw T){i:Nat}(hi:i<2*P)(h:OpL T P i O)(hl:LnP T P i l j)(hn:(stt T i).1∈csO O):OpL T P (i+1) O:=⟨O,l,j,h,hl,by rw[if_neg ((h.passed tw hi hl).mp hn)]⟩
end
def Rt{α:Type}(a b:List α):Prop:=∃x y,a=x++y/\b=y++x
theorem Rt.symm{α:Type}{a b:List α}(h:Rt a b):Rt b a:=let⟨x,y,h1,h2⟩:=h;⟨y,x,h2,h1⟩
theorem Rt.refl{α:Type}(a:List α):Rt a a:=⟨[],a,rfl,s_⟩
theorem Rt.trans{α:Type}{a b c:List α}(h:Rt a b)(k:Rt b c):Rt a c:=by
 obtain⟨x,y,rfl,rfl⟩:=h;obtain⟨z,w,h1,rfl⟩:=k
 rcases List.append_eq_append_iff.mp h1 with⟨t,rfl,rfl⟩|⟨t,rfl,rfl⟩
 .show⟨t,w++y,s_,s_⟩
 .show⟨x++z,t,s_,s_⟩
theorem Rt.rev{α:Type}{a b:List α}(h:Rt a b):Rt a.reverse b.reverse:=by obtain⟨x,y,rfl,rfl⟩:=h;show⟨y.reverse,x.reverse,s_,s_⟩
def Rd{α:Type}(a b:List α):Prop:=Rt a b\/Rt a.reverse b
theorem Rd.symm{α:Type}{a b:List α}(h:Rd a b):Rd b a:=by
 rcases h with h|h
 .show .inl h.symm
 .have:=h.symm.rev;rw[EU_]at this;show .inr this
theorem Rd.trans{α:Type}{a b c:List α}(h:Rd a b)(k:Rd b c):Rd a c:=by
 rcases h with h|h <;> rcases k with k|k
 .show .inl (h.trans k)
 .show .inr (h.rev.trans k)
 .show .inr (h.trans k)
 .have:=h.rev.trans k;rw[EU_]at this;show .inl this
section
variable {T:List (List α)}{P:Nat}
def Ri(T:List (List α))(P:Nat)(l:List Sd):Prop:=∃s x,Pa (Gg T P) l/\l[0]?=some s/\l.getLast?=some x/\Gg T P x s
variable{a:Sd}
theorem lo_(h:Pa G (a::l)):Pa G l:=λi x y hx hy=>h (i+1) x y hx hy
theorem nz_{x b:Sd}(h:Pa G l)(hx:l.getLast?=some x)(g:G x b):Pa G (l++[b]):=λi a c ha hc=>by
 have hl:i+1<(l++[b]).length:=(Ae_.mp hc).1;rw[Af_,AS_]at hl;rw[Al_ o_]at ha;by_cases c1:i+1<l.length
 .rw[Al_ c1]at hc;show h i a c ha hc
 .rw[Ap_ o_,show i+1-l.length=0 by lia]at hc;cases hc;rw[Bm_,show l.length-1=i by lia,ha]at hx;cases hx;show g
theorem Ri.rot1(h:Ri T P (a::l)):Ri T P (l++[a]):=by
 obtain⟨s,x,p,h0,hx,g⟩:=h;cases h0;cases l with
 |nil=>show⟨a,x,p,rfl,hx,g⟩
 |cons b l =>rw[En_]at hx;show⟨b,a,nz_ (lo_ p) hx g,rfl,EV_,p 0 a b rfl rfl⟩
theorem Ri.rot:∀(x:List Sd){y:List Sd},Ri T P (x++y)->Ri T P (y++x)
 |[],y,h=>by simpa using h
 |a::x,y,h=>by
  have h1:Ri T P (x++(y++[a])):=by simpa using Ri.rot1 (l:=x++y) h
  have h2:=Ri.rot x h1;simpa using h2
theorem Ri.one(tw:Tw T){m:List Sd}(h:Ri T P (a::l))(k:Ri T P (a::m))(nl:(a::l).Nodup)(nm:(a::m).Nodup):l=m:=by
 have le:∀{l m:List Sd},Ri T P (a::l)->Ri T P (a::m)->(a::m).Nodup->m.length<=l.length:=by
  intro l m h k nm;obtain⟨s,x,p,h0,hx,g⟩:=h;obtain⟨s',x',p',h0',hx',g'⟩:=k;cases h0;cases h0';show Cg_.mp λz=>?_;have e:=p.same (Gr_ tw) p' rfl l.length s_ (by simp;lia);rw[Bm_,A4_,Nat.add_sub_cancel]at hx;rw[hx]at e;have lt:l.length+1<(a::m).length:=by simp;lia
  have hz:(a::m)[l.length+1]?=some (a::m)[l.length+1]:=Aa_ lt;have e2:=(Gr_ tw).one (p' l.length _ _ e.symm hz) g;have:=(A1_ (l:=a::m) (i:=l.length+1) (j:=0) lt nm).mp (by rw[hz,e2];rfl);lia
 have hl:(a::l).length=(a::m).length:=by have:=le h k nm;have:=le k h nl;simp;lia
 have:a::l=a::m:=List.ext_getElem? λi=>by
  by_cases c:i<(a::l).length
  .show h.choose_spec.choose_spec.1.same (Gr_ tw) k.choose_spec.choose_spec.1 rfl i c o_
  .rw[Ba_ o_,Ba_ o_]
 show(DR_ this).2
theorem gO_(a b:List Sd):wiL T P (a++b)=wiL T P a++wiL T P b:=EN_
theorem mf_:∀(m:List Sd)(a:Sd),Pa (Gg T P) (a::m)->wiL T P (m.reverse.map tn)=(wiL T P (a::m).dropLast).reverse
 |[],_,_=>rfl
 |b::m,a,p=>by have hb:=mf_ m b (lo_ p);obtain⟨w,h1,h2⟩:=IH_ (p 0 a b rfl rfl);rw[DW_,Ao_,gO_,hb,List.dropLast_cons₂];unfold wiL;rw[BC_ (a:=a),h1];simp[h2]
theorem Ri.back(tw:Tw T)(h:Ri T P (a::l)):Ri T P (tn a::l.reverse.map tn)/\wiL T P (tn a::l.reverse.map tn)=(wiL T P (a::l)).reverse:=by
 obtain⟨s,x,p,h0,hx,g⟩:=h;cases h0;have q:=nz_ p hx g;have b:=q.back (Gr_ tw);have e:((a::l)++[a]).reverse.map tn=(tn a::l.reverse.map tn)++[tn a]:=s_
 rw[e]at b;constructor
 .show⟨tn a,(tn a::l.reverse.map tn).getLast s_,λi x y hx hy=>?_,rfl,Dw_ s_,?_⟩
  .have hl:=(Ae_.mp hy).1;show b i x y (by rw[Al_ o_];show hx) (by rw[Al_ hl];show hy)
  .show b l.length _ _ ?_ ?_
   .rw[Al_ s_,List.getLast_eq_getElem,Aa_ s_];congr 2;simp
   .rw[Ap_ s_];simp
 .have:=mf_ (l++[a]) a q;rw[show(a::(l++[a])).dropLast=a::l by rw[show a::(l++[a])=(a::l)++[a]from rfl,EW_]]at this;rw[<-this];simp
theorem Ri.at_(h:Ri T P l){x:Sd}(hx:x∈l):∃m,Ri T P (x::m)/\(x::m).Perm l/\Rt (wiL T P l) (wiL T P (x::m)):=by obtain⟨a,b,rfl⟩:=List.append_of_mem hx;show⟨b++a,h.rot a,(Dg_ (l₁:=x::b) (l₂:=a)),wiL T P a,wiL T P (x::b),gO_ _ _,?_⟩;rw[<-gO_];rfl
theorem Ri.same(tw:Tw T){m:List Sd}(h:Ri T P l)(k:Ri T P m)(nl:l.Nodup)(nm:m.Nodup){c:Nat×Nat}(hl:c∈cs l)(hm:c∈cs m):Rd (wiL T P l) (wiL T P m)/\(cs l).Perm (cs m):=by
 obtain⟨x,hx,ex⟩:=a3_.mp hl;obtain⟨y,hy,ey⟩:=a3_.mp hm;obtain⟨l',h1,h2,h3⟩:=h.at_ hx;obtain⟨m',k1,k2,k3⟩:=k.at_ hy;have nl':=h2.nodup_iff.mpr nl;have nm':=k2.nodup_iff.mpr nm;have cl:(cs (x::l')).Perm (cs l):=h2.map _;have cm:(cs (y::m')).Perm (cs m):=k2.map _
 rcases i6_ (ex.trans ey.symm)with rfl|rfl
 .have e:=Ri.one tw h1 k1 nl' nm';subst e;show⟨.inl (h3.trans k3.symm),cl.symm.trans cm⟩
 .obtain⟨b1,b2⟩:=k1.back tw;have pb:(tn y::m'.reverse.map tn).Perm ((y::m').map tn):=by rw[Ay_];show((List.reverse_perm m').map tn).cons _
  have nb:(tn y::m'.reverse.map tn).Nodup:=pb.nodup_iff.mpr (BD_.mpr (nm'.imp λ{a b} hab e=>hab (by rw[<-He_ a,e,He_])));have e:=Ri.one tw h1 b1 nl' nb;subst e;show⟨?_,cl.symm.trans ?_⟩
  .have:Rd (wiL T P m) (wiL T P (tn y::m'.reverse.map tn)):=.inr (by rw[b2];show k3.rev);show Rd.trans (.inl h3) this.symm
  .have:=pb.map (λz:Sd=>z.1);rw[AW_]at this;show this.trans cm
theorem i8_(tw:Tw T){β:Type}{f:List Sd->β}(hf:∀l m,Rd (wiL T P l) (wiL T P m)->f l=f m):∀{L M:List (List Sd)},(∀l∈L,Ri T P l)->(∀m∈M,Ri T P m)->((L.map cs).flatten).Nodup->((M.map cs).flatten).Nodup->(∀c,c∈(L.map cs).flatten↔c∈(M.map cs).flatten)->(L.map f).Perm (M.map f)
 |[],M,_,hM,_,_,h=>by
  cases M with
  |nil=>show .refl _
  |cons m M =>
   obtain⟨s,x,_,h0,_⟩:=hM m Ar_;show absurd ((h s.1).mpr (BL_.mpr ⟨cs m,Ar_,a3_.mpr ⟨s,Am_ h0,rfl⟩⟩)) AL_
 |l::L,M,hL,hM,nL,nM,h=>by
  obtain⟨s,x,_,h0,_⟩:=id (hL l Ar_);have sl:s.1∈cs l:=a3_.mpr ⟨s,Am_ h0,rfl⟩;obtain⟨C,hC,sC⟩:=BL_.mp ((h s.1).mp (BL_.mpr ⟨cs l,Ar_,sl⟩));obtain⟨m,hm,rfl⟩:=As_.mp hC;have pm:=List.perm_cons_erase hm;have pc:(((m::M.erase m).map cs).flatten).Perm ((M.map cs).flatten):=dL_ (pm.symm.map cs);have nM':=pc.nodup_iff.mpr nM;rw[Ay_,AF_]at nL nM';obtain⟨n1,n2,n3⟩:=AM_.mp nL;obtain⟨n4,n5,n6⟩:=AM_.mp nM';have ndl:∀{l:List Sd},(cs l).Nodup->l.Nodup:=λ{l} z=>(BD_.mp z).imp λhab e=>hab (congrArg (·.1) e);obtain⟨r1,r2⟩:=Ri.same tw (hL l Ar_) (hM m hm) (ndl n1) (ndl n4) sl sC
  have ih:=i8_ tw hf (L:=L) (M:=M.erase m) (λl' hl'=>hL l' (An_ _ hl')) (λm' hm'=>hM m' (List.mem_of_mem_erase hm')) n2 n5 λc=>by
   have hc:=h c;rw[<-pc.mem_iff,Ay_,AF_,Ay_,AF_,Aq_,Aq_]at hc;constructor
   .intro z
    rcases hc.mp (.inr z)with z'|z'
    .show absurd rfl (n3 c (r2.mem_iff.mpr z') c z)
    .show z'
   .intro z
    rcases hc.mpr (.inr z)with z'|z'
    .show absurd rfl (n6 c (r2.mem_iff.mp z') c z)
    .show z'
  rw[Ay_,hf l m r1];show(ih.cons _).trans (by rw[<-Ay_];show(pm.symm.map f))
end
section
variable {T:List (List α)}{P:Nat}
variable{x:Sd}
theorem cP_{i:Nat}(h:i<l.length):(l++[x])[i]?=l[i]?:=Al_ h
variable{mm:List Sd}
theorem nA_(tw:Tw T)(p:Pa (Gg T P) (mm++[x]))(nd:mm.Nodup)(hx:x∈mm):mm[0]?=some x:=by
 obtain⟨k,hk⟩:=AU_.mp hx;have hl:=(Ae_.mp hk).1;cases k with
 |zero=>show hk
 |succ k =>have e1:mm[k]?=some mm[k]:=Aa_ o_;have e2:mm[mm.length-1]?=some mm[mm.length-1]:=Aa_ o_;have g1:=p k mm[k] x (by rw[cP_ o_];show e1) (by rw[cP_ hl];show hk);have g2:=p (mm.length-1) mm[mm.length-1] x (by rw[cP_ o_];show e2) (by rw[show mm.length-1+1=mm.length by lia,Ap_ (Ai_ _),B1_];rfl);have e:=(Gr_ tw).inj g1 g2;have:=(A1_ (i:=k) (j:=mm.length-1) o_ nd).mp (by rw[e1,e2,e]);lia
theorem qp_(tw:Tw T){y:Sd}(p:Pa (Gg T P) (mm++[x]))(hy:y∈mm)(g:Gg T P y (tn x)):False:=by
 obtain⟨k,hk⟩:=AU_.mp hy;have hl:=(Ae_.mp hk).1;obtain⟨z,hz⟩:∃z,(mm++[x])[k+1]?=some z:=⟨(mm++[x])[k+1]'(by simp;lia),Aa_ _⟩;have g1:=p k y z (by rw[cP_ hl];show hk) hz;have e:=(Gr_ tw).one g1 g;subst e;have hx:(mm++[x])[mm.length]?=some x:=by rw[Ap_ (Ai_ _),B1_];rfl
 show p.no_turn (Gr_ tw) (mm.length-(k+1)) (k+1) (tn x) x hz ?_ rfl;rw[show k+1+(mm.length-(k+1))=mm.length by lia];show hx
theorem qq_(p:Pa (Gg T P) (mm++[x]))(h0:mm[0]?=some x):Ri T P mm:=by
 have hl:=(Ae_.mp h0).1;have e2:mm[mm.length-1]?=some mm[mm.length-1]:=Aa_ o_;show⟨x,mm[mm.length-1],λi a b ha hb=>?_,h0,by rw[Bm_];show e2,?_⟩
 .have:=(Ae_.mp hb).1;show p i a b (by rw[cP_ o_];show ha) (by rw[cP_ this];show hb)
 .show p (mm.length-1) _ x (by rw[cP_ o_];show e2) (by rw[show mm.length-1+1=mm.length by lia,Ap_ (Ai_ _),B1_];rfl)
theorem mO_(tw:Tw T)(h:Ri T P mm)(z:Sd):(z∈mm\/∃y∈mm,Gg T P y (tn z))↔z.1∈cs mm:=by
 obtain⟨s,x,p,h0,hx,g⟩:=h;have hl:=(Ae_.mp h0).1;have hxi:mm[mm.length-1]?=some x:=by rw[<-Bm_];show hx
 constructor
 .rintro(h|⟨y,hy,gy⟩)
  .show a3_.mpr ⟨z,h,rfl⟩
  .obtain⟨k,hk⟩:=AU_.mp hy;have hkl:=(Ae_.mp hk).1
   obtain⟨u,hu,gu⟩:∃u∈mm,Gg T P y u:=by
    by_cases c:k+1<mm.length
    .show⟨mm[k+1],Bg_ _,p k y _ hk (Aa_ c)⟩
    .rw[show mm.length-1=k by lia,hk]at hxi;cases hxi;show⟨s,Am_ h0,g⟩
   have e:=(Gr_ tw).one gu gy;show a3_.mpr ⟨u,hu,by rw[e];rfl⟩
 .intro h;obtain⟨u,hu,eu⟩:=a3_.mp h
  rcases i6_ eu with rfl|rfl
  .show .inl hu
  .obtain⟨k,hk⟩:=AU_.mp hu;have hkl:=(Ae_.mp hk).1;cases k with
   |zero =>
    rw[h0]at hk;cases hk;show .inr ⟨x,BR_ hx,g⟩
   |succ k=>show .inr ⟨mm[k],Bg_ _,p k _ _ (Aa_ o_) hk⟩
theorem pc_(O:List (Nat×Nat×List Sd))(t:Nat×Nat×List Sd):csO (O++[t])=csO O++cs t.2.2:=by unfold csO;rw[Ao_,AT_];simp
theorem OpL.facts(tw:Tw T)(PT:P<=T.length):∀{i:Nat}{O:List (Nat×Nat×List Sd)},i<=2*P->OpL T P i O->(csO O).Nodup/\H3_ T P (csO O)/\∀c∈csO O,IsC T P c
 |0,_,_,h=>by rw[h];show⟨A8_,λa b _ hb=>absurd hb AL_,λc hc=>absurd hc AL_⟩
 |i+1,O,hi,h=>by
  obtain⟨A,l,j,h1,h2,h3⟩:=id h;obtain⟨f1,f2,f3⟩:=OpL.facts tw PT (i:=i) o_ h1;by_cases c:i<j
  .rw[if_pos c]at h3;rw[h3,pc_];have nS:(stt T i).1∉csO A:=λz=>((h1.passed tw o_ h2).mp z) c;have ic:=IF_ (T:=T) PT (show i<2*P by lia);have sf:=bF_ (T:=T) (P:=P) (show i<2*P by lia);show⟨AM_.mpr ⟨f1,h2.ln.pa.corners (Gr_ tw) (h2.ln.pa.nd_first tw h2.ln.hd sf),λa ha b hb e=>?_⟩,f2.app (h2.ln.shut tw sf),λc hc=>?_⟩
   .obtain⟨u,hu,eu⟩:=a3_.mp hb;obtain⟨k,hk⟩:=AU_.mp hu;show f2.apart h2.ln.pa h2.ln.hd nS k u hk (by rw[eu,<-e];show ha)
   .rcases Aq_.mp hc with hc|hc
    .show f3 c hc
    .obtain⟨u,hu,rfl⟩:=a3_.mp hc;show h2.ln.pa.allC h2.ln.hd ic u hu
  .rw[if_neg c]at h3;rw[h3];show⟨f1,f2,f3⟩
variable{O:List (Nat×Nat×List Sd)}{p:Nat}
theorem OpL.covers(tw:Tw T)(h:OpL T P (2*P) O)(hp:p<2*P):∃l j,LnP T P p l j/\cs l ⊆ csO O/\((p,j,l)∈O\/(j,p,l.reverse.map tn)∈O):=by
 obtain⟨l,j,h1,h2⟩:=h.all p hp;have ne:=h1.ne tw;by_cases c:p<j
 .show⟨l,j,h1,λx hx=>ia_.mpr ⟨_,h2 c,hx⟩,.inl (h2 c)⟩
 .have b:=h1.back tw hp;obtain⟨l',j',h3,h4⟩:=h.all j h1.jl;obtain⟨e1,e2⟩:=h3.one tw b;subst e1 e2;have hm:=h4 o_;show⟨l,j,h1,λx hx=>ia_.mpr ⟨_,hm,?_⟩,.inr hm⟩;obtain⟨u,hu,rfl⟩:=a3_.mp hx;show a3_.mpr ⟨tn u,As_.mpr ⟨u,List.mem_reverse.mpr hu,rfl⟩,rfl⟩
theorem OpL.places(tw:Tw T)(h:OpL T P (2*P) O)(hp:p<2*P):(stt T p).1∈csO O:=by obtain⟨l,j,h1,h2,_⟩:=h.covers tw hp;show h2 h1.first
theorem OpL.seen(tw:Tw T)(h:OpL T P (2*P) O)(z:Sd):(∃p,p<2*P/\∃l j,LnP T P p l j/\z∈l)↔z.1∈csO O:=by
 constructor
 .rintro⟨p,hp,l,j,h1,hz⟩;obtain⟨l',j',h2,h3,_⟩:=h.covers tw hp;obtain⟨rfl,rfl⟩:=h1.one tw h2;show h3 (a3_.mpr ⟨z,hz,rfl⟩)
 .intro hz;obtain⟨t,ht,hc⟩:=ia_.mp hz;obtain⟨h1,h2,h3⟩:=h.in_ t ht;obtain⟨u,hu,eu⟩:=a3_.mp hc
  rcases i6_ eu with rfl|e
  .show⟨t.1,h1,_,_,h3,hu⟩
  .show⟨t.2.1,h3.jl,_,_,h3.back tw h1,As_.mpr ⟨u,List.mem_reverse.mpr hu,?_⟩⟩;rw[e,He_]
end
end RimT
namespace L2
open PySem PySem.Spec PyProof.Rows
abbrev Key:=Sum Int Str
def H9_:Key->Value->Bool
 | .inl k,v=>Value.isInt k v
 | .inr x,v=>Value.isStrOf x v
def keyH(w:World):Key->Int
 | .inl k=>hashInt k
 | .inr x=>hashStr w x
theorem a7_:∀{k:Key}{v:Value},H9_ k v=true->(∃i t,k=Sum.inl i/\v=Value.int i t)\/(∃x t,k=Sum.inr x/\v=Value.str x t)
 | .inl i,v,h=>by
  obtain⟨t,e⟩:=Value.isInt_shape (k:=i) (v:=v) h;show .inl ⟨i,t,rfl,e⟩
 | .inr x,v,h=>by obtain⟨t,e⟩:=Value.isStrOf_shape (x:=x) (v:=v) h;show .inr ⟨x,t,rfl,e⟩
theorem nB_(i:Int)(t:Tok):H9_ (.inl i) (.int i t)=true:=by simp[H9_,Value.isInt]
theorem nC_(x:Str)(t:Tok):H9_ (.inr x) (.str x t)=true:=by simp[H9_,Value.isStrOf]
theorem rd_(a b:Int):decide ((Sum.inl a:Key)=Sum.inl b)=(a == b):=by
 by_cases e:a=b
 .subst e;simp
 .have h:¬ (Sum.inl a:Key)=Sum.inl b:=λq=>e (Fw_ q);rw[AP_ h];show(Cv_.mpr e).symm
theorem re_(a b:Str):decide ((Sum.inr a:Key)=Sum.inr b)=decide (a=b):=by
 by_cases e:a=b
 .subst e;simp
 .have h:¬ (Sum.inr a:Key)=Sum.inr b:=λq=>e (CE_ q);rw[AP_ h,AP_ e]
theorem rf_(a:Int)(b:Str):decide ((Sum.inl a:Key)=Sum.inr b)=false:=AP_ (λq=>nomatch q)
theorem rg_(a:Str)(b:Int):decide ((Sum.inr a:Key)=Sum.inl b)=false:=AP_ (λq=>nomatch q)
def FN_(prog:Program)(w:World):PySem.KeyKind prog w Key where
 is:=H9_
 hash:=keyH w
 inj:=λv a b ha hb=>by
  rcases a7_ ha with⟨i,t,rfl,rfl⟩|⟨x,t,rfl,rfl⟩
  .rcases a7_ hb with⟨j,u,rfl,e⟩|⟨y,u,rfl,e⟩
   .injection e with e1 _;rw[e1]
   .show nomatch e
  .rcases a7_ hb with⟨j,u,rfl,e⟩|⟨y,u,rfl,e⟩
   .show nomatch e
   .injection e with e1 _;rw[e1]
 byValue:=λk v h=>by rcases a7_ h with⟨i,t,rfl,rfl⟩|⟨x,t,rfl,rfl⟩ <;> rfl
 pyHash:=λhv h=>by
  rcases a7_ hv with⟨i,t,rfl,rfl⟩|⟨x,t,rfl,rfl⟩
  .show wpAny_pyHash_int h
  .show wpAny_pyHash_str h
 eqBool:=λhu hv h=>by
  rcases a7_ hu with⟨i,t,rfl,rfl⟩|⟨x,t,rfl,rfl⟩
  .rcases a7_ hv with⟨j,u,rfl,rfl⟩|⟨y,u,rfl,rfl⟩
   .rw[rd_]at h;show wpAny_eqBool_int h
   .rw[rf_]at h;show SeqAt.EqAt.int_str i t y u _ _ _ _ h
  .rcases a7_ hv with⟨j,u,rfl,rfl⟩|⟨y,u,rfl,rfl⟩
   .rw[rg_]at h;show SeqAt.EqAt.str_int x t j u _ _ _ _ h
   .rw[re_]at h;show wpAny_eqBool_str h
 «strs»:=λk x t v h=>by
  rcases a7_ h with⟨i,u,rfl,e⟩|⟨y,u,rfl,e⟩
  .show nomatch e
  .injection e with e1 _
   subst e1;cases v <;> rfl
theorem lp_(prog:Program)(w:World)(i:Int)(t:Tok):(FN_ prog w).is (.inl i) (.int i t)=true:=nB_ i t
theorem lq_(prog:Program)(w:World)(x:Str)(t:Tok):(FN_ prog w).is (.inr x) (.str x t)=true:=nC_ x t
inductive V where
 |non|bl (b:Bool)|int (i:Int)|str (x:Str)|byt (b:Array UInt8)|flt (b:UInt64)|ref (a:Addr)|ty (n:String)
 deriving DecidableEq
def Ga_:V->Value->Prop
 | .non,u=>u=Value.none
 | .bl b,u=>u=Value.bool b
 | .int i,u=>∃t,u=Value.int i t
 | .str x,u=>∃t,u=Value.str x t
 | .byt b,u=>∃t,u=Value.bytes b t
 | .flt b,u=>∃t,u=Value.float b t
 | .ref a,u=>u=Value.ref a
 | .ty n,u=>u=Value.type n
abbrev F4_:List V->List Value->Prop:=Paired Ga_
theorem F4_.length{xs:List V}{us:List Value}(r:F4_ xs us):xs.length=us.length:=BE_ r
theorem F4_.get:∀{xs:List V}{us:List Value}{i:Nat}{x:V},F4_ xs us->xs[i]?=some x->∃u,us[i]?=some u/\Ga_ x u
 |_,_,_,_,.nil,e=>by simp at e
 |_,_,0,_,.cons r _,e=>by simp at e;subst e;show⟨_,rfl,r⟩
 |_,_,i+1,x,.cons _ t,e=>by obtain⟨u,h1,h2⟩:=F4_.get (i:=i) (x:=x) t (by simpa using e);show⟨u,by simpa using h1,h2⟩
theorem F4_.set{x:V}{u:Value}(r:Ga_ x u):∀{xs:List V}{us:List Value}(i:Nat),F4_ xs us->F4_ (xs.set i x) (us.set i u)
 |_,_,_,.nil=>.nil
 |_,_,0,.cons _ t=>.cons r t
 |_,_,i+1,.cons q t=>.cons q (F4_.set r i t)
theorem F4_.append:∀{xs ys:List V}{us ws:List Value},F4_ xs us->F4_ ys ws->F4_ (xs++ys) (us++ws)
 |_,_,_,_,.nil,s=>s
 |_,_,_,_,.cons r t,s=>.cons r (F4_.append t s)
theorem F4_.take:∀{xs:List V}{us:List Value}(n:Nat),F4_ xs us->F4_ (xs.take n) (us.take n)
 |_,_,0,_=>.nil
 |_,_,_+1,.nil=>.nil
 |_,_,n+1,.cons r t=>.cons r (F4_.take n t)
theorem F4_.drop:∀{xs:List V}{us:List Value}(n:Nat),F4_ xs us->F4_ (xs.drop n) (us.drop n)
 |_,_,0,r=>r
 |_,_,_+1,.nil=>.nil
 |_,_,n+1,.cons _ t=>F4_.drop n t
def Iv_:Option V->Option Value->Prop
 |some v,some u=>Ga_ v u
 |none,none=>True
 |_,_=>False
def KV{κ:Type}:List (κ×V)->List (κ×Value)->Prop:=Paired λ(p:κ×V)(q:κ×Value)=>p.1=q.1/\Ga_ p.2 q.2
def kV:Key->V
 | .inl i=>.int i
 | .inr x=>.str x
inductive HO where
 |lst (xs:List V)
 |tup (xs:List V)
 |dK (kvs:List (Key×V))|dT (kvs:List (List Key×V))
 |set (S:Int->Bool) (n:Nat)
 |ins (C dx:Addr) (fs:List (Str×V))
 |own (x:Addr)
 |xd (fs:List (Str×V))
 |met (f x:Addr)
 |rng (lo hi:Int)
 |frz (o:Obj) (u:HO)
 |tbl (ps:Array Value)
 |ext (φ:Heap->Prop)
abbrev Hp:=Addr->Option HO
def upd(H:Hp)(a:Addr)(o:HO):Hp:=λb=>if b=a then some o else H b
variable{H:Hp}{a:Addr}{o:HO}
theorem aa_:upd H a o a=some o:=by unfold upd;rw[if_pos rfl]
variable{b:Addr}
theorem af_(h:b≠a):upd H a o b=H b:=by unfold upd;rw[if_neg h]
theorem HV_{u:HO}(h:H a=some o)(h':H b=some u)(d:o≠u):a≠b:=by intro e;subst e;rw[h]at h';show d (Au_ h')
theorem ae_(h:H a=some o)(h':H b=none):a≠b:=by intro e;subst e;rw[h]at h';cases h'
section
variable (P:Program)(w:World)
def F9_(H:Hp)(h:Heap)(a:Addr):HO->Prop
 | .lst xs=>xs.length<=sizeLine/\∃(its:List Value)(n:Nat),F4_ xs its/\h.get? a=some {cls:=.type "list",data:=.seq its.toArray n}
 | .tup xs=>xs.length<=sizeLine/\∃its:List Value,F4_ xs its/\IsTup h a its.toArray
 | .dK kvs=>kvs.length<=sizeLine/\(a == sysModules)=false/\∃vs,KV kvs vs/\h.DictOf (FN_ P w) a vs
 | .dT kvs=>kvs.length<=sizeLine/\(a == sysModules)=false/\∃xs:List (List Key×Addr×Value),
   Paired (λ(p:List Key×V)(q:List Key×Addr×Value)=>p.1=q.1/\H q.2.1=some (.tup (p.1.map kV))/\Ga_ p.2 q.2.2) kvs xs /\
   ∃o es ep,h.get? a=some o/\o.ExactDict/\o.data=.dict es ep/\es.toList=xs.map (entryOfKey (tupleKind (FN_ P w)))/\(xs.map (·.1)).Nodup
 | .set S n=>h.SetOf (intKind P w) a S n
 | .ins C dx fs=>H dx=some (.own a)/\fs.length<=1000/\dx≠a/\h.get? a=some (PySem.W.instObj C dx) /\
   ∃mA,h.Ns1 dx mA/\(∀f,Iv_ (fs.lookup f) (mA f))/\PySem.Within mA (fs.map (·.1))
 | .own _=>∃o,h.get? a=some o
 | .xd fs=>∃mA,h.Ns1 a mA/\∀f,Iv_ (fs.lookup f) (mA f)
 | .rng lo hi=>∃t u v,h.get? a=some {cls:=.type "range",data:=.fields #[.int lo t,.int hi u,.int 1 v]}
 | .frz o u=>h.get? a=some o/\F9_ H h a u
 | .tbl ps=>h.get? a=some {cls:=.none,data:=.fields ps}
 | .met f x=>h.get? a=some (PySem.W.methodObj (.ref f) (.ref x))
 | .ext φ=>φ h/\(∃o,h.get? a=some o)/\∀h1 h2:Heap,φ h1->(∀o,h1.get? a=some o->h2.get? a=some o)->φ h2
def HOk(H:Hp)(h:Heap):Prop:=∀a o,H a=some o->F9_ P w H h a o
end
variable {P:Program}{w:World}{H H':Hp}{h h':Heap}{a:Addr}{o:HO}
theorem F9_.lt(x:F9_ P w H h a o):a<h.objs.size:=by
 cases o with
 |lst xs=>obtain⟨_,_,_,_,e⟩:=x;show Aw_ e
 |tup xs=>obtain⟨_,_,_,p⟩:=x;show p.lt
 |dK kvs=>obtain⟨_,_,_,_,o,_,_,e,_⟩:=x;show Aw_ e
 |dT kvs=>obtain⟨_,_,_,_,o,_,_,e,_⟩:=x;show Aw_ e
 |set S n=>obtain⟨o,_,_,_,e,_⟩:=x;show Aw_ e
 |ins C dx fs=>obtain⟨_,_,_,e,_⟩:=x;show Aw_ e
 |own y=>obtain⟨_,e⟩:=x;show Aw_ e
 |xd fs=>obtain⟨_,⟨_,_,_,e,_⟩,_⟩:=x;show Aw_ e
 |rng lo hi=>obtain⟨_,_,_,e⟩:=x;show Aw_ e
 |frz ob u=>obtain⟨e,_⟩:=x;show Aw_ e
 |tbl ps=>show Aw_ (show h.get? a=some _ from x)
 |met f y=>show Aw_ (show h.get? a=some _ from x)
 |ext φ=>obtain⟨_,⟨_,e⟩,_⟩:=x;show Aw_ e
theorem Paired.mapP{α β:Type}{F G:α->β->Prop}:∀{l₁:List α}{l₂:List β},Paired F l₁ l₂->(∀a b,F a b->G a b)->Paired G l₁ l₂
 |_,_,.nil,_=>.nil
 |_,_,.cons r t,f=>.cons (f _ _ r) (Paired.mapP t f)
theorem F9_.stay(x:F9_ P w H h a o)(k:∀b u,(b=a\/H b=some (.own a))->h.get? b=some u->h'.get? b=some u)
  (ho:∀b,H b=some (.own a)->H' b=some (.own a)) (ht:∀b xs,H b=some (.tup xs)->H' b=some (.tup xs)):F9_ P w H' h' a o:=by
 induction o with
 |lst xs=>obtain⟨z,its,n,r,e⟩:=x;show⟨z,its,n,r,k _ _ (.inl rfl) e⟩
 |tup xs=>obtain⟨z,its,r,ob,e,c⟩:=x;show⟨z,its,r,ob,k _ _ (.inl rfl) e,c⟩
 |dK kvs=>obtain⟨z,y,vs,r,ob,es,ep,e,c⟩:=x;show⟨z,y,vs,r,ob,es,ep,k _ _ (.inl rfl) e,c⟩
 |dT kvs =>
  obtain⟨z,y,xs,r,ob,es,ep,e,c⟩:=x;show⟨z,y,xs,Paired.mapP r λp q z=>⟨z.1,ht _ _ z.2.1,z.2.2⟩,ob,es,ep,k _ _ (.inl rfl) e,c⟩
 |set S n=>obtain⟨ob,es,ep,t,e,c⟩:=x;show⟨ob,es,ep,t,k _ _ (.inl rfl) e,c⟩
 |ins C dx fs =>
  obtain⟨d,z,ne,e,mA,⟨od,es,ep,e2,c⟩,r⟩:=x;show⟨ho _ d,z,ne,k _ _ (.inl rfl) e,mA,⟨od,es,ep,k _ _ (.inr d) e2,c⟩,r⟩
 |own y=>obtain⟨ob,e⟩:=x;show⟨ob,k _ _ (.inl rfl) e⟩
 |xd fs=>obtain⟨mA,⟨od,es,ep,e,c⟩,r⟩:=x;show⟨mA,⟨od,es,ep,k _ _ (.inl rfl) e,c⟩,r⟩
 |rng lo hi=>obtain⟨t,u,v,e⟩:=x;show⟨t,u,v,k _ _ (.inl rfl) e⟩
 |frz ob u ih=>obtain⟨e,q⟩:=x;show⟨k _ _ (.inl rfl) e,ih q⟩
 |tbl ps =>
  have e:h.get? a=some {cls:=.none,data:=.fields ps}:=x;change h'.get? a=some {cls:=.none,data:=.fields ps};show k a _ (.inl rfl) e
 |met f y =>
  have e:h.get? a=some (PySem.W.methodObj (.ref f) (.ref y)):=x;change h'.get? a=some (PySem.W.methodObj (.ref f) (.ref y));show k a _ (.inl rfl) e
 |ext φ=>obtain⟨p,⟨o,e⟩,st⟩:=x;show⟨st _ _ p λo q=>k _ _ (.inl rfl) q,⟨o,k _ _ (.inl rfl) e⟩,st⟩
theorem HOk.lt(x:HOk P w H h)(e:H a=some o):a<h.objs.size:=(x a o e).lt
theorem HOk.fresh(x:HOk P w H h)(e:h.objs.size<=a):H a=none:=by
 cases q:H a with
 |none=>rfl
 |some u=>show absurd (AK_ (x.lt q) e) (Bc_ _)
theorem HOk.kept(x:HOk P w H h)(k:∀b u,h.get? b=some u->h'.get? b=some u):HOk P w H h':=λa o e =>
 (x a o e).stay (λb u _ q=>k b u q) (λ_ q=>q) λ_ _ q=>q
theorem HOk.laid(x:HOk P w H h)(k:∀b u,h.get? b=some u->h'.get? b=some u)(hp:h.objs.size<=a)(new:F9_ P w (upd H a o) h' a o):HOk P w (upd H a o) h':=λb u e=>by
 have hn:=x.fresh hp;by_cases hb:b=a
 .subst hb;rw[aa_]at e;cases e;show new
 .rw[af_ hb]at e;show(x b u e).stay (λc v _ q=>k c v q) (λc q=>by rw[af_ (ae_ q hn)];show q) λc xs q=>by rw[af_ (ae_ q hn)];show q
def Rd(H:Hp)(a:Addr)(u:HO):Prop:=H a=some u\/∃o,H a=some (.frz o u)
theorem Rd.ok{u:HO}(r:Rd H a u)(x:HOk P w H h):F9_ P w H h a u:=by
 rcases r with r|⟨o,r⟩
 .show x a u r
 .obtain⟨_,q⟩:=x a _ r;show q
def Mut:Option HO->Prop
 |some (.lst _)=>True
 |some (.dK _)=>True
 |some (.dT _)=>True
 |some (.set _ _)=>True
 |some (.ins _ _ _)=>True
 |some (.ext _)=>True
 |_=>False
variable {x e:Addr}{o':HO}
theorem HOk.write(ok:HOk P w H h)(mu:Mut (H x))(he:e=x\/H e=some (.own x))(k:∀b u,b≠e->h.get? b=some u->h'.get? b=some u)(heo:∃u,h'.get? e=some u)
  (new:F9_ P w (upd H x o') h' x o'):HOk P w (upd H x o') h':=λb u q=>by
 have nown:∀c y,H c=some (.own y)->c≠x:=λc y r z=>by subst z;rw[r]at mu;show mu
 have ntup:∀c xs,H c=some (.tup xs)->c≠x:=λc xs r z=>by subst z;rw[r]at mu;show mu
 by_cases hb:b=x
 .subst hb;rw[aa_]at q;cases q;show new
 .rw[af_ hb]at q;by_cases hbe:b=e
  .have q':H b=some (.own x):=by
    rcases he with z|z
    .show absurd (hbe.trans z) hb
    .rw[hbe];show z
   rw[q]at q';cases q';obtain⟨v,hv⟩:=heo;show⟨v,by rw[hbe];show hv⟩
  .show(ok b u q).stay (λc v hc r=>k c v ?_ r) (λc r=>by rw[af_ (nown c b r)];show r) λc xs r=>by rw[af_ (ntup c xs r)];show r
   rcases hc with rfl|hc
   .show hbe
   .rintro rfl
    rcases he with z|z
    .show nown c b hc z
    .rw[hc]at z;cases z;show hb rfl
structure Un(fs ex:List Addr)(H H':Hp)(h h':Heap):Prop where
 keep:∀b o,h.get? b=some o->H b=none->b∉fs->b∉ex->h'.get? b=some o
 slot:∀b o,h.get? b=some o->H b=none->b∈fs->b∉ex->∃sl,h'.get? b=some {o with slots:=sl}
 free:∀b o,h.get? b=some o->H b=none->b∉ex->H' b=none
 there:∀b o,h.get? b=some o->b∉ex->∃o',h'.get? b=some o'
 tups:∀b xs,H b=some (.tup xs)->H' b=some (.tup xs)
 frzs:∀b o u,H b=some (.frz o u)->H' b=some (.frz o u)
 tbls:∀b ps,H b=some (.tbl ps)->∃more,H' b=some (.tbl (ps++more))
section
variable {fs fs' ex ex':List Addr}{H1 H2:Hp}{h1 h2:Heap}
theorem Un.any(u:Un fs ex H H1 h h1){ob:Obj}(q:h.get? b=some ob)(n:H b=none)(hx:b∉ex):∃sl,h1.get? b=some {ob with slots:=sl}:=by
 by_cases hb:b∈fs
 .show u.slot b ob q n hb hx
 .show⟨ob.slots,u.keep b ob q n hb hx⟩
theorem Un.kept(k:∀b u,h.get? b=some u->h'.get? b=some u):Un fs ex H H h h' :=
 ⟨λb ob q _ _ _=>k b ob q,λb ob q _ _ _=>⟨ob.slots,k b ob q⟩,λ_ _ _ n _=>n,λb ob q _=>⟨ob,k b ob q⟩,λ_ _ q=>q,λ_ _ _ q=>q,λ_ ps q=>⟨#[],by rw[q];simp⟩⟩
theorem Un.refl:Un fs ex H H h h:=Un.kept λ_ _ q=>q
theorem Un.laid(k:∀b u,h.get? b=some u->h'.get? b=some u)(hp:h.objs.size<=a)(hn:H a=none):Un fs ex H (upd H a o) h h' where
 keep:=λb u q _ _ _=>k b u q
 slot:=λb u q _ _ _=>⟨u.slots,k b u q⟩
 free:=λb u q n _=>by rw[af_ (AE_ (AK_ (Aw_ q) hp))];show n
 there:=λb u q _=>⟨u,k b u q⟩
 tups:=λb xs q=>by rw[af_ (ae_ q hn)];show q
 frzs:=λb u xs q=>by rw[af_ (ae_ q hn)];show q
 tbls:=λb ps q=>⟨#[],by rw[af_ (ae_ q hn),q];simp⟩
theorem Un.write(mu:Mut (H x))(he:e=x\/H e=some (.own x))(k:∀b u,b≠e->h.get? b=some u->h'.get? b=some u)(heo:∃u,h'.get? e=some u):Un fs ex H (upd H x o) h h':=by
 have hx:∀b,H b=none->b≠x:=λb n z=>by subst z;rw[n]at mu;show mu
 have hb:∀b,H b=none->b≠e:=λb n z=>by
  subst z
  rcases he with r|r
  .show hx b n r
  .rw[n]at r;cases r
 have hm:∀b u,H b=some u->¬ Mut (some u)->b≠x:=λb u q nm z=>by subst z;rw[q]at mu;show nm mu
 show⟨λb u q n _ _=>k b u (hb b n) q,λb u q n _ _=>⟨u.slots,k b u (hb b n) q⟩,λb u q n _=>by rw[af_ (hx b n)];show n,λb u q _=>?_,
  λb xs q=>by rw[af_ (hm b _ q λz=>z)];show q,λb u xs q=>by rw[af_ (hm b _ q λz=>z)];show q,λb ps q=>⟨#[],by rw[af_ (hm b _ q λz=>z),q];simp⟩⟩
 by_cases hbe:b=e
 .subst hbe;show heo
 .show⟨u,k b u hbe q⟩
end
def trk(h:Heap)(H:Hp):List Addr:=(List.range h.objs.size).filter λa=>(H a).isSome
def Jt_(h:Heap)(H:Hp):Heap:=PySem.W.hideAll h (trk h H)
theorem nD_(h:Heap)(H:Hp):(Jt_ h H).objs.size=h.objs.size:=PySem.W.hideAll_size _ _
theorem pd_{o:Obj}(e:h.get? b=some o)(n:H b=none):(Jt_ h H).get? b=some o :=
 PySem.W.hideAll_get _ e λhm=>by have q:(H b).isSome=true:=(Be_.mp hm).2;rw[n]at q;simp at q
theorem qr_{o:Obj}(e:(Jt_ h H).get? b=some o):h.get? b=some o/\H b=none:=by
 have e':h.get? b=some o:=PySem.W.of_hideAll (trk h H) e;show⟨e',?_⟩;cases q:H b with
 |none=>rfl
 |some x =>have hm:b∈trk h H:=Be_.mpr ⟨A3_.mpr (Aw_ e'),by simp[q]⟩;have z:(Jt_ h H).get? b=none:=PySem.W.hideAll_none (trk h H) hm;rw[z]at e;cases e
def Gg_(g h:Heap)(L:Addr):List (Addr×Obj):=(List.range h.objs.size).filterMap λa=>if a=L\/(g.get? a).isSome=true then none else(h.get? a).map λo=>(a,o)
theorem bN_{g:Heap}{L:Addr}{o:Obj}(h1:a≠L)(h2:g.get? a=none)(h3:h.get? a=some o):(a,o)∈Gg_ g h L :=
 Ci_.mpr ⟨a,A3_.mpr (Aw_ h3),by simp[h1,h2,h3]⟩
theorem fm_{g:Heap}{L:Addr}{p:Addr×Obj}(hp:p∈Gg_ g h L):p.1≠L/\g.get? p.1=none/\h.get? p.1=some p.2:=by
 obtain⟨b,_,e⟩:=Ci_.mp hp;split at e
 .cases e
 .rename_i hn;cases q:h.get? b with
  |none=>rw[q]at e;simp at e
  |some u =>
   rw[q]at e;simp only[CB_,Option.some.injEq]at e;subst e;show⟨λz=>hn (.inl z),?_,q⟩;change g.get? b=none;cases r:g.get? b with
   |none=>rfl
   |some v=>show(hn (.inr (by simp[r]))).elim
def rest(g h:Heap)(L d:Addr):List (Addr×Obj):=(Gg_ g h L).filter λp=>decide (p.1≠d)
theorem d6_{g:Heap}{L:Addr}:News g L h (Gg_ g h L):=λp hp=>let⟨a,b,c⟩:=fm_ hp;⟨c,a,b⟩
structure Mod(K:PySem.W.Frag)(mg:Str->Option Value)(base:Heap):Prop where
 kin:K.In base
 glob:base.Ns mainGlobals mg
 blt:∃mb,base.Ns builtinsNs mb/\∀x:Str,x ≠ "__name__" -> mb x=bootBuiltins x
 nolimit:base.NoLimit
structure Cx where
 prog:Program
 w:World
 K:PySem.W.Frag
 mg:Str->Option Value
 base:Heap
 A:Around
 N:List Str
 s₀:Shared
 H₀:Hp
 env:Env
 outer:List Env
 stack:List Env
 ex:List Addr
 fn:Str->Bool
 calm:Bool
 pn:List (Addr×Obj)
 xe:Value->Shared->Prop
def frs(l:List Env):List Addr:=l.filterMap (·.frame)
abbrev Cx.fs(X:Cx):List Addr:=frs X.outer
def Vis(sc:Scope)(x:Str):Prop:=sc.names.lookup x=some .local\/sc.names.lookup x=some .cell\/sc.names.lookup x=some .free
def Loc(sc:Scope)(x:Str):Prop:=sc.names.lookup x=some .local\/sc.names.lookup x=some .cell
def Look(env:Env)(h:Heap)(m:Str->Option Value)(x:Str)(u:Value):Prop :=
 (env.kindOf x=some .local/\m x=some u)\/((env.kindOf x=some .cell\/env.kindOf x=some .free)/\∃c,env.cells.lookup x=some c/\h.IsCell c (some u))
structure Cx.Ok(X:Cx):Prop where
 mod:Mod X.K X.mg X.base
 kind:X.env.scope.kind=.function
 glob:X.env.globals=mainGlobals
 blt:X.env.builtins=builtinsNs
 above:X.s₀.heap.objs.size<=X.env.locals
 inj:∀x y c,X.env.cells.lookup x=some c->X.env.cells.lookup y=some c->x=y
 has:∀x,(X.env.kindOf x=some .cell\/X.env.kindOf x=some .free)->∃c,X.env.cells.lookup x=some c
 cab:∀x c,X.fn x=true->X.env.cells.lookup x=some c->X.s₀.heap.objs.size<=c
 hd:X.calm=true->X.A.handled=none
 frames:X.A.frames=some X.stack
 stk:X.stack=X.outer\/(X.stack=X.env::X.outer/\X.env.frame=some X.env.locals)
 exf:∀b∈X.ex,b≠X.env.locals/\∀x c,X.env.cells.lookup x=some c->c≠b
 bs:∀b o,X.base.get? b=some o->X.s₀.heap.get? b=some o/\X.H₀ b=none
 bsz:X.base.objs.size<=X.s₀.heap.objs.size
 noex:∀b o,X.base.get? b=some o->b∉X.ex
 exfs:∀b∈X.ex,b∉X.fs
 funs:X.s₀.heap.FunFrames X.base X.outer
 frf:∀b∈X.fs,X.H₀ b=none
structure Inv(X:Cx)(pins:List (Addr×Obj))(σ:List (Option V))(H:Hp)(s:Shared):Prop where
 ok:X.Ok
 os:s.os=X.s₀.os
 bare:AllBare s.gens
 base:Un X.fs X.ex X.H₀ H X.s₀.heap s.heap
 loc:∃m,s.heap.Ns X.env.locals m/\∀(i:Nat)(x:Str)(v:V),X.N[i]?=some x->σ[i]?=some (some v)->Vis X.env.scope x->∃u,Ga_ v u/\Look X.env s.heap m x u
 cell:∀x c,X.env.cells.lookup x=some c->∃v,s.heap.IsCell c v
 free:H X.env.locals=none
 freeC:∀x c,X.env.cells.lookup x=some c->H c=none
 pin:∀p∈X.pn++pins,s.heap.get? p.1=some p.2/\H p.1=none/\p.1≠X.env.locals/\p.1∉X.fs/\∀v,p.2.data≠.cell v
 hok:HOk X.prog X.w H s.heap
 len:σ.length=X.N.length
variable {X:Cx}{pins:List (Addr×Obj)}{σ:List (Option V)}{s:Shared}
theorem Cx.Ok.nofr(ok:X.Ok){o:Obj}(e:X.base.get? b=some o):b∉X.fs:=λhb=>by have:=(ok.funs.mem hb).1;rw[e]at this;cases this
theorem Inv.bs(I:Inv X pins σ H s):∀b o,X.base.get? b=some o->s.heap.get? b=some o/\H b=none:=λb o e =>⟨I.base.keep b o (I.ok.bs b o e).1 (I.ok.bs b o e).2 (I.ok.nofr e) (I.ok.noex b o e),I.base.free b o (I.ok.bs b o e).1 (I.ok.bs b o e).2 (I.ok.noex b o e)⟩
theorem Inv.bk(I:Inv X pins σ H s):∀b o,X.base.get? b=some o->s.heap.get? b=some o:=λb o e=>(I.bs b o e).1
theorem Inv.mod(I:Inv X pins σ H s):Mod X.K X.mg X.base:=I.ok.mod
theorem Inv.kIn(I:Inv X pins σ H s):X.K.In s.heap:=I.ok.mod.kin.keeps I.bk
theorem Inv.lt(I:Inv X pins σ H s):X.env.locals<s.heap.objs.size:=let⟨_,hn,_⟩:=I.loc;hn.lt
theorem Inv.sz(I:Inv X pins σ H s):X.s₀.heap.objs.size<=s.heap.objs.size:=AG_ I.ok.above (AH_ I.lt)
theorem Inv.nofs(I:Inv X pins σ H s)(h:s.heap.objs.size<=a):a∉X.fs:=λhb=>by obtain⟨_,o,ho,_⟩:=I.ok.funs.mem hb;show absurd (AK_ (Aw_ ho) (AG_ I.sz h)) (Bc_ _)
theorem Inv.cne(I:Inv X pins σ H s):∀x c,X.env.cells.lookup x=some c->c≠X.env.locals:=λx c e z=>by obtain⟨v,o,ho,hd⟩:=I.cell x c e;obtain⟨m,⟨o',es,ep,ho',hd',_⟩,_⟩:=I.loc;rw[z,ho']at ho;cases ho;rw[hd']at hd;cases hd
theorem Inv.funs(I:Inv X pins σ H s):s.heap.FunFrames X.base X.outer:=by
 have all:∀(l:List Env),(∀b∈frs l,b∈X.fs)->X.s₀.heap.FunFrames X.base l->s.heap.FunFrames X.base l:=by
  intro l
  induction l with
  |nil=>intro _ _;trivial
  |cons env r ih =>intro hs hl;obtain⟨hk,⟨L,o,hf,hn,ho,hd⟩,hr⟩:=hl;have hL:L∈X.fs:=hs L (by unfold frs;rw[BC_,hf];show Ar_);obtain⟨sl,e⟩:=I.base.slot L o ho (I.ok.frf L hL) hL λz=>I.ok.exfs L z hL;show⟨hk,⟨L,_,hf,hn,e,hd⟩,ih (λb hb=>hs b (by unfold frs;rw[BC_,hf];show An_ _ hb)) hr⟩
 show all X.outer (λ_ hb=>hb) I.ok.funs
theorem Inv.stack(I:Inv X pins σ H s):s.heap.FunFrames X.base X.stack:=by
 rcases I.ok.stk with e|⟨e,hf⟩
 .rw[e];show I.funs
 .rw[e];obtain⟨m,hn,_⟩:=I.loc;show .cons (by rw[I.ok.kind];decide) hf hn ?_ I.funs;show B3_ (AG_ I.ok.bsz I.ok.above)
theorem Inv.stkSub(I:Inv X pins σ H s):∀b∈frs X.stack,b∈X.env.locals::X.fs:=λb hb=>by
 rcases I.ok.stk with e|⟨e,hf⟩
 .rw[e]at hb;show An_ _ hb
 .rw[e]at hb;unfold frs at hb;rw[BC_,hf]at hb;show hb
theorem Inv.stkFree(I:Inv X pins σ H s):∀b∈frs X.stack,H b=none:=λb hb=>by
 rcases Av_.mp (I.stkSub b hb)with e|hb
 .rw[e];show I.free
 .obtain⟨_,o,ho,_⟩:=I.ok.funs.mem hb;show I.base.free b o ho (I.ok.frf b hb) λz=>I.ok.exfs b z hb
theorem Inv.step{g':Array GenState}{t':Nat}{d':Drawn}{ch:List Addr}(I:Inv X pins σ H s)
  (hch:∀b∈ch,(b∈X.ex\/X.s₀.heap.objs.size<=b)/\b≠X.env.locals/\(∀x c,X.env.cells.lookup x=some c->c≠b)/\∀p∈X.pn++pins,p.1≠b)
  (keep:∀b o,b≠X.env.locals->b∉X.fs->b∉ch->s.heap.get? b=some o->H b=none->h'.get? b=some o)
  (slot:∀b o,b≠X.env.locals->b∈X.fs->b∉ch->s.heap.get? b=some o->H b=none->∃sl,h'.get? b=some {o with slots:=sl}) (free:∀b o,b∉ch->s.heap.get? b=some o->H b=none->H' b=none)
  (there:∀b o,b∉ch->s.heap.get? b=some o->∃o',h'.get? b=some o')
  (tups:∀b xs,H b=some (.tup xs)->H' b=some (.tup xs)) (frzs:∀b o u,H b=some (.frz o u)->H' b=some (.frz o u)) (tbls:∀b ps,H b=some (.tbl ps)->∃more,H' b=some (.tbl (ps++more)))
  (ns:∀m,s.heap.Ns X.env.locals m->h'.Ns X.env.locals m) (hok:HOk X.prog X.w H' h') (hg:AllBare g'):
  Inv X pins σ H' {s with heap:=h',gens:=g',drawn:=d',toks:=t'}:=by
 have neL:∀b o,X.s₀.heap.get? b=some o->b≠X.env.locals:=λb o e=>AE_ (AK_ (Aw_ e) I.ok.above)
 have neC:∀b o,X.s₀.heap.get? b=some o->b∉X.ex->b∉ch:=λb o e hx hb=>by
  rcases(hch b hb).1 with z|z
  .show hx z
  .show absurd (AK_ (Aw_ e) z) (Bc_ _)
 have cellK:∀x c,X.env.cells.lookup x=some c->∀v,s.heap.IsCell c v->h'.IsCell c v:=λx c e v ⟨o,ho,hd⟩=>by
  have nch:c∉ch:=λz=>(hch c z).2.2.1 x c e rfl;by_cases hc:c∈X.fs
  .obtain⟨sl,q⟩:=slot c o (I.cne x c e) hc nch ho (I.freeC x c e);show⟨_,q,hd⟩
  .show⟨o,keep c o (I.cne x c e) hc nch ho (I.freeC x c e),hd⟩
 show⟨I.ok,I.os,hg,⟨λb o e n hb hx=>?_,λb o e n hb hx=>?_,λb o e n hx=>?_,λb o e hx=>?_,λb xs e=>tups b xs (I.base.tups b xs e),λb o xs e=>frzs b o xs (I.base.frzs b o xs e),λb ps e=>?_⟩,?_,λx c e=>?_,?_,λx c e=>?_,λp hp=>?_,hok,I.len⟩
 .show keep b o (neL b o e) hb (neC b o e hx) (I.base.keep b o e n hb hx) (I.base.free b o e n hx)
 .obtain⟨sl,e1⟩:=I.base.slot b o e n hb hx;obtain⟨sl',e2⟩:=slot b _ (neL b o e) hb (neC b o e hx) e1 (I.base.free b o e n hx);show⟨sl',e2⟩
 .obtain⟨o',e1⟩:=I.base.there b o e hx;show free b o' (neC b o e hx) e1 (I.base.free b o e n hx)
 .obtain⟨o',e1⟩:=I.base.there b o e hx;show there b o' (neC b o e hx) e1
 .obtain⟨m1,e1⟩:=I.base.tbls b ps e;obtain⟨m2,e2⟩:=tbls b _ e1;show⟨m1++m2,by rw[e2,Array.append_assoc]⟩
 .obtain⟨m,hn,hl⟩:=I.loc;show⟨m,ns m hn,λi x v e1 e2 e3=>?_⟩;obtain⟨u,r,l⟩:=hl i x v e1 e2 e3;show⟨u,r,?_⟩
  rcases l with l|⟨k,c,e,z⟩
  .show .inl l
  .show .inr ⟨k,c,e,cellK x c e _ z⟩
 .obtain⟨v,z⟩:=I.cell x c e;show⟨v,cellK x c e v z⟩
 .obtain⟨m,⟨o,_,_,ho,_⟩,_⟩:=I.loc;show free _ o (λz=>(hch _ z).2.1 rfl) ho I.free
 .obtain⟨v,o,ho,hd⟩:=I.cell x c e;show free c o (λz=>(hch c z).2.2.1 x c e rfl) ho (I.freeC x c e)
 .obtain⟨e,n,ne,nf,d⟩:=I.pin p hp;have nch:p.1∉ch:=λz=>(hch p.1 z).2.2.2 p hp rfl;show⟨keep p.1 p.2 ne nf nch e n,free p.1 p.2 nch e n,ne,nf,d⟩
theorem Inv.un{t':Nat}(I:Inv X pins σ H s)(u:Un X.fs [] H H' s.heap h')(hok:HOk X.prog X.w H' h'):Inv X pins σ H' {s with heap:=h',toks:=t'}:=by
 obtain⟨m,⟨o,es,ep,ho,r⟩,_⟩:=id I.loc;obtain⟨sl,hL⟩:=u.any ho I.free s_;show I.step (g':=s.gens) (d':=s.drawn) (ch:=[]) (λ_ z=>nomatch z) (λb o _ hb _ e n=>u.keep b o e n hb s_) (λb o _ hb _ e n=>u.slot b o e n hb s_) (λb o _ e n=>u.free b o e n s_) (λb o _ e=>u.there b o e s_) u.tups u.frzs u.tbls (λm' hm=>by obtain⟨o',es',ep',ho',r'⟩:=hm;rw[ho]at ho';cases ho';show⟨_,es',ep',hL,r'⟩) hok I.bare
theorem Inv.call{g':Array GenState}{t':Nat}{d':Drawn}{ch:List Addr}(I:Inv X pins σ H s)(u:Un (frs X.stack) ch H H' s.heap h')(hok:HOk X.prog X.w H' h')(hg:AllBare g')
  (hch:∀b∈ch,(b∈X.ex\/X.s₀.heap.objs.size<=b)/\b≠X.env.locals/\(∀x c,X.env.cells.lookup x=some c->c≠b)/\∀p∈X.pn++pins,p.1≠b):
  Inv X pins σ H' {s with heap:=h',gens:=g',drawn:=d',toks:=t'}:=by
 obtain⟨m,⟨o,es,ep,ho,r⟩,_⟩:=id I.loc;obtain⟨sl,hL⟩:=u.any ho I.free λz=>(hch _ z).2.1 rfl;show I.step (ch:=ch) hch (λb o hL hb hc e n=>u.keep b o e n (λz=>(Av_.mp (I.stkSub b z)).elim hL hb) hc) (λb o _ _ hc e n=>u.any e n hc) (λb o hc e n=>u.free b o e n hc) (λb o hc e=>u.there b o e hc) u.tups u.frzs u.tbls (λm' hm=>by obtain⟨o',es',ep',ho',r'⟩:=hm;rw[ho]at ho';cases ho';show⟨_,es',ep',hL,r'⟩) hok hg
theorem Inv.turned{t':Nat}{it:Addr}(I:Inv X pins σ H s)(k:∀b o,b≠it->s.heap.get? b=some o->h'.get? b=some o)(hn:H it=none)(hL:it≠X.env.locals)
  (h1:it∈X.ex\/X.s₀.heap.objs.size<=it) (h2:∀x c,X.env.cells.lookup x=some c->c≠it) (h3:∀p∈X.pn++pins,p.1≠it):Inv X pins σ H {s with heap:=h',toks:=t'}:=by
 have nit:∀b u,H b=some u->b≠it:=λb u e z=>by rw[z,hn]at e;cases e
 show I.step (g':=s.gens) (d':=s.drawn) (ch:=[it]) (λb hb=>?_) (λb o _ _ hc e _=>k b o (λz=>hc (by simp[z])) e) (λb o _ _ hc e _=>⟨o.slots,k b o (λz=>hc (by simp[z])) e⟩) (λ_ _ _ _ n=>n)
  (λb o hc e=>⟨o,k b o (λz=>hc (by simp[z])) e⟩) (λ_ _ e=>e) (λ_ _ _ e=>e) (λb ps e=>⟨#[],by rw[e];simp⟩) (λm hm=>?_) (λb u e=>?_) I.bare
 .have e:b=it:=by simpa using hb
  subst e;show⟨h1,hL,h2,h3⟩
 .obtain⟨o,es,ep,ho,r⟩:=hm;show⟨o,es,ep,k _ o (Ne.symm hL) ho,r⟩
 .show(I.hok b u e).stay (λc v hc q=>k c v ?_ q) (λ_ q=>q) λ_ _ q=>q
  rcases hc with z|z
  .rw[z];show nit b u e
  .show nit c _ z
theorem Inv.tok(I:Inv X pins σ H s)(t:Nat):Inv X pins σ H {s with toks:=t}:=I.un (h':=s.heap) (t':=t) Un.refl I.hok
theorem Inv.kept{t':Nat}(I:Inv X pins σ H s)(k:∀b u,s.heap.get? b=some u->h'.get? b=some u):Inv X pins σ H {s with heap:=h',toks:=t'}:=I.un (Un.kept k) (I.hok.kept k)
theorem Inv.laid{t':Nat}(I:Inv X pins σ H s)(k:∀b u,s.heap.get? b=some u->h'.get? b=some u)(hp:s.heap.objs.size<=a)(new:F9_ X.prog X.w (upd H a o) h' a o):
  Inv X pins σ (upd H a o) {s with heap:=h',toks:=t'}:=I.un (Un.laid k hp (I.hok.fresh hp)) (I.hok.laid k hp new)
theorem Inv.write{x e:Addr}{o:HO}{t':Nat}(I:Inv X pins σ H s)(mu:Mut (H x))(he:e=x\/H e=some (.own x))(k:∀b u,b≠e->s.heap.get? b=some u->h'.get? b=some u)(heo:∃u,h'.get? e=some u)
  (new:F9_ X.prog X.w (upd H x o) h' x o):Inv X pins σ (upd H x o) {s with heap:=h',toks:=t'}:=I.un (Un.write mu he k heo) (I.hok.write mu he k heo new)
theorem Inv.pins_of{pins':List (Addr×Obj)}(I:Inv X pins σ H s)(h:∀p∈pins',s.heap.get? p.1=some p.2/\H p.1=none/\p.1≠X.env.locals/\p.1∉X.fs/\∀v,p.2.data≠.cell v):Inv X pins' σ H s :=
 ⟨I.ok,I.os,I.bare,I.base,I.loc,I.cell,I.free,I.freeC,λp hp=>(Aq_.mp hp).elim (λz=>I.pin p (AN_ _ z)) (h p),I.hok,I.len⟩
theorem mg_{N:List Str}(hN:N.Nodup){i j:Nat}{x:Str}(a:N[i]?=some x)(b:N[j]?=some x):i=j:=by obtain⟨h1,e1⟩:=Ae_.mp a;obtain⟨h2,e2⟩:=Ae_.mp b;show(List.getElem_inj hN).mp (e1.trans e2.symm)
theorem kg_{M:Model}{A:Around}{E:Value->Shared->Prop}{i:Nat}{x:Str}{v:V}{u:Value}{Q:Unit->Shared->Prop}(I:Inv X pins σ H s)(hN:X.N.Nodup)(hi:X.N[i]?=some x)(hx:Loc X.env.scope x)(r:Ga_ v u)
  (h:∀s',Inv X pins (σ.set i (some v)) H s'->(∃a,Heap.SameBut a s.heap s'.heap/\(a=X.env.locals\/X.env.cells.lookup x=some a))->Q () s') (hf:X.fn x=true\/X.env.scope.names.lookup x=some .local:=by first|show .inl rfl|show .inr rfl|assumption):wpAny M A (storeName X.env x u) Q E s:=by
 obtain⟨m,hn,hl⟩:=id I.loc;have hcls:(X.env.scope.kind == .class ||(X.env.scope.kind == .module && X.env.locals != X.env.globals))=false:=by rw[I.ok.kind];rfl
 have hiσ:i<σ.length:=by rw[I.len];show(Ae_.mp hi).1
 have cne:=I.cne
 have tracked:∀{a:Addr}{h':Heap},(∃o,s.heap.get? a=some o/\H a=none)->Heap.SameBut a s.heap h'->HOk X.prog X.w H h':=λ{a h'} ha hs b ob e=>by
  obtain⟨_,_,hfree⟩:=ha;show(I.hok b ob e).stay (λc w' hc q=>(hs.2 c ?_).trans q) (λ_ q=>q) λ_ _ q=>q;rintro rfl
  rcases hc with rfl|hc
  .rw[hfree]at e;cases e
  .rw[hfree]at hc;cases hc
 rcases hx with hk|hk
 .show wpAny_storeName_local hk hn (λh' hn' hs=>?_) hcls;obtain⟨oL,_,_,hoL,_⟩:=id hn;show h _ ⟨I.ok,I.os,I.bare,⟨λb o e n hb hx=>?_,λb o e n hb hx=>?_,I.base.free,λb o e hx=>?_,I.base.tups,I.base.frzs,I.base.tbls⟩,⟨_,hn',λj y v' e1 e2 e3=>?_⟩,λy c e=>?_,I.free,I.freeC,λp hp=>?_,tracked ⟨oL,hoL,I.free⟩ hs,by simpa using I.len⟩ ⟨_,hs,.inl rfl⟩
  .show(hs.2 b (AE_ (AK_ (Aw_ e) I.ok.above))).trans (I.base.keep b o e n hb hx)
  .obtain⟨sl,e1⟩:=I.base.slot b o e n hb hx;show⟨sl,(hs.2 b (AE_ (AK_ (Aw_ e) I.ok.above))).trans e1⟩
  .obtain⟨o',e1⟩:=I.base.there b o e hx;show⟨o',(hs.2 b (AE_ (AK_ (Aw_ e) I.ok.above))).trans e1⟩
  .by_cases hj:j=i
   .subst hj;rw[hi]at e1;cases e1;rw[EB_ hiσ]at e2;cases e2;show⟨u,r,.inl ⟨hk,s_⟩⟩
   .rw[EX_ (Ne.symm hj)]at e2;obtain⟨u',r',q⟩:=hl j y v' e1 e2 e3;show⟨u',r',?_⟩
    rcases q with⟨k,e⟩|⟨k,c,e,z⟩
    .show .inl ⟨k,?_⟩;have:y≠x:=λe=>hj (mg_ hN e1 (e▸hi));simp[this,e]
    .show .inr ⟨k,c,e,z.sameBut hs (cne y c e)⟩
  .obtain⟨w',z⟩:=I.cell y c e;show⟨w',z.sameBut hs (cne y c e)⟩
  .obtain⟨e,n,ne,nf,d⟩:=I.pin p hp;show⟨(hs.2 p.1 ne).trans e,n,ne,nf,d⟩
 .have hfn:X.fn x=true:=by
   rcases hf with z|z
   .show z
   .rw[z]at hk;cases hk
  obtain⟨c,hc⟩:=I.ok.has x (.inl hk);obtain⟨w',z⟩:=I.cell x c hc;show wpAny_storeName_cell I.ok.kind hk hc z (λh' hc' hs=>?_);obtain⟨oc,hoc,hocd⟩:=id z;show h {s with heap:=h'} ⟨I.ok,I.os,I.bare,⟨λb o e n hb hx=>?_,λb o e n hb hx=>?_,I.base.free,λb o e hx=>?_,I.base.tups,I.base.frzs,I.base.tbls⟩,⟨m,hn.sameBut hs (Ne.symm (cne x c hc)),λj y v' e1 e2 e3=>?_⟩,λy c' e=>?_,I.free,I.freeC,λp hp=>?_,tracked ⟨oc,hoc,I.freeC x c hc⟩ hs,by simpa using I.len⟩ ⟨c,hs,.inr hc⟩
  .show(hs.2 b (AE_ (AK_ (Aw_ e) (I.ok.cab x c hfn hc)))).trans (I.base.keep b o e n hb hx)
  .obtain⟨sl,e1⟩:=I.base.slot b o e n hb hx;show⟨sl,(hs.2 b (AE_ (AK_ (Aw_ e) (I.ok.cab x c hfn hc)))).trans e1⟩
  .obtain⟨o',e1⟩:=I.base.there b o e hx;show⟨o',(hs.2 b (AE_ (AK_ (Aw_ e) (I.ok.cab x c hfn hc)))).trans e1⟩
  .by_cases hj:j=i
   .subst hj;rw[hi]at e1;cases e1;rw[EB_ hiσ]at e2;cases e2;show⟨u,r,.inr ⟨.inl hk,c,hc,hc'⟩⟩
   .rw[EX_ (Ne.symm hj)]at e2;obtain⟨u',r',q⟩:=hl j y v' e1 e2 e3;show⟨u',r',?_⟩
    rcases q with q|⟨k,c',e,z'⟩
    .show .inl q
    .show .inr ⟨k,c',e,z'.sameBut hs ?_⟩;rintro rfl;show hj (mg_ hN e1 (I.ok.inj _ _ _ e hc▸hi))
  .by_cases hcc:c'=c
   .subst hcc;show⟨_,hc'⟩
   .obtain⟨w2,z2⟩:=I.cell y c' e;show⟨w2,z2.sameBut hs hcc⟩
  .obtain⟨e,n,ne,nf,d⟩:=I.pin p hp;show⟨(hs.2 p.1 ?_).trans e,n,ne,nf,d⟩;intro q;rw[q,hoc]at e;have q':oc=p.2:=Au_ e;show d w' (by rw[<-q'];show hocd)
theorem hR_{M:Model}{A:Around}{E:Value->Shared->Prop}{i:Nat}{x:Str}{v:V}{u:Value}{Q:Unit->Shared->Prop}(I:Inv X pins σ H s)(hN:X.N.Nodup)(hi:X.N[i]?=some x)(hx:Loc X.env.scope x)(r:Ga_ v u)
  (h:∀s',Inv X pins (σ.set i (some v)) H s'->Q () s') (hf:X.fn x=true\/X.env.scope.names.lookup x=some .local:=by first|show .inl rfl|show .inr rfl|assumption):wpAny M A (storeName X.env x u) Q E s :=
 kg_ I hN hi hx r (λs' I' _=>h s' I') hf
theorem Inv.call'{s':Shared}{ch:List Addr}(I:Inv X pins σ H s)(ho:s'.os=s.os)(u:Un (frs X.stack) ch H H' s.heap s'.heap)(hok:HOk X.prog X.w H' s'.heap)(hg:AllBare s'.gens)
  (hch:∀b∈ch,(b∈X.ex\/X.s₀.heap.objs.size<=b)/\b≠X.env.locals/\(∀x c,X.env.cells.lookup x=some c->c≠b)/\∀p∈X.pn++pins,p.1≠b):Inv X pins σ H' s':=by
 obtain⟨h',g',d',t',o'⟩:=s';have e:o'=s.os:=ho;subst e;show I.call (g':=g') (t':=t') (d':=d') u hok hg hch
abbrev XK:=Value->Option Addr->Hp->Prop
abbrev St:=List (Option V)
abbrev VK:=V->Hp->Prop
abbrev TE:=St->Hp->VK->Prop
abbrev TT:=St->Hp->(Bool->Hp->Prop)->Prop
abbrev TA:=St->Hp->(List V->Hp->Prop)->Prop
structure H4_ where
 nx:St->Hp->Prop
 rt:VK
 bk:St->Hp->Prop:=λ_ _=>False
 ct:St->Hp->Prop:=λ_ _=>False
abbrev TS:=H4_->St->Hp->Prop
def EP(X:Cx)(pins:List (Addr×Obj))(σ:St)(Q:VK)(u:Value)(s':Shared):Prop:=∃v H',Inv X pins σ H' s'/\Ga_ v u/\Q v H'
def TP(X:Cx)(pins:List (Addr×Obj))(σ:St)(Q:Bool->Hp->Prop)(b:Bool)(s':Shared):Prop:=∃H',Inv X pins σ H' s'/\Q b H'
def AP(X:Cx)(pins:List (Addr×Obj))(σ:St)(Q:List V->Hp->Prop)(us:List Value)(s':Shared):Prop:=∃vs H',Inv X pins σ H' s'/\F4_ vs us/\Q vs H'
def SP(X:Cx)(pins:List (Addr×Obj))(D:H4_)(f:Flow)(s':Shared):Prop :=
 match f with
 | .next=>∃σ' H',Inv X pins σ' H' s'/\D.nx σ' H'
 | .brk=>∃σ' H',Inv X pins σ' H' s'/\D.bk σ' H'
 | .cont=>∃σ' H',Inv X pins σ' H' s'/\D.ct σ' H'
 | .ret u=>∃v σ' H',Inv X pins σ' H' s'/\Ga_ v u/\D.rt v H'
def PE(X:Cx)(e:Expr)(t:TE):Prop :=
 ∀(pins:List (Addr×Obj))(s:Shared)(σ:St)(H:Hp)(Q:VK),Inv X pins σ H s->t σ H Q->wpAny (model X.prog X.w) X.A (eval e X.env) (EP X pins σ Q) X.xe s
def PT(X:Cx)(e:Expr)(t:TT):Prop :=
 ∀(pins:List (Addr×Obj))(s:Shared)(σ:St)(H:Hp)(Q:Bool->Hp->Prop),Inv X pins σ H s->t σ H Q->wpAny (model X.prog X.w) X.A (isTrue e X.env (eval e X.env)) (TP X pins σ Q) X.xe s
def PW(X:Cx)(e:Expr)(t:TT):Prop :=
 ∀(whole:Sem Value)(pins:List (Addr×Obj))(s:Shared)(σ:St)(H:Hp)(Q:Bool->Hp->Prop),Inv X pins σ H s->t σ H Q->wpAny (model X.prog X.w) X.A (isTrue e X.env whole) (TP X pins σ Q) X.xe s
theorem PW.pt{e:Expr}{t:TT}(h:PW X e t):PT X e t:=h _
def PA(X:Cx)(es:List Expr)(t:TA):Prop :=
 ∀(pos:Pos)(pins:List (Addr×Obj))(s:Shared)(σ:St)(H:Hp)(Q:List V->Hp->Prop),Inv X pins σ H s->t σ H Q->wpAny (model X.prog X.w) X.A (spliced (backTo pos (starEach es X.env))) (AP X pins σ Q) X.xe s
def PS(X:Cx)(st:Stmt)(t:TS):Prop :=
 ∀(pins:List (Addr×Obj))(s:Shared)(σ:St)(H:Hp)(D:H4_),Inv X pins σ H s->t D σ H->wpAny (model X.prog X.w) X.A (exec st X.env) (SP X pins D) X.xe s
def PSs(X:Cx)(st:List Stmt)(t:TS):Prop :=
 ∀(pins:List (Addr×Obj))(s:Shared)(σ:St)(H:Hp)(D:H4_),Inv X pins σ H s->t D σ H->wpAny (model X.prog X.w) X.A (execs st X.env) (SP X pins D) X.xe s
theorem thn{α:Type}{t:Sem α}{Q Q':α->Shared->Prop}{M:Model}{A:Around}{E:Value->Shared->Prop}(h:wpAny M A t Q E s)(hQ:∀a s,Q a s->Q' a s):wpAny M A t Q' E s:=Bu_ h hQ λ_ _ x=>x
section
def onV:Option (Option V)->(V->Prop)->Prop
 |some (some v),Q=>Q v
 |_,_=>False
def onI:V->(Int->Prop)->Prop
 | .int i,Q=>Q i
 |_,_=>False
def onB:V->(Bool->Prop)->Prop
 | .bl i,Q=>Q i
 |_,_=>False
def onR:V->(Addr->Prop)->Prop
 | .ref i,Q=>Q i
 |_,_=>False
def on1:List V->(V->Prop)->Prop
 |[x],Q=>Q x
 |_,_=>False
def on2:List V->(V->V->Prop)->Prop
 |[x,y],Q=>Q x y
 |_,_=>False
theorem pV_{o:Option (Option V)}{Q:V->Prop}(h:onV o Q):∃v,o=some (some v)/\Q v:=by
 match o,h with
 |some (some v),h=>show⟨v,rfl,h⟩
theorem c4_{x:V}{Q:Int->Prop}(h:onI x Q):∃i,x=.int i/\Q i:=by
 cases x <;> first|show⟨_,rfl,h⟩|show h.elim
theorem ib_{x:V}{Q:Bool->Prop}(h:onB x Q):∃i,x=.bl i/\Q i:=by
 cases x <;> first|show⟨_,rfl,h⟩|show h.elim
theorem eB_{x:V}{Q:Addr->Prop}(h:onR x Q):∃i,x=.ref i/\Q i:=by
 cases x <;> first|show⟨_,rfl,h⟩|show h.elim
theorem mh_{x:List V}{Q:V->Prop}(h:on1 x Q):∃i,x=[i]/\Q i:=by
 match x,h with
 |[v],h=>show⟨v,rfl,h⟩
theorem pW_{x:List V}{Q:V->V->Prop}(h:on2 x Q):∃i j,x=[i,j]/\Q i j:=by
 match x,h with
 |[v,w],h=>show⟨v,w,rfl,h⟩
theorem rh_{o:Option (Option V)}{Q:V->Prop}:onV o Q = ∃v,o=some (some v)/\Q v:=propext ⟨pV_,λ⟨_,e,h⟩=>by rw[e];show h⟩
theorem ri_{x:V}{Q:Int->Prop}:onI x Q = ∃i,x=.int i/\Q i:=propext ⟨c4_,λ⟨_,e,h⟩=>by rw[e];show h⟩
theorem rj_{x:V}{Q:Bool->Prop}:onB x Q = ∃i,x=.bl i/\Q i:=propext ⟨ib_,λ⟨_,e,h⟩=>by rw[e];show h⟩
theorem rk_{x:V}{Q:Addr->Prop}:onR x Q = ∃i,x=.ref i/\Q i:=propext ⟨eB_,λ⟨_,e,h⟩=>by rw[e];show h⟩
theorem rl_{x:List V}{Q:V->Prop}:on1 x Q = ∃i,x=[i]/\Q i:=propext ⟨mh_,λ⟨_,e,h⟩=>by rw[e];show h⟩
theorem rm_{x:List V}{Q:V->V->Prop}:on2 x Q = ∃i j,x=[i,j]/\Q i j:=propext ⟨pW_,λ⟨_,_,e,h⟩=>by rw[e];show h⟩
def Jx_(i:Nat):TE:=λσ H Q=>onV σ[i]? λv=>Q v H
def tC(v:V):TE:=λ_ H Q=>Q v H
theorem nE_{i:Nat}{x:Str}{pos:Pos}(hN:X.N[i]?=some x)(hv:Vis X.env.scope x)(hd:(x == ("__debug__" : Str))=false:=by decide) (hcd:(x == ("__classdict__" : Str))=false:=by decide):PE X (.Name x pos) (Jx_ i):=by
 intro pins s σ H Q I h;obtain⟨v,e,h⟩:=pV_ h;obtain⟨m,hn,hl⟩:=I.loc;obtain⟨u,r,l⟩:=hl i x v hN e hv;have fin:EP X pins σ Q u s:=⟨v,H,I,r,h⟩
 rcases l with⟨hk,hm⟩|⟨hk,c,hc,hcell⟩
 .show wpAny_Name (wpAny_loadName_local I.ok.kind hk hn hm fin) hd
 .rcases hk with hk|hk
  .show wpAny_Name (wpAny_loadName_cell I.ok.kind hk hc hcell fin) hd
  .show wpAny_Name (wpAny_loadName_free I.ok.kind hk hc hcell fin hcd) hd
theorem ad_{i j pos}:PE X (.Constant (.int i) j pos) (tC (.int i)):=λ_ _ _ H _ I h=>wpAny_Constant_int ⟨.int i,H,I.tok _,⟨_,rfl⟩,h⟩
theorem GG_{b j pos}:PE X (.Constant (.bool b) j pos) (tC (.bl b)):=λ_ _ _ H _ I h=>Constant_bool ⟨.bl b,H,I,rfl,h⟩
theorem ic_{j pos}:PE X (.Constant .none j pos) (tC .non):=λ_ _ _ H _ I h=>E9_ ⟨.non,H,I,rfl,h⟩
theorem pX_{x j pos}:PE X (.Constant (.str x) j pos) (tC (.str x)):=λ_ _ _ H _ I h=>Calls.Constant_str ⟨.str x,H,I.tok _,⟨_,rfl⟩,h⟩
def Gl(X:Cx)(x:Str):Prop:=X.env.kindOf x=some .globalImplicit
theorem qs_{E:Value->Shared->Prop}{pins:List (Addr×Obj)}{s:Shared}{σ:St}{H:Hp}{x:Str}{u:Value}{pos:Pos}{Q:Value->Shared->Prop}(I:Inv X pins σ H s)(hg:Gl X x)(hm:X.mg x=some u)(h:Q u s)
  (hd:(x == ("__debug__" : Str))=false:=by decide):wpAny (model X.prog X.w) X.A (eval (.Name x pos) X.env) Q E s :=
 DS_ I.ok.kind hg (Calls.loadGlobal_global (by rw[I.ok.glob];show I.mod.glob.keeps I.bk) hm h) hd
theorem dP_{E:Value->Shared->Prop}{pins:List (Addr×Obj)}{s:Shared}{σ:St}{H:Hp}{x:Str}{u:Value}{pos:Pos}{Q:Value->Shared->Prop}(I:Inv X pins σ H s)(hg:Gl X x)(hm:X.mg x=none)(hv:bootBuiltins x=some u)(h:Q u s)
  (hn:x ≠ "__name__" := by decide) (hd:(x == ("__debug__" : Str))=false:=by decide):wpAny (model X.prog X.w) X.A (eval (.Name x pos) X.env) Q E s:=by
 obtain⟨mb,h1,h2⟩:=I.mod.blt;show DS_ I.ok.kind hg (Calls.loadGlobal_builtin (by rw[I.ok.glob];show I.mod.glob.keeps I.bk) hm (by rw[I.ok.blt];show h1.keeps I.bk) ((h2 x hn).trans hv) h) hd
theorem qt_{x:Str}{v:V}{u:Value}{pos:Pos}(hg:Gl X x)(hm:X.mg x=none)(hv:bootBuiltins x=some u)(r:Ga_ v u)(hn:x ≠ "__name__" := by decide) (hd:(x == ("__debug__" : Str))=false:=by decide):PE X (.Name x pos) (tC v):=
 λ_ _ _ H _ I h=>dP_ I hg hm hv ⟨v,H,I,r,h⟩ hn hd
variable {a b:Expr}{ta tb:TE}{pos:Pos}
def PC(X:Cx)(op:CmpOp)(a b:Expr)(t:TE):Prop :=
 ∀(pins:List (Addr×Obj))(s:Shared)(σ:St)(H:Hp)(Q:VK),Inv X pins σ H s->t σ H Q ->
  wpAny (model X.prog X.w) X.A (eval a X.env) (λv s₁=>wpAny (model X.prog X.w) X.A (eval b X.env) (λu s₂=>wpAny (model X.prog X.w) X.A (compareOp op v u) (EP X pins σ Q) X.xe s₂) X.xe s₁) X.xe s
variable{op:CmpOp}
theorem Iy_(b:Expr)(h:op≠.In)(h2:op≠.NotIn):behindInMarks op b=false:=by
 have e1:(op == CmpOp.In)=false:=by cases op <;> first|rfl|show absurd rfl h
 have e2:(op == CmpOp.NotIn)=false:=by cases op <;> first|rfl|show absurd rfl h2
 cases b <;> simp[behindInMarks,e1,e2]
def LX_(ta:TE):TE:=λσ H Q=>ta σ H λx H1=>Q (.bl (decide (x=.non))) H1
def KR_(ta:TE):TE:=λσ H Q=>ta σ H λx H1=>Q (.bl (!decide (x=.non))) H1
theorem Ga_.none_iff{x:V}{v:Value}(r:Ga_ x v):(v == Value.none)=decide (x=.non):=by
 cases x with
 |non=>cases r;rfl
 |bl _=>cases r;rfl
 |int _=>obtain⟨t,rfl⟩:=r;rfl
 |str _=>obtain⟨t,rfl⟩:=r;rfl
 |byt _=>obtain⟨t,rfl⟩:=r;rfl
 |flt _=>obtain⟨t,rfl⟩:=r;rfl
 |ref _=>cases r;rfl
 |ty _=>cases r;rfl
theorem pY_{j pos'} (ha:PE X a ta):PC X .Is a (.Constant .none j pos') (LX_ ta):=by intro pins s σ H Q I h;show thn (ha pins s σ H _ I h) λv s1 ⟨x,H1,I1,r1,q1⟩=>?_;show E9_ (is_none_gen ⟨.bl _,H1,I1,by rw[r1.none_iff];rfl,q1⟩)
theorem nF_{j pos'} (ha:PE X a ta):PC X .IsNot a (.Constant .none j pos') (KR_ ta):=by intro pins s σ H Q I h;show thn (ha pins s σ H _ I h) λv s1 ⟨x,H1,I1,r1,q1⟩=>?_;show E9_ (isnot_none_gen ⟨.bl _,H1,I1,by rw[r1.none_iff];rfl,q1⟩)
def tB(t:TE):TT:=λσ H Q=>t σ H λx H1=>onB x λc=>Q c H1
theorem rn_{t:TE}(h:PC X op a b t)(h1:behindInMarks op b=false:=by first|show Iy_ _ d_ d_|rfl):PE X (.Compare a [op] [b] pos) t:=λpins s σ H Q I hw=>wpAny_Compare1 (h pins s σ H Q I hw) h1
theorem f2_{t:TE}(h:PC X op a b t)(h1:behindInMarks op b=false:=by first|show Iy_ _ d_ d_|rfl):PT X (.Compare a [op] [b] pos) (tB t):=by intro pins s σ H Q I hw;show EO_ (thn (h pins s σ H _ I hw) λv s1 h1=>thn h1 λu s2 h2=>thn h2 λc s3 ⟨x,H1,I1,r1,q1⟩=>?_) h1;obtain⟨d,rfl,q⟩:=ib_ q1;cases r1;show Bo_ ⟨H1,I1,q⟩
theorem f3_{e:Expr}{t:TE}(h:PE X e t)(he:∀whole,isTrue e X.env whole=(do let v <-whole;standAt e.pos;holding [v] (truthy v)):=by intro _;rfl):PT X e (tB t):=by intro pins s σ H Q I hw;show isTrue_plain (thn (h pins s σ H _ I hw) λv s1 ⟨x,H1,I1,r1,q1⟩=>?_) (he _);obtain⟨d,rfl,q⟩:=ib_ q1;cases r1;show Bo_ ⟨H1,I1,q⟩
variable {tA tB':TT}{rest:List Expr}
def L1_(t u:TT):TT:=λσ H Q=>t σ H λc H1=>if c=true then u σ H1 Q else Q false H1
def tOr(t u:TT):TT:=λσ H Q=>t σ H λc H1=>if c=true then Q true H1 else u σ H1 Q
def Mf_(t:TT):TT:=λσ H Q=>t σ H λc H1=>Q (!c) H1
theorem jz_(ha:PT X a tA):PW X (.BoolOp .And [a] pos) tA:=by
 intro wh pins s σ H Q I h;show isTrue_and (thn (ha pins s σ H Q I h) λc s1 e=>?_);cases c with
 |true=>show isTrue_and_nil e
 |false=>show e
theorem i9_(ha:PT X a tA):PW X (.BoolOp .Or [a] pos) tA:=by
 intro wh pins s σ H Q I h;show isTrue_or (thn (ha pins s σ H Q I h) λc s1 e=>?_);cases c with
 |false=>show isTrue_or_nil e
 |true=>show e
theorem mi_(ha:PT X a tA)(hb:PW X (.BoolOp .And (b::rest) pos) tB'):PW X (.BoolOp .And (a::b::rest) pos) (L1_ tA tB'):=by
 intro wh pins s σ H Q I h;show isTrue_and (thn (ha pins s σ H _ I h) λc s1 ⟨H1,I1,q1⟩=>?_);cases c with
 |true=>show hb wh pins s1 σ H1 Q I1 q1
 |false=>show⟨H1,I1,q1⟩
theorem HY_(ha:PT X a tA)(hb:PW X (.BoolOp .Or (b::rest) pos) tB'):PW X (.BoolOp .Or (a::b::rest) pos) (tOr tA tB'):=by
 intro wh pins s σ H Q I h;show isTrue_or (thn (ha pins s σ H _ I h) λc s1 ⟨H1,I1,q1⟩=>?_);cases c with
 |true=>show⟨H1,I1,q1⟩
 |false=>show hb wh pins s1 σ H1 Q I1 q1
theorem f4_(ha:PT X a tA):PT X (.UnaryOp .Not a pos) (Mf_ tA):=by intro pins s σ H Q I h;show isTrue_not (ha pins s σ H (λc H1=>Q (!c) H1) I h)
def Ky_(ta tb:TE):TE:=λσ H Q=>ta σ H λx H1=>onB x λc=>if c=true then tb σ H1 Q else Q (.bl false) H1
def KB_(ta:TE):TE:=λσ H Q=>ta σ H λx H1=>onB x λc=>Q (.bl (!c)) H1
theorem ro_{op} {t:TE} (h:PE X a t):PE X (.BoolOp op [a] pos) t:=λpins s σ H Q I hw=>BoolOp_one (h pins s σ H Q I hw)
theorem rp_(ha:PE X a ta)(hb:PE X (.BoolOp .And (b::rest) pos) tb):PE X (.BoolOp .And (a::b::rest) pos) (Ky_ ta tb):=by
 intro pins s σ H Q I h;show BoolOp_and (thn (ha pins s σ H _ I h) λv s1 ⟨x,H1,I1,r1,q1⟩=>?_);obtain⟨c,rfl,q1⟩:=ib_ q1;cases r1;show Bo_ ?_;cases c with
 |true=>show hb pins s1 σ H1 Q I1 q1
 |false=>show⟨.bl false,H1,I1,rfl,q1⟩
theorem rq_(ha:PE X a ta):PE X (.UnaryOp .Not a pos) (KB_ ta):=by intro pins s σ H Q I h;show UnaryOp_ (thn (ha pins s σ H _ I h) λv s1 ⟨x,H1,I1,r1,q1⟩=>?_);obtain⟨c,rfl,q1⟩:=ib_ q1;cases r1;show not_of (Bo_ ⟨.bl (!c),H1,I1,rfl,q1⟩)
def tIf(t:TT)(ta tb:TE):TE:=λσ H Q=>t σ H λc H1=>if c=true then ta σ H1 Q else tb σ H1 Q
theorem pe_{c:Expr}(hc:PT X c tA)(ha:PE X a ta)(hb:PE X b tb):PE X (.IfExp c a b pos) (tIf tA ta tb):=by
 intro pins s σ H Q I h;show wpAny_IfExp (thn (hc pins s σ H _ I h) λd s1 ⟨H1,I1,q1⟩=>?_);cases d with
 |true=>show ha pins s1 σ H1 Q I1 q1
 |false=>show hb pins s1 σ H1 Q I1 q1
end
def SqL(K:PySem.W.Frag)(H:Hp)(a:Addr)(xs:List V):Prop :=
 Rd H a (.lst xs) \/
  ∃(o:Obj)(its:Array Value)(n:Nat),K.lookup a=some o/\o.cls=.type "list" /\ o.dict=none/\o.data=.seq its n/\its.size<=sizeLine/\F4_ xs its.toList
def SqT(K:PySem.W.Frag)(H:Hp)(a:Addr)(xs:List V):Prop :=
 Rd H a (.tup xs) \/
  ∃(o:Obj)(its:Array Value)(n:Nat),K.lookup a=some o/\o.cls=.type "tuple" /\ o.data=.seq its n/\its.size<=sizeLine/\F4_ xs its.toList
def absV:Value->Option V
 | .none=>some .non
 | .bool b=>some (.bl b)
 | .int i _=>some (.int i)
 | .str x _=>some (.str x)
 | .bytes b _=>some (.byt b)
 | .float b _=>some (.flt b)
 | .ref a=>some (.ref a)
 | .type n=>some (.ty n)
 |_=>none
theorem Ga_.abs{x:V}{u:Value}(r:Ga_ x u):absV u=some x:=by
 cases x with
 |non=>cases r;rfl
 |bl _=>cases r;rfl
 |int _=>obtain⟨t,rfl⟩:=r;rfl
 |str _=>obtain⟨t,rfl⟩:=r;rfl
 |byt _=>obtain⟨t,rfl⟩:=r;rfl
 |flt _=>obtain⟨t,rfl⟩:=r;rfl
 |ref _=>cases r;rfl
 |ty _=>cases r;rfl
theorem Ga_.inj{x y:V}{u:Value}(r:Ga_ x u)(q:Ga_ y u):x=y:=Au_ (r.abs.symm.trans q.abs)
theorem F4_.inj:∀{xs ys:List V}{us:List Value},F4_ xs us->F4_ ys us->xs=ys
 |_,_,_,.nil,.nil=>rfl
 |_,_,_,.cons r t,.cons r' t'=>by rw[r.inj r',F4_.inj t t']
variable {σ:St}{xs ys:List V}
variable{K:PySem.W.Frag}
theorem SqL.of(h:H a=some (.lst xs)):SqL K H a xs:=.inl (.inl h)
theorem SqT.of(h:H a=some (.tup xs)):SqT K H a xs:=.inl (.inl h)
theorem Inv.list(I:Inv X pins σ H s)(h:SqL X.K H a xs):∃its:List Value,F4_ xs its/\PlainL s.heap a its.toArray/\xs.length<=sizeLine:=by
 rcases h with h|⟨o,its,n,hk,hc,hd,hs,hz,r⟩
 .obtain⟨z,its,n,r,e⟩:=h.ok I.hok;show⟨its,r,⟨_,n,e,rfl,rfl,rfl⟩,z⟩
 .show⟨its.toList,r,⟨o,n,I.kIn a o hk,hc,hd,by simpa using hs⟩,?_⟩;have e:=r.length;simp only[BV_]at e;lia
theorem Inv.tuple(I:Inv X pins σ H s)(h:SqT X.K H a xs):∃its:List Value,F4_ xs its/\IsTup s.heap a its.toArray/\xs.length<=sizeLine:=by
 rcases h with h|⟨o,its,n,hk,hc,hs,hz,r⟩
 .obtain⟨z,its,r,p⟩:=h.ok I.hok;show⟨its,r,p,z⟩
 .show⟨its.toList,r,⟨o,I.kIn a o hk,hc,n,by simpa using hs⟩,?_⟩;have e:=r.length;simp only[BV_]at e;lia
theorem Inv.list_inj(I:Inv X pins σ H s)(h:SqL X.K H a xs)(h':SqL X.K H a ys):xs=ys:=by
 obtain⟨its,r,⟨o,n,e,_,_,d⟩,_⟩:=I.list h;obtain⟨its',r',⟨o',n',e',_,_,d'⟩,_⟩:=I.list h';rw[e]at e';cases e';rw[d]at d';injection d' with d1 _
 have:its=its':=by simpa using congrArg Array.toList d1
 subst this;show r.inj r'
theorem Inv.tuple_inj(I:Inv X pins σ H s)(h:SqT X.K H a xs)(h':SqT X.K H a ys):xs=ys:=by
 obtain⟨its,r,⟨o,e,_,n,d⟩,_⟩:=I.tuple h;obtain⟨its',r',⟨o',e',_,n',d'⟩,_⟩:=I.tuple h';rw[e]at e';cases e';rw[d]at d';injection d' with d1 _
 have:its=its':=by simpa using congrArg Array.toList d1
 subst this;show r.inj r'
abbrev Cx.wish(X:Cx)(E:Value->Shared->Prop):Cx:={X with xe:=E}
abbrev Cx.nox(X:Cx):Cx:=X.wish λ_ _=>False
theorem Cx.Ok.wish(ok:X.Ok)(E:Value->Shared->Prop):(X.wish E).Ok :=
 ⟨ok.mod,ok.kind,ok.glob,ok.blt,ok.above,ok.inj,ok.has,ok.cab,ok.hd,ok.frames,ok.stk,ok.exf,ok.bs,ok.bsz,ok.noex,ok.exfs,ok.funs,ok.frf⟩
theorem Cx.Ok.unwish{E:Value->Shared->Prop}(ok:(X.wish E).Ok):X.Ok :=
 ⟨ok.mod,ok.kind,ok.glob,ok.blt,ok.above,ok.inj,ok.has,ok.cab,ok.hd,ok.frames,ok.stk,ok.exf,ok.bs,ok.bsz,ok.noex,ok.exfs,ok.funs,ok.frf⟩
variable {E:Value->Shared->Prop}
theorem Inv.wish(I:Inv X pins σ H s)(E:Value->Shared->Prop):Inv (X.wish E) pins σ H s:=⟨I.ok.wish E,I.os,I.bare,I.base,I.loc,I.cell,I.free,I.freeC,I.pin,I.hok,I.len⟩
theorem Inv.unwish(I:Inv (X.wish E) pins σ H s):Inv X pins σ H s:=⟨I.ok.unwish,I.os,I.bare,I.base,I.loc,I.cell,I.free,I.freeC,I.pin,I.hok,I.len⟩
theorem SP.unwish{D:H4_}{f:Flow}{s':Shared}(h:SP (X.wish E) pins D f s'):SP X pins D f s':=by
 cases f with
 |next=>obtain⟨σ',H',I,q⟩:=h;show⟨σ',H',I.unwish,q⟩
 |brk=>obtain⟨σ',H',I,q⟩:=h;show⟨σ',H',I.unwish,q⟩
 |cont=>obtain⟨σ',H',I,q⟩:=h;show⟨σ',H',I.unwish,q⟩
 |ret u=>obtain⟨v,σ',H',I,r,q⟩:=h;show⟨v,σ',H',I.unwish,r,q⟩
theorem PSs.nox{st:List Stmt}{t:TS}(h:PSs X.nox st t):PSs X st t:=λpins s σ H D I hw =>Bu_ (h pins s σ H D (I.wish _) hw) (λ_ _ q=>q.unwish) λ_ _ z=>False.elim z
section
variable {st:Stmt}{rest:List Stmt}{t u:TS}{e:Expr}{te:TE}{pos:Pos}
def KM_:TS:=λD σ H=>D.nx σ H
def L4_(t u:TS):TS:=λD σ H=>t {D with nx:=u D} σ H
theorem aD_:PSs X [] KM_:=λ_ _ σ H _ I h=>Dn_ ⟨σ,H,I,h⟩
theorem aj_(h1:PS X st t)(h2:PSs X rest u):PSs X (st::rest) (L4_ t u):=by
 intro pins s σ H D I h;show wpAny_execs_cons (thn (h1 pins s σ H {D with nx:=u D} I h) λf s1 q=>?_);cases f with
 |next =>
  obtain⟨σ',H',I',q⟩:=q;show h2 pins s1 σ' H' D I' q
 |ret v=>show q
 |brk=>show q
 |cont=>show q
theorem ag_(h1:PS X st t):PSs X [st] t:=by
 intro pins s σ H D I h;show wpAny_execs_cons (thn (h1 pins s σ H D I h) λf s1 q=>?_);cases f with
 |next=>show Dn_ q
 |ret v=>show q
 |brk=>show q
 |cont=>show q
def KF_:TS:=λD σ H=>D.bk σ H
theorem pf_:PS X (.Break pos) KF_:=λ_ _ σ H _ I h=>wpAny_Break ⟨σ,H,I,h⟩
theorem Inv.quiet(I:Inv X pins σ H s):interactive X.env=false:=by simp[interactive,I.ok.kind]
def Kf_(te:TE):TS:=λD σ H=>te σ H λ_ H1=>D.nx σ H1
theorem qu_(he:PE X e te)(hs:swapsWith e none pos.line X.env=pure false:=by rfl):PS X (.Expr e pos) (Kf_ te):=by intro pins s σ H D I h;show wpAny_Expr_any (thn (he pins s σ H _ I h) λv s1 ⟨x,H1,I1,r1,q1⟩=>⟨σ,H1,I1,q1⟩) I.quiet hs
def Mc_(te:TE):TS:=λD σ H=>te σ H D.rt
theorem au_(he:PE X e te):PS X (.Return (some e) pos) (Mc_ te):=by intro pins s σ H D I h;show wpAny_Return_some (thn (he pins s σ H _ I h) λv s1 ⟨x,H1,I1,r1,q1⟩=>⟨x,σ,H1,I1,r1,q1⟩)
def Mh_(c:TT)(t u:TS):TS:=λD σ H=>c σ H λb H1=>if b=true then t D σ H1 else u D σ H1
theorem Gj_{c:Expr}{a b:List Stmt}{tc:TT}(hc:PT X c tc)(ha:PSs X a t)(hb:PSs X b u):PS X (.If c a b pos) (Mh_ tc t u):=by
 intro pins s σ H D I h;show wpAny_If (thn (hc pins s σ H _ I h) λd s1 ⟨H1,I1,q1⟩=>?_);cases d with
 |true=>show ha pins s1 σ H1 D I1 q1
 |false=>show hb pins s1 σ H1 D I1 q1
end
abbrev TG:=V->St->Hp->(St->Hp->Prop)->Prop
abbrev TGs:=List V->St->Hp->(St->Hp->Prop)->Prop
def PG(X:Cx)(target:Expr)(t:TG):Prop :=
 ∀(pins:List (Addr×Obj))(s:Shared)(σ:St)(H:Hp)(v:V)(u:Value)(Q:St->Hp->Prop),Inv X pins σ H s->Ga_ v u->t v σ H Q ->
  wpAny (model X.prog X.w) X.A (assign target X.env u) (λ_ s'=>∃σ' H',Inv X pins σ' H' s'/\Q σ' H') X.xe s
def PGs(X:Cx)(ts:List Expr)(t:TGs):Prop :=
 ∀(pins:List (Addr×Obj))(s:Shared)(σ:St)(H:Hp)(vs:List V)(us:List Value)(Q:St->Hp->Prop),Inv X pins σ H s->F4_ vs us->t vs σ H Q ->
  wpAny (model X.prog X.w) X.A (assignInOrder ((assignEach ts X.env).map (·.2)) us) (λ_ s'=>∃σ' H',Inv X pins σ' H' s'/\Q σ' H') X.xe s
abbrev LA_:=V->V->V->Hp->(Hp->Prop)->Prop
def Mk_(X:Cx)(t:LA_):Prop :=
 ∀(pins:List (Addr×Obj))(s:Shared)(σ:St)(H:Hp)(o i v:V)(ov iv u:Value)(Q:Hp->Prop),Inv X pins σ H s->Ga_ o ov->Ga_ i iv->Ga_ v u->t o i v H Q ->
  wpAny (model X.prog X.w) X.A (setItem ov iv u) (λ_ s'=>∃H',Inv X pins σ H' s'/\Q H') X.xe s
variable {pos:Pos}
def Hu_(i:Nat):TG:=λv σ H Q=>Q (σ.set i (some v)) H
theorem nG_{i:Nat}{x:Str}(hN:X.N.Nodup)(hi:X.N[i]?=some x)(hx:Loc X.env.scope x)(hf:X.fn x=true\/X.env.scope.names.lookup x=some .local:=by first|show .inl rfl|show .inr rfl|assumption):PG X (.Name x pos) (Hu_ i):=by intro pins s σ H v u Q I r h;show wpAny_assign_Name (hR_ I hN hi hx r (λs' I'=>⟨_,H,I',h⟩) hf)
def L7_:TGs:=λvs σ H Q=>vs=[]/\Q σ H
def KC_(t:TG)(u:TGs):TGs:=λvs σ H Q=>∃v r,vs=v::r/\t v σ H λσ' H'=>u r σ' H' Q
theorem aT_:PGs X [] L7_:=by intro pins s σ H vs us Q I r h;obtain⟨e,h⟩:=h;subst e;cases r;show assignInOrder_nil ⟨σ,H,I,h⟩
theorem ak_{e:Expr}{es:List Expr}{t:TG}{u:TGs}(h1:PG X e t)(h2:PGs X es u)
  (hs:(assignEach (e::es) X.env).map (·.2)=assign e X.env::(assignEach es X.env).map (·.2):=by rfl):PGs X (e::es) (KC_ t u):=by
 intro pins s σ H vs us Q I r h;obtain⟨v,vr,e1,h⟩:=h;subst e1;cases r with
 |cons r rr =>rw[hs];show DK_ (thn (h1 pins s σ H _ _ _ I r h) λ_ s1 ⟨σ1,H1,I1,q1⟩=>?_);show h2 pins s1 σ1 H1 _ _ Q I1 rr q1
def Lw_(K:PySem.W.Frag)(n:Nat)(t:TGs):TG:=λv σ H Q=>onR v λa=>∃xs,SqT K H a xs/\xs.length=n/\t xs σ H Q
theorem rr_{es:List Expr}{k:Nat}{t:TGs}{n:Nat}(hc:X.calm=true)(h:PGs X es t)
  (hn:(assignEach es X.env).length=n:=by rfl) (hst:(assignEach es X.env).findIdx? (·.1)=none:=by rfl):PG X (.Tuple es k pos) (Lw_ X.K n t):=by
 intro pins s σ H v u Q I r hw;have hw0:=eB_ hw;clear hw;obtain⟨a,e1,xs,hq,hl,hw⟩:=hw0;subst e1;cases r;obtain⟨its,rv,ht,hz⟩:=I.tuple hq;show assign_Tuple_tuple (I.ok.hd hc) ht (by simp[hn,<-hl,rv.length]) hst λh' hx=>?_;have I1:Inv X pins σ H {s with heap:=h'}:=I.kept (t':=s.toks) λb o e=>hx b o (AE_ (Aw_ e)) e;show h pins _ σ H xs _ Q I1 (by simpa using rv) hw
def Mm_(to ti:TE)(t:LA_):TG:=λv σ H Q=>to σ H λo H1=>ti σ H1 λi H2=>t o i v H2 λH3=>Q σ H3
theorem rs_{o i:Expr}{to ti:TE}{t:LA_}(ho:PE X o to)(hi:PE X i ti)(hs:Mk_ X t)
  (ha:∀v,assign (.Subscript o i pos) X.env v=(do
   let ov <-holding [v] (eval o X.env)
   let iv <-holding [v,ov] (eval i X.env)
   standAt pos
   holding [v,ov,iv] (setItem ov iv v)
   release [v,ov,iv] []):=by intro _;rfl):PG X (.Subscript o i pos) (Mm_ to ti t):=by
 intro pins s σ H v u Q I r h;rw[ha];show Ac_ (A5_ (thn (ho pins s σ H _ I h) λov s1 ⟨x,H1,I1,r1,q1⟩=>?_));show Ac_ (A5_ (thn (hi pins s1 σ H1 _ I1 q1) λiv s2 ⟨y,H2,I2,r2,q2⟩=>?_));show Ac_ (DT_ (Ac_ (A5_ (thn (hs pins s2 σ H2 x y v ov iv u _ I2 r1 r2 r q2) λ_ s3 ⟨H3,I3,q3⟩=>?_))));show wpAny_release ⟨σ,H3,I3,q3⟩
def Kv_(te:TE)(g:TG):TS:=λD σ H=>te σ H λx H1=>g x σ H1 D.nx
theorem eL_{tg e:Expr}{te:TE}{g:TG}(he:PE X e te)(hg:PG X tg g)(hs:swapsWithSole [tg] e pos.line X.env=pure false:=by rfl) (hw:swappedStores [tg] e X.env=pure none:=by rfl)
  (h1:(assignEach [tg] X.env).map (·.2)=[assign tg X.env]:=by rfl):PS X (.Assign [tg] e pos) (Kv_ te g):=by
 intro pins s σ H D I h;show wpAny_Assign_stores (thn (he pins s σ H _ I h) λv s1 ⟨x,H1,I1,r1,q1⟩=>?_) hs hw;rw[h1];show thn (hg pins s1 σ H1 x v _ I1 r1 q1) λ_ s2 q=>q
theorem pZ_{i:Nat}{x:Str}{e:Expr}{te:TE}{pos':Pos}(hN:X.N.Nodup)(hi:X.N[i]?=some x)(hx:Loc X.env.scope x)(he:PE X e te)(hs:swapsWith e (some (.Name x pos')) pos.line X.env=pure false:=by rfl) (hf:X.fn x=true\/X.env.scope.names.lookup x=some .local:=by first|show .inl rfl|show .inr rfl|assumption):
  PS X (.Assign [.Name x pos'] e pos) (Kv_ te (Hu_ i)):=by
 intro pins s σ H D I h;show wpAny_Assign_Name (thn (he pins s σ H _ I h) λv s1 ⟨y,H1,I1,r1,q1⟩=>?_) hs;show hR_ I1 hN hi hx r1 (λs2 I2=>⟨_,H1,I2,q1⟩) hf
def LV_(i j:Nat)(ta:TA):TS:=λD σ H=>ta σ H λvs H1=>∃v w,vs=[v,w]/\D.nx ((σ.set i (some v)).set j (some w)) H1
theorem p0_{i j:Nat}{x y:Str}{a b:Expr}{ta:TA}{px py pt:Pos}{kt k2 pt2} (hc:X.calm=true) (hN:X.N.Nodup) (hi:X.N[i]?=some x) (hj:X.N[j]?=some y) (hij:i≠j)
  (hx:X.env.scope.names.lookup x=some .local) (hy:X.env.scope.names.lookup y=some .local) (ha:PA X [a,b] ta)
  (hw:swappedStores [.Tuple [.Name x px,.Name y py] kt pt] (.Tuple [a,b] k2 pt2) X.env=pure (some [x,y]))
  (hs:swapsWithSole [.Tuple [.Name x px,.Name y py] kt pt] (.Tuple [a,b] k2 pt2) pos.line X.env=pure false:=by rfl):
  PS X (.Assign [.Tuple [.Name x px,.Name y py] kt pt] (.Tuple [a,b] k2 pt2) pos) (LV_ i j ta):=by
 intro pins s σ H D I h;rw[exec_Assign_arm];show Ac_ (DT_ ?_);rw[hs];show Ac_ (Aj_ ?_);rw[if_neg d_];show Ac_ (Tuple_ (thn (ha _ pins s σ H _ I h) λus s1 ⟨vs,H1,I1,r1,q1⟩=>?_));obtain⟨v,w,e1,q1⟩:=q1;subst e1
 obtain⟨u1,u2,rfl,rv,rw'⟩:∃u1 u2,us=[u1,u2]/\Ga_ v u1/\Ga_ w u2:=by
  cases r1 with
  |cons p q =>
   cases q with
   |cons p' q' =>
    cases q';show⟨_,_,rfl,p,p'⟩
 show Bx_ ?_ (by change 2<=sizeLine;decide);have I2:Inv X pins σ H1 {s1 with heap:=s1.heap.push {cls:=.type "tuple",data:=.seq [u1,u2].toArray}}:=I1.kept (t':=s1.toks) λb o e=>Ah_ _ e;rw[hw];show Ac_ (Aj_ ?_);change wpAny (model X.prog X.w) X.A (do rule "assign.swapped-stores";let items <-unpackItems (.ref s1.heap.objs.size) 2 none;assignInOrder [λv=>bindName X.env y v,λv=>bindName X.env x v] items.reverse;pure Flow.next) _ _ _;show Ac_ (C9_ (Ac_ (unpackItems_tuple (items:=#[u1,u2]) (I.ok.hd hc) (IsTup.new s1.heap _) λh' hx'=>?_)));have I3:=I2.kept (h':=h') (t':=s1.toks) λb o e=>hx' b o (AE_ (Aw_ e)) e;change wpAny _ _ (assignInOrder [λv=>bindName X.env y v,λv=>bindName X.env x v] [u2,u1] >>= λ_=>pure Flow.next) _ _ _;show Ac_ (DK_ (wpAny_bindName (hR_ I3 hN hj (.inl hy) rw' (λs2 I4=>?_) (.inr hy))));show DK_ (wpAny_bindName (hR_ I4 hN hi (.inl hx) rv (λs3 I5=>assignInOrder_nil (Aj_ ?_)) (.inr hx)));rw[List.set_comm _ _ (Ne.symm hij)]at I5;show⟨_,H1,I5,q1⟩
def IR_(c:TT)(tb:TS):TS:=λD σ H=>∃W:Nat->St->Hp->Prop,(∃m,W m σ H)/\∀m σ H,W m σ H ->
 c σ H λb H1=>if b=true then ∃N:St->Hp->Prop,(∀σ' H',N σ' H'->∃m',m'<m/\W m' σ' H')/\tb {D with nx:=N,ct:=N,bk:=D.nx} σ H1 else D.nx σ H1
theorem e9_{c:Expr}{body:List Stmt}{tc:TT}{tb:TS}(hp:PassesOwn (model X.prog X.w) X.A X.env X.xe)(hc:PT X c tc)(hb:PSs X body tb):PS X (.While c body [] pos) (IR_ tc tb):=by
 intro pins s σ H D I h;obtain⟨W,⟨m0,w0⟩,turn⟩:=h;show wpAny_While (codeAny_whileLoop (λn s'=>∃σ' H',Inv X pins σ' H' s'/\W n σ' H') ?_ m0 ⟨σ,H,I,w0⟩);rintro n s1 ⟨σ1,H1,I1,w1⟩;show Cm_ hp (thn (hc pins s1 σ1 H1 _ I1 (turn n σ1 H1 w1)) λb s2 ⟨H2,I2,q2⟩=>?_);cases b with
 |true =>
  obtain⟨N,hN,q2⟩:=q2;rw[if_pos rfl];show Cm_ hp (thn (hb pins s2 σ1 H2 _ I2 q2) λf s3 q3=>?_);cases f with
  |next =>
   obtain⟨σ3,H3,I3,n3⟩:=q3;obtain⟨m',hm,w3⟩:=hN σ3 H3 n3;show⟨m',hm,σ3,H3,I3,w3⟩
  |cont =>
   obtain⟨σ3,H3,I3,n3⟩:=q3;obtain⟨m',hm,w3⟩:=hN σ3 H3 n3;show⟨m',hm,σ3,H3,I3,w3⟩
  |brk=>show q3
  |ret v=>show q3
 |false =>rw[if_neg AR_];show Dn_ ⟨σ1,H2,I2,q2⟩
structure It where
 go:Nat->Hp->Prop
 yld:Nat->Hp->V->Hp->Prop
 stop:Nat->Hp->Prop
def H2_(X:Cx)(pins:List (Addr×Obj))(H:Hp)(b:Addr):Prop :=
 H b=none/\b≠X.env.locals/\b∉X.fs/\(b∈X.ex\/X.s₀.heap.objs.size<=b)/\(∀x c,X.env.cells.lookup x=some c->c≠b)/\∀p∈X.pn++pins,p.1≠b
theorem Inv.fpOk(I:Inv X pins σ H s)(hb:s.heap.objs.size<=b)(hn:H' b=none):H2_ X pins H' b:=by
 show⟨hn,CM_ (AK_ I.lt hb),I.nofs hb,.inr (AG_ I.sz hb),λx c e z=>?_,λp hp z=>?_⟩
 .obtain⟨v,q⟩:=I.cell x c e;show absurd (AK_ q.lt (by rw[z];show hb)) (Bc_ _)
 .show absurd (AK_ (Aw_ (I.pin p hp).1) (by rw[z];show hb)) (Bc_ _)
structure JU_(P:Program)(w:World)(K:PySem.W.Frag)(tg:Expr)(J:It)(fp:List Addr)(it:Addr)(tn:Nat->Heap->Prop):Prop where
 mem:it∈fp
 obj:∀i h,tn i h->∀b∈fp,∃o,h.get? b=some o/\∀v,o.data≠.cell v
 keep:∀i h h',tn i h->(∀b∈fp,∀o,h.get? b=some o->h'.get? b=some o)->tn i h'
 item:∀(X:Cx),X.prog=P->X.w=w->X.K=K->X.calm=true->∀(i:Nat)(pins:List (Addr×Obj))(s:Shared)(σ:St)(H:Hp)(E:Value->Shared->Prop),Inv X pins σ H s->(∀b∈fp,H2_ X pins H b)->tn i s.heap->J.go i H ->
  wpAny (model P w) X.A (pyNext (.ref it)) (λr s1=>∃u,r=some u /\
   wpAny (model P w) X.A (letOwnedTupleGo tg (.ref it) u) (λ_ s2=>∃x H',Inv X pins σ H' s2/\Ga_ x u/\J.yld i H x H'/\tn (i+1) s2.heap/\∀b∈fp,H' b=none) E s1) E s
 done:∀(X:Cx),X.prog=P->X.w=w->X.K=K->X.calm=true->∀(i:Nat)(pins:List (Addr×Obj))(s:Shared)(σ:St)(H:Hp)(E:Value->Shared->Prop),Inv X pins σ H s->(∀b∈fp,H2_ X pins H b)->tn i s.heap->J.stop i H ->
  wpAny (model P w) X.A (pyNext (.ref it)) (λr s1=>r=none/\Inv X pins σ H s1) E s
 self:∀(A:Around)(i:Nat)(s:Shared)(Q:Value->Shared->Prop)(E:Value->Shared->Prop),tn i s.heap->Q (.ref it) s->wpAny (model P w) A (pyIter (.ref it)) Q E s
abbrev TI:=St->Hp->(It->Hp->Prop)->Prop
def PIE(X:Cx)(pins:List (Addr×Obj))(σ:St)(tg:Expr)(R:It->Hp->Prop)(itv:Value)(s2:Shared):Prop :=
 ∃(it:Addr)(fp:List Addr)(tn:Nat->Heap->Prop)(J:It)(H':Hp),itv=.ref it/\Inv X pins σ H' s2/\JU_ X.prog X.w X.K tg J fp it tn/\tn 0 s2.heap/\(∀b∈fp,H2_ X pins H' b)/\R J H'
def PI(X:Cx)(tg iter:Expr)(wi:TI):Prop :=
 ∀(pins:List (Addr×Obj))(s:Shared)(σ:St)(H:Hp)(R:It->Hp->Prop),Inv X pins σ H s->wi σ H R ->
  wpAny (model X.prog X.w) X.A (eval iter X.env) (λv s1=>wpAny (model X.prog X.w) X.A (pyIter v) (PIE X pins σ tg R) X.xe s1) X.xe s
theorem Jf_{M:Model}{A:Around}{E:Value->Shared->Prop}{s:Shared}{tg:Expr}{it:Addr}{u:Value}{o:Obj}{n:String}{vs:Array Value}{Q:Unit->Shared->Prop}(ho:s.heap.get? it=some o)(hc:o.cls=.type n)(hd:o.data=.fields vs)
    (hn:["enumerate","zip","dict_itemiterator","dict_reverseitemiterator","odict_iterator","itertools.zip_longest","itertools.pairwise"].contains n=false) (hQ:Q () s):wpAny M A (letOwnedTupleGo tg (.ref it) u) Q E s:=by
  unfold letOwnedTupleGo
  cases tg <;> first
    |show Aj_ hQ
    | (cases u <;> first
        |show Aj_ hQ
        | (show Ac_ (wpAny_load ho ?_)
           rw[hc,hd];change wpAny M A (if(["enumerate","zip","dict_itemiterator","dict_reverseitemiterator","odict_iterator","itertools.zip_longest","itertools.pairwise"].contains n && vs[0]? == some (rawInt _))=true then _ else _) Q E s;rw[if_neg (by intro h;rw[hn,Bool.false_and]at h;cases h)];show Aj_ hQ))
def Itl(K:PySem.W.Frag)(a:Addr):It :=
 ⟨λi H=>∃xs x,SqL K H a xs/\xs[i]?=some x,λi H x H'=>H'=H/\∀xs,SqL K H a xs->xs[i]?=some x,λi H=>∃xs,SqL K H a xs/\xs.length<=i⟩
def Itt(K:PySem.W.Frag)(a:Addr):It :=
 ⟨λi H=>∃xs x,SqT K H a xs/\xs[i]?=some x,λi H x H'=>H'=H/\∀xs,SqT K H a xs->xs[i]?=some x,λi H=>∃xs,SqT K H a xs/\xs.length<=i⟩
def Itr(lo:Int)(n:Nat):It:=⟨λi _=>i<n,λi H x H'=>H'=H/\x=.int (lo+i),λi _=>n<=i⟩
theorem nH_{tg:Expr}(a it:Addr):JU_ P w K tg (Itl K a) [it] it (λi h=>h.IsListIter it a i) where
 mem:=s_
 obj:=λi h st b hb=>by
  have e:b=it:=by simpa using hb
  subst e;obtain⟨o,e,c,d⟩:=st;show⟨o,e,λv z=>by rw[d]at z;cases z⟩
 keep:=λi h h' st k=>st.at λo e=>k it s_ o e
 item:=by intro X hP hw hK hc i pins s σ H E I hf st hg;subst hP hw hK;obtain⟨xs,x,hq,hx⟩:=hg;obtain⟨its,rv,p,hz⟩:=I.list hq;obtain⟨u,hu,ru⟩:=rv.get hx;obtain⟨f0,f1,f2,f3,f4,f5⟩:=hf it s_;show CF_ st p.isList (x:=u) (by simpa using hu) λh' st' sb=>?_;have I1:Inv X pins σ H {s with heap:=h'}:=I.turned (t':=s.toks) (λb o hb e=>(sb.2 b hb).trans e) f0 f1 f3 f4 f5;obtain⟨o,e,c,d⟩:=id st';show⟨u,rfl,Jf_ (s:={s with heap:=h'}) e c d d_ ⟨x,H,I1,ru,⟨rfl,λys hy=>by rw[I.list_inj hy hq];show hx⟩,st',λb hb=>(hf b hb).1⟩⟩
 done:=by intro X hP hw hK hc i pins s σ H E I hf st hg;subst hP hw hK;obtain⟨xs,hq,hx⟩:=hg;obtain⟨its,rv,p,hz⟩:=I.list hq;obtain⟨f0,f1,f2,f3,f4,f5⟩:=hf it s_;have hl:=rv.length;show CN_ (I.ok.hd hc) st p.isList (by simp;lia) λh' eb=>⟨rfl,I.turned (t':=s.toks) (λb o hb e=>eb b o hb e) f0 f1 f3 f4 f5⟩
 self:=λ_ _ _ _ _ st h=>wpAny_pyIter_listiter st h
theorem mP_{tg:Expr}(a it:Addr):JU_ P w K tg (Itt K a) [it] it (λi h=>h.IsTupleIter it a i) where
 mem:=s_
 obj:=λi h st b hb=>by
  have e:b=it:=by simpa using hb
  subst e;obtain⟨o,e,c,d⟩:=st;show⟨o,e,λv z=>by rw[d]at z;cases z⟩
 keep:=λi h h' st k=>st.at λo e=>k it s_ o e
 item:=by intro X hP hw hK hc i pins s σ H E I hf st hg;subst hP hw hK;obtain⟨xs,x,hq,hx⟩:=hg;obtain⟨its,rv,p,hz⟩:=I.tuple hq;obtain⟨u,hu,ru⟩:=rv.get hx;obtain⟨f0,f1,f2,f3,f4,f5⟩:=hf it s_;show wpAny_pyNext_tuple_item st (show s.heap.IsTuple a its.toArray from p) (x:=u) (by simpa using hu) λh' st' sb=>?_;have I1:Inv X pins σ H {s with heap:=h'}:=I.turned (t':=s.toks) (λb o hb e=>(sb.2 b hb).trans e) f0 f1 f3 f4 f5;obtain⟨o,e,c,d⟩:=id st';show⟨u,rfl,Jf_ (s:={s with heap:=h'}) e c d d_ ⟨x,H,I1,ru,⟨rfl,λys hy=>by rw[I.tuple_inj hy hq];show hx⟩,st',λb hb=>(hf b hb).1⟩⟩
 done:=by intro X hP hw hK hc i pins s σ H E I hf st hg;subst hP hw hK;obtain⟨xs,hq,hx⟩:=hg;obtain⟨its,rv,p,hz⟩:=I.tuple hq;obtain⟨f0,f1,f2,f3,f4,f5⟩:=hf it s_;have hl:=rv.length;show wpAny_pyNext_tuple_end (I.ok.hd hc) st (show s.heap.IsTuple a its.toArray from p) (by simp;lia) λh' eb=>⟨rfl,I.turned (t':=s.toks) (λb o hb e=>eb b o hb e) f0 f1 f3 f4 f5⟩
 self:=λ_ _ _ _ _ st h=>wpAny_pyIter_tupleiter st h
theorem mQ_{tg:Expr}(it:Addr)(lo:Int)(n:Nat):JU_ P w K tg (Itr lo n) [it] it (λi h=>IsRangeIter h it (lo+(i:Nat)*1) ((n:Int)-(i:Nat)) 1) where
 mem:=s_
 obj:=λi h st b hb=>by
  have e:b=it:=by simpa using hb
  subst e;show⟨_,st,λv z=>by have z':Data.fields _=Data.cell v:=z;cases z'⟩
 keep:=λi h h' st k=>k it s_ _ st
 item:=by intro X hP hw hK hc i pins s σ H E I hf st hg;subst hP hw hK;obtain⟨f0,f1,f2,f3,f4,f5⟩:=hf it s_;have W:=Walks.range (prog:=X.prog) (w:=X.w) (I.ok.hd hc) it lo 1 n;show W.item i s _ _ hg st λv h' tk hv st' kk=>?_;obtain⟨t,rfl⟩:=hv;have I1:Inv X pins σ H {s with heap:=h',toks:=tk}:=I.turned (λb o hb e=>kk b o (by simpa using hb) e) f0 f1 f3 f4 f5;show⟨_,rfl,Jf_ (s:={s with heap:=h',toks:=tk}) (n := "range_iterator") st' rfl rfl d_ ⟨.int (lo+i),H,I1,⟨t,?_⟩,⟨rfl,rfl⟩,st',λb hb=>(hf b hb).1⟩⟩;rw[Int.mul_one]
 done:=by intro X hP hw hK hc i pins s σ H E I hf st hg;subst hP hw hK;obtain⟨f0,f1,f2,f3,f4,f5⟩:=hf it s_;show EC_ (I.ok.hd hc) st (by have:n<=i:=hg;lia) λh' eb=>⟨rfl,I.turned (t':=s.toks) (λb o hb e=>eb b o hb e) f0 f1 f3 f4 f5⟩
 self:=λ_ _ _ _ _ st h=>ED_ st h
variable {tg:Expr}
def Ki_(K:PySem.W.Frag)(tl:TE):TI:=λσ H R=>tl σ H λx H1=>onR x λa=>(∃xs,SqL K H1 a xs)/\R (Itl K a) H1
def Lu_(K:PySem.W.Frag)(tl:TE):TI:=λσ H R=>tl σ H λx H1=>onR x λa=>(∃xs,SqT K H1 a xs)/\R (Itt K a) H1
theorem qv_{l:Expr}{tl:TE}(hl:PE X l tl):PI X tg l (Ki_ X.K tl):=by
 intro pins s σ H R I h;show thn (hl pins s σ H _ I h) λv s1 ⟨x,H1,I1,r1,q1⟩=>?_;obtain⟨a,e,⟨xs,hq⟩,q⟩:=eB_ q1;subst e;cases r1;obtain⟨its,rv,p,hz⟩:=I1.list hq;show CJ_ p.isList ?_;show⟨s1.heap.objs.size,[s1.heap.objs.size],_,_,H1,rfl,I1.kept (t':=s1.toks) λb o e=>Ah_ _ e,nH_ a _,⟨_,Ax_ _ rfl,rfl,rfl⟩,λb hb=>?_,q⟩;have e:b=s1.heap.objs.size:=by simpa using hb
 subst e;show I1.fpOk (Ai_ _) (I1.hok.fresh (Ai_ _))
theorem rt_{l:Expr}{tl:TE}(hl:PE X l tl):PI X tg l (Lu_ X.K tl):=by
 intro pins s σ H R I h;show thn (hl pins s σ H _ I h) λv s1 ⟨x,H1,I1,r1,q1⟩=>?_;obtain⟨a,e,⟨xs,hq⟩,q⟩:=eB_ q1;subst e;cases r1;obtain⟨its,rv,p,hz⟩:=I1.tuple hq;show wpAny_pyIter_tuple (show s1.heap.IsTuple a its.toArray from p) ?_;show⟨s1.heap.objs.size,[s1.heap.objs.size],_,_,H1,rfl,I1.kept (t':=s1.toks) λb o e=>Ah_ _ e,mP_ a _,⟨_,Ax_ _ rfl,rfl,rfl⟩,λb hb=>?_,q⟩;have e:b=s1.heap.objs.size:=by simpa using hb
 subst e;show I1.fpOk (Ai_ _) (I1.hok.fresh (Ai_ _))
theorem mj_{pins:List (Addr×Obj)}{σ:St}{H:Hp}{s:Shared}{R:It->Hp->Prop}{E:Value->Shared->Prop}{lo hi:Int}{t u v:Tok}{tk:Nat}(I:Inv X pins σ H s)(h1:-(2 ^ 62)<=lo)(h2:lo<2 ^ 62)(h3:-(2 ^ 62)<=hi)(h4:hi<2 ^ 62)
  (q:R (Itr lo (hi-lo).toNat) H):wpAny (model X.prog X.w) X.A (pyIter (.ref s.heap.objs.size)) (PIE X pins σ tg R) E {s with heap:=s.heap.push {cls:=.type "range",data:=.fields #[.int lo t,.int hi u,.int 1 v]},toks:=tk}:=by
 show wpAny_pyIter_range (Fx_ ..) (small_one h1 h2 h3 h4) ?_;have I1:Inv X pins σ H {s with heap:=s.heap.push {cls:=.type "range",data:=.fields #[.int lo t,.int hi u,.int 1 v]},toks:=tk}:=I.kept λb o e=>Ah_ _ e
 show⟨(s.heap.push {cls:=.type "range",data:=.fields #[.int lo t,.int hi u,.int 1 v]}).objs.size,[(s.heap.push {cls:=.type "range",data:=.fields #[.int lo t,.int hi u,.int 1 v]}).objs.size],_,_,H,rfl,
  I1.kept (t':=tk) λb o e=>Ah_ _ e,mQ_ _ lo (hi-lo).toNat,?_,λb hb=>?_,q⟩
 .have e1:lo+((0:Nat):Int)*1=lo:=s_
  have e2:(((hi-lo).toNat:Nat):Int)-((0:Nat):Int)=Builtin.Range.rangeSize lo hi 1:=by rw[rangeSize_one];split <;> lia
  change IsRangeIter _ _ (lo+((0:Nat):Int)*1) ((((hi-lo).toNat:Nat):Int)-((0:Nat):Int)) 1;rw[e1,e2];show Ax_ _ rfl
 .have e:b=(s.heap.push {cls:=.type "range",data:=.fields #[.int lo t,.int hi u,.int 1 v]}).objs.size:=by simpa using hb
  subst e;show I1.fpOk (Ai_ _) (I1.hok.fresh (Ai_ _))
def KX_(ta:TA):TI:=λσ H R=>ta σ H λvs H1=>on1 vs λx=>onI x λj=>-(2 ^ 62)<=j/\j<2 ^ 62/\R (Itr 0 j.toNat) H1
def KS_(ta:TA):TI:=λσ H R=>ta σ H λvs H1=>on2 vs λx y=>onI x λi=>onI y λj=>(-(2 ^ 62)<=i/\i<2 ^ 62 /\ -(2 ^ 62)<=j/\j<2 ^ 62)/\R (Itr i (j-i).toNat) H1
theorem aE_{a:Expr}{ta:TA}{p:Pos}(hg:Gl X "range") (hm:X.mg "range"=none) (ha:PA X [a] ta) (hs:starEach [a] X.env=[(false,eval a X.env)]:=by rfl):PI X tg (.Call (.Name "range" p) [a] [] pos) (KX_ ta):=by
 intro pins s σ H R I h;show Call_ (dP_ I hg hm EY_ (Bd_ (thn (ha pos pins s σ H _ I h) λus s1 ⟨vs,H1,I1,r1,q1⟩=>?_) hs rfl));obtain⟨_,e,q0⟩:=mh_ q1;clear q1;obtain⟨j,rfl,q1,q2,q⟩:=c4_ q0;subst e;cases r1 with
 |cons r rr =>
  cases rr;obtain⟨t,rfl⟩:=r;show call_range_1 (mj_ I1 o_ o_ q1 q2 (by simpa using q))
theorem nI_{a b:Expr}{ta:TA}{p:Pos}(hg:Gl X "range") (hm:X.mg "range"=none) (ha:PA X [a,b] ta) (hs:starEach [a,b] X.env=[(false,eval a X.env),(false,eval b X.env)]:=by rfl) (hs2:starEach [b] X.env=[(false,eval b X.env)]:=by rfl):
  PI X tg (.Call (.Name "range" p) [a,b] [] pos) (KS_ ta):=by
 intro pins s σ H R I h;show Call_ (dP_ I hg hm EY_ (Bd_ (thn (ha pos pins s σ H _ I h) λus s1 ⟨vs,H1,I1,r1,q1⟩=>?_) (by rw[hs,hs2]) (by rw[hs2];rfl)));obtain⟨_,_,e,q0⟩:=pW_ q1;clear q1;obtain⟨i,rfl,q9⟩:=c4_ q0;clear q0;obtain⟨j,rfl,⟨q1,q2,q3,q4⟩,q⟩:=c4_ q9;subst e;cases r1 with
 |cons r rr =>
  cases rr with
  |cons r' rr =>
   cases rr;obtain⟨t,rfl⟩:=r;obtain⟨t',rfl⟩:=r';show call_range_2 (mj_ I1 q1 q2 q3 q4 q)
def LW_(wi:TI)(g:TG)(tb:TS):TS:=λD σ H=>wi σ H λJ H1=>∃W:Nat->Nat->St->Hp->Prop,(∃m,W 0 m σ H1)/\∀i m σ H,W i m σ H ->
 (J.stop i H/\D.nx σ H)\/(J.go i H/\∃N:St->Hp->Prop,(∀σ' H',N σ' H'->∃m',m'<m/\W (i+1) m' σ' H')/\∀x H',J.yld i H x H'->g x σ H' λσ2 H2=>tb {D with nx:=N,ct:=N,bk:=D.nx} σ2 H2)
def HT_(fp:List Addr)(h:Heap):List (Addr×Obj):=fp.filterMap λb=>(h.get? b).map λo=>(b,o)
variable{fp:List Addr}
theorem fa_{o:Obj}(hb:b∈fp)(e:h.get? b=some o):(b,o)∈HT_ fp h:=Ci_.mpr ⟨b,hb,by rw[e];rfl⟩
theorem nJ_{p:Addr×Obj}(hp:p∈HT_ fp h):p.1∈fp/\h.get? p.1=some p.2:=by
 obtain⟨b,hb,e⟩:=Ci_.mp hp;cases q:h.get? b with
 |none=>rw[q]at e;cases e
 |some o =>rw[q]at e;have e':(b,o)=p:=Au_ e;subst e';show⟨hb,q⟩
theorem Inv.pinned(I:Inv X pins σ H s)(hf:∀b∈fp,H2_ X pins H b)(ho:∀b∈fp,∃o,s.heap.get? b=some o/\∀v,o.data≠.cell v):Inv X (pins++HT_ fp s.heap) σ H s :=
 I.pins_of λp hp=>(Aq_.mp hp).elim (λz=>I.pin p (AO_ _ z)) λz=>by obtain⟨hb,e⟩:=nJ_ z;obtain⟨f0,f1,f2,_⟩:=hf p.1 hb;obtain⟨o,e',d⟩:=ho p.1 hb;rw[e]at e';cases e';show⟨e,f0,f1,f2,d⟩
theorem Inv.unpinned{pl:List (Addr×Obj)}(I:Inv X (pins++pl) σ H s):Inv X pins σ H s:=I.pins_of λp hp=>I.pin p (AO_ _ (AN_ _ hp))
theorem aP_{iter:Expr}{body:List Stmt}{wi:TI}{g:TG}{tb:TS}{pos:Pos}(hp:PassesOwn (model X.prog X.w) X.A X.env X.xe)(hc:X.calm=true)(hi:PI X tg iter wi)(hg:PG X tg g)(hb:PSs X body tb)
  (hs:∀x,foldedSetIterable iter X.env x=pure x:=by intro _;rfl):PS X (.For tg iter body [] pos) (LW_ wi g tb):=by
 intro pins s σ H D I h;show wpAny_For (thn (hi pins s σ H _ I h) λv s1 h1=>thn h1 λitv s2 h2=>?_) hs;obtain⟨it,fp,tn,J,H2,e,I2,T,st2,f2,W,⟨m0,w0⟩,turn⟩:=h2;subst e
 have stat:∀{H':Hp},(∀b∈fp,H' b=none)->∀b∈fp,H2_ X pins H' b:=λhn b hb=>⟨hn b hb,(f2 b hb).2⟩;show codeAny_forLoop_any (λn s'=>∃i σ' H',Inv X pins σ' H' s'/\tn i s'.heap/\(∀b∈fp,H' b=none)/\W i n σ' H') ?_ m0 ⟨0,σ,H2,I2,st2,λb hb=>(f2 b hb).1,w0⟩;rintro n s3 ⟨i,σ3,H3,I3,st3,fr3,w3⟩
 rcases turn i n σ3 H3 w3 with⟨stop,qn⟩|⟨go,N,hN,step⟩
 .show Cm_ hp (thn (T.done X rfl rfl rfl hc i pins s3 σ3 H3 X.xe I3 (stat fr3) st3 stop) λr s4 ⟨hr,I4⟩=>?_);subst hr;show Dn_ ⟨σ3,H3,I4,qn⟩
 .show Cm_ hp (thn (T.item X rfl rfl rfl hc i pins s3 σ3 H3 X.xe I3 (stat fr3) st3 go) λr s4 ⟨u,hr,h4⟩=>?_);subst hr;show Cm_ hp (thn h4 λ_ s5 ⟨x,H5,I5,r5,y5,st5,fr5⟩=>?_);have I5':=I5.pinned (stat fr5) (T.obj _ _ st5);show Cm_ hp (thn (hg _ s5 σ3 H5 x u _ I5' r5 (step x H5 y5)) λ_ s6 ⟨σ6,H6,I6,q6⟩=>?_);show Cm_ hp (thn (hb _ s6 σ6 H6 _ I6 q6) λf s7 q7=>?_);have again:∀{σ7:St}{H7:Hp},Inv X (pins++HT_ fp s5.heap) σ7 H7 s7->N σ7 H7->∃m,m<n/\∃i σ' H',Inv X pins σ' H' s7/\tn i s7.heap/\(∀b∈fp,H' b=none)/\W i m σ' H':=λ{σ7 H7} I7 n7=>by obtain⟨m',hm,w7⟩:=hN σ7 H7 n7;show⟨m',hm,i+1,σ7,H7,I7.unpinned,T.keep _ _ _ st5 λb hb o e=>(I7.pin (b,o) (AO_ _ (AO_ _ (fa_ hb e)))).1,λb hb=>?_,w7⟩;obtain⟨o,e,d⟩:=T.obj _ _ st5 b hb;show(I7.pin (b,o) (AO_ _ (AO_ _ (fa_ hb e)))).2.1
  cases f with
  |next=>obtain⟨σ7,H7,I7,n7⟩:=q7;show again I7 n7
  |cont=>obtain⟨σ7,H7,I7,n7⟩:=q7;show again I7 n7
  |brk=>obtain⟨σ7,H7,I7,q7⟩:=q7;show⟨σ7,H7,I7.unpinned,q7⟩
  |ret v=>obtain⟨x7,σ7,H7,I7,r7,q7⟩:=q7;show⟨x7,σ7,H7,I7.unpinned,r7,q7⟩
theorem pg_{K:PySem.W.Frag}{a:Addr}{xs:List V}{g:TG}{tb:TS}{D:H4_}{σ:St}{H:Hp}(Pv:Nat->St->Hp->Prop)(h0:Pv 0 σ H)(hl:∀i σ H,i<=xs.length->Pv i σ H->SqL K H a xs)
  (hs:∀i x σ H,xs[i]?=some x->Pv i σ H->g x σ H λσ2 H2=>tb {D with nx:=Pv (i+1),ct:=Pv (i+1),bk:=D.nx} σ2 H2) (hd:∀σ H,Pv xs.length σ H->D.nx σ H):
  ∃W:Nat->Nat->St->Hp->Prop,(∃m,W 0 m σ H)/\∀i m σ H,W i m σ H ->
   ((Itl K a).stop i H/\D.nx σ H)\/((Itl K a).go i H/\∃N:St->Hp->Prop,(∀σ' H',N σ' H'->∃m',m'<m/\W (i+1) m' σ' H')/\∀x H',(Itl K a).yld i H x H'->g x σ H' λσ2 H2=>tb {D with nx:=N,ct:=N,bk:=D.nx} σ2 H2):=by
 show⟨λi m σ H=>m=xs.length-i/\i<=xs.length/\Pv i σ H,⟨xs.length,s_,Az_ _,h0⟩,?_⟩;rintro i m σ H ⟨rfl,hi,p⟩;have q:=hl i σ H hi p;by_cases hlt:i<xs.length
 .show .inr ⟨⟨xs,xs[i],q,by simp[hlt]⟩,Pv (i+1),λσ' H' p'=>⟨xs.length-(i+1),o_,rfl,hlt,p'⟩,λx H' y=>?_⟩;obtain⟨e,y⟩:=y;subst e;show hs i x σ _ (y xs q) p
 .have e:i=xs.length:=o_
  subst e;show .inl ⟨⟨xs,q,Ai_ _⟩,hd σ H p⟩
theorem nK_{lo:Int}{n:Nat}{g:TG}{tb:TS}{D:H4_}{σ:St}{H:Hp}(Pv:Nat->St->Hp->Prop)(h0:Pv 0 σ H)
  (hs:∀i σ H,i<n->Pv i σ H->g (.int (lo+i)) σ H λσ2 H2=>tb {D with nx:=Pv (i+1),ct:=Pv (i+1),bk:=D.nx} σ2 H2) (hd:∀σ H,Pv n σ H->D.nx σ H):
  ∃W:Nat->Nat->St->Hp->Prop,(∃m,W 0 m σ H)/\∀i m σ H,W i m σ H ->
   ((Itr lo n).stop i H/\D.nx σ H)\/((Itr lo n).go i H/\∃N:St->Hp->Prop,(∀σ' H',N σ' H'->∃m',m'<m/\W (i+1) m' σ' H')/\∀x H',(Itr lo n).yld i H x H'->g x σ H' λσ2 H2=>tb {D with nx:=N,ct:=N,bk:=D.nx} σ2 H2):=by
 show⟨λi m σ H=>m=n-i/\i<=n/\Pv i σ H,⟨n,s_,Az_ _,h0⟩,?_⟩;rintro i m σ H ⟨rfl,hi,p⟩;by_cases hlt:i<n
 .show .inr ⟨hlt,Pv (i+1),λσ' H' p'=>⟨n-(i+1),o_,rfl,hlt,p'⟩,λx H' y=>?_⟩;obtain⟨e,y⟩:=y;subst e y;show hs i σ _ hlt p
 .have e:i=n:=o_
  subst e;show .inl ⟨Ai_ _,hd σ H p⟩
abbrev R2:=V->V->Hp->VK->Prop
def OpR(X:Cx)(f:Value->Value->Sem Value)(r:R2):Prop :=
 ∀(pins:List (Addr×Obj))(s:Shared)(σ:St)(H:Hp)(x y:V)(v u:Value)(Q:VK),Inv X pins σ H s->Ga_ x v->Ga_ y u->r x y H Q ->
  wpAny (model X.prog X.w) X.A (f v u) (EP X pins σ Q) X.xe s
def UnR(X:Cx)(f:Value->Sem Value)(r:V->Hp->VK->Prop):Prop :=
 ∀(pins:List (Addr×Obj))(s:Shared)(σ:St)(H:Hp)(x:V)(v:Value)(Q:VK),Inv X pins σ H s->Ga_ x v->r x H Q ->
  wpAny (model X.prog X.w) X.A (f v) (EP X pins σ Q) X.xe s
def GF_(X:Cx)(f:Value)(r:List V->Hp->VK->Prop):Prop :=
 ∀(pins:List (Addr×Obj))(s:Shared)(σ:St)(H:Hp)(xs:List V)(us:List Value)(Q:VK),Inv X pins σ H s->F4_ xs us->r xs H Q ->
  wpAny (model X.prog X.w) X.A (call f us) (EP X pins σ Q) X.xe s
def tOp(r:R2)(ta tb:TE):TE:=λσ H Q=>ta σ H λx H1=>tb σ H1 λy H2=>r x y H2 Q
def tUn(r:V->Hp->VK->Prop)(ta:TE):TE:=λσ H Q=>ta σ H λx H1=>r x H1 Q
def rI(C:Int->Int->Prop)(g:Int->Int->V):R2:=λx y H Q=>onI x λi=>onI y λj=>C i j/\Q (g i j) H
def rI0(g:Int->Int->V):R2:=λx y H Q=>onI x λi=>onI y λj=>Q (g i j) H
def rU(g:Int->V):V->Hp->VK->Prop:=λx H Q=>onI x λi=>Q (g i) H
section
variable {a b c:Expr}{ta tb tc:TE}
theorem binT(ha:PE X a ta)(hb:PE X b tb){pins:List (Addr×Obj)}{s:Shared}{σ:St}{H:Hp}{R:V->V->Hp->Prop}(I:Inv X pins σ H s)
  (h:ta σ H λx H1=>tb σ H1 λy H2=>R x y H2) {Q:Value->Shared->Prop} {f:Value->Value->Sem Value}
  (hf:∀v u s2 x y H2,Inv X pins σ H2 s2->Ga_ x v->Ga_ y u->R x y H2->wpAny (model X.prog X.w) X.A (f v u) Q X.xe s2):
  wpAny (model X.prog X.w) X.A (eval a X.env) (λv s₁=>wpAny (model X.prog X.w) X.A (eval b X.env) (λu s₂=>wpAny (model X.prog X.w) X.A (f v u) Q X.xe s₂) X.xe s₁) X.xe s:=by
 show thn (ha pins s σ H _ I h) λv s1 ⟨x,H1,I1,r1,q1⟩=>?_;show thn (hb pins s1 σ H1 _ I1 q1) λu s2 ⟨y,H2,I2,r2,q2⟩=>?_;show hf v u s2 x y H2 I2 r1 r2 q2
theorem FD_{op:Operator}{r:R2}(ho:OpR X (binaryOp op) r)(ha:PE X a ta)(hb:PE X b tb):PE X (.BinOp a op b pos) (tOp r ta tb):=by intro pins s σ H Q I h;show wpAny_BinOp (binT ha hb I h λv u s2 x y H2 I2 rx ry q=>ho pins s2 σ H2 x y v u Q I2 rx ry q)
theorem LF_{op:UnaryOp}{r:V->Hp->VK->Prop}(ho:UnR X (unaryOp op) r)(ha:PE X a ta):PE X (.UnaryOp op a pos) (tUn r ta):=by intro pins s σ H Q I h;show UnaryOp_ (thn (ha pins s σ H _ I h) λv s1 ⟨x,H1,I1,r1,q1⟩=>ho pins s1 σ H1 x v Q I1 r1 q1)
theorem opI{f:Value->Value->Sem Value}{C:Int->Int->Prop}{g:Int->Int->Int}
  (rule:∀(i j:Int)(t u:Tok)(s:Shared)(Q:Value->Shared->Prop)(E:Value->Shared->Prop),C i j->Q (.int (g i j) s.toks) {s with toks:=s.toks+1}->wpAny (model X.prog X.w) X.A (f (.int i t) (.int j u)) Q E s):
  OpR X f (rI C λi j=>.int (g i j)):=by
 intro pins s σ H x y v u Q I rx ry h;obtain⟨i,rfl,h1⟩:=c4_ h;clear h;obtain⟨j,rfl,hc,q⟩:=c4_ h1;obtain⟨t,rfl⟩:=rx;obtain⟨t',rfl⟩:=ry;show rule i j t t' s _ _ hc ⟨.int (g i j),H,I.tok _,⟨_,rfl⟩,q⟩
theorem opI0{f:Value->Value->Sem Value}{g:Int->Int->Int}
  (rule:∀(i j:Int)(t u:Tok)(s:Shared)(Q:Value->Shared->Prop)(E:Value->Shared->Prop),Q (.int (g i j) s.toks) {s with toks:=s.toks+1}->wpAny (model X.prog X.w) X.A (f (.int i t) (.int j u)) Q E s):
  OpR X f (rI0 λi j=>.int (g i j)):=by
 intro pins s σ H x y v u Q I rx ry h;obtain⟨i,rfl,h1⟩:=c4_ h;clear h;obtain⟨j,rfl,q⟩:=c4_ h1;obtain⟨t,rfl⟩:=rx;obtain⟨t',rfl⟩:=ry;show rule i j t t' s _ _ ⟨.int (g i j),H,I.tok _,⟨_,rfl⟩,q⟩
theorem opB0{f:Value->Value->Sem Value}{g:Int->Int->Bool}
  (rule:∀(i j:Int)(t u:Tok)(s:Shared)(Q:Value->Shared->Prop)(E:Value->Shared->Prop),Q (.bool (g i j)) s->wpAny (model X.prog X.w) X.A (f (.int i t) (.int j u)) Q E s):
  OpR X f (rI0 λi j=>.bl (g i j)):=by
 intro pins s σ H x y v u Q I rx ry h;obtain⟨i,rfl,h1⟩:=c4_ h;clear h;obtain⟨j,rfl,q⟩:=c4_ h1;obtain⟨t,rfl⟩:=rx;obtain⟨t',rfl⟩:=ry;show rule i j t t' s _ _ ⟨.bl (g i j),H,I,rfl,q⟩
def Mn_(i j:Int):Prop:=0<=j/\j<=1000000/\i.natAbs<2 ^ 64
def Lp_(i j:Int):Prop:=(-(2 ^ 64)<i/\i<2 ^ 64)\/(-(2 ^ 64)<j/\j<2 ^ 64)
theorem Lp_.ok{i j:Int}(h:Lp_ i j):IntMulOk i j:=by
 rcases h with⟨h1,h2⟩|⟨h1,h2⟩
 .show .of_left (intBits_le_64 h1 h2)
 .show .of_right (intBits_le_64 h1 h2)
theorem aN_:OpR X (binaryOp .Add) (rI0 λi j=>.int (i+j)):=opI0 λ_ _ _ _ _ _ _ q=>add_int q
theorem ja_:OpR X (binaryOp .Sub) (rI0 λi j=>.int (i-j)):=opI0 λ_ _ _ _ _ _ _ q=>sub_int q
theorem f5_:OpR X (binaryOp .Mult) (rI Lp_ λi j=>.int (i*j)):=opI λ_ _ _ _ _ _ _ hc q=>mul_int q hc.ok
theorem aI_:OpR X (binaryOp .Mod) (rI (λ_ j=>0<j) λi j=>.int (i%j)):=opI λi j _ _ _ _ _ hc q=>by have h1:(0:Int)<j:=hc;show mod_int' o_ (by rw[Int.fmod_eq_emod_of_nonneg i o_];show q)
theorem p1_:OpR X (binaryOp .Pow) (rI Mn_ λi j=>.int (i ^ j.toNat)):=opI λ_ _ _ _ _ _ _ hc q=>pow_int_small hc.1 hc.2.1 hc.2.2 q
theorem unI{f:Value->Sem Value}{g:Int->Int}
  (rule:∀(i:Int)(t:Tok)(s:Shared)(Q:Value->Shared->Prop)(E:Value->Shared->Prop),Q (.int (g i) s.toks) {s with toks:=s.toks+1}->wpAny (model X.prog X.w) X.A (f (.int i t)) Q E s):
  UnR X f (rU λi=>.int (g i)):=by
 intro pins s σ H x v Q I rx h;obtain⟨i,rfl,q⟩:=c4_ h;obtain⟨t,rfl⟩:=rx;show rule i t s _ _ ⟨.int (g i),H,I.tok _,⟨_,rfl⟩,q⟩
theorem ru_:UnR X (unaryOp .USub) (rU λi=>.int (-i)):=unI λ_ _ _ _ _ q=>neg_int q
end
def scal:V->V->Bool
 | .non,.non=>true | .non,.int _=>true | .int _,.non=>true | .non,.bl _=>true | .bl _,.non=>true | .non,.str _=>true | .str _,.non=>true
 | .int _,.int _=>true | .bl _,.bl _=>true | .str _,.str _=>true | .byt _,.byt _=>true
 | .int _,.str _=>true | .str _,.int _=>true | .bl _,.str _=>true | .str _,.bl _=>true
 |_,_=>false
def rEq:R2:=λx y H Q=>scal x y=true/\Q (.bl (decide (x=y))) H
def rNe:R2:=λx y H Q=>scal x y=true/\Q (.bl (!decide (x=y))) H
theorem nL_{i j:Int}:decide (V.int i=V.int j)=(i == j):=by rw[CC_];simp
theorem p2_{i j:Bool}:decide (V.bl i=V.bl j)=(i == j):=by rw[CC_];simp
theorem nM_{i j:Str}:decide (V.str i=V.str j)=(i == j):=by rw[CC_];simp
theorem nN_{i j:Array UInt8}:decide (V.byt i=V.byt j)=(i.toList == j.toList):=by rw[CC_];cases i;cases j;simp
section
variable {a b c:Expr}{ta tb tc:TE}
theorem a1_{Q:VK}{k k':Bool}(I:Inv X pins σ H s)(q:Q (.bl k) H)(e:k=k'):EP X pins σ Q (.bool k') s:=by subst e;show⟨.bl k,H,I,rfl,q⟩
theorem GW_:OpR X (compareOp .Eq) rEq:=by
 intro pins s σ H x y v u Q I rx ry h;obtain⟨hs,q⟩:=h;cases x with
 |non =>
  cases rx;cases y with
  |non=>cases ry;show PySem.EqNone.eq_none_none (a1_ I q s_)
  |bl j=>cases ry;show PySem.EqNone.eq_none_bool (a1_ I q s_)
  |int j=>obtain⟨t',rfl⟩:=ry;show PySem.EqNone.eq_none_int (a1_ I q s_)
  |str j=>obtain⟨t',rfl⟩:=ry;show PySem.EqNone.eq_none_str (a1_ I q s_)
  |_=>show absurd (show false=true from hs) AR_
 |bl i =>
  cases rx;cases y with
  |non=>cases ry;show PySem.EqNone.eq_bool_none (a1_ I q s_)
  |bl j=>cases ry;show eq_bool (a1_ I q p2_)
  |str j=>obtain⟨t',rfl⟩:=ry;show PySem.EqMixed.eq_bool_str (a1_ I q s_)
  |_=>show absurd (show false=true from hs) AR_
 |int i =>
  obtain⟨t,rfl⟩:=rx;cases y with
  |non=>cases ry;show PySem.EqNone.eq_int_none (a1_ I q s_)
  |int j=>obtain⟨t',rfl⟩:=ry;show eq_int (a1_ I q nL_)
  |str j=>obtain⟨t',rfl⟩:=ry;show PySem.EqMixed.eq_int_str (a1_ I q s_)
  |_=>show absurd (show false=true from hs) AR_
 |str i =>
  obtain⟨t,rfl⟩:=rx;cases y with
  |non=>cases ry;show PySem.EqNone.eq_str_none (a1_ I q s_)
  |bl j=>cases ry;show PySem.EqMixed.eq_str_bool (a1_ I q s_)
  |int j=>obtain⟨t',rfl⟩:=ry;show PySem.EqMixed.eq_str_int (a1_ I q s_)
  |str j=>obtain⟨t',rfl⟩:=ry;show eq_str (a1_ I q nM_)
  |_=>show absurd (show false=true from hs) AR_
 |byt i =>
  obtain⟨t,rfl⟩:=rx;cases y with
  |byt j=>obtain⟨t',rfl⟩:=ry;show PySem.W.eq_bytes (a1_ I q nN_)
  |_=>show absurd (show false=true from hs) AR_
 |_=>cases y <;> show absurd (show false=true from hs) AR_
theorem K5_:OpR X (compareOp .NotEq) rNe:=by
 intro pins s σ H x y v u Q I rx ry h;obtain⟨hs,q⟩:=h;cases x with
 |non =>
  cases rx;cases y with
  |non=>cases ry;show PySem.EqNone.ne_none_none (a1_ I q s_)
  |bl j=>cases ry;show PySem.EqNone.ne_none_bool (a1_ I q s_)
  |int j=>obtain⟨t',rfl⟩:=ry;show PySem.EqNone.ne_none_int (a1_ I q s_)
  |str j=>obtain⟨t',rfl⟩:=ry;show PySem.EqNone.ne_none_str (a1_ I q s_)
  |_=>show absurd (show false=true from hs) AR_
 |bl i =>
  cases rx;cases y with
  |non=>cases ry;show PySem.EqNone.ne_bool_none (a1_ I q s_)
  |bl j=>cases ry;show ne_bool (a1_ I q (congrArg not p2_))
  |str j=>obtain⟨t',rfl⟩:=ry;show PySem.EqMixed.ne_bool_str (a1_ I q s_)
  |_=>show absurd (show false=true from hs) AR_
 |int i =>
  obtain⟨t,rfl⟩:=rx;cases y with
  |non=>cases ry;show PySem.EqNone.ne_int_none (a1_ I q s_)
  |int j=>obtain⟨t',rfl⟩:=ry;show ne_int (a1_ I q (congrArg not nL_))
  |str j=>obtain⟨t',rfl⟩:=ry;show PySem.EqMixed.ne_int_str (a1_ I q s_)
  |_=>show absurd (show false=true from hs) AR_
 |str i =>
  obtain⟨t,rfl⟩:=rx;cases y with
  |non=>cases ry;show PySem.EqNone.ne_str_none (a1_ I q s_)
  |bl j=>cases ry;show PySem.EqMixed.ne_str_bool (a1_ I q s_)
  |int j=>obtain⟨t',rfl⟩:=ry;show PySem.EqMixed.ne_str_int (a1_ I q s_)
  |str j=>obtain⟨t',rfl⟩:=ry;show ne_str (a1_ I q (congrArg not nM_))
  |_=>show absurd (show false=true from hs) AR_
 |byt i =>
  obtain⟨t,rfl⟩:=rx;cases y with
  |byt j=>obtain⟨t',rfl⟩:=ry;show PySem.W.ne_bytes (a1_ I q (congrArg not nN_))
  |_=>show absurd (show false=true from hs) AR_
 |_=>cases y <;> show absurd (show false=true from hs) AR_
theorem Hy_:OpR X (compareOp .Lt) (rI0 λi j=>.bl (decide (i<j))):=opB0 λ_ _ _ _ _ _ _ q=>lt_int q
theorem LL_:OpR X (compareOp .LtE) (rI0 λi j=>.bl (decide (i<=j))):=opB0 λ_ _ _ _ _ _ _ q=>le_int q
theorem Kp_:OpR X (compareOp .Gt) (rI0 λi j=>.bl (decide (j<i))):=opB0 λ_ _ _ _ _ _ _ q=>gt_int q
theorem K4_:OpR X (compareOp .GtE) (rI0 λi j=>.bl (decide (j<=i))):=opB0 λ_ _ _ _ _ _ _ q=>ge_int q
theorem nO_:OpR X (compareOp .Lt) (λx y H Q=>∃i j,x=.str i/\y=.str j/\Q (.bl (decide (i.cps.toList<j.cps.toList))) H):=by intro pins s σ H x y v u Q I rx ry h;obtain⟨i,j,rfl,rfl,q⟩:=h;obtain⟨t,rfl⟩:=rx;obtain⟨t',rfl⟩:=ry;show lt_str (a1_ I q rfl)
variable{op:CmpOp}
theorem FW_(b:Expr)(h:op≠.In:=by decide) (h2:op≠.NotIn:=by decide):behindInMarks op b=false:=by
 have e1:(op == CmpOp.In)=false:=by cases op <;> first|rfl|show absurd rfl h
 have e2:(op == CmpOp.NotIn)=false:=by cases op <;> first|rfl|show absurd rfl h2
 cases b <;> simp[behindInMarks,e1,e2]
theorem gP_{r:R2}(ho:OpR X (compareOp op) r)(ha:PE X a ta)(hb:PE X b tb)(hm:behindInMarks op b=false):PE X (.Compare a [op] [b] pos) (tOp r ta tb):=by intro pins s σ H Q I h;show wpAny_Compare1 (binT ha hb I h λv u s2 x y H2 I2 rx ry q=>ho pins s2 σ H2 x y v u Q I2 rx ry q) hm
def Ke_(t:TE):TT:=λσ H Q=>t σ H λx H'=>onB x λk=>Q k H'
theorem aw_{r:R2}(ho:OpR X (compareOp op) r)(ha:PE X a ta)(hb:PE X b tb)(hm:behindInMarks op b=false):PT X (.Compare a [op] [b] pos) (Ke_ (tOp r ta tb)):=by
 intro pins s σ H Q I h;show EO_ (thn (ha pins s σ H _ I h) λv s1 ⟨x,H1,I1,r1,q1⟩=>thn (hb pins s1 σ H1 _ I1 q1) λu s2 ⟨y,H2,I2,r2,q2⟩ =>thn (ho pins s2 σ H2 x y v u _ I2 r1 r2 q2) λc s3 ⟨z,H3,I3,r3,q0⟩=>?_) hm;obtain⟨k,e,q3⟩:=ib_ q0;subst e;cases r3;show Bo_ ⟨H3,I3,q3⟩
def JZ_(r r':R2)(ta tb tc:TE):TE:=λσ H Q=>ta σ H λx H1=>tb σ H1 λy H2=>r x y H2 λz H3=>∃k,z=.bl k /\
 (if k=true then tc σ H3 λw' H4=>r' y w' H4 Q else Q (.bl false) H3)
theorem ph_{op op':CmpOp}{r r':R2}(ho:OpR X (compareOp op) r)(ho':OpR X (compareOp op') r')(ha:PE X a ta)(hb:PE X b tb)(hc:PE X c tc)
  (hm:lastMarks [op,op'] [b,c]=false:=by with_unfolding_all rfl):PT X (.Compare a [op,op'] [b,c] pos) (Ke_ (JZ_ r r' ta tb tc)):=by
 intro pins s σ H Q I h;show isTrue_chain (thn (ha pins s σ H _ I h) λv s1 ⟨x,H1,I1,r1,q1⟩=>test_link (thn (hb pins s1 σ H1 _ I1 q1) λu s2 ⟨y,H2,I2,r2,q2⟩ =>thn (ho pins s2 σ H2 x y v u _ I2 r1 r2 q2) λd s3 ⟨z,H3,I3,r3,k,e,q3⟩=>?_)) hm;subst e;cases r3;show Bo_ ?_;cases k with
 |false =>
  show ite_ff ⟨H3,I3,q3⟩
 |true =>show ite_tt (test_last (thn (hc pins s3 σ H3 _ I3 q3) λw' s4 ⟨z',H4,I4,r4,q4⟩=>thn (ho' pins s4 σ H4 y z' u w' _ I4 r2 r4 q4) λd' s5 ⟨z2,H5,I5,r5,q6⟩=>?_));obtain⟨k2,e2,q5⟩:=ib_ q6;subst e2;cases r5;show Bo_ ⟨H5,I5,q5⟩
theorem HU_:(sizeLine:Nat)<2 ^ 63:=by rw[Ch_];decide
theorem fb_:OpR X (binaryOp .Add) (λx y H Q=>∃i j,x=.str i/\y=.str j/\i.length+j.length<=sizeLine/\Q (.str (i++j)) H):=by intro pins s σ H x y v u Q I rx ry h;obtain⟨i,j,rfl,rfl,hz,q⟩:=h;obtain⟨t,rfl⟩:=rx;obtain⟨t',rfl⟩:=ry;show add_str (λt' tk=>⟨.str (i++j),H,I.tok _,⟨_,rfl⟩,q⟩) hz
theorem GI_{x:V}{us:List Value}(r:F4_ [x] us):∃u,us=[u]/\Ga_ x u:=by
 cases r with
 |cons r1 r2=>cases r2;show⟨_,rfl,r1⟩
theorem Hm_{x y:V}{us:List Value}(r:F4_ [x,y] us):∃u w',us=[u,w']/\Ga_ x u/\Ga_ y w':=by
 cases r with
 |cons r1 r2 =>
  cases r2 with
  |cons r3 r4=>cases r4;show⟨_,_,rfl,r1,r3⟩
theorem pi_:GF_ X (.builtin "abs") (λxs H Q=>∃i,xs=[.int i]/\Q (.int (if i<0 then -i else i)) H):=by intro pins s σ H xs us Q I r h;obtain⟨i,rfl,q⟩:=h;obtain⟨u,rfl,t,rfl⟩:=GI_ r;show call_abs_int λu tk=>⟨.int (if i<0 then -i else i),H,I.tok _,⟨_,rfl⟩,q⟩
theorem nP_(hc:X.calm=true):GF_ X (.builtin "max") (λxs H Q=>∃i j,xs=[.int i,.int j]/\Q (.int (if j > i then j else i)) H):=by
 intro pins s σ H xs us Q I r h;obtain⟨i,j,rfl,q⟩:=h;obtain⟨u,w',rfl,⟨t,rfl⟩,⟨t',rfl⟩⟩:=Hm_ r;show max_two_ints (I.ok.hd hc) λh' tk k=>⟨_,H,I.kept k,?_,q⟩;by_cases hj:j > i
 .rw[if_pos hj,if_pos hj];show⟨_,rfl⟩
 .rw[if_neg hj,if_neg hj];show⟨_,rfl⟩
theorem nQ_(hc:X.calm=true):GF_ X (.builtin "min") (λxs H Q=>∃i j,xs=[.int i,.int j]/\Q (.int (if j<i then j else i)) H):=by
 intro pins s σ H xs us Q I r h;obtain⟨i,j,rfl,q⟩:=h;obtain⟨u,w',rfl,⟨t,rfl⟩,⟨t',rfl⟩⟩:=Hm_ r;show min_two_ints (I.ok.hd hc) λh' tk k=>⟨_,H,I.kept k,?_,q⟩;by_cases hj:j<i
 .rw[if_pos hj,if_pos hj];show⟨_,rfl⟩
 .rw[if_neg hj,if_neg hj];show⟨_,rfl⟩
theorem kh_:GF_ X (.type "int") (λxs H Q=>(∃i,xs=[.int i]/\Q (.int i) H)\/∃k,xs=[.bl k]/\Q (.int (if k then 1 else 0)) H):=by
 intro pins s σ H xs us Q I r h
 rcases h with⟨i,rfl,q⟩|⟨k,rfl,q⟩
 .obtain⟨u,rfl,t,rfl⟩:=GI_ r;show call_int_int ⟨.int i,H,I,⟨_,rfl⟩,q⟩
 .obtain⟨u,rfl,r1⟩:=GI_ r;cases r1;show call_int_bool ⟨.int (if k then 1 else 0),H,I.tok _,⟨_,rfl⟩,q⟩
end
variable {prog:Program}{A:Around}{K:PySem.W.Frag}{dx C f:Addr}{mA:Str->Option Value}{name:Str}{v:Value}
theorem Iv_.some_of{v:V}{o:Option Value}(r:Iv_ (some v) o):∃u,o=some u/\Ga_ v u:=by
 cases o with
 |none=>show(show False from r).elim
 |some u=>show⟨u,rfl,r⟩
variable {o e value:Expr}{f:Str}{pos' tpos:Pos}{ta tv:TE}
structure GY_(k:Nat)(A:Around):Prop where
 hd:A.handled=none
 dp:A.depth+3*k+5<recursionLimit
 un:A.units+16*k+200<cLine
theorem GY_.mono{j k:Nat}(r:GY_ k A)(h:j<=k):GY_ j A:=⟨r.hd,by have:=r.dp;lia,by have:=r.un;lia⟩
theorem GY_.deeper{k:Nat}(r:GY_ (k+1) A)(env:Env):GY_ k (A.deeper env):=
 ⟨r.hd,by have:=r.dp;change A.depth+1+3*k+5<_;lia,by have:=r.un;change A.units+3+16*k+200<_;lia⟩
theorem GY_.in1{k:Nat}(r:GY_ (k+1) A):GY_ k A.in1 :=
 ⟨r.hd,by have:=r.dp;change A.depth+3*k+5<_;lia,by have:=r.un;change A.units+1+16*k+200<_;lia⟩
theorem GY_.depth{k:Nat}(r:GY_ k A):A.depth<recursionLimit:=by have:=r.dp;lia
theorem GY_.units{k:Nat}(r:GY_ k A):A.units+64<cLine:=by have:=r.un;lia
def Ly_:TA:=λ_ H Q=>Q [] H
def I7_(ta:TE)(tr:TA):TA:=λσ H Q=>ta σ H λx H1=>tr σ H1 λxs H2=>Q (x::xs) H2
section
variable {es:List Expr}{te:TE}{t:TA}
theorem ab_:PA X [] Ly_:=λ_ _ _ _ H Q I h=>DX_ ⟨[],H,I,.nil,h⟩
theorem qw_(ha:PE X e te)(hr:PA X es t)(hs:starEach (e::es) X.env=(false,eval e X.env)::starEach es X.env:=by rfl):PA X (e::es) (I7_ te t):=by intro pos pins s σ H Q I h;rw[hs];change wpAny _ _ (spliced ((false,eval e X.env)::backTo pos (starEach es X.env))) _ _ s;show DL_ (thn (ha pins s σ H _ I h) λu s1 ⟨x,H1,I1,r1,q1⟩=>?_);show thn (hr pos pins s1 σ H1 _ I1 q1) λus s2 ⟨xs,H2,I2,r2,q2⟩=>⟨x::xs,H2,I2,.cons r1 r2,q2⟩
def Lr_(t:TA):TE:=λσ H Q=>t σ H λxs H1=>xs.length<=sizeLine/\∀p,H1 p=none->Q (.ref p) (upd H1 p (.tup xs))
def Me_(t:TA):TE:=λσ H Q=>t σ H λxs H1=>xs.length<=sizeLine/\∀p,H1 p=none->Q (.ref p) (upd H1 p (.lst xs))
theorem ar_{x1} (h:PA X es t):PE X (.Tuple es x1 pos) (Lr_ t):=by intro pins s σ H Q I hq;show wpAny_Tuple_spliced (thn (h pos pins s σ H _ I hq) λus s1 ⟨xs,H1,I1,r,z,q⟩=>⟨by rw[<-r.length];show z,?_⟩);have hf:H1 s1.heap.objs.size=none:=I1.hok.fresh (Ai_ _);show⟨.ref s1.heap.objs.size,upd H1 s1.heap.objs.size (.tup xs),I1.laid (t':=s1.toks) (λb u e=>Ah_ _ e) (Ai_ _) ?_,rfl,q _ hf⟩;show⟨z,us,r,⟨_,Ax_ _ rfl,rfl,_,rfl⟩⟩
theorem bh_(h:PA X es t):PE X (.List es pos) (Me_ t):=by intro pins s σ H Q I hq;show wpAny_List_spliced (thn (h pos pins s σ H _ I hq) λus s1 ⟨xs,H1,I1,r,z,q⟩=>⟨by rw[<-r.length];show z,?_⟩);have hf:H1 s1.heap.objs.size=none:=I1.hok.fresh (Ai_ _);show⟨.ref s1.heap.objs.size,upd H1 s1.heap.objs.size (.lst xs),I1.laid (t':=s1.toks) (λb u e=>Ah_ _ e) (Ai_ _) ?_,rfl,q _ hf⟩;show⟨z,us,0,r,Ax_ _ rfl⟩
end
abbrev Sp:=List V->Hp->VK->XK->Prop
abbrev CXT:=List Env->Hp->Shared->XK->Value->Shared->Prop
structure JV_(P:Program)(w:World)(K:PySem.W.Frag)(mg:Str->Option Value)(base:Heap)(A:Around)(outer:List Env)(s:Shared)(H:Hp):Prop where
 frames:A.frames=some outer
 mod:Mod K mg base
 bs:∀b o,base.get? b=some o->s.heap.get? b=some o/\H b=none
 bsz:base.objs.size<=s.heap.objs.size
 funs:s.heap.FunFrames base outer
 frf:∀b∈frs outer,H b=none
 hok:HOk P w H s.heap
 bare:AllBare s.gens
def CE(outer:List Env)(P:Program)(w:World)(H:Hp)(s:Shared)(Q:VK)(u:Value)(s':Shared):Prop :=
 ∃v H',s'.os=s.os/\AllBare s'.gens/\Un (frs outer) [] H H' s.heap s'.heap/\HOk P w H' s'.heap/\Ga_ v u/\Q v H'
def CR(CX:CXT)(outer:List Env)(P:Program)(w:World)(H:Hp)(s:Shared)(Q:VK)(E:XK)(r:Result)(s':Shared):Prop :=
 match r with
 | .ok (.ret u)=>CE outer P w H s Q u s'
 | .ok _=>False
 | .error e=>CX outer H s E e s'
structure Js_(P:Program)(w:World)(K:PySem.W.Frag)(mg:Str->Option Value)(base:Heap)(CX:CXT)(k:Nat)(f:Addr)(fd:FuncData)(ps:List Str)(sp:Sp):Prop where
 len:∀vs H Q E,sp vs H Q E->vs.length=ps.length
 run:∀(A:Around)(outer:List Env)(s:Shared)(H:Hp)(args:Args)(us:List Value)(vs:List V)(Q:VK)(E:XK),GY_ k A->JV_ P w K mg base A outer s H->BindsTo s fd args (ps.zip us)->F4_ vs us->sp vs H Q E ->
  codeAny (model P w) A (.call (.ref f) args) (CR CX outer P w H s Q E) s
theorem JV_.in1{mg:Str->Option Value}{base:Heap}{outer:List Env}(e:JV_ P w K mg base A outer s H):
  JV_ P w K mg base A.in1 outer s H:=⟨e.frames,e.mod,e.bs,e.bsz,e.funs,e.frf,e.hok,e.bare⟩
variable {s':Shared}
theorem Inv.env0(I:Inv X pins σ H s):JV_ X.prog X.w X.K X.mg X.base X.A X.stack s H :=
 ⟨I.ok.frames,I.ok.mod,I.bs,AG_ I.ok.bsz I.sz,I.stack,I.stkFree,I.hok,I.bare⟩
theorem Inv.after{Q:VK}{u:Value}(I:Inv X pins σ H s)(h:CE X.stack X.prog X.w H s Q u s'):EP X pins σ Q u s':=by obtain⟨v,H',os,bare,un,hok,r,q⟩:=h;obtain⟨hh,g,d,t,os'⟩:=s';obtain rfl:os'=s.os:=os;show⟨v,H',I.call (h':=hh) (g':=g) (d':=d) (t':=t) (ch:=[]) un hok bare (λb z=>absurd z s_),r,q⟩
def Jv_(sp:Sp)(dvs:List V)(E:XK)(t:TA):TE:=λσ H Q=>t σ H λvs H1=>sp (vs++dvs) H1 Q E
def IC_(K:PySem.W.Frag)(fd:FuncData)(ps:List Str)(ds:List Value):Prop :=
 ∀(s:Shared)(us:List Value),K.In s.heap->(us++ds).length=ps.length->BindsTo s fd ⟨us,[]⟩ (ps.zip (us++ds))
theorem IC_.all{fd:FuncData}{ps:List Str}(h:∀us:List Value,us.length=ps.length->bindArgs fd ⟨us,[]⟩=pure (ps.zip us)):IC_ K fd ps []:=λs us _ hl=>by rw[By_]at hl⊢;show .of_eq (h us hl)
def I1_(CX:CXT)(X:Cx)(E:XK):Prop:=∀(pins:List (Addr×Obj))(σ:St)(H:Hp)(s:Shared)(e:Value)(s':Shared),Inv X pins σ H s->CX X.stack H s E e s'->X.xe e s'
section
variable {CX:CXT}{k:Nat}{f:Addr}{fd:FuncData}{ps:List Str}{sp:Sp}{dvs:List V}{ds:List Value}{E:XK}{x m:Str}{p apos:Pos}{es:List Expr}{t:TA}
theorem rv_{pins:List (Addr×Obj)}{σ:St}{H:Hp}{s:Shared}{Q:VK}{us:List Value}{vs:List V}(F:Js_ X.prog X.w X.K X.mg X.base CX k f fd ps sp)(hr:GY_ k X.A)(hb:IC_ X.K fd ps ds)(hd:F4_ dvs ds)(hx:I1_ CX X E)
  (I:Inv X pins σ H s) (r:F4_ vs us) (h:sp (vs++dvs) H Q E):wpAny (model X.prog X.w) X.A (call (.ref f) us) (EP X pins σ Q) X.xe s:=by
 have r2:F4_ (vs++dvs) (us++ds):=r.append hd;have hl:(us++ds).length=ps.length:=by rw[<-r2.length];show F.len _ _ _ _ h
 show EZ_ (C5_ (F.run X.A X.stack s H ⟨us,[]⟩ (us++ds) (vs++dvs) Q E hr I.env0 (hb s us I.kIn hl) r2 h) λr s' hq=>?_);cases r with
 |error e=>show hx pins σ H s e s' I hq
 |ok fl =>
  cases fl with
  |ret u=>show I.after hq
  |next=>show False.elim hq
  |brk=>show False.elim hq
  |cont=>show False.elim hq
theorem qx_(F:Js_ X.prog X.w X.K X.mg X.base CX k f fd ps sp)(hr:GY_ k X.A)(hg:Gl X x)(hm:X.mg x=some (.ref f))(hk:PySem.W.keepIn X.K (.ref f)=true)(hb:IC_ X.K fd ps ds)(hd:F4_ dvs ds)(hx:I1_ CX X E)
  (ha:PA X (e::es) t) (hdb:(x == ("__debug__" : Str))=false:=by decide) (he:starEach (e::es) X.env=(false,eval e X.env)::starEach es X.env:=by rfl) (hpl:(backTo pos (starEach es X.env)).any (·.1)=false:=by rfl):
  PE X (.Call (.Name x p) (e::es) [] pos) (Jv_ sp dvs E t):=by
 intro pins s σ H Q I h;show BZ_ (qs_ I hg hm ?_ hdb);show PySem.W.callWith_K (h₀:=X.base) I.ok.mod.kin hk (thn (ha pos pins s σ H _ I h) λus s1 ⟨vs,H1,I1,r,q⟩=>⟨I1.kIn,?_⟩) he hpl;show rv_ F hr hb hd hx I1 r q
end
structure FG_(N P:List Str)(sc:Scope):Prop where
 kind:sc.kind=.function
 co:sc.isCoroutine=false
 gen:sc.isGenerator=false
 nd:N.Nodup
 pre:N.take P.length=P
 par:∀x∈P,sc.names.lookup x=some .local\/sc.names.lookup x=some .cell
 nofree:∀y∈sc.names,y.2≠.free
theorem ki_{kindOf:Str->Option NameKind}{x:Str}:∀{binds:List (Str×Value)}{m:Str->Option Value},(∀v,(x,v)∉binds)->bindL kindOf binds m x=m x
 |[],_,_=>rfl
 | (n,v)::r,m,h=>by
  unfold bindL;rw[ki_ λw hw=>h w (An_ _ hw)];split
  .have:x≠n:=by rintro rfl;show h v Ar_
   simp[this]
  .rfl
theorem kj_{kindOf:Str->Option NameKind}{x:Str}:∀{binds:List (Str×Value)}{m:Str->Option Value},(∀v,(x,v)∉binds)->bindC kindOf binds m x=m x
 |[],_,_=>rfl
 | (n,v)::r,m,h=>by
  unfold bindC;rw[kj_ λw hw=>h w (An_ _ hw)];split
  .rfl
  .have:x≠n:=by rintro rfl;show h v Ar_
   simp[this]
theorem kk_{kindOf:Str->Option NameKind}{x:Str}{v:Value}:∀{P:List Str}{vs:List Value}{i:Nat}{m:Str->Option Value},P.Nodup->P[i]?=some x->vs[i]?=some v->kindOf x=some .local ->
  bindL kindOf (P.zip vs) m x=some v
 |[],_,_,_,_,h,_,_=>by simp at h
 |_::_,[],_,_,_,_,h,_=>by simp at h
 |p::P,w::vs,0,m,nd,h1,h2,hk=>by
  simp at h1 h2;subst h1;subst h2;change bindL kindOf ((p,w)::P.zip vs) m p=_;unfold bindL;rw[ki_ λv hv=>(AV_.mp nd).1 (Do_ hv).1,if_pos hk];simp
 |p::P,w::vs,i+1,m,nd,h1,h2,hk=>by change bindL kindOf ((p,w)::P.zip vs) m x=_;unfold bindL;show kk_ (i:=i) (AV_.mp nd).2 (by simpa using h1) (by simpa using h2) hk
theorem kl_{kindOf:Str->Option NameKind}{x:Str}{v:Value}:∀{P:List Str}{vs:List Value}{i:Nat}{m:Str->Option Value},P.Nodup->P[i]?=some x->vs[i]?=some v->kindOf x≠some .local ->
  bindC kindOf (P.zip vs) m x=some v
 |[],_,_,_,_,h,_,_=>by simp at h
 |_::_,[],_,_,_,_,h,_=>by simp at h
 |p::P,w::vs,0,m,nd,h1,h2,hk=>by
  simp at h1 h2;subst h1;subst h2;change bindC kindOf ((p,w)::P.zip vs) m p=_;unfold bindC;rw[kj_ λv hv=>(AV_.mp nd).1 (Do_ hv).1,if_neg hk];simp
 |p::P,w::vs,i+1,m,nd,h1,h2,hk=>by change bindC kindOf ((p,w)::P.zip vs) m x=_;unfold bindC;show kl_ (i:=i) (AV_.mp nd).2 (by simpa using h1) (by simpa using h2) hk
def start(N:List Str)(vs:List V):St:=vs.map some++List.replicate (N.length-vs.length) none
def ID_(CX:CXT)(P:Program)(w:World)(K:PySem.W.Frag)(mg:Str->Option Value)(base:Heap)(N:List Str)(qual:Str)(scope:Scope)(f:Addr)(cd:Value)(A:Around)(outer:List Env)(s:Shared)(H:Hp)(E:XK):Cx where
 prog:=P
 w:=w
 K:=K
 mg:=mg
 base:=base
 A:=A.deeper (envOfC qual scope s.heap.objs.size f cd)
 N:=N
 s₀:=s
 H₀:=H
 env:=envOfC qual scope s.heap.objs.size f cd
 outer:=outer
 stack:=envOfC qual scope s.heap.objs.size f cd::outer
 ex:=[]
 calm:=true
 fn:=λ_=>true
 pn:=[]
 xe:=λe s'=>wpAny (model P w) (A.deeper (envOfC qual scope s.heap.objs.size f cd)) (leaving (envOfC qual scope s.heap.objs.size f cd) e) (λ_ s''=>CX outer H s E e s'') (λe' s''=>CX outer H s E e' s'') s'
theorem mk_{sc:Scope}{n:Nat}{x:Str}(h:sc.names.lookup x=some .cell):∃c,(cellsFrom n sc.names []).lookup x=some c:=by have q:=Db_ sc.names n [] (.inl h);show D7_.mp q
theorem km_{CX:CXT}{P:Program}{w:World}{K:PySem.W.Frag}{mg:Str->Option Value}{base:Heap}{N ps:List Str}{qual:Str}{scope:Scope}{f:Addr}{cd:Value}{A:Around}{outer:List Env}{s s1:Shared}{H:Hp}{E:XK}{us:List Value}{vs:List V}
  (S:FG_ N ps scope) (hd:A.handled=none) (e0:JV_ P w K mg base A outer s H) (hl:vs.length=ps.length) (r:F4_ vs us)
  (x:InCallC s s.heap.objs.size (bindL (envOfC qual scope s.heap.objs.size f cd).kindOf (ps.zip us) λ_=>none) (cellsFrom (s.heap.objs.size+1) scope.names []) (bindC (envOfC qual scope s.heap.objs.size f cd).kindOf (ps.zip us) λ_=>none) s1):
  Inv (ID_ CX P w K mg base N qual scope f cd A outer s H E) [] (start N vs) H s1:=by
 have hpl:ps.length<=N.length:=by have:=congrArg List.length S.pre;rw[Bf_]at this;lia
 obtain⟨h1,tk,rfl,hk⟩:=x.done;have noA:∀b:Addr,b∉(ID_ CX P w K mg base N qual scope f cd A outer s H E).ex:=λb z=>absurd (show b∈([]:List Addr)from z) s_
 show⟨⟨e0.mod,S.kind,rfl,rfl,Ai_ _,λy z c h1 h2=>?_,λy hy=>?_,λy c _ h=>?_,λ_=>hd,Around.frames_deeper e0.frames,.inr ⟨rfl,rfl⟩,λb z=>absurd z (noA b),e0.bs,e0.bsz,λb _ _=>noA b,λb z=>absurd z (noA b),e0.funs,e0.frf⟩,
  rfl,e0.bare,Un.kept hk,⟨_,x.toInCall.ns,λi y v h1 h2 h3=>?_⟩,λy c h=>⟨_,x.cell y c h⟩,e0.hok.fresh (Ai_ _),λy c h=>?_,λp hp=>absurd (show p∈([]:List (Addr×Obj))from hp) s_,e0.hok.kept hk,?_⟩
 .show name_of_addr x.apart (Bv_ h1) (Bv_ h2)
 .have hy:scope.names.lookup y=some .cell\/scope.names.lookup y=some .free:=hy
  rcases hy with hy|hy
  .show mk_ hy
  .show absurd rfl (S.nofree _ (Bv_ hy))
 .show AH_ (x.above y c (Bv_ h))
 .have hi:i<vs.length:=by
   unfold start at h2;by_cases hi:i<vs.length
   .show hi
   .rw[Ap_ (by simpa using hi)]at h2;rw[Eo_]at h2;split at h2 <;> cases h2
  have ha:vs[i]?=some v:=by
   unfold start at h2;rw[Al_ (by simpa using hi),Ag_]at h2;cases e:vs[i]? with
   |none=>rw[e]at h2;cases h2
   |some a=>rw[e]at h2;cases h2;rfl
  obtain⟨u,hu,rv⟩:=r.get ha;have hp:ps[i]?=some y:=by rw[<-S.pre,List.getElem?_take_of_lt o_];show h1
  have ndP:ps.Nodup:=by rw[<-S.pre];show S.nd.sublist (List.take_sublist _ _)
  show⟨u,rv,?_⟩
  rcases S.par y (Am_ hp)with k|k
  .show .inl ⟨k,kk_ ndP hp hu k⟩
  .obtain⟨c,e⟩:=mk_ (n:=s.heap.objs.size+1) k;show .inr ⟨.inl k,c,e,?_⟩;have q:=x.cell y c e;rw[kl_ ndP hp hu (by change scope.names.lookup y≠_;rw[k];decide)]at q;show q
 .show e0.hok.fresh (AH_ (x.above y c (Bv_ h)))
 .unfold start;change _=N.length;rw[Af_,Ab_,Dh_];lia
theorem K9_{CX:CXT}{P:Program}{w:World}{K:PySem.W.Frag}{mg:Str->Option Value}{base:Heap}{k:Nat}{f:Addr}{name qual:Str}{params:Arguments}{body:List Stmt}{scope:Scope}{dV kV doc pm cdv ct oc:Value}{an od:Option Addr}
  {osl:Array (Option Value)} {N ps:List Str} {sp:Sp} (lk:K.lookup f=some ⟨oc,od,.func (PySem.W.fnOf name qual params body scope dV kV doc pm an cdv ct),osl⟩) (hcd:PySem.W.codeIn K cdv qual=true) (S:FG_ N ps scope)
  (len:∀vs H Q E,sp vs H Q E->vs.length=ps.length)
  (hbody:∀(A:Around)(outer:List Env)(s:Shared)(H:Hp)(vs:List V)(Q:VK)(E:XK),GY_ k (A.deeper (envOfC qual scope s.heap.objs.size f cdv))->sp vs H Q E ->
   ∃t,PSs (ID_ CX P w K mg base N qual scope f cdv A outer s H E) body t/\t {nx:=λ_ H'=>Q .non H',rt:=Q} (start N vs) H):
  Js_ P w K mg base CX (k+1) f (PySem.W.fnOf name qual params body scope dV kV doc pm an cdv ct) ps sp:=by
 show⟨len,λA outer s H args us vs Q E hr e0 hb r hsp=>?_⟩;have hl:=len _ _ _ _ hsp;have KX:K.In s.heap:=e0.mod.kin.keeps λb o e=>(e0.bs b o e).1;have lim:s.heap.NoLimit:=e0.mod.nolimit.keeps λb o e=>(e0.bs b o e).1
 have hkind:∀y∈ps.zip us,scope.names.lookup y.1=some .local\/(scope.names.lookup y.1=some .cell/\((cellsFrom (s.heap.objs.size+1) scope.names []).lookup y.1).isSome=true):=λ⟨n,v⟩ hy=>by
  rcases S.par n (Do_ hy).1 with q|q
  .show .inl q
  .show .inr ⟨q,Db_ _ _ _ (.inl q)⟩
 show codeAny_call_function hr.depth (KX _ _ lk) rfl S.co S.gen rfl (PySem.W.codeRec_of KX hcd) (hb _ _ _ _ ?_);show DU_ S.kind hkind λenv he s1 x=>?_;subst he;show⟨lim.keeps x.toInCall.keep,codeAny_func ?_⟩;obtain⟨t,ht,hq⟩:=hbody A outer s H vs Q E (hr.deeper _) hsp;have I:Inv (ID_ CX P w K mg base N qual scope f cdv A outer s H E) [] (start N vs) H s1:=km_ S hr.hd e0 hl r x;show Bu_ (ht [] s1 (start N vs) H _ I hq) (λfl s' hs=>?_) λe s' hs=>hs
 have fin:∀{σ':St}{H':Hp}{v:V}{u:Value},Inv (ID_ CX P w K mg base N qual scope f cdv A outer s H E) [] σ' H' s'->Ga_ v u->Q v H'->CE outer P w H s Q u s' :=
  λ{σ' H' v u} J rv q=>⟨v,H',J.os,J.bare,J.base,J.hok,rv,q⟩
 cases fl with
 |ret u =>
  obtain⟨v,σ',H',J,rv,q⟩:=hs;show fin J rv q
 |next =>
  obtain⟨σ',H',J,q⟩:=hs;show fin (v:=V.non) (u:=Value.none) J rfl q
 |brk =>
  obtain⟨_,_,_,q⟩:=hs;show False.elim q
 |cont =>obtain⟨_,_,_,q⟩:=hs;show False.elim q
section
variable {x:Str}{p:Pos}{es:List Expr}{t:TA}{id T:String}{r:List V->Hp->VK->Prop}
def tCB(r:List V->Hp->VK->Prop)(t:TA):TE:=λσ H Q=>t σ H λvs H1=>r vs H1 Q
theorem pj_(hc:GF_ X (.builtin id) r)(hg:Gl X x)(hm:X.mg x=none)(hv:bootBuiltins x=some (.builtin id))(ha:PA X (e::es) t)(hn:x ≠ "__name__" := by decide) (hdb:(x == ("__debug__" : Str))=false:=by decide)
  (he:starEach (e::es) X.env=(false,eval e X.env)::starEach es X.env:=by rfl) (hpl:(backTo pos (starEach es X.env)).any (·.1)=false:=by rfl):PE X (.Call (.Name x p) (e::es) [] pos) (tCB r t):=by
 intro pins s σ H Q I h;show BZ_ (dP_ I hg hm hv ?_ hn hdb);show PyProof.Rows.callWith_builtin1 (thn (ha pos pins s σ H _ I h) λus s1 ⟨vs,H1,I1,r1,q1⟩=>hc pins s1 σ H1 vs us Q I1 r1 q1) he hpl
theorem nR_(hc:GF_ X (.type T) r)(hg:Gl X x)(hm:X.mg x=none)(hv:bootBuiltins x=some (.type T))(ha:PA X (e::es) t)(hn:x ≠ "__name__" := by decide) (hdb:(x == ("__debug__" : Str))=false:=by decide)
  (he:starEach (e::es) X.env=(false,eval e X.env)::starEach es X.env:=by rfl) (hpl:(backTo pos (starEach es X.env)).any (·.1)=false:=by rfl):PE X (.Call (.Name x p) (e::es) [] pos) (tCB r t):=by
 intro pins s σ H Q I h;show BZ_ (dP_ I hg hm hv ?_ hn hdb);show Bd_ (thn (ha pos pins s σ H _ I h) λus s1 ⟨vs,H1,I1,r1,q1⟩=>hc pins s1 σ H1 vs us Q I1 r1 q1) he hpl
end
end L2
namespace HT
open PySem PyProof.Rows
open PySem.SeqAt
open PySem.AutoSeq1 (wpAny_loadPart')
open PySem.MeetsSeq PySem.MeetsSeq2 PySem.MeetsSeq3
variable {prog:Program}{w:World}{A:Around}{E:Value->Shared->Prop}{s:Shared}
def sIx(n d:Nat):Option Int->Nat
 |none=>d
 |some v=>if v<0 then(v+(n:Int)).toNat else min v.toNat n
theorem sIx_none(n d:Nat):sIx n d none=d:=rfl
theorem sIx_nat(n d k:Nat):sIx n d (some (k:Int))=min k n:=by change(if(k:Int)<0 then((k:Int)+(n:Int)).toNat else min (k:Int).toNat n)=min k n;rw[if_neg o_,AC_]
theorem rw_(n d:Nat)(hd:d<=n)(o:Option Int):sIx n d o<=n:=by
 cases o with
 |none=>show hd
 |some v =>
  change(if v<0 then(v+(n:Int)).toNat else min v.toNat n)<=n;by_cases hv:v<0
  .rw[if_pos hv];lia
  .rw[if_neg hv];show Nat.min_le_right _ _
theorem nS_(v:Int)(n d:Nat):(if v<0 then max (v+(n:Int)) 0 else min v (n:Int))=((sIx n d (some v):Nat):Int):=by
 change(if v<0 then max (v+(n:Int)) 0 else min v (n:Int))=(((if v<0 then(v+(n:Int)).toNat else min v.toNat n):Nat):Int);by_cases hv:v<0
 .simp only[if_pos hv];lia
 .simp only[if_neg hv];lia
theorem mR_(lo hi:Option Int)(n:Nat):Builtin.Slice.sliceAdjust lo hi 1 (n:Int)=(((sIx n 0 lo:Nat):Int),((sIx n n hi:Nat):Int)):=by
 have h1:¬ ((1:Int)<0):=o_
 unfold Builtin.Slice.sliceAdjust;simp only[h1,Cb_];show Bb_ ?_ ?_
 .cases lo with
  |none=>rfl
  |some v=>show nS_ v n 0
 .cases hi with
  |none=>rfl
  |some v=>show nS_ v n n
theorem mS_(i j:Nat):Builtin.Slice.slicePlaces (i:Int) (j:Int) 1=j-i:=by
 unfold Builtin.Slice.slicePlaces;have h1:(1:Int) > 0:=o_
 simp only[h1,if_true,Int.ediv_one];split <;> lia
theorem jb_{v:Value}{o:Option Int}{Q:Option Int->Shared->Prop}(p:IsPart v o)(h:Q o s):wpAny (model prog w) A (Builtin.Slice.slicePartIndex v) Q E s:=by
 cases p with
 |none=>show slicePart_none h
 |int i t=>show slicePart_int h
theorem hA_{sl:Addr}{vl vu:Value}{lo hi:Option Int}{n:Nat}{Q:Int×Int×Nat->Shared->Prop}(hs:s.heap.IsSliceOf sl vl vu .none)(pl:IsPart vl lo)(pu:IsPart vu hi)
  (h:Q (((sIx n 0 lo:Nat):Int),1,sIx n n hi-sIx n 0 lo) s):wpAny (model prog w) A (Builtin.Slice.sliceApplied (.ref sl) (pure (n:Int))) Q E s:=by
 obtain⟨os,hos,hcs,hds⟩:=id hs;unfold Builtin.Slice.sliceApplied Builtin.Slice.sliceFields;show Ac_ (Ac_ (CG_ hos hds (x:=vl) rfl (Ac_ (CG_ hos hds (x:=vu) rfl (Ac_ (CG_ hos hds (x:=.none) rfl (Aj_ ?_)))))));show Ac_ (slicePart_none ?_);change wpAny _ _ (if((1:Int)== 0)=true then _ else _) _ _ s;rw[if_neg d_];show Ac_ (jb_ pl (Ac_ (jb_ pu (Ac_ (Aj_ ?_)))));change wpAny _ _ (match Builtin.Slice.sliceAdjust lo hi 1 (n:Int)with|(lo,hi)=>pure (lo,(1:Int),Builtin.Slice.slicePlaces lo hi 1)) _ _ s;rw[mR_ lo hi n];change wpAny _ _ (pure (((sIx n 0 lo:Nat):Int),(1:Int),Builtin.Slice.slicePlaces ((sIx n 0 lo:Nat):Int) ((sIx n n hi:Nat):Int) 1)) _ _ s;rw[mS_];show Aj_ h
theorem pk_(xs:Array Value)(i k:Nat):((List.range k).filterMap λ(m:Nat)=>xs[((i:Int)+(m:Int)*1).toNat]?).toArray=((xs.toList.drop i).take k).toArray:=by
 have e:(λ(m:Nat)=>xs[((i:Int)+(m:Int)*1).toNat]?)=λm=>xs[i+m]?:=by
  funext m;have:((i:Int)+(m:Int)*1).toNat=i+m:=o_
  rw[this]
 rw[e];have:=pick_run xs i k;rw[List.filterMap_map]at this;have e2:((λx=>xs[x]?) ∘ λx=>i+x)=λm=>xs[i+m]?:=rfl;rw[e2]at this;rw[this]
theorem getItem_tuple_cut{t sl:Addr}{items:Array Value}{vl vu:Value}{lo hi:Option Int}{Q:Value->Shared->Prop}(ht:IsTup s.heap t items)(hs:s.heap.IsSliceOf sl vl vu .none)(pl:IsPart vl lo)(pu:IsPart vu hi)
  (hw:¬ (sIx items.size 0 lo=0/\sIx items.size items.size hi=items.size))
  (h:Q (.ref s.heap.objs.size) {s with heap:=s.heap.push {cls:=.type "tuple",data:=.seq ((items.toList.drop (sIx items.size 0 lo)).take (sIx items.size items.size hi-sIx items.size 0 lo)).toArray}})
  (hsz:items.size<=sizeLine):wpAny (model prog w) A (getItem (.ref t) (.ref sl)) Q E s:=by
 have htake:sizeOk (.seq ((items.toList.drop (sIx items.size 0 lo)).take (sIx items.size items.size hi-sIx items.size 0 lo)).toArray):=by change((items.toList.drop (sIx items.size 0 lo)).take (sIx items.size items.size hi-sIx items.size 0 lo)).toArray.size<=sizeLine;rw[At_,Bf_,BG_,BV_];lia
 have hj:sIx items.size items.size hi<=items.size:=rw_ _ _ (Ai_ _) hi;obtain⟨os,hos,hcs,hds⟩:=id hs;have hTs:s.TypeIs (.ref sl) "slice" := ⟨os,hos,hcs⟩;unfold getItem
 try with_reducible show A5_ ?_
 first|show Ac_ (Aj_ ?_)|skip
 show Ac_ (wpAny_sequenceKey ht.typeIs d_ ?_)
 show Ac_ (Da_ (name:=Str.ofString "__getitem__") ht.typeIs Dl_
  (BW_ Dl_ ht.typeIs entry_tuple_getitem ?_ (args_tuple_getitem _ _)))
 change wpAny _ _ (Builtin.Tuple.tupleItemsOf (.ref t) >>= _) _ _ s;show Ac_ (tupleItemsOf_ ht ?_);show Ac_ (C6_ hTs ?_);rw[if_pos d_];show Ac_ (hA_ hs pl pu ?_);have hno:¬ ((((sIx items.size 0 lo:Nat):Int)== 0 && (1:Int)== 1 && (sIx items.size items.size hi-sIx items.size 0 lo)== items.size)=true):=by intro q;rw[BM_,BM_]at q;have q1:((sIx items.size 0 lo:Nat):Int)=0:=eq_of_beq q.1.1;have q2:sIx items.size items.size hi-sIx items.size 0 lo=items.size:=eq_of_beq q.2;show hw ⟨o_,o_⟩
 change wpAny _ _ (if(((sIx items.size 0 lo:Nat):Int)== 0 && (1:Int)== 1 && (sIx items.size items.size hi-sIx items.size 0 lo)== items.size)=true then _ else _) _ _ s;rw[if_neg hno,pk_]
 first
  |show Ac_ (m:=Builtin.Tuple.tupleExact _) (Bx_ (Aj_ ⟨_,rfl,Aj_ h⟩) htake)
  |show Ac_ (m:=Builtin.Tuple.tupleExact _) (Bx_ (Ac_ (Aj_ (Aj_ ⟨_,rfl,Aj_ h⟩))) htake)
  |show Ac_ (Ac_ (m:=Builtin.Tuple.tupleExact _) (Bx_ (Aj_ (Aj_ ⟨_,rfl,Aj_ h⟩)) htake))
  |show Ac_ (Ac_ (m:=Builtin.Tuple.tupleExact _) (Bx_ (Aj_ ⟨_,rfl,Aj_ h⟩) htake))
end HT
namespace L2
open PySem PySem.Spec PyProof.Rows
abbrev TO:=St->Hp->(Option Int->Hp->Prop)->Prop
def PO(X:Cx)(e:Option Expr)(t:TO):Prop :=
 ∀(pins:List (Addr×Obj))(s:Shared)(σ:St)(H:Hp)(Q:Option Int->Hp->Prop),Inv X pins σ H s->t σ H Q ->
  wpAny (model X.prog X.w) X.A (evalPart e X.env) (λu s'=>∃o H',Inv X pins σ H' s'/\IsPart u o/\Q o H') X.xe s
def I8_:TO:=λ_ H Q=>Q none H
def KO_(t:TE):TO:=λσ H Q=>t σ H λx H1=>onI x λi=>Q (some i) H1
theorem mT_{ns:List Int}:∀{us:List Value},F4_ (ns.map V.int) us->IntsAre us ns:=by
 induction ns with
 |nil=>intro us r;rw[CO_]at r;cases r;show .nil
 |cons n ns ih =>
  intro us r;rw[Ay_]at r;cases r with
  |cons r1 r2 =>obtain⟨t,e⟩:=r1;subst e;show .cons n t (ih r2)
variable {X:Cx}{e:Expr}{te:TE}{lo hi:Option Expr}{tl th:TO}{pos p2:Pos}
theorem b1_:PO X none I8_:=by intro pins s σ H Q I h;rw[Fa_];show Aj_ ⟨none,H,I,.none,h⟩
theorem bO_(h:PE X e te):PO X (some e) (KO_ te):=by intro pins s σ H Q I hw;rw[evalPart_some];show thn (h pins s σ H _ I hw) λu s1 ⟨x,H1,I1,r1,q1⟩=>?_;obtain⟨i,rfl,q⟩:=c4_ q1;obtain⟨t,rfl⟩:=r1;show⟨some i,H1,I1,.int i t,q⟩
def SlR(X:Cx)(r:V->Option Int->Option Int->Hp->VK->Prop):Prop :=
 ∀(pins:List (Addr×Obj))(s:Shared)(σ:St)(H:Hp)(x:V)(v vl vu:Value)(lo hi:Option Int)(sl:Addr)(Q:VK),Inv X pins σ H s->Ga_ x v->s.heap.IsSliceOf sl vl vu .none->IsPart vl lo->IsPart vu hi->r x lo hi H Q ->
  ∃T id,typeLookup (.type T) "__getitem__"=pure (some (.builtin id))/\s.TypeIs v T/\wpAny (model X.prog X.w) X.A (getItem v (.ref sl)) (EP X pins σ Q) X.xe s
def tSl(r:V->Option Int->Option Int->Hp->VK->Prop)(te:TE)(tl th:TO):TE:=λσ H Q=>te σ H λx H1=>tl σ H1 λl H2=>th σ H2 λu H3=>r x l u H3 Q
theorem bu_{r:V->Option Int->Option Int->Hp->VK->Prop}(hr:SlR X r)(he:PE X e te)(hl:PO X lo tl)(hu:PO X hi th):PE X (.Subscript e (.Slice lo hi none p2) pos) (tSl r te tl th):=by intro pins s σ H Q I h;show E0_ (thn (he pins s σ H _ I h) λv s1 ⟨x,H1,I1,r1,q1⟩=>?_);show wpAny_Slice (thn (hl pins s1 σ H1 _ I1 q1) λvl s2 ⟨l,H2,I2,pl,q2⟩=>thn (hu pins s2 σ H2 _ I2 q2) λvu s3 ⟨u,H3,I3,pu,q3⟩=>?_);rw[Fa_];show Aj_ ?_;have I4:Inv X pins σ H3 {s3 with heap:=s3.heap.push {cls:=.type "slice",data:=.fields #[vl,vu,.none]}}:=I3.kept (t':=s3.toks) λb ob q=>Ah_ _ q;obtain⟨T,id,hT,ht,hg⟩:=hr pins {s3 with heap:=s3.heap.push {cls:=.type "slice",data:=.fields #[vl,vu,.none]}} σ H3 x v vl vu l u s3.heap.objs.size Q I4 r1 (Heap.IsSliceOf.new ..) pl pu q3;change wpAny (model X.prog X.w) X.A (subscriptTail e (.Slice lo hi none p2) v (.ref s3.heap.objs.size)) (EP X pins σ Q) X.xe {s3 with heap:=s3.heap.push {cls:=.type "slice",data:=.fields #[vl,vu,.none]}};show tail_any (ops:=[.ref s3.heap.objs.size,v]) ht hT hg (by with_unfolding_all rfl)
def Hx_(xs:List V)(lo hi:Option Int):List V:=(xs.drop (HT.sIx xs.length 0 lo)).take (HT.sIx xs.length xs.length hi-HT.sIx xs.length 0 lo)
theorem id_(xs:List V)(lo hi:Option Int):(Hx_ xs lo hi).length<=xs.length:=by unfold Hx_;rw[Bf_,BG_];lia
def rSlT(K:PySem.W.Frag):V->Option Int->Option Int->Hp->VK->Prop:=λx lo hi H Q=>∃a xs,x=.ref a/\SqT K H a xs /\
 ¬ (HT.sIx xs.length 0 lo=0/\HT.sIx xs.length xs.length hi=xs.length)/\∀p,H p=none->Q (.ref p) (upd H p (.tup (Hx_ xs lo hi)))
theorem p3_:SlR X (rSlT X.K):=by
 intro pins s σ H x v vl vu lo hi sl Q I rx hs pl pu h;obtain⟨a,xs,rfl,hx,hw,q⟩:=h;cases rx;obtain⟨its,r,ht,hz⟩:=I.tuple hx;have hlen:its.toArray.size=xs.length:=by rw[At_];show r.length.symm
 show⟨"tuple",_,PyProof.Rows.slot_tuple_getitem.lookup,ht.typeIs,?_⟩;show HT.getItem_tuple_cut ht hs pl pu (by rw[hlen];show hw) ?_ (by rw[hlen];show hz);rw[hlen];show⟨.ref s.heap.objs.size,_,I.laid (t':=s.toks) (o:=.tup (Hx_ xs lo hi)) (λb ob q=>Ah_ _ q) (Ai_ _) ?_,rfl,q _ (I.hok.fresh (Ai_ _))⟩;show⟨AG_ (id_ xs lo hi) hz,_,(r.drop (HT.sIx xs.length 0 lo)).take (HT.sIx xs.length xs.length hi-HT.sIx xs.length 0 lo),IsTup.new _ _⟩
def ixN(n:Nat)(i:Int):Option Nat:=if 0<=i then(if i<n then some i.toNat else none)else if -(n:Int)<=i then some (i+n).toNat else none
def atI{α:Type}(xs:List α)(i:Int):Option α:=(ixN xs.length i).bind λj=>xs[j]?
theorem nT_{n:Nat}{i:Int}{j:Nat}(h:ixN n i=some j):seqIndex? i n=some j/\j<n /\ -(n:Int)<=i/\i<n:=by
 unfold ixN at h;by_cases h0:0<=i
 .rw[if_pos h0]at h;by_cases h1:i<n
  .rw[if_pos h1]at h;have e:i.toNat=j:=Au_ h;show⟨by rw[EE_ h0 h1,e],o_,o_,h1⟩
  .rw[if_neg h1]at h;cases h
 .rw[if_neg h0]at h;by_cases h1:-(n:Int)<=i
  .rw[if_pos h1]at h;have e:(i+n).toNat=j:=Au_ h;show⟨by rw[Fo_ o_ h1,e],o_,h1,o_⟩
  .rw[if_neg h1]at h;cases h
theorem lr_{α:Type}{xs:List α}{i:Int}{v:α}(h:atI xs i=some v):∃j,seqIndex? i xs.length=some j/\xs[j]?=some v/\j<xs.length /\ -(xs.length:Int)<=i/\i<xs.length:=by
 unfold atI at h;cases e:ixN xs.length i with
 |none=>rw[e]at h;cases h
 |some j =>rw[e]at h;obtain⟨h1,h2,h3,h4⟩:=nT_ e;show⟨j,h1,h,h2,h3,h4⟩
theorem ls_{α:Type}{xs:List α}{j:Nat}{v:α}(h:xs[j]?=some v):atI xs (j:Int)=some v:=by
 have hj:j<xs.length:=(Ae_.mp h).1;have e:ixN xs.length (j:Int)=some j:=by unfold ixN;rw[if_pos o_,if_pos o_];simp
 unfold atI;rw[e];show h
def Kh_(b:Expr):Prop:=∀o i,subscripted b false o i=operate [o,i] (getItem o i)
def IxR(X:Cx)(r:R2):Prop :=
 ∀(value slice:Expr)(pins:List (Addr×Obj))(s:Shared)(σ:St)(H:Hp)(x y:V)(v u:Value)(Q:VK),Inv X pins σ H s->Ga_ x v->Ga_ y u->r x y H Q ->
  subscripted slice false v u=operate [v,u] (getItem v u)->wpAny (model X.prog X.w) X.A (subscriptTail value slice v u) (EP X pins σ Q) X.xe s
def MtR(X:Cx)(id:String)(r:V->List V->Hp->VK->Prop):Prop :=
 ∀(pins:List (Addr×Obj))(s:Shared)(σ:St)(H:Hp)(x:V)(xs:List V)(v:Value)(us:List Value)(Q:VK),Inv X pins σ H s->Ga_ x v->F4_ xs us->r x xs H Q ->
  wpAny (model X.prog X.w) X.A (call (.builtin id) (v::us)) (EP X pins σ Q) X.xe s
section
variable {a b:Expr}{ta tb:TE}
theorem FF_{r:R2}(hr:IxR X r)(ha:PE X a ta)(hb:PE X b tb)(hs:Kh_ b:=by intro _ _;rfl):PE X (.Subscript a b pos) (tOp r ta tb):=by intro pins s σ H Q I h;show E0_ (binT ha hb I h λv u s2 x y H2 I2 rx ry q=>hr a b pins s2 σ H2 x y v u Q I2 rx ry q (hs _ _))
def Mg_(K:PySem.W.Frag):R2:=λx y H Q=>∃p xs i v,x=.ref p/\y=.int i/\SqL K H p xs/\atI xs i=some v/\Q v H
def Mj_(K:PySem.W.Frag):R2:=λx y H Q=>∃p xs i v,x=.ref p/\y=.int i/\SqT K H p xs/\atI xs i=some v/\Q v H
def L3_:R2:=λx y H Q=>∃z i c,x=.str z/\y=.int i/\z.length<=sizeLine/\atI z.cps.toList i=some c/\Q (.str ⟨#[c]⟩) H
theorem nU_:IxR X (Mg_ X.K):=by
 intro value slice pins s σ H x y v u Q I rx ry h hs;obtain⟨p,xs,i,z,rfl,rfl,hq,he,q⟩:=h;cases rx;obtain⟨t,rfl⟩:=ry;obtain⟨its,r,pl,hz⟩:=I.list hq;obtain⟨j,h1,h2,h3,h4,h5⟩:=lr_ he;obtain⟨w,ew,rw'⟩:=r.get h2;have hl:=r.length;have hn:=HU_;have fin:EP X pins σ Q w s:=⟨z,H,I,rw',q⟩;by_cases h0:0<=i
 .have hj:i.toNat=j:=by rw[EE_ h0 h5]at h1;show Au_ h1
  show item_listR pl.isList h0 o_ (by rw[hj];simpa using ew) fin hs
 .have hj:(i+(its.toArray.size:Int)).toNat=j:=by rw[Fo_ o_ h4]at h1;rw[At_,<-hl];show Au_ h1
  show EF_ (x:=w) pl.isList.typeIs slot_list_getitem.lookup
   (wpAny_getItem_list_neg (Q:=λr s'=>r=w/\EP X pins σ Q r s') pl.isList o_ (by rw[At_] <;> lia) o_ (by rw[hj];simpa using ew) ⟨rfl,fin⟩) hs
theorem rx_:IxR X (Mj_ X.K):=by
 intro value slice pins s σ H x y v u Q I rx ry h hs;obtain⟨p,xs,i,z,rfl,rfl,hq,he,q⟩:=h;cases rx;obtain⟨t,rfl⟩:=ry;obtain⟨its,r,pl,hz⟩:=I.tuple hq;obtain⟨j,h1,h2,h3,h4,h5⟩:=lr_ he;obtain⟨w,ew,rw'⟩:=r.get h2;have hl:=r.length;have hn:=HU_;have fin:EP X pins σ Q w s:=⟨z,H,I,rw',q⟩
 show EF_ (x:=w) pl.typeIs slot_tuple_getitem.lookup
  (getItem_tuple (j:=j) (Q:=λr s'=>r=w/\EP X pins σ Q r s') pl o_ o_ (by rw[At_,<-hl];show h1) (by simpa using ew) ⟨rfl,fin⟩) hs
theorem ml_:IxR X L3_:=by
 intro value slice pins s σ H x y v u Q I rx ry h hs;obtain⟨z,i,c,rfl,rfl,hz,he,q⟩:=h;obtain⟨t,rfl⟩:=rx;obtain⟨t',rfl⟩:=ry;obtain⟨j,h1,h2,h3,h4,h5⟩:=lr_ he;have hl:z.cps.toList.length=z.length:=by simp[Str.length]
 rw[hl]at h1 h4 h5;have hn:=HU_;show tail_any (D0_ s z t) slot_str_getitem.lookup (getItem_str (c:=c) (by have e1:decide (i < -(2 ^ 63:Int))=false:=AP_ o_;have e2:decide (i ≥ 2 ^ 63)=false:=AP_ o_;rw[e1,e2,Bool.or_false]) (by rw[h1];simpa using h2) ⟨.str ⟨#[c]⟩,H,I.tok _,⟨_,rfl⟩,q⟩) hs
theorem mU_(its:List Value)(n j:Nat)(u:Value):Obj.mapSeq (·.setIfInBounds j u) {cls:=.type "list",data:=.seq its.toArray n}={cls:=.type "list",data:=.seq (its.set j u).toArray n}:=by simp[Obj.mapSeq]
theorem Inv.lst{pins:List (Addr×Obj)}{σ:St}{H:Hp}{s:Shared}{p:Addr}{xs:List V}(I:Inv X pins σ H s)(h:H p=some (.lst xs)):
  ∃(its:List Value)(n:Nat),F4_ xs its/\s.heap.get? p=some {cls:=.type "list",data:=.seq its.toArray n}/\xs.length<=sizeLine:=by
 obtain⟨z,its,n,r,e⟩:=I.hok p _ h;show⟨its,n,r,e,z⟩
theorem Inv.lstUpd{pins:List (Addr×Obj)}{σ:St}{H:Hp}{s:Shared}{p:Addr}{xs ys:List V}{its its':List Value}{n n':Nat}{f:Obj->Obj}(I:Inv X pins σ H s)(h:H p=some (.lst xs))
  (ho:s.heap.get? p=some {cls:=.type "list",data:=.seq its.toArray n}) (hf:f {cls:=.type "list",data:=.seq its.toArray n}={cls:=.type "list",data:=.seq its'.toArray n'}) (r:F4_ ys its') (hz:ys.length<=sizeLine) (t:Nat):
  Inv X pins σ (upd H p (.lst ys)) {s with heap:=s.heap.update p f,toks:=t}:=by
 have e:(s.heap.update p f).get? p=some {cls:=.type "list",data:=.seq its'.toArray n'}:=by rw[CP_ f ho (by rw[hf] <;> rfl),hf]
 show I.write (x:=p) (e:=p) (by rw[h];trivial) (.inl rfl) (λb u hb q=>(A6_ _ _ (Ne.symm hb)).trans q) ⟨_,e⟩ ?_;show⟨hz,its',n',r,e⟩
def K1_:V->V->V->Hp->(Hp->Prop)->Prop:=λo i v H Q=>∃p xs k j,o=.ref p/\i=.int k/\H p=some (.lst xs)/\ixN xs.length k=some j/\Q (upd H p (.lst (xs.set j v)))
theorem pl_:Mk_ X K1_:=by
 intro pins s σ H o i v ov iv u Q I ro ri rv h;obtain⟨p,xs,k,j,rfl,rfl,hp,hj,q⟩:=h;cases ro;obtain⟨t,rfl⟩:=ri;obtain⟨its,n,r,ho,hz⟩:=I.lst hp;obtain⟨h1,h2,h3,h4⟩:=nT_ hj;have hl:=r.length;have hn:=HU_
 have I':Inv X pins σ (upd H p (.lst (xs.set j v))) {s with heap:=s.heap.update p (Obj.mapSeq (·.setIfInBounds j u))} :=
  I.lstUpd hp ho (mU_ its n j u) (r.set rv j) (by rw[BU_];show hz) s.toks
 by_cases h0:0<=k
 .have hk:k.toNat=j:=by rw[EE_ h0 h4]at h1;show Au_ h1
  show PySem.W.ki_setAt ho h0 o_ (by rw[At_,<-hl];show h4) (by rw[hk];show⟨_,I',q⟩)
 .have hk:(k+(its.toArray.size:Int)).toNat=j:=by rw[Fo_ o_ h3]at h1;rw[At_,<-hl];show Au_ h1
  show PySem.W.ki_setBack ho o_ (by rw[At_,<-hl];show h3) o_ (by rw[hk];show⟨_,I',q⟩)
theorem kn_(lo hi:Option Int)(n:Nat):(sliceBounds lo hi none n).1=((HT.sIx n 0 lo:Nat):Int)/\(sliceBounds lo hi none n).2.1=((HT.sIx n n hi:Nat):Int)/\(sliceBounds lo hi none n).2.2=1:=by
 show⟨?_,?_,rfl⟩
 .cases lo with
  |none=>simp[sliceBounds,HT.sIx]
  |some i =>
   simp only[sliceBounds,HT.sIx,Option.getD_none,show(1:Int) > 0 by decide,if_true];by_cases h:i<0
   .simp only[h,if_true] <;> lia
   .simp only[h,Cb_] <;> lia
 .cases hi with
  |none=>simp[sliceBounds,HT.sIx]
  |some i =>
   simp only[sliceBounds,HT.sIx,Option.getD_none,show(1:Int) > 0 by decide,if_true];by_cases h:i<0
   .simp only[h,if_true] <;> lia
   .simp only[h,Cb_] <;> lia
theorem jA_(its:List Value)(lo hi:Option Int):slicePick its.toArray lo hi none=((its.drop (HT.sIx its.length 0 lo)).take (HT.sIx its.length its.length hi-HT.sIx its.length 0 lo)).toArray:=by obtain⟨h1,h2,h3⟩:=kn_ lo hi its.toArray.size;unfold slicePick;rw[h1,h2,h3];simp only[sliceRange_one,pick_run,At_] <;> rfl
def rSlL(K:PySem.W.Frag):V->Option Int->Option Int->Hp->VK->Prop:=λx lo hi H Q=>∃a xs,x=.ref a/\SqL K H a xs/\∀p,H p=none->Q (.ref p) (upd H p (.lst (Hx_ xs lo hi)))
theorem qy_:SlR X (rSlL X.K):=by intro pins s σ H x v vl vu lo hi sl Q I rx hs pl pu h;obtain⟨a,xs,rfl,hx,q⟩:=h;cases rx;obtain⟨its,r,ht,hz⟩:=I.list hx;have hlen:=r.length;show⟨"list",_,slot_list_getitem.lookup,ht.isList.typeIs,?_⟩;show D8_ ht.isList hs pl pu .none s_ ?_ (by rw[At_] <;> lia);rw[jA_,<-hlen];show⟨.ref s.heap.objs.size,_,I.laid (t':=s.toks) (o:=.lst (Hx_ xs lo hi)) (λb ob q=>Ah_ _ q) (Ai_ _) ?_,rfl,q _ (I.hok.fresh (Ai_ _))⟩;show⟨AG_ (id_ xs lo hi) hz,_,0,(r.drop (HT.sIx xs.length 0 lo)).take (HT.sIx xs.length xs.length hi-HT.sIx xs.length 0 lo),Ax_ _ rfl⟩
def Hc_:V->Bool
 | .non=>true
 | .bl _=>true
 | .int _=>true
 | .str _=>true
 |_=>false
def eqV:V->V->Bool
 | .non,.non=>true
 | .bl a,.bl b=>a == b
 | .bl a,.int b=>(if a then 1 else 0)== b
 | .int a,.bl b=>a == (if b then 1 else 0)
 | .int a,.int b=>a == b
 | .str a,.str b=>a == b
 |_,_=>false
theorem ry_{A:Around}{s:Shared}{y x:V}{u v:Value}(ry:Ga_ y u)(rx:Ga_ x v)(fy:Hc_ y=true)(fx:Hc_ x=true):SeqAt.EqAt A s u v (eqV y x):=by
 cases y with
 |non =>
  cases ry;cases x with
  |non=>cases rx;show Dp_ _
  |bl b=>cases rx;show SeqAt.EqAt.none_bool b
  |int b=>obtain⟨t,rfl⟩:=rx;show SeqAt.EqAt.none_int b t
  |str b=>obtain⟨t,rfl⟩:=rx;show SeqAt.EqAt.none_str b t
  |_=>show absurd (show false=true from fx) AR_
 |bl a =>
  cases ry;cases x with
  |non=>cases rx;show SeqAt.EqAt.bool_none a
  |bl b=>cases rx;show E1_ a b
  |int b=>obtain⟨t,rfl⟩:=rx;show SeqAt.EqAt.bool_int a b t
  |str b=>obtain⟨t,rfl⟩:=rx;show SeqAt.EqAt.bool_str a b t
  |_=>show absurd (show false=true from fx) AR_
 |int a =>
  obtain⟨t',rfl⟩:=ry;cases x with
  |non=>cases rx;show SeqAt.EqAt.int_none a t'
  |bl b=>cases rx;show SeqAt.EqAt.int_bool a t' b
  |int b=>obtain⟨t,rfl⟩:=rx;show SeqAt.EqAt.int_int a t' b t
  |str b=>obtain⟨t,rfl⟩:=rx;show SeqAt.EqAt.int_str a t' b t
  |_=>show absurd (show false=true from fx) AR_
 |str a =>
  obtain⟨t',rfl⟩:=ry;cases x with
  |non=>cases rx;show SeqAt.EqAt.str_none a t'
  |bl b=>cases rx;show SeqAt.EqAt.str_bool a t' b
  |int b=>obtain⟨t,rfl⟩:=rx;show SeqAt.EqAt.str_int a t' b t
  |str b=>obtain⟨t,rfl⟩:=rx;show DM_ a t' b t
  |_=>show absurd (show false=true from fx) AR_
 |_=>show absurd (show false=true from fy) AR_
def eqU(x:V)(u:Value):Bool:=match u with
 | .none=>eqV .non x
 | .bool b=>eqV (.bl b) x
 | .int i _=>eqV (.int i) x
 | .str z _=>eqV (.str z) x
 |_=>false
theorem p4_{x y:V}{u:Value}(r:Ga_ y u)(f:Hc_ y=true):eqU x u=eqV y x:=by
 cases y with
 |non=>cases r;rfl
 |bl b=>cases r;rfl
 |int i=>obtain⟨t,rfl⟩:=r;rfl
 |str z=>obtain⟨t,rfl⟩:=r;rfl
 |_=>show absurd (show false=true from f) AR_
theorem ie_{x:V}:∀{xs:List V}{us:List Value},F4_ xs us->xs.all Hc_=true->us.any (eqU x)=xs.any λy=>eqV y x
 |_,_,.nil,_=>rfl
 |y::xs,u::us,.cons r t,f=>by rw[Fb_,BM_]at f;rw[Cx_,Cx_,p4_ r f.1,ie_ t f.2]
theorem f6_{A:Around}{s:Shared}{x:V}{v:Value}(rx:Ga_ x v)(fx:Hc_ x=true):∀{xs:List V}{us:List Value},F4_ xs us->xs.all Hc_=true->∀u∈us,SeqAt.EqAt A s u v (eqU x u)
 |_,_,.nil,_=>λu hu=>by cases hu
 |y::xs,u::us,.cons r t,f=>λu' hu=>by
  rw[Fb_,BM_]at f
  rcases Av_.mp hu with rfl|hu
  .rw[p4_ r f.1];show ry_ r rx f.1 fx
  .show f6_ rx fx t f.2 u' hu
def inV(x:V)(xs:List V):Bool:=xs.any λy=>eqV y x
def rIn(K:PySem.W.Frag)(neg:Bool):R2:=λx y H Q=>∃p xs,y=.ref p/\(SqL K H p xs\/SqT K H p xs)/\Hc_ x=true/\xs.all Hc_=true/\Q (.bl (if neg then !inV x xs else inV x xs)) H
theorem nV_:OpR X (compareOp .In) (rIn X.K false):=by
 intro pins s σ H x y v u Q I rx ry h;obtain⟨p,xs,rfl,hq,fx,fs,q⟩:=h;cases ry
 rcases hq with hq|hq
 .obtain⟨its,r,pl,hz⟩:=I.list hq;show SeqAt.in_listAt (eqU x) pl.isList (λw hw=>f6_ rx fx r fs w (by simpa using hw)) ⟨.bl _,H,I,rfl,?_⟩;rw[show its.toArray.any (eqU x)=its.any (eqU x) by simp,ie_ r fs];show q
 .obtain⟨its,r,pl,hz⟩:=I.tuple hq;show SeqAt.in_tupleAt (eqU x) pl (λw hw=>f6_ rx fx r fs w (by simpa using hw)) ⟨.bl _,H,I,rfl,?_⟩;rw[show its.toArray.any (eqU x)=its.any (eqU x) by simp,ie_ r fs];show q
theorem ko_:OpR X (compareOp .NotIn) (rIn X.K true):=by
 intro pins s σ H x y v u Q I rx ry h;obtain⟨p,xs,rfl,hq,fx,fs,q⟩:=h;cases ry
 rcases hq with hq|hq
 .obtain⟨its,r,pl,hz⟩:=I.list hq;show SeqAt.notIn_listAt (eqU x) pl.isList (λw hw=>f6_ rx fx r fs w (by simpa using hw)) ⟨.bl _,H,I,rfl,?_⟩;rw[show its.toArray.any (eqU x)=its.any (eqU x) by simp,ie_ r fs];show q
 .obtain⟨its,r,pl,hz⟩:=I.tuple hq;show SeqAt.notIn_tupleAt (eqU x) pl (λw hw=>f6_ rx fx r fs w (by simpa using hw)) ⟨.bl _,H,I,rfl,?_⟩;rw[show its.toArray.any (eqU x)=its.any (eqU x) by simp,ie_ r fs];show q
theorem eM_:GF_ X (.builtin "len") (λxs H Q=>∃p ys,xs=[.ref p]/\(SqL X.K H p ys\/SqT X.K H p ys)/\Q (.int ys.length) H):=by
 intro pins s σ H xs us Q I r h;obtain⟨p,ys,rfl,hq,q⟩:=h;obtain⟨u,rfl,rx⟩:=GI_ r;cases rx;have hn:=HU_
 rcases hq with hq|hq
 .obtain⟨its,r',pl,hz⟩:=I.list hq;have hlen:=r'.length;show Calls.call_len_list pl.isList (by simp only[At_] <;> lia) ⟨.int ys.length,H,I.tok _,⟨s.toks+1,by rw[At_,hlen]⟩,q⟩
 .obtain⟨its,r',pl,hz⟩:=I.tuple hq;have hlen:=r'.length;show len_tuple pl (by simp only[At_] <;> lia) ⟨.int ys.length,H,I.tok _,⟨s.toks+1,by rw[At_,hlen]⟩,q⟩
theorem kp_:GF_ X (.type "list") (λxs H Q=>∃p ys,xs=[.ref p]/\(SqL X.K H p ys\/SqT X.K H p ys)/\∀l,H l=none->Q (.ref l) (upd H l (.lst ys))):=by
 intro pins s σ H xs us Q I r h;obtain⟨p,ys,rfl,hq,q⟩:=h;obtain⟨u,rfl,rx⟩:=GI_ r;cases rx
 have fin:∀(its:List Value),F4_ ys its->ys.length<=sizeLine->∀(h':Heap)(c':Nat),(∀b o',s.heap.get? b=some o'->h'.get? b=some o') ->
   h'.get? s.heap.objs.size=some {cls:=.type "list",dict:=none,data:=.seq its.toArray c',slots:=#[]}->EP X pins σ Q (.ref s.heap.objs.size) {s with heap:=h'}:=λits r' hz h' c' kp e =>
  ⟨.ref s.heap.objs.size,_,I.laid (t':=s.toks) kp (Ai_ _) (show F9_ X.prog X.w _ h' _ (.lst ys)from⟨hz,its,c',r',e⟩),rfl,q _ (I.hok.fresh (Ai_ _))⟩
 rcases hq with hq|hq
 .obtain⟨its,r',pl,hz⟩:=I.list hq;have hlen:=r'.length;obtain⟨o,ho,hc,n,hd⟩:=pl.isList;show call_list_seq p (.inl rfl) ho hc hd (λh' c' kp e=>fin its r' hz h' c' kp e) (by simp only[At_] <;> lia)
 .obtain⟨its,r',pl,hz⟩:=I.tuple hq;have hlen:=r'.length;obtain⟨o,ho,hc,n,hd⟩:=pl;show call_list_seq p (.inr rfl) ho hc hd (λh' c' kp e=>fin its r' hz h' c' kp e) (by simp only[At_] <;> lia)
def tyV(K:PySem.W.Frag)(T:String)(x:V)(H:Hp):Prop:=match x with
 | .str _=>T = "str"
 | .int _=>T = "int"
 | .ref p=>(T = "list" /\ ∃xs,SqL K H p xs)\/(T = "tuple" /\ ∃o,K.lookup p=some o/\o.cls=.type "tuple" /\ o.dict=none) \/
   (T = "dict" /\ ((∃kvs,H p=some (.dK kvs))\/∃kvs,H p=some (.dT kvs)))\/(T = "set" /\ ∃S n,H p=some (.set S n))
 |_=>False
theorem rz_{pins:List (Addr×Obj)}{σ:St}{H:Hp}{s:Shared}{T:String}{x:V}{v:Value}(I:Inv X pins σ H s)(r:Ga_ x v)(ty:tyV X.K T x H):
  s.TypeIs v T/\∀a,v=.ref a->∃ob,s.heap.get? a=some ob/\ob.dict=none:=by
 cases x with
 |str z =>
  obtain⟨t,rfl⟩:=r;cases(show T = "str"from ty);show⟨D0_ s z t,λ_ e=>nomatch e⟩
 |int i =>
  obtain⟨t,rfl⟩:=r;cases(show T = "int"from ty);show⟨typeIs_int s i t,λ_ e=>nomatch e⟩
 |ref p =>
  cases r
  rcases ty with⟨rfl,xs,hq⟩|⟨rfl,o,hk,hc,hd⟩|⟨rfl,hk⟩|⟨rfl,S,n,hk⟩
  .obtain⟨its,_,pl,_⟩:=I.list hq;show⟨pl.isList.typeIs,λa e=>?_⟩;cases e;obtain⟨o,n,e,c,hd,_⟩:=pl;show⟨o,e,hd⟩
  .show⟨⟨o,I.kIn p o hk,hc⟩,λa e=>?_⟩;cases e;show⟨o,I.kIn _ o hk,hd⟩
  .have z:∃o,s.heap.get? p=some o/\o.ExactDict:=by
    rcases hk with⟨kvs,hk⟩|⟨kvs,hk⟩
    .obtain⟨_,_,_,_,o,_,_,e,ex,_⟩:=I.hok p _ hk;show⟨o,e,ex⟩
    .obtain⟨_,_,_,_,o,_,_,e,ex,_⟩:=I.hok p _ hk;show⟨o,e,ex⟩
   obtain⟨o,e,ex⟩:=z;show⟨⟨o,e,ex.1⟩,λa e2=>?_⟩;cases e2;show⟨o,e,ex.2.1⟩
  .obtain⟨o,_,_,_,e,ex,_⟩:=I.hok p _ hk;show⟨⟨o,e,ex.1⟩,λa e2=>?_⟩;cases e2;show⟨o,e,ex.2.1⟩
 |_=>show False.elim ty
def tBM(K:PySem.W.Frag)(T:String)(r:V->List V->Hp->VK->Prop)(to:TE)(t:TA):TE:=λσ H Q=>to σ H λx H1=>tyV K T x H1/\t σ H1 λxs H2=>r x xs H2 Q
variable {o:Expr}{es:List Expr}{to:TE}{t:TA}{name:Str}{apos cpos:Pos}{T id:String}{r:V->List V->Hp->VK->Prop}
theorem Gq_(pa:PlainAttrs T)(slot:Slot T name id)(hty:typeOf (.builtin id)=pure (.type "method_descriptor")) (hm:MtR X id r) (ho:PE X o to) (ha:PA X (e::es) t)
  (hbase:attributeBase o name X.env (eval o X.env)=eval o X.env:=by rfl)
  (hfew:((backTo cpos (starEach (e::es) X.env)).all (λx=>!x.1) && (backToKw cpos (keywordEach [] X.env)).all (λx=>x.1.isSome)
   && decide ((e::es).length+([]:List Keyword).length+(if([]:List Keyword).isEmpty then 0 else 1)<30))=true:=by rfl)
  (hline:(apos.endLine == cpos.line)=true:=by rfl) (hs:starEach (e::es) X.env=(false,eval e X.env)::starEach es X.env:=by rfl) (hplain:(backTo cpos (starEach es X.env)).any (·.1)=false:=by rfl):
  PE X (.Call (.Attribute o name apos) (e::es) [] cpos) (tBM X.K T r to t):=by
 intro pins s σ H Q I h;show wpAny_Call_method_late hbase hfew hline rfl (thn (ho pins s σ H _ I h) λv s1 ⟨x,H1,I1,r1,ty,q1⟩=>?_);obtain⟨h1,h2⟩:=rz_ I1 r1 ty;show⟨T,id,pa,slot,hty,h1,h2,?_⟩;have hA:=ha cpos pins s1 σ H1 _ I1 q1;rw[hs]at hA⊢;show Dc_ (by change(false ||(backTo cpos (starEach es X.env)).any (·.1))=false;rw[hplain] <;> rfl) (Calls.evalArgs_plain ?_);show thn hA λus s2 ⟨vs,H2,I2,r2,q2⟩=>hm pins s2 σ H2 x vs v us Q I2 r1 r2 q2
end
def MtM(X:Cx)(id:String)(r:V->List V->Hp->VK->Prop):Prop :=
 ∀(pins:List (Addr×Obj))(s:Shared)(σ:St)(H:Hp)(x:V)(xs:List V)(v:Value)(us:List Value)(Q:VK),Inv X pins σ H s->Ga_ x v->F4_ xs us->r x xs H Q ->
  wpAny (model X.prog X.w) X.A (call (.builtin id) (v::us)) (EP X pins σ Q) X.xe s
theorem F4_.one:∀{x:V}{us:List Value},F4_ [x] us->∃u,us=[u]/\Ga_ x u
 |_,_,.cons r .nil=>⟨_,rfl,r⟩
theorem F4_.two:∀{x y:V}{us:List Value},F4_ [x,y] us->∃u v,us=[u,v]/\Ga_ x u/\Ga_ y v
 |_,_,_,.cons r (.cons q .nil)=>⟨_,_,rfl,r,q⟩
theorem F4_.eraseIdx:∀{xs:List V}{us:List Value}(i:Nat),F4_ xs us->F4_ (xs.eraseIdx i) (us.eraseIdx i)
 |_,_,_,.nil=>.nil
 |_,_,0,.cons _ t=>t
 |_,_,i+1,.cons r t=>.cons r (F4_.eraseIdx i t)
theorem F4_.reverse{xs:List V}{us:List Value}(h:F4_ xs us):F4_ xs.reverse us.reverse:=by
 induction h with
 |nil=>show .nil
 |cons r t ih=>rw[DW_,DW_];show F4_.append ih (.cons r .nil)
theorem kq_{α:Type}:∀(l:List α)(i:Nat),(l.eraseIdx i).length<=l.length
 |[],_=>Ai_ _
 |_::_,0=>C1_ _
 |_::r,i+1=>BX_ (kq_ r i)
variable {pins:List (Addr×Obj)}{σ:St}{H:Hp}{s:Shared}{l b:Addr}{xs ys zs:List V}
theorem Inv.lset{its its':List Value}{n:Nat}{f:Array Value->Array Value}{t':Nat}(I:Inv X pins σ H s)(hH:H l=some (.lst xs))
  (e:s.heap.get? l=some {cls:=.type "list",data:=.seq its.toArray n}) (hf:f its.toArray=its'.toArray) (hv:F4_ ys its') (hz:ys.length<=sizeLine):
  Inv X pins σ (upd H l (.lst ys)) {s with heap:=s.heap.update l (Obj.mapSeq f),toks:=t'}:=by
 have q:=PySem.IsL.update e f;rw[hf]at q;show I.write (x:=l) (e:=l) (by rw[hH];show trivial) (.inl rfl) (λb' u hb hu=>(A6_ s.heap (Obj.mapSeq f) (Ne.symm hb)).trans hu) ⟨_,q⟩ ?_;show⟨hz,its',_,hv,q⟩
theorem Inv.lnew{its:List Value}{t':Nat}(I:Inv X pins σ H s)(hv:F4_ ys its)(hz:ys.length<=sizeLine):
  Inv X pins σ (upd H s.heap.objs.size (.lst ys)) {s with heap:=s.heap.push {cls:=.type "list",data:=.seq its.toArray},toks:=t'} :=
 I.laid (λ_ _ q=>Ah_ _ q) (Ai_ _) ⟨hz,its,0,hv,Ax_ _ rfl⟩
theorem Inv.fresh(I:Inv X pins σ H s):H s.heap.objs.size=none:=I.hok.fresh (Ai_ _)
theorem Inv.lstM(I:Inv X pins σ H s)(hH:H l=some (.lst xs)):xs.length<=sizeLine/\∃(its:List Value)(n:Nat),F4_ xs its/\xs.length=its.length/\s.heap.get? l=some {cls:=.type "list",data:=.seq its.toArray n}:=by obtain⟨z,its,n,r,e⟩:=I.hok l _ hH;show⟨z,its,n,r,r.length,e⟩
theorem Jy_{n:Nat}(h:n<=sizeLine):Builtin.List.listTooLong n=false:=by unfold Builtin.List.listTooLong;show AP_ o_
def IS_:V->List V->Hp->VK->Prop:=λx vs H Q=>onR x λl=>∃xs,on1 vs λy=>H l=some (.lst xs)/\xs.length<sizeLine/\Q .non (upd H l (.lst (xs++[y])))
theorem aF_:MtM X "list.append" IS_:=by intro pins s σ H x vs v us Q I rx rv h;obtain⟨l,rfl,xs,h1⟩:=eB_ h;clear h;obtain⟨y,rfl,hH,hz,q⟩:=mh_ h1;cases rx;obtain⟨u,rfl,ru⟩:=rv.one;obtain⟨z,its,n,r,hl,e⟩:=I.lstM hH;show CV_ F.slot_list_append ⟨_,e,rfl⟩ F.entry_list_append (F.args_list_append_2 _ _) (PySem.list_append l its.toArray n u (by rw[At_];lia)) ⟨e,?_⟩;show⟨.non,_,I.lset (its':=its++[u]) hH e s_ (r.append (.cons ru .nil)) ?_,rfl,q⟩;rw[Af_,AS_];lia
def IW_:V->List V->Hp->VK->Prop:=λx vs H Q=>∃l b xs zs,x=.ref l/\vs=[.ref b]/\H l=some (.lst xs)/\H b=some (.lst zs)/\xs.length+zs.length<=sizeLine/\Q .non (upd H l (.lst (xs++zs)))
theorem nW_:MtM X "list.extend" IW_:=by
 intro pins s σ H x vs v us Q I rx rv h;obtain⟨l,b,xs,zs,rfl,rfl,hH,hB,hz,q⟩:=h;cases rx;obtain⟨u,rfl,ru⟩:=rv.one;cases ru;obtain⟨z,its,n,r,hl,e⟩:=I.lstM hH;obtain⟨z2,its2,n2,r2,hl2,e2⟩:=I.lstM hB;have hsz:its.toArray.size+its2.toArray.size<=sizeLine:=by rw[At_,At_];lia
 have hlong:¬ (!its.toArray.isEmpty && Builtin.List.listTooLong (its.toArray.size+its2.toArray.size))=true:=by rw[Jy_ hsz,Bool.and_false];show AR_
 show CV_ F.slot_list_extend ⟨_,e,rfl⟩ F.entry_list_extend (F.args_list_extend_2 _ _)
  (AutoSeq1.list_extend_list_list_0 l its.toArray n b its2.toArray n2 hlong (by rw[At_];lia) o_) ⟨e,e2,?_⟩
 show⟨.non,_,I.lset (its':=its++its2) hH e s_ (r.append r2) ?_,rfl,q⟩;rw[Af_];lia
def JX_:V->List V->Hp->VK->Prop:=λx vs H Q=>∃l xs i k y,x=.ref l/\vs=[.int i]/\H l=some (.lst xs) /\ -(2 ^ 63)<=i/\i<2 ^ 63/\seqIndex? i xs.length=some k/\xs[k]?=some y/\Q y (upd H l (.lst (xs.eraseIdx k)))
theorem pm_:MtM X "list.pop" JX_:=by
 intro pins s σ H x vs v us Q I rx rv h;obtain⟨l,xs,i,k,y,rfl,rfl,hH,h1,h2,hk,hy,q⟩:=h;cases rx;obtain⟨u,rfl,ru⟩:=rv.one;obtain⟨t,rfl⟩:=ru;obtain⟨z,its,n,r,hl,e⟩:=I.lstM hH;obtain⟨w,hw,rw'⟩:=r.get hy
 show CV_ F.slot_list_pop ⟨_,e,rfl⟩ F.entry_list_pop (F.args_list_pop_2 _ _)
  (MeetsSeq.list_pop_at l its.toArray n i t k w (fitsIndex_both h1 h2) (by rw[At_,<-hl];show hk) (by rw[<-EP_];show hw) (by rw[At_];lia)) ⟨e,?_⟩
 show⟨y,_,I.lset (its':=its.eraseIdx k) hH e ?_ (r.eraseIdx k) ?_,rw',q⟩
 .change its.toArray.eraseIdxIfInBounds k=(its.eraseIdx k).toArray;rw[List.eraseIdxIfInBounds_toArray]
 .have:=kq_ xs k;lia
def L8_:R2:=λx y H Q=>∃l b xs zs,x=.ref l/\y=.ref b/\H l=some (.lst xs)/\H b=some (.lst zs)/\xs.length+zs.length<=sizeLine/\∀p,H p=none->Q (.ref p) (upd H p (.lst (xs++zs)))
theorem f7_:OpR X (binaryOp .Add) L8_:=by
 intro pins s σ H x y v u Q I rx ry h;obtain⟨l,b,xs,zs,rfl,rfl,hH,hB,hz,q⟩:=h;cases rx;cases ry;obtain⟨z,its,n,r,hl,e⟩:=I.lstM hH;obtain⟨z2,its2,n2,r2,hl2,e2⟩:=I.lstM hB;show PySem.P.add_list e e2 ?_ (by rw[At_,At_];lia);have ea:its.toArray++its2.toArray=(its++its2).toArray:=s_
 rw[ea];show⟨.ref _,_,I.lnew (t':=s.toks) (r.append r2) (by rw[Af_];lia),rfl,q _ I.fresh⟩
variable {prog:Program}{w:World}{A:Around}{E:Value->Shared->Prop}
end L2
namespace Att
open PySem PySem.W PySem.Calls PyProof.Rows
theorem if_{P:Params}{h:Heap}:∀(ns:List Int)(vs:List Value),WellAll P h vs (ns.map WData.int)->IntsAre vs ns:=by
 intro ns
 induction ns with
 |nil =>
  intro vs w;rw[CO_]at w;cases w;show .nil
 |cons n ns ih =>
  intro vs w;rw[Ay_]at w;cases w with
  |cons a b =>
   cases a;show .cons _ _ (ih _ b)
theorem nX_{l:OpenLaw}{n:Nat}(hn:l.most=some n){P:Params}{h:Heap}{args:List WData}{vals:List Value}
  (hpre:l.row.toRowW.claim.pre args=true) (hwl:WellAll P h vals args):
  ∃a vs ns,vals=[Value.ref a]/\args=[WData.list (ns.map WData.int)]/\h.get? a=some {cls:=.type "list",data:=.seq vs.toArray}/\IntsAre vs ns/\ns.length<=n:=by
 have hsh:WShape.hasAll [] args [.list .int]=true:=(pre_splitW hpre).1;have hc:l.pre.holds [] {args:=args}=true:=(pre_splitW hpre).2;obtain⟨d,r,rfl,h1,h2⟩:=hasAllW_cons hsh;obtain rfl:=hasAllW_nil h2;obtain⟨xs,rfl,h3⟩:=hasW_list h1;obtain⟨ns,rfl⟩:=items_int h3
 have hlen:ns.length<=n:=by
  unfold OpenLaw.pre at hc;have h4:(WTm.not (.lt (.lit (.int (n:Int))) (.len (.arg 0)))).holds [] {args:=[.list (ns.map .int)]}=true:=by have h4:=(holds_andW hc).1;rw[hn]at h4;show h4
  have h5:=condW_of h4 (w_not (w_lt w_lit (w_len_list (w_arg rfl))));rw[Ab_]at h5;show Nat.le_of_not_lt λq=>?_;have q':(n:Int)<((ns.length:Nat):Int):=o_
  first
   | (rw[AZ_ q']at h5;show absurd h5 d_)
   | (simp at h5;lia)
 cases hwl with
 |cons w1 w2 =>
  cases w2;cases w1 with
  |list ho hall=>show⟨_,_,ns,rfl,rfl,ho,if_ ns _ hall,hlen⟩
theorem nY_(l:OpenLaw)(args:List WData):l.row.toRowW.claim.post args (.bool true) args=true :=
 postW_of (r:=l.row.toRowW) (X:=(true == true))
  (show WShape.has [] (.bool true) .bool=true by first|rfl|decide|simp[WShape.has,WShape.arms,WShape.armsAll])
  (show(WTm.eq .res (.lit (.bool true))).value [] {args:=args,res:=some (.bool true),after:=args}=some (.bool (true == true))from w_eq_bool (w_res rfl) w_lit) rfl
theorem attach_call{l:OpenLaw}{n:Nat}{q:Program}{loose:List Str}{XP:(Str->Option Value)->Heap->Prop}{YP:World->Heap->Prop}{d:DefRec}
  (hn:l.most=some n) (hdf:d.params.defaults=[])
  (call:∀(w:World)(s₀ s₁:Shared)(mg mb:Str->Option Value)(fa:Addr)(o:Obj)(pm cd doc:Value)(a:Addr)(vs:List Value)(ns:List Int),
   Ground q loose [] XP w s₀ mg mb s₁.heap->YP w s₁.heap ->
   s₁.heap.get? fa=some o->o.data=.func (docDef d.name d.params d.body d.scope pm cd doc)->s₁.heap.CodeRec cd d.name->mg d.name=some (.ref fa) ->
   s₁.heap.get? a=some {cls:=.type "list",data:=.seq vs.toArray}->IntsAre vs ns->ns.length<=n->s₁.gens = #[] ->
   codeAny (model l.prog w) callerA (.call (.ref fa) ⟨[.ref a],[]⟩) (λr s'=>r=.ok (.ret (.bool true))/\OldK s₁.heap s'.heap/\s'.os=s₁.os/\AllBare s'.gens) s₁):
  WalkO q loose XP YP l.row.toRowW d [] (λf vs=>PySem.call f vs):=by
 intro w s₀ s₁ mg mb G Y fa o pm cd doc dV kV ho hd hcd hD hmg hg args vals as hpre hlay hrd hwl hlo;obtain rfl:dV=.none:=Dflts.none hD hdf;obtain rfl:kV=.none:=Dflts.noKw hD;obtain⟨a,vs,ns,rfl,rfl,hobj,hints,hlen⟩:=nX_ hn hpre hwl;show enter_call (C5_ (call w s₀ s₁ mg mb fa o pm cd doc a vs ns G Y ho (fd_plain hd) hcd hmg hobj hints hlen hg) λr s' hq=>?_);obtain⟨rfl,h2,h3,h4⟩:=hq;show⟨.inl ⟨.bool true,.bool true,[],rfl,λ_=>rfl,.bool true,nY_ l _,λ_=>⟨List.Pairwise.nil,λ_ hm=>(nomatch hm)⟩⟩,h2,h3,h4⟩
variable {prog:Program}{w:World}{A:Around}{E:Value->Shared->Prop}{s:Shared}{K:Frag}
end Att
namespace L2
open PySem PySem.Spec PyProof.Rows
theorem kr_:∀{vs:List Value}{ns:List Int},IntsAre vs ns->F4_ (ns.map V.int) vs
 |_,_,.nil=>.nil
 |_,_,.cons n t h=>.cons ⟨t,rfl⟩ (kr_ h)
def GP_(s:Stmt):Arguments:=match s with
 | .FunctionDef _ a _ _ _ _ _ _ _ _=>a
 |_=>{posonlyargs:=[],args:=[],vararg:=none,kwonlyargs:=[],kw_defaults:=[],kwarg:=none,defaults:=[]}
def GA_(s:Stmt):List Stmt:=match s with
 | .FunctionDef _ _ b _ _ _ _ _ _ _=>b
 |_=>[]
def FC_(s:Stmt):Scope:=match s with
 | .FunctionDef _ _ _ _ _ _ sc _ _ _=>sc
 |_=>{kind:=.function,names:=[],isGenerator:=false,isCoroutine:=false}
abbrev CX0:CXT:=λ_ _ _ _ _ _=>False
abbrev E0:XK:=λ_ _ _=>False
theorem LH_{X:Cx}:I1_ CX0 X E0:=λ_ _ _ _ _ _ _ h=>h.elim
structure Fun(K:PySem.W.Frag)(x qual:Str)(st:Stmt)(f:Addr)(fd:FuncData):Prop where
 ex:∃(oc:Value)(od:Option Addr)(kV doc pm:Value)(an:Option Addr)(cdv ct:Value)(osl:Array (Option Value)),
  fd=PySem.W.fnOf x qual (GP_ st) (GA_ st) (FC_ st) .none kV doc pm an cdv ct/\K.lookup f=some ⟨oc,od,.func fd,osl⟩/\PySem.W.codeIn K cdv qual=true
 kp:PySem.W.keepIn K (.ref f)=true
variable {P:Program}{w:World}{K:PySem.W.Frag}{mg:Str->Option Value}{base:Heap}
theorem Fun.ok{x qual:Str}{st:Stmt}{f:Addr}{fd:FuncData}{N ps:List Str}{k:Nat}{sp:Sp}(F:Fun K x qual st f fd)(S:FG_ N ps (FC_ st))(len:∀vs H Q E,sp vs H Q E->vs.length=ps.length)
  (hbody:∀(cdv:Value)(A:Around)(outer:List Env)(s:Shared)(H:Hp)(vs:List V)(Q:VK)(E:XK),GY_ k (A.deeper (envOfC qual (FC_ st) s.heap.objs.size f cdv))->sp vs H Q E ->
   ∃t,PSs (ID_ CX0 P w K mg base N qual (FC_ st) f cdv A outer s H E).nox (GA_ st) t/\t {nx:=λ_ H'=>Q .non H',rt:=Q} (start N vs) H):Js_ P w K mg base CX0 (k+1) f fd ps sp:=by
 obtain⟨oc,od,kV,doc,pm,an,cdv,ct,osl,rfl,lk,hcd⟩:=F.ex;show K9_ lk hcd S len λA outer s H vs Q E hr hsp=>?_;obtain⟨t,h,q⟩:=hbody cdv A outer s H vs Q E hr hsp;show⟨t,h.nox,q⟩
theorem Fun.binds{x qual:Str}{st:Stmt}{f:Addr}{fd:FuncData}{ps:List Str}(F:Fun K x qual st f fd)
  (h:∀(kV doc pm:Value)(an:Option Addr)(cdv ct:Value)(us:List Value),us.length=ps.length->bindArgs (PySem.W.fnOf x qual (GP_ st) (GA_ st) (FC_ st) .none kV doc pm an cdv ct) ⟨us,[]⟩=pure (ps.zip us)):IC_ K fd ps []:=by
 obtain⟨oc,od,kV,doc,pm,an,cdv,ct,osl,rfl,lk,hcd⟩:=F.ex;show .all (h kV doc pm an cdv ct)
theorem p5_{x qual:Str}{st:Stmt}{f:Addr}{oc:Value}{od an:Option Addr}{osl:Array (Option Value)}{kV doc pm cdv ct:Value}(l:K.lookup f=some ⟨oc,od,.func (PySem.W.fnOf x qual (GP_ st) (GA_ st) (FC_ st) .none kV doc pm an cdv ct),osl⟩)
  (c:PySem.W.codeIn K cdv qual=true) (k:PySem.W.keepIn K (.ref f)=true):Fun K x qual st f (PySem.W.fnOf x qual (GP_ st) (GA_ st) (FC_ st) .none kV doc pm an cdv ct):=⟨⟨oc,od,kV,doc,pm,an,cdv,ct,osl,rfl,l,c⟩,k⟩
theorem FB_{n:Nat}(h:n<=1000):n<sizeLine:=BN_ h d_
variable {X:Cx}
theorem pv(i:Nat){x:Str}{pos:Pos}(hN:X.N[i]?=some x:=by rfl) (hv:Vis X.env.scope x:=by first|show Or.inl rfl|show Or.inr (Or.inl rfl)|show Or.inr (Or.inr rfl)) (hd:(x == ("__debug__" : Str))=false:=by decide)
  (hcd:(x == ("__classdict__" : Str))=false:=by decide):PE X (.Name x pos) (Jx_ i):=nE_ hN hv hd hcd
theorem ite2{c A B:Prop}[Decidable c](h1:c->A)(h2:¬ c->B):if c then A else B:=by
 by_cases h:c
 .rw[if_pos h];show h1 h
 .rw[if_neg h];show h2 h
def FA_(H H':Hp):Prop:=∀b o,H b=some o->H' b=some o
theorem FA_.refl(H:Hp):FA_ H H:=λ_ _ h=>h
theorem FA_.trans{H H1 H2:Hp}(a:FA_ H H1)(b:FA_ H1 H2):FA_ H H2:=λc o h=>b c o (a c o h)
variable{H':Hp}
theorem FA_.free{H:Hp}(e:FA_ H H'){l:Addr}(h:H' l=Option.none):H l=Option.none:=by
 cases q:H l with
 |none=>rfl
 |some o =>rw[e l o q]at h;cases h
variable{a:Addr}
theorem FA_.seq{H:Hp}{xs:List V}(e:FA_ H H')(h:SqL K H a xs):SqL K H' a xs:=by
 rcases h with(h|⟨o,h⟩)|h
 .show .inl (.inl (e _ _ h))
 .show .inl (.inr ⟨o,e _ _ h⟩)
 .show .inr h
def I5_(H:Hp):V->Option String
 | .non=>some "NoneType"
 | .bl _=>some "bool"
 | .int _=>some "int"
 | .str _=>some "str"
 | .ref p=>match H p with
  |some (.lst _)=>some "list"
  |some (.tup _)=>some "tuple"
  |_=>none
 |_=>none
def L9_(a b:String):Bool:=a == b ||(a == "bool" && b == "int")
def Is_(T:String):Prop:=T = "int" \/ T = "bool" \/ T = "tuple" \/ T = "list" \/ T = "str"
theorem f8_:GF_ X (.builtin "isinstance") (λxs H Q=>∃x T k,xs=[x,.ty T]/\Is_ T/\I5_ H x=some k/\Q (.bl (L9_ k T)) H):=by
 intro pins s σ H xs us Q I r h;obtain⟨x,T,k,rfl,hT,hk,q⟩:=h;obtain⟨u,w',rfl,rx,ry⟩:=Hm_ r;cases(show w'=Value.type T from ry);have fin:∀{b:Bool}{s':Shared},b=L9_ k T->Inv X pins σ H s'->EP X pins σ Q (.bool b) s':=λ{b s'} e J=>⟨.bl b,H,J,rfl,by rw[e];show q⟩;cases x with
 |non =>
  cases(show u=Value.none from rx);cases hk
  rcases hT with rfl|rfl|rfl|rfl|rfl
  .show IsiPair.NoneType_int (fin d_ (I.tok _))
  .show IsiPair.NoneType_bool (fin d_ (I.tok _))
  .show IsiPair.NoneType_tuple (fin d_ (I.tok _))
  .show IsiPair.NoneType_list (fin d_ (I.tok _))
  .show IsiPair.NoneType_str (fin d_ (I.tok _))
 |bl b =>
  cases(show u=Value.bool b from rx);cases hk
  rcases hT with rfl|rfl|rfl|rfl|rfl
  .show IsiPair.bool_int (fin d_ I)
  .show IsiPair.bool_bool (fin d_ I)
  .show IsiPair.bool_tuple (fin d_ (I.tok _))
  .show IsiPair.bool_list (fin d_ (I.tok _))
  .show IsiPair.bool_str (fin d_ (I.tok _))
 |int i =>
  obtain⟨t,rfl⟩:=(show ∃t,u=Value.int i t from rx);cases hk
  rcases hT with rfl|rfl|rfl|rfl|rfl
  .show IsiPair.int_int (fin d_ I)
  .show IsiPair.int_bool (fin d_ (I.tok _))
  .show IsiPair.int_tuple (fin d_ (I.tok _))
  .show IsiPair.int_list (fin d_ (I.tok _))
  .show IsiPair.int_str (fin d_ (I.tok _))
 |str z =>
  obtain⟨t,rfl⟩:=(show ∃t,u=Value.str z t from rx);cases hk
  rcases hT with rfl|rfl|rfl|rfl|rfl
  .show IsiPair.str_int (fin d_ (I.tok _))
  .show IsiPair.str_bool (fin d_ (I.tok _))
  .show IsiPair.str_tuple (fin d_ (I.tok _))
  .show IsiPair.str_list (fin d_ (I.tok _))
  .show IsiPair.str_str (fin d_ I)
 |ref p =>
  cases(show u=Value.ref p from rx);cases e:H p with
  |none=>simp[I5_,e]at hk
  |some o =>
   cases o with
   |lst ys =>
    have hk':k = "list" := by simp[I5_,e]at hk;show hk.symm
    subst hk';obtain⟨its,n,rr,ho,hz⟩:=I.lst e
    rcases hT with rfl|rfl|rfl|rfl|rfl
    .show IsiPair.list_int ho rfl (fin d_ (I.tok _))
    .show IsiPair.list_bool ho rfl (fin d_ (I.tok _))
    .show IsiPair.list_tuple ho rfl (fin d_ (I.tok _))
    .show IsiPair.list_list ho rfl (fin d_ I)
    .show IsiPair.list_str ho rfl (fin d_ (I.tok _))
   |tup ys =>
    have hk':k = "tuple" := by simp[I5_,e]at hk;show hk.symm
    subst hk';obtain⟨its,rr,⟨ob,ho,hc,_⟩,hz⟩:=I.tuple (xs:=ys) (.inl (.inl e))
    rcases hT with rfl|rfl|rfl|rfl|rfl
    .show IsiPair.tuple_int ho hc (fin d_ (I.tok _))
    .show IsiPair.tuple_bool ho hc (fin d_ (I.tok _))
    .show IsiPair.tuple_tuple ho hc (fin d_ I)
    .show IsiPair.tuple_list ho hc (fin d_ (I.tok _))
    .show IsiPair.tuple_str ho hc (fin d_ (I.tok _))
   |_=>simp[I5_,e]at hk
 |_=>cases hk
def Kx_(i j:Int):Prop:=0<j/\j.natAbs.log2<9000
theorem av_:OpR X (binaryOp .FloorDiv) (rI Kx_ λi j=>.int (i/j)):=opI λi j _ _ _ _ _ hc q=>by have h1:(0:Int)<j:=hc.1;show floordiv_int o_ (by rw[Int.fdiv_eq_ediv_of_nonneg i o_];show q) (.inl (D9_ hc.2))
def Fn0(K:PySem.W.Frag)(mg:Str->Option Value)(x:Str)(st:Stmt):Prop:=∃f fd,Fun K x x st f fd/\mg x=some (.ref f)
theorem rA_{K:PySem.W.Frag}{mg:Str->Option Value}{h:Heap}(X:K.In h)(G:h.Ns mainGlobals mg){x:Str}{st:Stmt}{f:Addr}{oc:Value}{od an:Option Addr}{osl:Array (Option Value)}{kV doc pm cdv ct:Value}
  (a:PySem.W.nsIn K mainGlobals x=some (some (.ref f))) (l:K.lookup f=some ⟨oc,od,.func (PySem.W.fnOf x x (GP_ st) (GA_ st) (FC_ st) .none kV doc pm an cdv ct),osl⟩) (c:PySem.W.codeIn K cdv x=true) (k:PySem.W.keepIn K (.ref f)=true):Fn0 K mg x st :=
 ⟨f,_,p5_ l c k,PySem.W.mg_of X G a⟩
def Cal(P:Program)(w:World)(K:PySem.W.Frag)(mg:Str->Option Value)(base:Heap)(x:Str)(ps:List Str)(k:Nat)(sp:Sp):Prop :=
 ∃f fd,mg x=some (.ref f)/\PySem.W.keepIn K (.ref f)=true/\IC_ K fd ps []/\Js_ P w K mg base CX0 k f fd ps sp
theorem aQ_{P:Program}{w:World}{K:PySem.W.Frag}{mg:Str->Option Value}{base:Heap}{x:Str}{st:Stmt}{N ps:List Str}{k:Nat}{sp:Sp}(F:Fn0 K mg x st)(S:FG_ N ps (FC_ st))
  (hbody:∀(f:Addr)(cdv:Value)(A:Around)(outer:List Env)(s:Shared)(H:Hp)(vs:List V)(Q:VK)(E:XK),GY_ k (A.deeper (envOfC x (FC_ st) s.heap.objs.size f cdv))->sp vs H Q E ->
   ∃t,PSs (ID_ CX0 P w K mg base N x (FC_ st) f cdv A outer s H E).nox (GA_ st) t/\t {nx:=λ_ H'=>Q .non H',rt:=Q} (start N vs) H)
  (hb:∀(kV doc pm:Value)(an:Option Addr)(cdv ct:Value)(us:List Value),us.length=ps.length->bindArgs (PySem.W.fnOf x x (GP_ st) (GA_ st) (FC_ st) .none kV doc pm an cdv ct) ⟨us,[]⟩=pure (ps.zip us):=by first|show λ_ _ _ _ _ _=>byL1 λ_=>rfl|show λ_ _ _ _ _ _=>byL2 λ_ _=>rfl|show λ_ _ _ _ _ _=>byL3 λ_ _ _=>rfl|show λ_ _ _ _ _ _=>byL4 λ_ _ _ _=>rfl)
  (len:∀vs H Q E,sp vs H Q E->vs.length=ps.length:=by intro vs H Q E h;repeat (first|(obtain⟨rfl,_⟩:=h;rfl)|obtain⟨_,h⟩:=h)):Cal P w K mg base x ps (k+1) sp:=by
 obtain⟨f,fd,F,m⟩:=F;show⟨f,fd,m,F.kp,F.binds hb,F.ok S len λcdv A outer s H vs Q E=>hbody f cdv A outer s H vs Q E⟩
section
variable {x:Str}{ps:List Str}{k:Nat}{sp:Sp}{e:Expr}{es:List Expr}{t:TA}{p pos:Pos}
theorem pn_(C:Cal X.prog X.w X.K X.mg X.base x ps k sp)(hr:GY_ k X.A)(hg:Gl X x)(ha:PA X (e::es) t)(hdb:(x == ("__debug__" : Str))=false:=by decide)
  (he:starEach (e::es) X.env=(false,eval e X.env)::starEach es X.env:=by rfl) (hpl:(backTo pos (starEach es X.env)).any (·.1)=false:=by rfl):PE X (.Call (.Name x p) (e::es) [] pos) (Jv_ sp [] E0 t):=by
 obtain⟨f,fd,m,kp,b,F⟩:=C;show qx_ F hr hg m kp b .nil LH_ ha hdb he hpl
end
variable{o:HO}
theorem FA_.upd{H:Hp}(e:FA_ H H')(h:H a=none):FA_ H (upd H' a o):=λb o' q=>by rw[af_ (ae_ q h)];show e b o' q
theorem FA_.new{H:Hp}(h:H a=none):FA_ H (L2.upd H a o):=(FA_.refl H).upd h
def I0_:R2:=λx y H Q=>onR x λp=>∃xs,onI y λi=>H p=some (.tup xs)/\∃v,atI xs i=some v/\Q v H
def KW_:R2:=λx y H Q=>onR x λp=>∃xs,onI y λi=>H p=some (.lst xs)/\∃v,atI xs i=some v/\Q v H
theorem ao_:IxR X I0_:=by intro value slice pins s σ H x y v u Q I rx ry h hs;obtain⟨p,e1,xs,h⟩:=eB_ h;obtain⟨i,e2,hp,z,ha,q⟩:=c4_ h;show rx_ value slice pins s σ H x y v u Q I rx ry ⟨p,xs,i,z,e1,e2,.inl (.inl hp),ha,q⟩ hs
theorem aq_:IxR X KW_:=by intro value slice pins s σ H x y v u Q I rx ry h hs;obtain⟨p,e1,xs,h⟩:=eB_ h;obtain⟨i,e2,hp,z,ha,q⟩:=c4_ h;show nU_ value slice pins s σ H x y v u Q I rx ry ⟨p,xs,i,z,e1,e2,.inl (.inl hp),ha,q⟩ hs
def KV_:List V->Hp->VK->Prop:=λxs H Q=>on1 xs λx=>onR x λp=>∃ys,(H p=some (.lst ys)\/H p=some (.tup ys))/\Q (.int ys.length) H
theorem an_:GF_ X (.builtin "len") KV_:=by intro pins s σ H xs us Q I r h;obtain⟨_,e,h⟩:=mh_ h;obtain⟨p,rfl,ys,hp,q⟩:=eB_ h;show eM_ pins s σ H xs us Q I r ⟨p,ys,e,hp.imp (λz=>.inl (.inl z)) (λz=>.inl (.inl z)),q⟩
theorem ks_{x:Str}{n:String}{pos:Pos}(hg:Gl X x)(hm:X.mg x=none)(hv:bootBuiltins x=some (.type n))(hn:x ≠ "__name__" := by decide) (hd:(x == ("__debug__" : Str))=false:=by decide):PE X (.Name x pos) (tC (.ty n)):=
 qt_ hg hm hv rfl hn hd
theorem Gv_{α:Type}{x:α}{xs:List α}:atI (x::xs) 0=some x:=by simp[atI,ixN]
theorem GD_{α:Type}{x y:α}{xs:List α}:atI (x::y::xs) 1=some y:=by
 have h:(1:Int)<(xs.length:Int)+1+1:=o_
 simp[atI,ixN,h]
theorem G7_{α:Type}{x y z:α}{xs:List α}:atI (x::y::z::xs) 2=some z:=by
 have h:(2:Int)<(xs.length:Int)+1+1+1:=o_
 simp[atI,ixN,h]
theorem c5_{α:Type}{xs:List α}{i:Int}{v:α}(h0:0<=i)(h:xs[i.toNat]?=some v):atI xs i=some v:=by
 have hl:i.toNat<xs.length:=(Ae_.mp h).1;have hl':i<xs.length:=o_
 unfold atI ixN;rw[if_pos h0,if_pos hl'];show h
theorem rB_(n:Nat):ixN (n+1) 0=some 0:=by
 have:(0:Int)<(n:Int)+1:=o_
 simp[ixN,this]
theorem lt_{c:TT}{tb:TS}{D:H4_}{σ:St}{H:Hp}(Pv:St->Hp->Prop)(μ:St->Hp->Nat)(h0:Pv σ H)
  (hs:∀σ H,Pv σ H->c σ H λb H1=>if b=true then ∃N:St->Hp->Prop,(∀σ' H',N σ' H'->∃m',m'<μ σ H/\m'=μ σ' H'/\Pv σ' H')/\tb {D with nx:=N,ct:=N,bk:=D.nx} σ H1 else D.nx σ H1):IR_ c tb D σ H :=
 ⟨λm σ H=>m=μ σ H/\Pv σ H,⟨_,rfl,h0⟩,by rintro m σ H ⟨rfl,p⟩;show hs σ H p⟩
theorem N_ok{Pv:St->Hp->Prop}{μ:St->Hp->Nat}{k:Nat}:∀σ' H',(Pv σ' H'/\μ σ' H'<k)->∃m',m'<k/\m'=μ σ' H'/\Pv σ' H':=λ_ _ ⟨a,b⟩=>⟨_,b,rfl,a⟩
def G6_(J:It)(g:TG)(tb:TS)(D:H4_)(σ:St)(H:Hp):Prop:=∃W:Nat->Nat->St->Hp->Prop,(∃m,W 0 m σ H)/\∀i m σ H,W i m σ H ->
 (J.stop i H/\D.nx σ H)\/(J.go i H/\∃N:St->Hp->Prop,(∀σ' H',N σ' H'->∃m',m'<m/\W (i+1) m' σ' H')/\∀x H',J.yld i H x H'->g x σ H' λσ2 H2=>tb {D with nx:=N,ct:=N,bk:=D.nx} σ2 H2)
theorem qz_{wi:TI}{g:TG}{tb:TS}{D:H4_}{σ:St}{H:Hp}:LW_ wi g tb D σ H=wi σ H λJ H1=>G6_ J g tb D σ H1:=rfl
theorem jB_{lo:Int}{n:Nat}{g:TG}{tb:TS}{D:H4_}{σ:St}{H:Hp}(Pv:Nat->St->Hp->Prop)(h0:Pv 0 σ H)
  (hs:∀i σ H,i<n->Pv i σ H->g (.int (lo+i)) σ H λσ2 H2=>tb {D with nx:=Pv (i+1),ct:=Pv (i+1),bk:=D.nx} σ2 H2) (hd:∀σ H,Pv n σ H->D.nx σ H):G6_ (Itr lo n) g tb D σ H:=nK_ Pv h0 hs hd
theorem jC_{K:PySem.W.Frag}{a:Addr}{xs:List V}{g:TG}{tb:TS}{D:H4_}{σ:St}{H:Hp}(Pv:Nat->St->Hp->Prop)(h0:Pv 0 σ H)(hl:∀i σ H,i<=xs.length->Pv i σ H->SqL K H a xs)
  (hs:∀i x σ H,xs[i]?=some x->Pv i σ H->g x σ H λσ2 H2=>tb {D with nx:=Pv (i+1),ct:=Pv (i+1),bk:=D.nx} σ2 H2) (hd:∀σ H,Pv xs.length σ H->D.nx σ H):G6_ (Itl K a) g tb D σ H:=pg_ Pv h0 hl hs hd
def Gu_:Expr->Bool
 | .Starred .. => false
 |_=>true
theorem ap_{e:Expr}{es:List Expr}{env:Env}(h:Gu_ e=true):starEach (e::es) env=(false,eval e env)::starEach es env:=by
 cases e <;> first|rfl|show absurd (show false=true from h) AR_
def FL_:List Expr->Bool
 |[]=>true
 |e::es=>Gu_ e && FL_ es
theorem bT_{pos:Pos}{env:Env}:∀{es:List Expr},FL_ es=true->(backTo pos (starEach es env)).any (·.1)=false
 |[],_=>rfl
 |e::es,h=>by
  have h':Gu_ e=true/\FL_ es=true:=by simpa[FL_]using h
  rw[ap_ h'.1];change(false ||(backTo pos (starEach es env)).any (·.1))=false;rw[bT_ h'.2];rfl
def IU_:Expr->Bool
 | .ListComp .. => true
 | .SetComp .. => true
 | .DictComp .. => true
 |_=>false
variable{env:Env}
theorem ig_{e:Expr}{t:Option Expr}{n:Nat}(h:IU_ e=false):swapsWith e t n env=pure false:=by
 cases e <;> first|rfl|show absurd (show true=false from h) Bool.noConfusion
section
variable {x:Str}{ps:List Str}{k:Nat}{sp:Sp}{e:Expr}{es:List Expr}{te:TE}{t:TA}{p pos:Pos}{id:String}{r:List V->Hp->VK->Prop}
theorem pa_c(ha:PE X e te)(hr:PA X es t)(hs:Gu_ e=true:=by rfl):PA X (e::es) (I7_ te t):=qw_ ha hr (ap_ hs)
theorem am_(C:Cal X.prog X.w X.K X.mg X.base x ps k sp)(hr:GY_ k X.A)(hg:Gl X x)(ha:PA X (e::es) t)(hs:FL_ (e::es)=true:=by rfl) (hdb:(x == ("__debug__" : Str))=false:=by decide):
  PE X (.Call (.Name x p) (e::es) [] pos) (Jv_ sp [] E0 t):=
 have h':Gu_ e=true/\FL_ es=true:=by simpa[FL_]using hs
 pn_ C hr hg ha hdb (ap_ h'.1) (bT_ h'.2)
theorem al_(hc:GF_ X (.builtin id) r)(hg:Gl X x)(hm:X.mg x=none)(hv:bootBuiltins x=some (.builtin id))(ha:PA X (e::es) t)(hs:FL_ (e::es)=true:=by rfl) (hn:x ≠ "__name__" := by decide) (hdb:(x == ("__debug__" : Str))=false:=by decide):
  PE X (.Call (.Name x p) (e::es) [] pos) (tCB r t):=
 have h':Gu_ e=true/\FL_ es=true:=by simpa[FL_]using hs
 pj_ hc hg hm hv ha hn hdb (ap_ h'.1) (bT_ h'.2)
theorem ai_{i:Nat}{pos':Pos}(hN:X.N.Nodup)(hi:X.N[i]?=some x)(hx:X.env.scope.names.lookup x=some .local)(he:PE X e te)(hs:IU_ e=false:=by rfl):PS X (.Assign [.Name x pos'] e pos) (Kv_ te (Hu_ i)):=
 pZ_ hN hi (.inl hx) he (ig_ hs) (.inr hx)
theorem ah_{i:Nat}(hN:X.N.Nodup)(hi:X.N[i]?=some x)(hx:X.env.scope.names.lookup x=some .local):PG X (.Name x pos) (Hu_ i):=nG_ hN hi (.inl hx) (.inr hx)
theorem aH_(he:PE X e te)(hs:IU_ e=false:=by rfl):PS X (.Expr e pos) (Kf_ te):=qu_ he (ig_ hs)
theorem pv1(i:Nat)(hN:X.N[i]?=some x:=by rfl) (hv:X.env.scope.names.lookup x=some .local:=by rfl) (hd:(x == ("__debug__" : Str))=false:=by decide) (hcd:(x == ("__classdict__" : Str))=false:=by decide):PE X (.Name x pos) (Jx_ i):=nE_ hN (.inl hv) hd hcd
end
def tCut(t:TS):TS:=λD σ H=>∃M:St->Hp->Prop,t {D with nx:=M} σ H/\∀σ' H',M σ' H'->D.nx σ' H'
theorem ih_{st:Stmt}{t:TS}(h:PS X st t):PS X st (tCut t):=by
 intro pins s σ H D I hq;obtain⟨M,h1,h2⟩:=hq;show thn (h pins s σ H _ I h1) λf s' q=>?_;cases f with
 |next=>obtain⟨σ',H',I',m⟩:=q;show⟨σ',H',I',h2 _ _ m⟩
 |brk=>show q
 |cont=>show q
 |ret u=>show q
theorem aG_:bootBuiltins "len"=some (.builtin "len"):=r_
theorem rC_:bootBuiltins "abs"=some (.builtin "abs"):=r_
theorem rD_:bootBuiltins "max"=some (.builtin "max"):=r_
theorem nZ_:bootBuiltins "min"=some (.builtin "min"):=r_
theorem b2_:bootBuiltins "isinstance"=some (.builtin "isinstance"):=r_
theorem eN_:bootBuiltins "sorted"=some (.builtin "sorted"):=r_
theorem mm_:bootBuiltins "int"=some (.type "int"):=r_
theorem n0_:bootBuiltins "bool"=some (.type "bool"):=r_
theorem po_:bootBuiltins "tuple"=some (.type "tuple"):=r_
theorem fz_:bootBuiltins "list"=some (.type "list"):=r_
theorem kt_:bootBuiltins "enumerate"=some (.type "enumerate"):=r_
def HH_(cells:List (Str×Addr)):List (Str×NameKind)->List (Str×Addr)->List (Str×Addr)
 |[],acc=>acc
 | (n,k)::r,acc=>if k == .free then HH_ cells r ((n,(cells.lookup n).getD 0)::acc)else HH_ cells r acc
theorem mV_:∀(names:List (Str×NameKind))(acc:List (Str×Addr)),(∀p∈names,p.2=.free->∃c,env.cells.lookup p.1=some c) ->
  (forIn (m:=Sem) names acc λx r=>(match x with|(name,kind)=>if(kind == NameKind.free)=true then do let a <-cellOf env name;pure (ForInStep.yield ((name,a)::r))else pure (ForInStep.yield r)))=pure (HH_ env.cells names acc):=by
 intro names
 induction names with
 |nil=>intro acc _;rfl
 |cons p r ih =>
  intro acc h;obtain⟨n,k⟩:=p;rw[Cn_];by_cases hk:(k == NameKind.free)=true
  .obtain⟨c,hc⟩:=h (n,k) Ar_ (by simpa using hk);have e1:cellOf env n=pure c:=by unfold cellOf;rw[hc]
   simp only[hk,if_true,e1];have:=ih ((n,c)::acc) λp hp=>h p (An_ _ hp);change _=pure (HH_ env.cells ((n,k)::r) acc);rw[HH_,if_pos hk,hc];show this
  .simp only[hk];have:=ih acc λp hp=>h p (An_ _ hp);change _=pure (HH_ env.cells ((n,k)::r) acc);rw[HH_,if_neg hk];show this
theorem jc_{scope:Scope}(h:∀p∈scope.names,p.2=.free->∃c,env.cells.lookup p.1=some c):closureFor scope env=pure (HH_ env.cells scope.names []):=by unfold closureFor;show Eq.trans (congrArg (λz=>z >>= λs=>pure s) (mV_ (env:=env) scope.names [] h)) rfl
theorem jD_{cells:List (Str×Addr)}:∀(names:List (Str×NameKind))(acc:List (Str×Addr)),(∀p∈names,p.2=.free->∃c,cells.lookup p.1=some c)->(∀q∈acc,cells.lookup q.1=some q.2)->∀q∈HH_ cells names acc,cells.lookup q.1=some q.2
 |[],acc,_,h=>h
 | (n,k)::r,acc,h1,h2=>by
  rw[HH_];by_cases hk:(k == NameKind.free)=true
  .rw[if_pos hk];show jD_ r _ (λp hp=>h1 p (An_ _ hp)) λq hq=>?_
   rcases Av_.mp hq with rfl|hq
   .obtain⟨c,hc⟩:=h1 (n,k) Ar_ (by simpa using hk);rw[hc];rfl
   .show h2 q hq
  .rw[if_neg hk];show jD_ r _ (λp hp=>h1 p (An_ _ hp)) h2
theorem jE_{cells:List (Str×Addr)}{x:Str}:∀(names:List (Str×NameKind))(acc:List (Str×Addr)),((x,NameKind.free)∈names\/∃c,(x,c)∈acc)->∃c,(x,c)∈HH_ cells names acc
 |[],acc,h=>h.elim (λz=>absurd z s_) id
 | (n,k)::r,acc,h=>by
  rw[HH_];by_cases hk:(k == NameKind.free)=true
  .rw[if_pos hk];show jE_ r _ ?_
   rcases h with h|⟨c,hc⟩
   .rcases Av_.mp h with e|h
    .cases e;show .inr ⟨_,Ar_⟩
    .show .inl h
   .show .inr ⟨c,An_ _ hc⟩
  .rw[if_neg hk];show jE_ r _ ?_
   rcases h with h|h
   .rcases Av_.mp h with e|h
    .cases e;show absurd rfl hk
    .show .inl h
   .show .inr h
theorem c6_{x:Str}{c:Addr}:∀{l:List (Str×Addr)},(x,c)∈l->∃c',l.lookup x=some c'
 | (n,d)::r,h=>by
  rw[Cc_];cases e:x == n with
  |true=>show⟨d,rfl⟩
  |false =>
   rcases Av_.mp h with z|h
   .cases z;simp at e
   .show c6_ h
theorem ii_{cells:List (Str×Addr)}{q:Str×Addr}:∀(names:List (Str×NameKind))(acc:List (Str×Addr)),q∈HH_ cells names acc->(q.1,NameKind.free)∈names\/q∈acc
 |[],acc,h=>.inr h
 | (n,k)::r,acc,h=>by
  rw[HH_]at h;by_cases hk:(k == NameKind.free)=true
  .rw[if_pos hk]at h;have hk':k=.free:=by simpa using hk
   rcases ii_ r _ h with h|h
   .show .inl (An_ _ h)
   .rcases Av_.mp h with rfl|h
    .show .inl (by rw[hk'];show Ar_)
    .show .inr h
  .rw[if_neg hk]at h;show(ii_ r _ h).imp (An_ _) id
theorem dp_{x:Str}{c:Addr}:∀(names:List (Str×NameKind))(h:Heap)(acc:List (Str×Addr)),(x,c)∈cellsFrom h.objs.size names acc->(x,c)∈acc\/(h.objs.size<=c/\(pushCells h names).IsCell c none/\(x,NameKind.cell)∈names)
 |[],_,_,h=>.inl h
 | (n,k)::r,hp,acc,h=>by
  unfold cellsFrom at h;unfold pushCells;by_cases hk:(k == NameKind.cell)=true
  .rw[if_pos hk]at h⊢;have hk':k=.cell:=by simpa using hk
   have h':(x,c)∈cellsFrom (hp.push {cls:=.type "cell",data:=.cell none}).objs.size r ((n,hp.objs.size)::acc):=by rw[Cd_];show h
   rcases dp_ r _ _ h' with h|⟨h1,h2,h3⟩
   .rcases Av_.mp h with e|h
    .cases e;show .inr ⟨Ai_ _,⟨_,Dq_ r _ _ _ (Ax_ _ rfl),rfl⟩,by rw[hk'];show Ar_⟩
    .show .inl h
   .rw[Cd_]at h1;show .inr ⟨o_,h2,An_ _ h3⟩
  .rw[if_neg hk]at h⊢;show(dp_ r hp acc h).imp id λ⟨h1,h2,h3⟩=>⟨h1,h2,An_ _ h3⟩
theorem d7_{x:Str}:∀(names:List (Str×NameKind))(n:Nat)(acc:List (Str×Addr)),((x,NameKind.cell)∈names\/∃c,(x,c)∈acc)->∃c,(x,c)∈cellsFrom n names acc
 |[],_,acc,h=>h.elim (λz=>absurd z s_) id
 | (y,k)::r,n,acc,h=>by
  unfold cellsFrom;by_cases hk:(k == NameKind.cell)=true
  .rw[if_pos hk];show d7_ r _ _ ?_
   rcases h with h|⟨c,hc⟩
   .rcases Av_.mp h with e|h
    .cases e;show .inr ⟨_,Ar_⟩
    .show .inl h
   .show .inr ⟨c,An_ _ hc⟩
  .rw[if_neg hk];show d7_ r _ _ ?_
   rcases h with h|h
   .rcases Av_.mp h with e|h
    .cases e;show absurd rfl hk
    .show .inl h
   .show .inr h
theorem d8_{lo:Nat}:∀(names:List (Str×NameKind))(n:Nat)(acc:List (Str×Addr)),(∀x c,(x,c)∈acc->c<n)->(∀x y c,lo<=c->(x,c)∈acc->(y,c)∈acc->x=y)->∀x y c,lo<=c->(x,c)∈cellsFrom n names acc->(y,c)∈cellsFrom n names acc->x=y
 |[],_,_,_,h=>h
 | (z,k)::r,n,acc,h1,h2=>by
  unfold cellsFrom;by_cases hk:(k == NameKind.cell)=true
  .rw[if_pos hk];show d8_ r _ _ (λx c hm=>?_) λx y c hc hx hy=>?_
   .rcases Av_.mp hm with e|hm
    .cases e;show CU_ _
    .show A9_ (h1 x c hm)
   .rcases Av_.mp hx with e|hx <;> rcases Av_.mp hy with e'|hy
    .cases e;cases e';rfl
    .cases e;show absurd (h1 _ _ hy) (Bc_ _)
    .cases e';show absurd (h1 _ _ hx) (Bc_ _)
    .show h2 x y c hc hx hy
  .rw[if_neg hk];show d8_ r n acc h1 h2
def GX_(scope:Scope)(env:Env)(n:Nat):List (Str×Addr):=cellsFrom (n+1) scope.names (HH_ env.cells scope.names [])
def cxC(X:Cx)(N':List Str)(scope:Scope)(s:Shared)(H:Hp)(ex:List Addr):Cx :=
 {X with N:=N',s₀:=s,H₀:=H,env:=compEnvC scope (GX_ scope X.env s.heap.objs.size) s.heap.objs.size X.env,outer:=X.stack,ex:=ex,fn:=λx=>decide ((x,NameKind.cell)∈scope.names)}
def pick(σ:St)(ix:List (Option Nat)):St:=ix.map λo=>match o with|some i=>(match σ[i]? with|some v=>v|none=>none)|none=>none
structure Scp(psc:Scope)(PN N':List Str)(ix:List (Option Nat))(scope:Scope):Prop where
 kind:scope.kind=.function
 names:∀x∈scope.names,x.2=.local->scope.names.lookup x.1=some .local
 uni:∀x∈scope.names,x.2=.free->scope.names.lookup x.1=some .free
 apart:∀x∈scope.names,x.2=.cell->(x.1,NameKind.free)∉scope.names
 free:∀x∈scope.names,x.2=.free->psc.names.lookup x.1=some .cell\/psc.names.lookup x.1=some .free
 len:ix.length=N'.length
 at_:∀(j i:Nat)(x:Str),N'[j]?=some x->ix[j]?=some (some i)->PN[i]?=some x/\(x,NameKind.free)∈scope.names
variable {pins:List (Addr×Obj)}{σ:St}{H:Hp}{s:Shared}{N':List Str}{ix:List (Option Nat)}{scope:Scope}{fp:List Addr}
theorem c7_{env:Env}:∀{names:List (Str×NameKind)}{x:Str},names.lookup x=some .free ->
  (names.map λ(n,k)=>if(k == NameKind.free && env.scope.kind == .function && env.kindOf n == some .cell)then(n,NameKind.cell)else(n,k)).lookup x=some .cell \/
  (names.map λ(n,k)=>if(k == NameKind.free && env.scope.kind == .function && env.kindOf n == some .cell)then(n,NameKind.cell)else(n,k)).lookup x=some .free
 |[],_,h=>by simp at h
 | (n,k)::r,x,h=>by
  have ih:=@c7_ env r x;simp only[Ay_];cases hx:x == n with
  |true =>
   simp only[Cc_,hx]at h;cases h;by_cases hc:(NameKind.free == NameKind.free && env.scope.kind == .function && env.kindOf n == some .cell)=true
   .rw[if_pos hc];simp[Cc_,hx]
   .rw[if_neg hc];simp[Cc_,hx]
  |false =>
   simp only[Cc_,hx]at h;by_cases hc:(k == NameKind.free && env.scope.kind == .function && env.kindOf n == some .cell)=true
   .rw[if_pos hc];simp only[Cc_,hx];show ih h
   .rw[if_neg hc];simp only[Cc_,hx];show ih h
theorem ij_{x:Str}(h:scope.names.lookup x=some .free):(relabel scope env).names.lookup x=some .cell\/(relabel scope env).names.lookup x=some .free:=c7_ h
theorem ku_{x:Str}(h:(relabel scope env).names.lookup x=some .cell\/(relabel scope env).names.lookup x=some .free):(x,NameKind.cell)∈scope.names\/(x,NameKind.free)∈scope.names:=by
 have:∃k,(x,k)∈(relabel scope env).names/\(k=.cell\/k=.free):=by
  rcases h with h|h
  .show⟨_,Bv_ h,.inl rfl⟩
  .show⟨_,Bv_ h,.inr rfl⟩
 obtain⟨k,hm,hk⟩:=this;obtain⟨⟨n,k'⟩,hm',e⟩:=As_.mp hm
 dsimp only at e
 split at e
 .rename_i hc;cases e;have:k'=.free:=by simp at hc;show hc.1.1
  rw[this]at hm';show .inr hm'
 .cases e
  rcases hk with rfl|rfl
  .show .inl hm'
  .show .inr hm'
theorem pp_(I:Inv X pins σ H s)(S:Scp X.env.scope X.N N' ix scope)(hf:∀b∈fp,H2_ X pins H b)(hfl:∀b∈fp,b<s.heap.objs.size)(t':Nat):
  Inv (cxC X N' scope s H fp) [] (pick σ ix) H {s with heap:=pushCells (s.heap.push {cls:=.type "dict",data:=.dict #[]}) scope.names,toks:=t'}:=by
 have hn:(pushCells (s.heap.push {cls:=.type "dict",data:=.dict #[]}) scope.names).Ns s.heap.objs.size λ_=>none:=(Heap.Ns.new s.heap (.type "dict")).keeps (Dq_ _ _);have hk:∀b o,s.heap.get? b=some o->(pushCells (s.heap.push {cls:=.type "dict",data:=.dict #[]}) scope.names).get? b=some o:=λb o e=>Dq_ _ _ b o (Ah_ _ e);have hfr:∀p∈scope.names,p.2=NameKind.free->∃c,X.env.cells.lookup p.1=some c:=λp hp e=>I.ok.has p.1 (S.free p hp e);have clm:∀q∈HH_ X.env.cells scope.names [],X.env.cells.lookup q.1=some q.2:=jD_ scope.names [] hfr s_
 have spec:∀x c,(GX_ scope X.env s.heap.objs.size).lookup x=some c->(X.env.cells.lookup x=some c/\(x,NameKind.free)∈scope.names) \/
   (s.heap.objs.size<c/\(pushCells (s.heap.push {cls:=.type "dict",data:=.dict #[]}) scope.names).IsCell c none/\(x,NameKind.cell)∈scope.names):=λx c e=>by
  have hm:(x,c)∈cellsFrom (s.heap.push {cls:=.type "dict",data:=.dict #[]}).objs.size scope.names (HH_ X.env.cells scope.names []):=by rw[Cd_];show Bv_ e
  rcases dp_ scope.names _ _ hm with h|⟨h1,h2,h3⟩
  .show .inl ⟨clm _ h,(ii_ scope.names [] h).elim id (λz=>absurd z s_)⟩
  .rw[Cd_]at h1;show .inr ⟨h1,h2,h3⟩
 have hasC:∀x,((relabel scope X.env).names.lookup x=some .cell\/(relabel scope X.env).names.lookup x=some .free)->∃c,(GX_ scope X.env s.heap.objs.size).lookup x=some c:=λx hx=>by have:∃c,(x,c)∈GX_ scope X.env s.heap.objs.size:=d7_ scope.names _ _ ((ku_ hx).imp id λz=>jE_ scope.names [] (.inl z));obtain⟨c,hc⟩:=this;show c6_ hc
 have cold:∀x c,X.env.cells.lookup x=some c->c<s.heap.objs.size:=λx c e=>let⟨v,q⟩:=I.cell x c e;q.lt
 show⟨⟨I.ok.mod,S.kind,I.ok.glob,I.ok.blt,Ai_ _,λx y c e1 e2=>?_,hasC,λx c z e=>?_,I.ok.hd,I.ok.frames,.inl rfl,
  λb hb=>⟨AE_ (hfl b hb),λx c e=>?_⟩,I.bs,AG_ I.ok.bsz I.sz,λb o e hb=>?_,λb hb z=>?_,I.stack,I.stkFree⟩,
  rfl,I.bare,Un.kept hk,⟨_,hn,λj x v e1 e2 e3=>?_⟩,λx c e=>?_,I.hok.fresh (Ai_ _),λx c e=>?_,λp hp=>?pn,I.hok.kept hk,?_⟩
 case pn =>obtain⟨q1,q2,q3,q4,q5⟩:=I.pin p (AN_ _ (show p∈X.pn from(Aq_.mp hp).elim id λz=>nomatch z));show⟨hk _ _ q1,q2,AE_ (Aw_ q1),λz=>(Av_.mp (I.stkSub _ z)).elim q3 q4,q5⟩
 .by_cases hc:c<s.heap.objs.size+1
  .rcases spec x c e1 with⟨q1,_⟩|⟨q1,_⟩
   .rcases spec y c e2 with⟨q2,_⟩|⟨q2,_⟩
    .show I.ok.inj x y c q1 q2
    .show absurd q2 (Cg_.mpr (Nat.le_of_lt_succ hc))
   .show absurd q1 (Cg_.mpr (Nat.le_of_lt_succ hc))
  .show d8_ (lo:=s.heap.objs.size+1) scope.names _ _ (λx c hm=>A9_ (cold x c (clm _ hm))) (λx y c hc hx _=>absurd (cold x c (clm _ hx)) (Cg_.mpr (AG_ (C1_ _) hc))) x y c (Cg_.mp hc) (Bv_ e1) (Bv_ e2)
 .have z':(x,NameKind.cell)∈scope.names:=Bj_ z
  rcases spec x c e with⟨_,q⟩|⟨q,_⟩
  .show absurd q (S.apart _ z' rfl)
  .show AH_ q
 .rcases spec x c e with⟨q,_⟩|⟨q,_⟩
  .show(hf b hb).2.2.2.2.1 x c q
  .show λz=>absurd (hfl b hb) (Cg_.mpr (z▸AH_ q))
 .show(hf b hb).2.2.2.1.elim (λz=>I.ok.noex b o e z) λz=>absurd (AK_ (Aw_ e) I.ok.bsz) (Cg_.mpr z)
 .have hb2:=hf b hb
  rcases Av_.mp (I.stkSub b z)with q|q
  .show hb2.2.1 q
  .show hb2.2.2.1 q
 .have e4:∃i,ix[j]?=some (some i)/\σ[i]?=some (some v):=by
   have e2':(pick σ ix)[j]?=some (some v):=e2;unfold pick at e2';rw[Ag_]at e2';cases q:ix[j]? with
   |none=>rw[q]at e2';cases e2'
   |some o =>
    rw[q]at e2';cases o with
    |none=>cases e2'
    |some i =>
     show⟨i,rfl,?_⟩;cases z:σ[i]? with
     |none=>simp[z]at e2'
     |some y=>simp[z]at e2';rw[e2']
  obtain⟨i,e4,e5⟩:=e4;obtain⟨a1,a2⟩:=S.at_ j i x e1 e4;have a3:=S.free _ a2 rfl;obtain⟨m0,hn0,hl0⟩:=I.loc;obtain⟨u,r,l⟩:=hl0 i x v a1 e5 (.inr a3);show⟨u,r,?_⟩
  rcases l with⟨k1,_⟩|⟨k1,c,hcl,hce⟩
  .have k1':X.env.scope.names.lookup x=some .local:=k1
   rcases a3 with z|z <;> (rw[k1']at z;cases z)
  .
   have e3':(relabel scope X.env).names.lookup x=some .local\/(relabel scope X.env).names.lookup x=some .cell\/(relabel scope X.env).names.lookup x=some .free:=e3;have k3:=ij_ (env:=X.env) (S.uni _ a2 rfl);obtain⟨c',hc'⟩:=hasC x k3
   rcases spec x c' hc' with⟨q,_⟩|⟨_,_,q⟩
   .rw[hcl]at q;cases q;show .inr ⟨k3,c,hc',hce.keeps hk⟩
   .show absurd a2 (S.apart _ q rfl)
 .rcases spec x c e with⟨q,_⟩|⟨q,q2,_⟩
  .obtain⟨v,q'⟩:=I.cell x c q;show⟨v,q'.keeps hk⟩
  .show⟨none,q2⟩
 .rcases spec x c e with⟨q,_⟩|⟨q,_⟩
  .show I.freeC x c q
  .show I.hok.fresh (AH_ q)
 .change(pick σ ix).length=N'.length;unfold pick;rw[Ab_];show S.len
variable {prog:Program}{A:Around}{R:Result->Shared->Prop}
def I3_(ifs:List Expr)(env:Env):Sem Bool:=forIn ifs true λc r=>if r=true then do let ok <-isTrue c env (eval c env);pure (ForInStep.yield ok)else pure (ForInStep.yield r)
theorem kv_{elt target iter:Expr}{ifs:List Expr}{scope:Scope}{pos:Pos}{it acc:Value}{env:Env}(I:Nat->Shared->Prop)
  (turn:∀n s,I n s->wpAny (model prog w) A (pyNext it) (λr s₁=>match r with
   |none=>R (.ok .next) s₁
   |some v=>wpAny (model prog w) A (letOwnedTupleGo target it v) (λ_ s₁'=>wpAny (model prog w) A (assign target env v) (λ_ s₂=>wpAny (model prog w) A (I3_ ifs env) (λok s₃ =>
     if ok=true then wpAny (model prog w) A (eval elt env) (λx s₄=>wpAny (model prog w) A (call (.builtin "list.append") [acc,x]) (λ_ s₅=>∃m,m<n/\I m s₅) (λ_ _=>False) s₄) (λ_ _=>False) s₃
     else ∃m,m<n/\I m s₃) (λ_ _=>False) s₂) (λ_ _=>False) s₁') (λ_ _=>False) s₁) (λ_ _=>False) s)
  (n:Nat) (h:I n s):codeAny (model prog w) A (.compLoop (.ListComp elt [⟨target,iter,ifs,0⟩] scope pos) 0 it acc env) R s:=by
 show codeAny_loop rfl I (λn s hI=>?_) n h;change wpAny _ _ ((compTurn (.ListComp elt [⟨target,iter,ifs,0⟩] scope pos) 0 it acc env).onRaise (λx=>do noteFrame x env;theTreesLotGoes x)) _ _ s;show wpAny_noted ?_;rw[compTurn_list];show Ac_ (DT_ (Ac_ (Bu_ (turn n s hI) (λr s₁ h₁=>?_) λ_ _ h'=>h'.elim)));cases r with
 |none=>show Aj_ h₁
 |some v =>
  show Ac_ (Bu_ h₁ (λ_ s₁' h₁'=>?_) λ_ _ h'=>h'.elim);show Ac_ (Bu_ h₁' (λ_ s₂ h₂=>Ac_ (Bu_ h₂ (λok s₃ h₃=>?_) λ_ _ h'=>h'.elim)) λ_ _ h'=>h'.elim);cases ok with
  |false=>show Aj_ ⟨rfl,h₃⟩
  |true =>show Ac_ (Ac_ (Bu_ h₃ (λx s₄ h₄=>Ac_ (Bu_ h₄ (λ_ s₅ h₅=>Aj_ (Aj_ ⟨rfl,h₅⟩)) λ_ _ h'=>h'.elim)) λ_ _ h'=>h'.elim))
theorem lu_{M:Model}{A:Around}{E:Value->Shared->Prop}{s:Shared}{scope:Scope}{globals:Addr}{cl:List (Str×Addr)}{qual:Str}{env:Env}{Q:Env->Shared->Prop}
  (hQ:Q {scope:=scope,locals:=s.heap.objs.size,globals:=globals,cells:=cellsFrom (s.heap.objs.size+1) scope.names cl,qual:=qual,func:=none,code:=env.code,frame:=env.frame,builtins:=env.builtins} {s with heap:=pushCells (s.heap.push {cls:=.type "dict",data:=.dict #[]}) scope.names}):
  wpAny M A (newFunctionEnv scope globals cl [] qual none .none (some env)) Q E s:=by
 simp only[newFunctionEnv,Option.isSome_some,if_true];show Ac_ (wpAny_alloc ?_);show Ac_ (wpAny_layCells _ (λname kind cells=>by cases hkc:kind == NameKind.cell <;> simp[hkc]) _ _ _ _ ?_);rw[show({s with heap:=s.heap.push {cls:=.type "dict",data:=.dict #[]}}:Shared).heap.objs.size=s.heap.objs.size+1 from Cd_ ..];show Ac_ (Aj_ (Aj_ hQ))
def PF(X:Cx)(ifs:List Expr)(t:TT):Prop :=
 ∀(pins:List (Addr×Obj))(s:Shared)(σ:St)(H:Hp)(Q:Bool->Hp->Prop),Inv X pins σ H s->t σ H Q->wpAny (model X.prog X.w) X.A (I3_ ifs X.env) (TP X pins σ Q) X.xe s
def KJ_:TT:=λ_ H Q=>Q true H
theorem eC_:PF X [] KJ_:=λ_ _ _ H _ I h=>wpAny_tests_nil ⟨H,I,h⟩
theorem kw_{c:Expr}{t:TT}(h:PT X c t):PF X [c] t:=λpins s σ H Q I q=>wpAny_tests_one (h pins s σ H Q I q)
def HQ_(J:It)(g:TG)(tt:TT)(te:TE)(σ:St)(H:Hp)(Q:VK):Prop:=∀D,H D=none->∃W:Nat->Nat->St->Hp->Prop,(∃m,W 0 m σ (upd H D (.lst [])))/\∀i m σ H,W i m σ H ->
 (J.stop i H/\Q (.ref D) H)\/(J.go i H/\∃N:St->Hp->Prop,(∀σ' H',N σ' H'->∃m',m'<m/\W (i+1) m' σ' H')/\∀x H',J.yld i H x H'->g x σ H' λσ2 H2=>tt σ2 H2 λb H3 =>if b=true then te σ2 H3 λv H4=>∃xs,H4 D=some (.lst xs)/\xs.length<sizeLine/\N σ2 (upd H4 D (.lst (xs++[v])))else N σ2 H3)
def Jw_(ix:List (Option Nat))(wi:TI)(g:TG)(tt:TT)(te:TE):TE:=λσ H Q=>wi σ H λJ H1=>HQ_ J g tt te (pick σ ix) H1 Q
section
variable {tg iter elt:Expr}{ifs:List Expr}{wi:TI}{g:TG}{tt:TT}{te:TE}{pos:Pos}
structure LB_(C:Cx->Prop)(P:Program)(w:World)(K:PySem.W.Frag)(tg:Expr)(J:It)(fp:List Addr)(it:Addr)(tn:Nat->Heap->Prop):Prop where
 obj:∀i h,tn i h->∀b∈fp,∃o,h.get? b=some o/\∀v,o.data≠.cell v
 keep:∀i h h',tn i h->(∀b∈fp,∀o,h.get? b=some o->h'.get? b=some o)->tn i h'
 item:∀(X:Cx),X.prog=P->X.w=w->X.K=K->C X->∀(i:Nat)(pins:List (Addr×Obj))(s:Shared)(σ:St)(H:Hp)(E:Value->Shared->Prop),Inv X pins σ H s->(∀b∈fp,H2_ X pins H b)->tn i s.heap->J.go i H ->
  wpAny (model P w) X.A (pyNext (.ref it)) (λr s1=>∃u,r=some u/\wpAny (model P w) X.A (letOwnedTupleGo tg (.ref it) u) (λ_ s2=>∃x H',Inv X pins σ H' s2/\Ga_ x u/\J.yld i H x H'/\tn (i+1) s2.heap/\∀b∈fp,H' b=none) E s1) E s
 done:∀(X:Cx),X.prog=P->X.w=w->X.K=K->C X->∀(i:Nat)(pins:List (Addr×Obj))(s:Shared)(σ:St)(H:Hp)(E:Value->Shared->Prop),Inv X pins σ H s->(∀b∈fp,H2_ X pins H b)->tn i s.heap->J.stop i H ->
  wpAny (model P w) X.A (pyNext (.ref it)) (λr s1=>r=none/\Inv X pins σ H s1) E s
 self:∀(A:Around)(i:Nat)(s:Shared)(Q:Value->Shared->Prop)(E:Value->Shared->Prop),tn i s.heap->Q (.ref it) s->wpAny (model P w) A (pyIter (.ref it)) Q E s
def PIc(C:Cx->Prop)(X:Cx)(tg iter:Expr)(wi:TI):Prop:=∀(pins:List (Addr×Obj))(s:Shared)(σ:St)(H:Hp)(R:It->Hp->Prop),Inv X pins σ H s->wi σ H R ->
 wpAny (model X.prog X.w) X.A (eval iter X.env) (λv s1=>wpAny (model X.prog X.w) X.A (pyIter v) (λitv s2=>∃(it:Addr)(fp:List Addr)(tn:Nat->Heap->Prop)(J:It)(H':Hp),itv=.ref it/\Inv X pins σ H' s2/\LB_ C X.prog X.w X.K tg J fp it tn/\tn 0 s2.heap/\(∀b∈fp,H2_ X pins H' b)/\R J H') X.xe s1) X.xe s
theorem PI.c(h:PI X tg iter wi):PIc (λX=>X.calm=true) X tg iter wi:=λpins s σ H R I q=>thn (h pins s σ H R I q) λ_ _ h1=>thn h1 λ_ _ ⟨it,fp,tn,J,H',e,I2,T,z⟩=>⟨it,fp,tn,J,H',e,I2,⟨T.obj,T.keep,T.item,T.done,T.self⟩,z⟩
theorem kx_{C:Cx->Prop}(hc:∀s H ex,C (cxC X N' scope s H ex))(hxe:X.xe=λ_ _=>False)(S:Scp X.env.scope X.N N' ix scope)(hi:PIc C X tg iter wi)(hg:∀s H ex,PG (cxC X N' scope s H ex) tg g)(ht:∀s H ex,PF (cxC X N' scope s H ex) ifs tt)(he:∀s H ex,PE (cxC X N' scope s H ex) elt te)
  {pins:List (Addr×Obj)} {s:Shared} {σ:St} {H:Hp} {Q:VK} (I:Inv X pins σ H s) (h:Jw_ ix wi g tt te σ H Q) {Post:Value->Addr->Result->Shared->Prop}
  (fin':∀(D C:Addr)(H':Hp)(s':Shared),Inv X pins σ H' s'->H2_ X pins H' C->(∃m,s'.heap.Ns C m)->Q (.ref D) H'->Post (.ref D) C (.ok .next) s'):
  wpAny (model X.prog X.w) X.A (eval iter X.env) (λx s₁=>wpAny (model X.prog X.w) X.A (pyIter x) (λit s₂=>wpAny (model X.prog X.w) X.A (newList []) (λacc s₃ =>wpAny (model X.prog X.w) X.A (newFunctionEnv scope X.env.globals (HH_ X.env.cells scope.names []) [] X.env.qual none .none (some X.env)) (λcenv s₄ =>codeAny (model X.prog X.w) X.A (.compStart (.ListComp elt [⟨tg,iter,ifs,0⟩] scope pos) 0 it acc {cenv with scope:=relabel scope X.env}) (Post acc cenv.locals) s₄) X.xe s₃) X.xe s₂) X.xe s₁) X.xe s:=by
 show thn (hi pins s σ H _ I h) λv s1 h1=>thn h1 λitv s2 h2=>?_;obtain⟨it,fp,tn,J,H2,e,I2,T,st2,f2,go⟩:=h2;subst e;show Bx_ ?_;have hD:H2 s2.heap.objs.size=none:=I2.hok.fresh (Ai_ _)
 have I3:Inv X pins σ (upd H2 s2.heap.objs.size (.lst [])) {s2 with heap:=s2.heap.push {cls:=.type "list",dict:=none,data:=.seq ([]:List Value).toArray}} :=
  I2.laid (t':=s2.toks) (λb u e=>Ah_ _ e) (Ai_ _) ⟨Az_ _,[],0,.nil,Ax_ _ rfl⟩
 obtain⟨W,⟨m0,w0⟩,turn⟩:=go s2.heap.objs.size hD;have fpl:∀b∈fp,b<s2.heap.objs.size:=λb hb=>let⟨o,e,_⟩:=T.obj _ _ st2 b hb;Aw_ e;have tF:∀{α:Type}{t:Sem α}{Q':α->Shared->Prop}{s':Shared},wpAny (model X.prog X.w) X.A t Q' X.xe s'->wpAny (model X.prog X.w) X.A t Q' (λ_ _=>False) s':=λhw=>hxe▸hw;generalize hH3:upd H2 s2.heap.objs.size (.lst [])=H3 at I3 w0;generalize hs3:({s2 with heap:=s2.heap.push {cls:=.type "list",dict:=none,data:=.seq ([]:List Value).toArray}}:Shared)=s3 at I3⊢;have h23:∀b o,s2.heap.get? b=some o->s3.heap.get? b=some o:=λb o e=>by rw[<-hs3];show Ah_ _ e
 have sz3:s2.heap.objs.size<=s3.heap.objs.size:=by rw[<-hs3];change _<=(s2.heap.push _).objs.size;rw[Cd_];show C1_ _
 have fpl3:∀b∈fp,b<s3.heap.objs.size:=λb hb=>AK_ (fpl b hb) sz3;have f3:∀b∈fp,H2_ X pins H3 b:=λb hb=>⟨by rw[<-hH3,af_ (AE_ (fpl b hb))];show(f2 b hb).1,(f2 b hb).2⟩;show lu_ ?_;generalize hh1:pushCells (s3.heap.push {cls:=.type "dict",data:=.dict #[]}) scope.names=h1;have hk:∀b o,s3.heap.get? b=some o->h1.get? b=some o:=λb o e=>by rw[<-hh1];show Dq_ _ _ b o (Ah_ _ e)
 have I4:Inv (cxC X N' scope s3 H3 fp) [] (pick σ ix) H3 {s3 with heap:=h1}:=by rw[<-hh1];show pp_ I3 S f3 fpl3 s3.toks
 have st4:tn 0 h1:=T.keep _ _ _ st2 λb hb o e=>hk b o (h23 b o e);have fin:∀{σ':St}{H':Hp}{s':Shared},Inv (cxC X N' scope s3 H3 fp) [] σ' H' s'->Q (.ref s2.heap.objs.size) H'->Post (.ref s2.heap.objs.size) s3.heap.objs.size (.ok .next) s':=λ{σ' H' s'} J q=>by obtain⟨m,hn,_⟩:=J.loc;have K1:Inv X pins σ H' s':=I3.call' J.os J.base J.hok J.bare λb hb=>⟨(f3 b hb).2.2.2.1,(f3 b hb).2.1,(f3 b hb).2.2.2.2.1,(f3 b hb).2.2.2.2.2⟩;show fin' _ _ H' s' K1 (I3.fpOk (b:=s3.heap.objs.size) (Ai_ _) (show H' s3.heap.objs.size=none from J.free)) ⟨m,hn⟩ q
 have loop:codeAny (model X.prog X.w) X.A (.compLoop (.ListComp elt [⟨tg,iter,ifs,0⟩] scope pos) 0 (.ref it) (.ref s2.heap.objs.size) (compEnvC scope (GX_ scope X.env s3.heap.objs.size) s3.heap.objs.size X.env)) (Post (.ref s2.heap.objs.size) s3.heap.objs.size) {s3 with heap:=h1}:=by
  show kv_ (λn s'=>∃i σ' H',Inv (cxC X N' scope s3 H3 fp) [] σ' H' s'/\tn i s'.heap/\(∀b∈fp,H' b=none)/\W i n σ' H') ?_ m0 ⟨0,_,H3,I4,st4,λb hb=>(f3 b hb).1,w0⟩;rintro n s5 ⟨i,σ5,H5,I5,st5,fr5,w5⟩;have stat:∀{H':Hp},(∀b∈fp,H' b=none)->∀b∈fp,H2_ (cxC X N' scope s3 H3 fp) [] H' b:=λhn b hb=>⟨hn b hb,(I5.ok.exf b hb).1,I5.ok.exfs b hb,.inl hb,(I5.ok.exf b hb).2,λp hp=>(f3 b hb).2.2.2.2.2 p (AN_ _ (show p∈X.pn from(Aq_.mp hp).elim id λz=>nomatch z))⟩
  rcases turn i n σ5 H5 w5 with⟨stop,qn⟩|⟨go,N,hN,step⟩
  .show thn (tF (T.done (cxC X N' scope s3 H3 fp) rfl rfl rfl (hc _ _ _) i [] s5 σ5 H5 X.xe I5 (stat fr5) st5 stop)) λr s6 ⟨hr,I6⟩=>?_;subst hr;show fin I6 qn
  .show thn (tF (T.item (cxC X N' scope s3 H3 fp) rfl rfl rfl (hc _ _ _) i [] s5 σ5 H5 X.xe I5 (stat fr5) st5 go)) λr s6 ⟨u,hr,h6⟩=>?_;subst hr;show thn (tF h6) λ_ s7 ⟨x,H7,I7,r7,y7,st7,fr7⟩=>?_;have I7':=I7.pinned (stat fr7) (T.obj _ _ st7);have again:∀{σ':St}{H':Hp}{s':Shared},Inv (cxC X N' scope s3 H3 fp) ([]++HT_ fp s7.heap) σ' H' s'->N σ' H'->∃m,m<n/\∃i σ' H',Inv (cxC X N' scope s3 H3 fp) [] σ' H' s'/\tn i s'.heap/\(∀b∈fp,H' b=none)/\W i m σ' H':=λ{σ' H' s'} J n10=>by obtain⟨m',hm,w10⟩:=hN σ' H' n10;show⟨m',hm,i+1,σ',H',J.unpinned,T.keep _ _ _ st7 λb hb o e=>(J.pin (b,o) (AO_ _ (AO_ _ (fa_ hb e)))).1,λb hb=>?_,w10⟩;obtain⟨o,e,d⟩:=T.obj _ _ st7 b hb;show(J.pin (b,o) (AO_ _ (AO_ _ (fa_ hb e)))).2.1
   show thn (tF (hg s3 H3 fp _ s7 σ5 H7 x u _ I7' r7 (step x H7 y7))) λ_ s8 ⟨σ8,H8,I8,q8⟩=>?_;show thn (tF (ht s3 H3 fp _ s8 σ8 H8 _ I8 q8)) λok s8' ⟨H8',I8',q8'⟩=>?_;cases ok with
   |false=>show again I8' (by simpa using q8')
   |true =>rw[if_pos rfl]at q8'⊢;show thn (tF (he s3 H3 fp _ s8' σ8 H8' _ I8' q8')) λv s9 ⟨y,H9,I9,r9,xs,hl9,hz9,n9⟩=>?_;show thn (tF (aF_ (X:=cxC X N' scope s3 H3 fp) _ s9 σ8 H9 (.ref s2.heap.objs.size) [y] (.ref s2.heap.objs.size) [v] (λ_ H'=>N σ8 H') I9 rfl (.cons r9 .nil) ⟨xs,hl9,hz9,n9⟩)) λ_ s10 ⟨_,H10,I10,_,n10⟩=>again I10 n10
 show codeAny_compStart_list loop (T.self _ 0 _ _ _ st4 loop)
theorem cc_(hc:X.calm=true)(hxe:X.xe=λ_ _=>False)(S:Scp X.env.scope X.N N' ix scope)(hi:PI X tg iter wi)(hg:∀s H ex,PG (cxC X N' scope s H ex) tg g)(ht:∀s H ex,PF (cxC X N' scope s H ex) ifs tt)(he:∀s H ex,PE (cxC X N' scope s H ex) elt te)
  (hs:∀x,foldedSetIterable iter X.env x=pure x:=by intro _;rfl):PE X (.ListComp elt [⟨tg,iter,ifs,0⟩] scope pos) (Jw_ ix wi g tt te):=by
 intro pins s σ H Q I h;rw[eval_ListComp];show Ea_ (use:=none) rfl hs (jc_ λp hp e=>I.ok.has p.1 (S.free p hp e)) S.kind S.names (kx_ (C:=λX=>X.calm=true) (λ_ _ _=>hc) hxe S hi.c hg ht he I h λD C H' s' K1 F ⟨m,hn⟩ q=>?_);show⟨m,hn,λh' sb=>?_⟩;obtain⟨g0,g1,g2,g3,g4,g5⟩:=F;show⟨.ref D,H',K1.turned (t':=s'.toks) (λb o hb e=>sb.extBut b o hb e) g0 g1 g3 g4 g5,rfl,q⟩
theorem jF_{i:Nat}{y:Str}{py spos:Pos}(hc:X.calm=true)(hxe:X.xe=λ_ _=>False)(hN:X.N.Nodup)(hy:X.N[i]?=some y)(hl:X.env.scope.names.lookup y=some .local)
  (hsw:swapsWith (.ListComp elt [⟨tg,iter,ifs,0⟩] scope pos) (some (.Name y py)) spos.line X.env=pure true)
  (S:Scp X.env.scope X.N N' ix scope) (hi:PI X tg iter wi) (hg:∀s H ex,PG (cxC X N' scope s H ex) tg g) (ht:∀s H ex,PF (cxC X N' scope s H ex) ifs tt) (he:∀s H ex,PE (cxC X N' scope s H ex) elt te)
  (hs:∀x,foldedSetIterable iter X.env x=pure x:=by intro _;rfl):PS X (.Assign [.Name y py] (.ListComp elt [⟨tg,iter,ifs,0⟩] scope pos) spos) (Kv_ (Jw_ ix wi g tt te) (Hu_ i)):=by
 intro pins s σ H D I h;rw[exec_Assign_Name_used _ _ _ _ hsw];show Ac_ (DT_ (Ac_ ?_));change wpAny _ X.A (do let _ <-comprehension (.ListComp elt [⟨tg,iter,ifs,0⟩] scope pos) scope X.env _ (newList []) false (eval iter X.env) (some (assign (.Name y py) X.env))) _ _ s
 show Ac_ (Bu_ (Ea_ (use:=some (assign (.Name y py) X.env)) (Q:=λ_ s'=>SP X pins D .next s') rfl hs (jc_ λp hp e=>I.ok.has p.1 (S.free p hp e)) S.kind S.names
  (kx_ (C:=λX=>X.calm=true) (λ_ _ _=>hc) hxe S hi.c hg ht he I h λL C H' s' K1 F ⟨m,hn⟩ q=>?_)) (λ_ s' hq=>Aj_ (Aj_ hq)) λ_ _ e=>e)
 change wpAny _ X.A (assign (.Name y py) X.env (.ref L)) _ _ _;obtain⟨g0,g1,g2,g3,g4,g5⟩:=F;show wpAny_assign_Name (kg_ K1 hN hy (.inl hl) (v:=.ref L) rfl (λs2 I2 ⟨a,sb,ha⟩=>?_) (.inr hl))
 have hCa:C≠a:=by
  rcases ha with rfl|ha
  .show g1
  .show λz=>g4 _ _ ha z.symm
 show⟨m,hn.sameBut sb hCa,λh' sb'=>?_⟩;show⟨_,H',I2.turned (t':=s2.toks) (λb o hb e=>sb'.extBut b o hb e) g0 g1 g3 g4 g5,q⟩
end
def Hv_(psc:Scope)(PN N':List Str)(ix:List (Option Nat))(scope:Scope):Bool :=
 scope.kind == .function &&
 scope.names.all (λx=>x.2 != .local ||scope.names.lookup x.1 == some .local) &&
 scope.names.all (λx=>x.2 != .free ||scope.names.lookup x.1 == some .free) &&
 scope.names.all (λx=>x.2 != .cell || !scope.names.contains (x.1,NameKind.free)) &&
 scope.names.all (λx=>x.2 != .free ||(psc.names.lookup x.1 == some .cell ||psc.names.lookup x.1 == some .free)) &&
 ix.length == N'.length &&
 (List.range N'.length).all (λj=>match ix[j]?,N'[j]? with|some (some i),some x=>PN[i]? == some x && scope.names.contains (x,NameKind.free)|_,_=>true)
theorem cw_{psc:Scope}{PN:List Str}(h:Hv_ psc PN N' ix scope=true):Scp psc PN N' ix scope:=by
 unfold Hv_ at h;simp only[BM_,List.all_eq_true,E2_,Bool.or_eq_true,E3_,ne_eq,Di_,Bool.not_eq_true',A3_]at h;obtain⟨⟨⟨⟨⟨⟨h1,h2⟩,h3⟩,h4⟩,h5⟩,h6⟩,h7⟩:=h;show⟨h1,λx hx e=>(h2 x hx).resolve_left λz=>z e,λx hx e=>(h3 x hx).resolve_left λz=>z e,λx hx e hm=>?_,λx hx e=>(h5 x hx).resolve_left λz=>z e,h6,λj i x e1 e2=>?_⟩
 .have:=(h4 x hx).resolve_left λz=>z e;rw[Di_.mpr hm]at this;cases this
 .have hj:j<N'.length:=(Ae_.mp e1).1;have:=h7 j hj;rw[e1,e2]at this;simp only[BM_,E2_,Di_]at this;show this
variable {x:Str}{pos:Pos}{i:Nat}{e:Expr}{te:TE}
theorem pvc(i:Nat)(hN:X.N[i]?=some x:=by rfl) (hv:X.env.scope.names.lookup x=some .cell:=by rfl) (hd:(x == ("__debug__" : Str))=false:=by decide) (hcd:(x == ("__classdict__" : Str))=false:=by decide):PE X (.Name x pos) (Jx_ i):=nE_ hN (.inr (.inl hv)) hd hcd
theorem jG_{pos':Pos}(hN:X.N.Nodup)(hi:X.N[i]?=some x)(hx:X.env.scope.names.lookup x=some .cell)(hf:X.fn x=true)(he:PE X e te)(hs:swapsWith e (some (.Name x pos')) pos.line X.env=pure false):PS X (.Assign [.Name x pos'] e pos) (Kv_ te (Hu_ i)):=
 pZ_ hN hi (.inr hx) he hs (.inl hf)
theorem d9_(hN:X.N.Nodup)(hi:X.N[i]?=some x)(hx:X.env.scope.names.lookup x=some .cell)(hf:X.fn x=true):PG X (.Name x pos) (Hu_ i):=nG_ hN hi (.inr hx) (.inl hf)
theorem aL_{tg l:Expr}{tl:TE}(hK:X.K=K)(hl:PE X l tl):PI X tg l (Ki_ K tl):=hK▸qv_ hl
theorem lv_{tg l:Expr}{tl:TE}(hK:X.K=K)(hl:PE X l tl):PI X tg l (Lu_ K tl):=hK▸rt_ hl
theorem pq_(hK:X.K=K):IxR X (Mg_ K):=hK▸nU_
inductive Dt where
 |non|bl (b:Bool)|int (i:Int)|str (x:Str)|tup (xs:List Dt)|lst (xs:List Dt)
mutual
def Rep(H:Hp):V->Dt->Prop
 |v,.non=>v=.non
 |v,.bl b=>v=.bl b
 |v,.int i=>v=.int i
 |v,.str x=>v=.str x
 |v,.tup ds=>∃p xs,v=.ref p/\H p=some (.tup xs)/\Gd_ H xs ds
 |v,.lst ds=>∃p xs,v=.ref p/\H p=some (.lst xs)/\Gd_ H xs ds
def Gd_(H:Hp):List V->List Dt->Prop
 |xs,[]=>xs=[]
 |xs,d::ds=>∃x r,xs=x::r/\Rep H x d/\Gd_ H r ds
end
mutual
theorem Rep.mono{H H':Hp}(e:FA_ H H'):∀{v:V}(d:Dt),Rep H v d->Rep H' v d
 |v,.non,h=>h
 |v,.bl b,h=>h
 |v,.int i,h=>h
 |v,.str x,h=>h
 |v,.tup ds,⟨p,xs,h1,h2,h3⟩=>⟨p,xs,h1,e _ _ h2,Gd_.mono e ds h3⟩
 |v,.lst ds,⟨p,xs,h1,h2,h3⟩=>⟨p,xs,h1,e _ _ h2,Gd_.mono e ds h3⟩
theorem Gd_.mono{H H':Hp}(e:FA_ H H'):∀{xs:List V}(ds:List Dt),Gd_ H xs ds->Gd_ H' xs ds
 |xs,[],h=>h
 |xs,d::ds,⟨x,r,h1,h2,h3⟩=>⟨x,r,h1,Rep.mono e d h2,Gd_.mono e ds h3⟩
end
mutual
theorem Rep.inj{H:Hp}:∀{v:V}(d e:Dt),Rep H v d->Rep H v e->d=e
 |v,.non,e,h,h'=>by
  cases h;cases e <;> first|rfl|(simp[Rep]at h')
 |v,.bl b,e,h,h'=>by
  cases h;cases e <;> simp[Rep]at h' <;> simp[h']
 |v,.int i,e,h,h'=>by
  cases h;cases e <;> simp[Rep]at h' <;> simp[h']
 |v,.str x,e,h,h'=>by
  cases h;cases e <;> simp[Rep]at h' <;> simp[h']
 |v,.tup ds,e,⟨p,xs,h1,h2,h3⟩,h'=>by
  subst h1;cases e with
  |tup es =>
   obtain⟨p',xs',g1,g2,g3⟩:=h';cases g1;rw[h2]at g2;cases g2;rw[Gd_.inj ds es h3 g3]
  |lst es =>
   obtain⟨p',xs',g1,g2,g3⟩:=h';cases g1;rw[h2]at g2;cases g2
  |_=>simp[Rep]at h'
 |v,.lst ds,e,⟨p,xs,h1,h2,h3⟩,h'=>by
  subst h1;cases e with
  |tup es =>
   obtain⟨p',xs',g1,g2,g3⟩:=h';cases g1;rw[h2]at g2;cases g2
  |lst es =>
   obtain⟨p',xs',g1,g2,g3⟩:=h';cases g1;rw[h2]at g2;cases g2;rw[Gd_.inj ds es h3 g3]
  |_=>simp[Rep]at h'
theorem Gd_.inj{H:Hp}:∀{xs:List V}(ds es:List Dt),Gd_ H xs ds->Gd_ H xs es->ds=es
 |xs,[],es,h,h'=>by
  cases h;cases es with
  |nil=>rfl
  |cons e es=>obtain⟨x,r,g,_⟩:=h';cases g
 |xs,d::ds,es,⟨x,r,h1,h2,h3⟩,h'=>by
  subst h1;cases es with
  |nil=>cases h'
  |cons e es =>obtain⟨x',r',g1,g2,g3⟩:=h';cases g1;rw[Rep.inj d e h2 g2,Gd_.inj ds es h3 g3]
end
theorem Gd_.length{H:Hp}:∀{xs:List V}{ds:List Dt},Gd_ H xs ds->xs.length=ds.length
 |xs,[],h=>by cases h;rfl
 |xs,d::ds,⟨x,r,h1,h2,h3⟩=>by subst h1;simp[Gd_.length h3]
theorem Gd_.get{H:Hp}:∀{xs:List V}{ds:List Dt}{i:Nat}{d:Dt},Gd_ H xs ds->ds[i]?=some d->∃x,xs[i]?=some x/\Rep H x d
 |xs,[],i,d,h,e=>by simp at e
 |xs,d'::ds,0,d,⟨x,r,h1,h2,h3⟩,e=>by
  subst h1;simp at e;subst e;show⟨x,rfl,h2⟩
 |xs,d'::ds,i+1,d,⟨x,r,h1,h2,h3⟩,e=>by subst h1;obtain⟨y,hy,hr⟩:=Gd_.get (i:=i) (d:=d) h3 (by simpa using e);show⟨y,by simpa using hy,hr⟩
theorem Gd_.append{H:Hp}:∀{xs:List V}{ds:List Dt}{ys:List V}{es:List Dt},Gd_ H xs ds->Gd_ H ys es->Gd_ H (xs++ys) (ds++es)
 |xs,[],ys,es,h,g=>by cases h;show g
 |xs,d::ds,ys,es,⟨x,r,h1,h2,h3⟩,g=>by subst h1;show⟨x,r++ys,rfl,h2,Gd_.append h3 g⟩
mutual
def deq:Dt->Dt->Option Bool
 | .non,.non=>some true
 | .bl a,.bl b=>some (a == b)
 | .int a,.int b=>some (a == b)
 | .str a,.str b=>some (a == b)
 | .tup xs,.tup ys=>deqs xs ys
 | .lst xs,.lst ys=>if xs.length=ys.length then deqs xs ys else some false
 |_,_=>none
def deqs:List Dt->List Dt->Option Bool
 |[],[]=>some true
 |x::xs,y::ys=>match deq x y,deqs xs ys with
  |some a,some b=>some (a && b)
  |_,_=>none
 |_,_=>some false
end
mutual
def dep:Dt->Nat
 | .tup ds=>deps ds+1
 | .lst ds=>deps ds+1
 |_=>0
def deps:List Dt->Nat
 |[]=>0
 |d::ds=>max (dep d) (deps ds)
end
def eAt(ds es:List Dt)(j:Nat):Bool:=match ds[j]?,es[j]? with
 |some d,some e=>(deq d e).getD false
 |_,_=>false
theorem cd_:∀(ds es:List Dt)(b:Bool),deqs ds es=some b->((List.range (min ds.length es.length)).all (eAt ds es) && ds.length == es.length)=b
 |[],[],b,h=>by cases h;rfl
 |[],_::_,b,h=>by cases h;simp
 |_::_,[],b,h=>by cases h;simp
 |d::ds,e::es,b,h=>by
  rw[deqs]at h;cases h1:deq d e with
  |none=>rw[h1]at h;cases h
  |some a =>
   cases h2:deqs ds es with
   |none=>rw[h1,h2]at h;cases h
   |some c =>
    rw[h1,h2]at h;cases h;rw[<-cd_ ds es c h2];simp only[A4_,Nat.succ_min_succ,List.range_succ_eq_map,Fb_,List.all_map,Bool.and_assoc];congr 1
    .simp[eAt,h1]
    .congr 1;simp
mutual
theorem jH_:∀(d:Dt)(b:Bool),deq d d=some b->b=true
 | .non,b,h=>by cases h;rfl
 | .bl a,b,h=>by simp[deq]at h;show h
 | .int a,b,h=>by simp[deq]at h;show h
 | .str a,b,h=>by simp[deq]at h;show h
 | .tup xs,b,h=>ik_ xs b h
 | .lst xs,b,h=>by rw[deq,if_pos rfl]at h;show ik_ xs b h
theorem ik_:∀(ds:List Dt)(b:Bool),deqs ds ds=some b->b=true
 |[],b,h=>by cases h;rfl
 |d::ds,b,h=>by
  rw[deqs]at h;cases h1:deq d d with
  |none=>rw[h1]at h;cases h
  |some a =>
   cases h2:deqs ds ds with
   |none=>rw[h1,h2]at h;cases h
   |some c =>rw[h1,h2]at h;cases h;rw[jH_ d a h1,ik_ ds c h2];rfl
end
def Vw(K:PySem.W.Frag)(H J:Hp):Prop:=(∀q xs,J q=some (.tup xs)->SqT K H q xs)/\∀q xs,J q=some (.lst xs)->SqL K H q xs
theorem Vw.refl:Vw K H H:=⟨λ_ _ h=>.inl (.inl h),λ_ _ h=>.inl (.inl h)⟩
mutual
theorem mn_(I:Inv X pins σ H s){J:Hp}(hJ:Vw X.K H J):∀(d e:Dt){A:Around}{x y:V}{u v:Value}{b:Bool},Rep J x d->Rep J y e->Ga_ x u->Ga_ y v->deq d e=some b->A.units+dep d<cLine->SeqAt.EqAt A s u v b
 | .non,e,A,x,y,u,v,b,hx,hy,rx,ry,hb,hu=>by
  cases e <;> first|(cases hb;cases hx;cases hy;cases rx;cases ry;show Dp_ _)|(simp[deq]at hb)
 | .bl a,e,A,x,y,u,v,b,hx,hy,rx,ry,hb,hu=>by
  cases e <;> first|(cases hb;cases hx;cases hy;cases rx;cases ry;show E1_ _ _)|(simp[deq]at hb)
 | .int a,e,A,x,y,u,v,b,hx,hy,rx,ry,hb,hu=>by
  cases e <;> first|(cases hb;cases hx;cases hy;obtain⟨t,rfl⟩:=rx;obtain⟨t',rfl⟩:=ry;show SeqAt.EqAt.int_int _ _ _ _)|(simp[deq]at hb)
 | .str a,e,A,x,y,u,v,b,hx,hy,rx,ry,hb,hu=>by
  cases e <;> first|(cases hb;cases hx;cases hy;obtain⟨t,rfl⟩:=rx;obtain⟨t',rfl⟩:=ry;show DM_ _ _ _ _)|(simp[deq]at hb)
 | .tup ds,e,A,x,y,u,v,b,hx,hy,rx,ry,hb,hu=>by
  cases e with
  |tup es =>
   obtain⟨p,xs,e1,hp,hr⟩:=id hx;obtain⟨q,ys,e2,hq,hs⟩:=id hy;subst e1 e2;cases rx;cases ry;by_cases hpq:p=q
   .subst hpq;have:=Rep.inj _ _ hx hy;cases this;rw[jH_ _ b hb];show Dp_ _
   .obtain⟨its,r1,pl1,_⟩:=I.tuple (hJ.1 _ _ hp);obtain⟨its',r2,pl2,_⟩:=I.tuple (hJ.1 _ _ hq);have l1:=r1.length;have l2:=r2.length;have g1:=hr.length;have g2:=hs.length;have hu':A.in1.units+deps ds<cLine:=by have:A.units+(deps ds+1)<cLine:=hu;rw[A0_];lia
    have hb':deqs ds es=some b:=hb;rw[<-cd_ ds es b hb'];have:=SeqAt.RcAt.tuples (e:=eAt ds es) (A:=A) (s:=s) pl1 pl2 (BN_ (Bt_ _ _) hu) (λj h1 h2=>by have:=fA_ I hJ ds es hr hs r1 r2 hb' hu' j (by simpa using h1) (by simpa using h2);simpa using this);simp only[At_,<-l1,<-l2,g1,g2]at this;show DN_ hpq this
  |_=>simp[deq]at hb
 | .lst ds,e,A,x,y,u,v,b,hx,hy,rx,ry,hb,hu=>by
  cases e with
  |lst es =>
   obtain⟨p,xs,e1,hp,hr⟩:=id hx;obtain⟨q,ys,e2,hq,hs⟩:=id hy;subst e1 e2;cases rx;cases ry;by_cases hpq:p=q
   .subst hpq;have:=Rep.inj _ _ hx hy;cases this;rw[jH_ _ b hb];show Dp_ _
   .obtain⟨its,r1,pl1,_⟩:=I.list (hJ.2 _ _ hp);obtain⟨its',r2,pl2,_⟩:=I.list (hJ.2 _ _ hq);have l1:=r1.length;have l2:=r2.length;have g1:=hr.length;have g2:=hs.length;have hu0:A.units<cLine:=BN_ (Bt_ _ _) hu;have hu':A.in1.units+deps ds<cLine:=by have:A.units+(deps ds+1)<cLine:=hu;rw[A0_];lia
    rw[deq]at hb;by_cases hl:ds.length=es.length
    .rw[if_pos hl]at hb;rw[<-cd_ ds es b hb];have:=SeqAt.RcAt.lists (e:=eAt ds es) (A:=A) (s:=s) pl1.isList pl2.isList (by simp only[At_];lia) hu0 (λj h1 h2=>by have:=fA_ I hJ ds es hr hs r1 r2 hb hu' j (by simpa using h1) (by simpa using h2);simpa using this);simp only[At_,<-l1,g1]at this;show DN_ hpq ?_;have e3:min ds.length es.length=ds.length:=o_
     rw[e3,hl];simpa[hl]using this
    .rw[if_neg hl]at hb;cases hb;show DN_ hpq (SeqAt.RcAt.lists_lengths pl1.isList pl2.isList (by simp only[At_,E3_,ne_eq];lia) hu0)
  |_=>simp[deq]at hb
theorem fA_(I:Inv X pins σ H s){J:Hp}(hJ:Vw X.K H J):∀(ds es:List Dt){A:Around}{xs ys:List V}{us vs:List Value}{b:Bool},Gd_ J xs ds->Gd_ J ys es->F4_ xs us->F4_ ys vs->deqs ds es=some b->A.units+deps ds<cLine ->
  ∀(j:Nat)(h1:j<us.length)(h2:j<vs.length),SeqAt.EqAt A s us[j] vs[j] (eAt ds es j)
 |[],es,A,xs,ys,us,vs,b,hx,hy,rx,ry,hb,hu,j,h1,h2=>by
  cases hx;cases rx;show absurd h1 (Bh_ _)
 |d::ds,es,A,xs,ys,us,vs,b,⟨x,r,e1,hd,hr⟩,hy,rx,ry,hb,hu,j,h1,h2=>by
  subst e1;cases es with
  |nil =>
   cases hy;cases ry;show absurd h2 (Bh_ _)
  |cons e es =>
   obtain⟨y,r',e2,he,hs⟩:=hy;subst e2;cases rx with
   |cons rx rxs =>
    cases ry with
    |cons ry rys =>
     rw[deqs]at hb;cases g1:deq d e with
     |none=>rw[g1]at hb;cases hb
     |some a =>
      cases g2:deqs ds es with
      |none=>rw[g1,g2]at hb;cases hb
      |some c =>
       have hm:A.units+max (dep d) (deps ds)<cLine:=hu;cases j with
       |zero =>
        have:=mn_ I hJ d e (A:=A) hd he rx ry g1 o_;simpa[eAt,g1]using this
       |succ j =>have:=fA_ I hJ ds es (A:=A) hr hs rxs rys g2 o_ j (by simpa using h1) (by simpa using h2);simpa[eAt]using this
end
def Md_(K:PySem.W.Frag):R2:=λx y H Q=>∃J p q d e b,Vw K H J/\x=.ref p/\y=.ref q/\Rep J x d/\Rep J y e/\deq d e=some b/\dep d<=60/\Q (.bl b) H
theorem rE_(hK:X.K=K)(hu:X.A.units+64<cLine):OpR X (compareOp .Eq) (Md_ K):=by
 subst hK;intro pins s σ H x y v u Q I rx ry h;obtain⟨J,p,q,d,e,b,hJ,e1,e2,hx,hy,hb,hd,k⟩:=h;subst e1 e2;cases rx;cases ry;have fin:EP X pins σ Q (.bool b) s:=⟨.bl b,H,I,rfl,k⟩;cases d with
 |tup ds =>
  cases e with
  |tup es =>
   obtain⟨_,xs,z,hp,hr⟩:=hx;cases z;obtain⟨_,ys,z,hq,hs⟩:=hy;cases z;obtain⟨its,r1,pl1,_⟩:=I.tuple (hJ.1 _ _ hp);obtain⟨its',r2,pl2,_⟩:=I.tuple (hJ.1 _ _ hq);have l1:=r1.length;have l2:=r2.length;have g1:=hr.length;have g2:=hs.length;have hd':deps ds+1<=60:=hd;have hu':X.A.in1.units+deps ds<cLine:=by rw[A0_];lia
   have hb':deqs ds es=some b:=hb;show SeqAt.eq_tupleAt (e:=eAt ds es) pl1 pl2 o_ (λj h1 h2=>by have:=fA_ I hJ ds es hr hs r1 r2 hb' hu' j (by simpa using h1) (by simpa using h2);simpa using this) ?_;simp only[At_,<-l1,<-l2,g1,g2];rw[cd_ ds es b hb'];show fin
  |_=>simp[deq]at hb
 |lst ds =>
  cases e with
  |lst es =>
   obtain⟨_,xs,z,hp,hr⟩:=hx;cases z;obtain⟨_,ys,z,hq,hs⟩:=hy;cases z;obtain⟨its,r1,pl1,_⟩:=I.list (hJ.2 _ _ hp);obtain⟨its',r2,pl2,_⟩:=I.list (hJ.2 _ _ hq);have l1:=r1.length;have l2:=r2.length;have g1:=hr.length;have g2:=hs.length;have hd':deps ds+1<=60:=hd;have hu':X.A.in1.units+deps ds<cLine:=by rw[A0_];lia
   rw[deq]at hb;by_cases hl:ds.length=es.length
   .rw[if_pos hl]at hb;show SeqAt.eq_listAt (e:=eAt ds es) pl1.isList pl2.isList (by simp only[At_];lia) o_ (λj h1 h2=>by have:=fA_ I hJ ds es hr hs r1 r2 hb hu' j (by simpa using h1) (by simpa using h2);simpa using this) ?_;have e3:=cd_ ds es b hb;have e4:min ds.length es.length=ds.length:=o_
    rw[e4,hl]at e3;simp only[Eb_,Bool.and_true]at e3;simp only[At_,<-l1,g1,hl,e3];show fin
   .rw[if_neg hl]at hb;cases hb;show SeqAt.eq_list_lengthsAt pl1.isList pl2.isList (by simp only[At_,E3_,ne_eq];lia) o_ fin
  |_=>simp[deq]at hb
 |_=>simp[Rep]at hx
def Ml_:R2:=λx y H Q=>∃p q d e b,x=.ref p/\y=.ref q/\Rep H x d/\Rep H y e/\deq d e=some b/\dep d<=60/\Q (.bl b) H
theorem n1_(hu:X.A.units+64<cLine):OpR X (compareOp .Eq) Ml_:=λpins s σ H x y v u Q I rx ry ⟨p,q,d,e,b,h⟩=>rE_ rfl hu pins s σ H x y v u Q I rx ry ⟨H,p,q,d,e,b,Vw.refl,h⟩
def LZ_(K:PySem.W.Frag):R2:=λx y H Q=>∃J p q d e b,Vw K H J/\x=.ref p/\y=.ref q/\Rep J x d/\Rep J y e/\deq d e=some b/\dep d<=60/\Q (.bl (!b)) H
theorem rF_(hK:X.K=K)(hu:X.A.units+64<cLine):OpR X (compareOp .NotEq) (LZ_ K):=by
 subst hK;intro pins s σ H x y v u Q I rx ry h;obtain⟨J,p,q,d,e,b,hJ,e1,e2,hx,hy,hb,hd,k⟩:=h;subst e1 e2;cases rx;cases ry;have fin:EP X pins σ Q (.bool (!b)) s:=⟨.bl (!b),H,I,rfl,k⟩;cases d with
 |tup ds =>
  cases e with
  |tup es =>
   obtain⟨_,xs,z,hp,hr⟩:=hx;cases z;obtain⟨_,ys,z,hq,hs⟩:=hy;cases z;obtain⟨its,r1,pl1,_⟩:=I.tuple (hJ.1 _ _ hp);obtain⟨its',r2,pl2,_⟩:=I.tuple (hJ.1 _ _ hq);have l1:=r1.length;have l2:=r2.length;have g1:=hr.length;have g2:=hs.length;have hd':deps ds+1<=60:=hd;have hu':X.A.in1.units+deps ds<cLine:=by rw[A0_];lia
   have hb':deqs ds es=some b:=hb;show SeqAt.RcNeAt.tuples (e:=eAt ds es) pl1 pl2 o_ (λj h1 h2=>by have:=fA_ I hJ ds es hr hs r1 r2 hb' hu' j (by simpa using h1) (by simpa using h2);simpa using this) _ _ _ _ ?_;simp only[At_,<-l1,<-l2,g1,g2];rw[cd_ ds es b hb'];show fin
  |_=>simp[deq]at hb
 |lst ds =>
  cases e with
  |lst es =>
   obtain⟨_,xs,z,hp,hr⟩:=hx;cases z;obtain⟨_,ys,z,hq,hs⟩:=hy;cases z;obtain⟨its,r1,pl1,_⟩:=I.list (hJ.2 _ _ hp);obtain⟨its',r2,pl2,_⟩:=I.list (hJ.2 _ _ hq);have l1:=r1.length;have l2:=r2.length;have g1:=hr.length;have g2:=hs.length;have hd':deps ds+1<=60:=hd;have hu':X.A.in1.units+deps ds<cLine:=by rw[A0_];lia
   rw[deq]at hb;by_cases hl:ds.length=es.length
   .rw[if_pos hl]at hb;show SeqAt.RcNeAt.lists (e:=eAt ds es) pl1.isList pl2.isList (by simp only[At_];lia) o_ (λj h1 h2=>by have:=fA_ I hJ ds es hr hs r1 r2 hb hu' j (by simpa using h1) (by simpa using h2);simpa using this) _ _ _ _ ?_;have e3:=cd_ ds es b hb;have e4:min ds.length es.length=ds.length:=o_
    rw[e4,hl]at e3;simp only[Eb_,Bool.and_true]at e3;simp only[At_,<-l1,g1,hl,e3];show fin
   .rw[if_neg hl]at hb;cases hb;show SeqAt.RcNeAt.lists_lengths pl1.isList pl2.isList (by simp only[At_,E3_,ne_eq];lia) o_ _ _ _ _ fin
  |_=>simp[deq]at hb
 |_=>simp[Rep]at hx
def L0_:R2:=λx y H Q=>∃p q d e b,x=.ref p/\y=.ref q/\Rep H x d/\Rep H y e/\deq d e=some b/\dep d<=60/\Q (.bl (!b)) H
theorem mo_(hu:X.A.units+64<cLine):OpR X (compareOp .NotEq) L0_:=λpins s σ H x y v u Q I rx ry ⟨p,q,d,e,b,h⟩=>rF_ rfl hu pins s σ H x y v u Q I rx ry ⟨H,p,q,d,e,b,Vw.refl,h⟩
variable {h':Heap}
theorem Inv.turnedL{t':Nat}{ch:List Addr}(I:Inv X pins σ H s)(k:∀b o,b∉ch->s.heap.get? b=some o->h'.get? b=some o)(hf:∀b∈ch,H2_ X pins H b):Inv X pins σ H {s with heap:=h',toks:=t'}:=by
 have nit:∀b u,H b=some u->b∉ch:=λb u e z=>by rw[(hf b z).1]at e;cases e
 show I.step (g':=s.gens) (d':=s.drawn) (ch:=ch) (λb hb=>?_) (λb o _ _ hc e _=>k b o hc e) (λb o _ _ hc e _=>⟨o.slots,k b o hc e⟩) (λ_ _ _ _ n=>n)
  (λb o hc e=>⟨o,k b o hc e⟩) (λ_ _ e=>e) (λ_ _ _ e=>e) (λb ps e=>⟨#[],by rw[e];simp⟩) (λm hm=>?_) (λb u e=>?_) I.bare
 .obtain⟨g0,g1,g2,g3,g4,g5⟩:=hf b hb;show⟨g3,g1,g4,g5⟩
 .obtain⟨o,es,ep,ho,r⟩:=hm;show⟨o,es,ep,k _ o (λz=>(hf _ z).2.1 rfl) ho,r⟩
 .show(I.hok b u e).stay (λc v hc q=>k c v ?_ q) (λ_ q=>q) λ_ _ q=>q
  rcases hc with z|z
  .rw[z];show nit b u e
  .show nit c _ z
variable {elts:List Expr}{kt:Nat}{tpos:Pos}
def J4_:List V->Hp->VK->Prop:=λxs H Q=>∃p ys,xs=[V.ref p]/\(H p=some (.lst ys)\/H p=some (.tup ys))/\∀l,H l=none->Q (.ref l) (upd H l (.lst ys))
theorem dQ_:GF_ X (.type "list") J4_:=by intro pins s σ H xs us Q I r h;obtain⟨p,ys,e,hp,q⟩:=h;show kp_ pins s σ H xs us Q I r ⟨p,ys,e,hp.imp (λz=>.inl (.inl z)) (λz=>.inl (.inl z)),q⟩
theorem cl_{es:List Expr}{t:TA}{p:Pos}{n:String}{r:List V->Hp->VK->Prop}(hc:GF_ X (.type n) r)(hg:Gl X x)(hm:X.mg x=none)(hv:bootBuiltins x=some (.type n))(ha:PA X (e::es) t)(hs:FL_ (e::es)=true:=by rfl) (hn:x ≠ "__name__" := by decide) (hdb:(x == ("__debug__" : Str))=false:=by decide):
  PE X (.Call (.Name x p) (e::es) [] pos) (tCB r t):=
 have h':Gu_ e=true/\FL_ es=true:=by simpa[FL_]using hs
 nR_ hc hg hm hv ha hn hdb (ap_ h'.1) (bT_ h'.2)
def HE_(B H:Hp):Hp:=λb=>match B b with|some _=>none|none=>H b
def Iw_(B:Hp)(D:Addr)(H:Hp):Hp:=λb=>if b=D then none else HE_ B H b
variable{B:Hp}{b:Addr}
theorem bw_(h:HE_ B H b=some o):B b=none/\H b=some o:=by
 unfold HE_ at h;cases e:B b with
 |some z=>rw[e]at h;cases h
 |none=>rw[e]at h;show⟨rfl,h⟩
theorem ea_(h:B b=none):HE_ B H b=H b:=by unfold HE_;rw[h]
theorem n2_{D:Addr}(h:Iw_ B D H b=some o):b≠D/\B b=none/\H b=some o:=by
 unfold Iw_ at h;by_cases e:b=D
 .rw[if_pos e]at h;cases h
 .rw[if_neg e]at h;show⟨e,bw_ h⟩
theorem eb_{D:Addr}(e:b≠D)(h:B b=none):Iw_ B D H b=H b:=by unfold Iw_;rw[if_neg e,ea_ h]
theorem f9_:FA_ (HE_ B H) H:=λb o h=>(bw_ h).2
theorem mp_{D:Addr}:FA_ (Iw_ B D H) (HE_ B H):=λb o h=>by obtain⟨h1,h2,h3⟩:=n2_ h;rw[ea_ h2];show h3
theorem ky_{D:Addr}(e:FA_ H H'):FA_ (Iw_ B D H) (Iw_ B D H'):=λb o h=>by obtain⟨h1,h2,h3⟩:=n2_ h;rw[eb_ h1 h2];show e _ _ h3
theorem kz_(e:FA_ H H'):FA_ (HE_ B H) (HE_ B H'):=λb o h=>by obtain⟨h1,h2⟩:=bw_ h;rw[ea_ h1];show e _ _ h2
theorem mq_{D:Addr}:Iw_ B D (upd H D o)=Iw_ B D H:=by
 funext b;unfold Iw_ HE_;by_cases e:b=D
 .rw[if_pos e,if_pos e]
 .rw[if_neg e,if_neg e,af_ e]
theorem ec_{J:It}{g:TG}{te:TE}{σ:St}{H:Hp}{Q:VK}(n:Nat)(B:Hp)(Pσ:St->Prop)(ds:List Dt)(hB:FA_ B H)(h0:Pσ σ)(hlen:ds.length=n)(hz:n<=1000)
  (hgo:∀i H',i<n->FA_ H H'->J.go i H') (hst:∀H',FA_ H H'->J.stop n H')
  (hs:∀D i x d σ' H' H'',H D=none->(∃o,H' D=some o)->FA_ H H'->i<n->ds[i]?=some d->J.yld i H' x H''->Pσ σ'->∀R:St->V->Hp->Prop,
   (∀σ2 v H3,Pσ σ2->FA_ H' H3->Rep (Iw_ B D H3) v d->R σ2 v H3)->g x σ' H'' λσ2 H2=>te σ2 H2 λv H3=>R σ2 v H3)
  (hd:∀D H',H D=none->FA_ H H'->Rep (HE_ B H') (.ref D) (.lst ds)->Q (.ref D) H'):HQ_ J g KJ_ te σ H Q:=by
 intro D hD;have hBD:B D=none:=hB.free hD;show⟨λi m σ' H'=>m=n-i/\i<=n/\Pσ σ'/\FA_ H H'/\∃ys,H' D=some (.lst ys)/\Gd_ (Iw_ B D H') ys (ds.take i)/\ys.length=i,⟨n,s_,Az_ _,h0,FA_.new hD,[],aa_,rfl,rfl⟩,?_⟩;rintro i m σ' H' ⟨rfl,hi,hp,hs',ys,hys,hr,hl⟩;by_cases hlt:i<n
 .show .inr ⟨hgo i H' hlt hs',λσ2 H2=>Pσ σ2/\FA_ H H2/\∃ys,H2 D=some (.lst ys)/\Gd_ (Iw_ B D H2) ys (ds.take (i+1))/\ys.length=i+1,λσ2 H2 ⟨a,b,c⟩=>⟨n-(i+1),o_,rfl,hlt,a,b,c⟩,λx H'' hy=>?_⟩;have hdi:ds[i]?=some ds[i]:=by simp[hlen,hlt]
  simp only[KJ_,if_true];show hs D i x ds[i] σ' H' H'' hD ⟨_,hys⟩ hs' hlt hdi hy hp _ λσ2 v H3 hp2 s3 hv=>?_;show⟨ys,s3 _ _ hys,by rw[hl];show FB_ o_,hp2,(hs'.trans s3).upd hD,ys++[v],aa_,?_,by simp[hl]⟩;rw[mq_];have e:ds.take (i+1)=ds.take i++[ds[i]]:=by rw[BJ_,hdi];rfl
  rw[e];show(Gd_.mono (ky_ s3) _ hr).append ⟨v,[],rfl,hv,rfl⟩
 .have e:i=n:=o_
  subst e;show .inl ⟨hst H' hs',hd D H' hD hs' ⟨D,ys,rfl,?_,?_⟩⟩
  .rw[ea_ hBD];show hys
  .rw[Bp_ o_]at hr;show Gd_.mono mp_ _ hr
theorem Gd_.of_get{xs:List V}{ds:List Dt}{x:V}(h:Gd_ H xs ds)(e:xs[i]?=some x):∃d,ds[i]?=some d/\Rep H x d:=by
 have hi:i<xs.length:=(Ae_.mp e).1;have hi':i<ds.length:=by rw[<-h.length];show hi
 obtain⟨y,hy,hr⟩:=h.get (i:=i) (d:=ds[i]) (by simp[hi']);rw[e]at hy;cases hy;show⟨ds[i],by simp[hi'],hr⟩
theorem aU_{X:Cx}{K:PySem.W.Frag}{es:List Expr}{k:Nat}{t:TGs}{n:Nat}{pos:Pos}(hK:X.K=K)(hc:X.calm=true)(h:PGs X es t)
  (hn:(assignEach es X.env).length=n:=by rfl) (hst:(assignEach es X.env).findIdx? (·.1)=none:=by rfl):PG X (.Tuple es k pos) (Lw_ K n t):=hK▸rr_ hc h hn hst
def Pl2(h:Heap)(e:Addr):Prop:=∃o vs,h.get? e=some o/\o.data=.fields vs/\vs[2]?=some .none
variable {M:Model}{E:Value->Shared->Prop}{env:Env}{outer:List Env}{L e:Addr}{Q:Unit->Shared->Prop}
variable {N:List Str}{qual:Str}{f:Addr}{cd:Value}{s₀:Shared}{H₀:Hp}{E:XK}
variable {σ:List (Option V)}
def Mo_:V->Option Int->Option Int->Hp->VK->Prop:=λx lo hi H Q=>∃a xs,x=.ref a/\H a=some (.lst xs)/\∀p,H p=none->Q (.ref p) (upd H p (.lst (Hx_ xs lo hi)))
theorem cm_:SlR X Mo_:=by intro pins s σ H x v vl vu lo hi sl Q I rx hs pl pu h;obtain⟨a,xs,e,hx,q⟩:=h;show qy_ pins s σ H x v vl vu lo hi sl Q I rx hs pl pu ⟨a,xs,e,.inl (.inl hx),q⟩
theorem ga_(xs:List V)(k:Nat)(h:k<=xs.length):Hx_ xs (some (k:Int)) none=xs.drop k:=by unfold Hx_;rw[HT.sIx_nat,HT.sIx_none,Ev_ h];show Bp_ s_
theorem kA_(xs:List V)(k:Nat)(h:k<=xs.length):Hx_ xs none (some (k:Int))=xs.take k:=by unfold Hx_;rw[HT.sIx_nat,HT.sIx_none,Ev_ h];simp
theorem jI_{J:It}{g:TG}{tt:TT}{te:TE}{σ:St}{H:Hp}{Q:VK}(n:Nat)(Pσ:St->Prop)(bs:Nat->Bool)(val:Nat->V)(h0:Pσ σ)(hz:n<=1000)(hgo:∀i H',i<n->FA_ H H'->J.go i H')(hst:∀H',FA_ H H'->J.stop n H')
  (hs:∀D i x σ' H' H'',H D=none->(∃o,H' D=some o)->FA_ H H'->i<n->J.yld i H' x H''->Pσ σ'->∀(Y:St->V->Hp->Prop)(R:St->Hp->Prop),(bs i=true->∀σ2 H3,Pσ σ2->FA_ H' H3->Y σ2 (val i) H3)->(bs i=false->∀σ2 H3,Pσ σ2->FA_ H' H3->R σ2 H3) ->
   g x σ' H'' λσ2 H2=>tt σ2 H2 λb H3=>if b=true then te σ2 H3 λv H4=>Y σ2 v H4 else R σ2 H3)
  (hd:∀D H',H D=none->FA_ H H'->H' D=some (.lst (((List.range n).filter bs).map val))->Q (.ref D) H'):HQ_ J g tt te σ H Q:=by
 intro D hD;show⟨λi m σ' H'=>m=n-i/\i<=n/\Pσ σ'/\FA_ H H'/\H' D=some (.lst (((List.range i).filter bs).map val)),⟨n,s_,Az_ _,h0,FA_.new hD,aa_⟩,?_⟩;rintro i m σ' H' ⟨rfl,hi,hp,hs',hDD⟩;by_cases hlt:i<n
 .show .inr ⟨hgo i H' hlt hs',λσ2 H2=>Pσ σ2/\FA_ H H2/\H2 D=some (.lst (((List.range (i+1)).filter bs).map val)),λσ2 H2 ⟨a,b,c⟩=>⟨n-(i+1),o_,rfl,hlt,a,b,c⟩,λx H'' hy=>?_⟩;show hs D i x σ' H' H'' hD ⟨_,hDD⟩ hs' hlt hy hp _ _ (λhb σ2 H3 hp2 s3=>?_) λhb σ2 H3 hp2 s3=>?_
  .show⟨_,s3 _ _ hDD,?_,hp2,(hs'.trans s3).upd hD,?_⟩
   .rw[Ab_];have:=Co_ bs (List.range i);rw[Bn_]at this;show FB_ o_
   .rw[aa_,CA_,BY_,Ao_];simp[hb]
  .show⟨hp2,hs'.trans s3,?_⟩;rw[CA_,BY_,Ao_];have e:[i].filter bs=[]:=by simp[hb]
   rw[e,CO_,By_];show s3 _ _ hDD
 .have e:i=n:=o_
  subst e;show .inl ⟨hst H' hs',hd D H' hD hs' hDD⟩
open PySem.W
def noD(D:Addr)(H:Hp):Hp:=λb=>if b=D then none else H b
theorem kB_{D:Addr}(h:b≠D):noD D H b=H b:=if_neg h
theorem mr_{D:Addr}:FA_ (noD D H) H:=λb o e=>by
 unfold noD at e;split at e
 .cases e
 .show e
theorem n3_{D:Addr}:noD D (upd H D o)=noD D H:=by
 funext b;unfold noD;by_cases h:b=D
 .rw[if_pos h,if_pos h]
 .rw[if_neg h,if_neg h,af_ h]
theorem rG_{D:Addr}(s:FA_ H H')(h:H D=none):FA_ H (noD D H'):=λb o e=>by rw[kB_ (ae_ e h)];show s _ _ e
theorem hS_{D:Addr}(s:FA_ H H'):FA_ (noD D H) (noD D H'):=λb o e=>by
 unfold noD at e⊢;by_cases h:b=D
 .rw[if_pos h]at e;cases e
 .rw[if_neg h]at e⊢;show s _ _ e
theorem eO_{J:It}{g:TG}{tt:TT}{te:TE}{σ:St}{H:Hp}{Q:VK}(n:Nat)(Pσ:St->Prop)(Pv:Nat->List V->Hp->Prop)(h0:Pσ σ)(hz:n<=1000)(p0:Pv 0 [] H)(mono:∀i vs H1 H2,FA_ H1 H2->Pv i vs H1->Pv i vs H2)(len:∀i vs H1,Pv i vs H1->vs.length<=i)
  (hgo:∀i H',i<n->FA_ H H'->J.go i H') (hst:∀H',FA_ H H'->J.stop n H')
  (hs:∀D i x σ' H' H'' vs,H D=none->(∃o,H' D=some o)->FA_ H H'->i<n->J.yld i H' x H''->Pσ σ'->Pv i vs (noD D H')->∀(Y:St->V->Hp->Prop)(R:St->Hp->Prop),(∀v σ2 H3,Pσ σ2->FA_ H' H3->Pv (i+1) (vs++[v]) (noD D H3)->Y σ2 v H3)->(∀σ2 H3,Pσ σ2->FA_ H' H3->Pv (i+1) vs (noD D H3)->R σ2 H3) ->
   g x σ' H'' λσ2 H2=>tt σ2 H2 λb H3=>if b=true then te σ2 H3 λv H4=>Y σ2 v H4 else R σ2 H3)
  (hd:∀D H' vs,H D=none->FA_ H H'->H' D=some (.lst vs)->Pv n vs (noD D H')->Q (.ref D) H'):HQ_ J g tt te σ H Q:=by
 intro D hD;show⟨λi m σ' H'=>m=n-i/\i<=n/\Pσ σ'/\FA_ H H'/\∃vs,H' D=some (.lst vs)/\Pv i vs (noD D H'),⟨n,s_,Az_ _,h0,FA_.new hD,[],aa_,mono _ _ _ _ (by rw[n3_];show rG_ (λ_ _ e=>e) hD) p0⟩,?_⟩;rintro i m σ' H' ⟨rfl,hi,hp,hs',vs,hDD,pv⟩;by_cases hlt:i<n
 .show .inr ⟨hgo i H' hlt hs',λσ2 H2=>Pσ σ2/\FA_ H H2/\∃vs,H2 D=some (.lst vs)/\Pv (i+1) vs (noD D H2),λσ2 H2 ⟨a,b,c⟩=>⟨n-(i+1),o_,rfl,hlt,a,b,c⟩,λx H'' hy=>?_⟩;show hs D i x σ' H' H'' vs hD ⟨_,hDD⟩ hs' hlt hy hp pv _ _ (λv σ2 H3 hp2 s3 pv3=>?_) λσ2 H3 hp2 s3 pv3=>?_
  .show⟨_,s3 _ _ hDD,?_,hp2,(hs'.trans s3).upd hD,_,aa_,by rw[n3_];show pv3⟩;have:=len _ _ _ pv;show FB_ o_
  .show⟨hp2,hs'.trans s3,vs,s3 _ _ hDD,pv3⟩
 .have e:i=n:=o_
  subst e;show .inl ⟨hst H' hs',hd D H' vs hD hs' hDD pv⟩
def grow(S H H':Hp):Hp:=λb=>match H b with|some _=>S b|none=>H' b
variable{S:Hp}
theorem fc_(h:H b=some o):grow S H H' b=S b:=by unfold grow;rw[h]
theorem jJ_(h:H b=none):grow S H H' b=H' b:=by unfold grow;rw[h]
theorem cQ_(s:FA_ S H):FA_ S (grow S H H'):=λb o h=>by rw[fc_ (s _ _ h)];show h
theorem jK_(s:FA_ S H)(t:FA_ H H'):FA_ (grow S H H') H':=λb o h=>by
 unfold grow at h;cases e:H b with
 |some z=>rw[e]at h;show t _ _ (s _ _ h)
 |none=>rw[e]at h;show h
theorem aX_(s:FA_ S H)(h:S a=none):FA_ S (upd H a o):=λb z e=>by rw[af_ (ae_ e h)];show s _ _ e
theorem gb_(s:FA_ S H)(h:H a=none):FA_ (upd S a o) (upd H a o):=λb z e=>by
 by_cases q:b=a
 .subst q;rw[aa_]at e⊢;show e
 .rw[af_ q]at e⊢;show s _ _ e
theorem a4_(s:FA_ S H)(h:H a=none):FA_ S (upd S a o):=FA_.new (s.free h)
section
variable {κ:Type}[DecidableEq κ]
def Gi_(kvs:List (κ×V))(k:κ):Option V:=(kvs.find? λkv=>decide (kv.1=k)).map (·.2)
def Gn_(kvs:List (κ×V))(k:κ)(v:V):List (κ×V):=
 if(kvs.any λkv=>decide (kv.1=k))=true then kvs.map (λkv=>if kv.1=k then(kv.1,v)else kv)else kvs++[(k,v)]
theorem bk_{p:κ×V}{r:List (κ×V)}{k:κ}(e:p.1=k):Gi_ (p::r) k=some p.2:=by simp[Gi_,B4_,e]
theorem a9_{p:κ×V}{r:List (κ×V)}{k:κ}(e:¬ p.1=k):Gi_ (p::r) k=Gi_ r k:=by simp[Gi_,B4_,e]
theorem c8_(k:κ):∀kvs:List (κ×V),(kvs.any λkv=>decide (kv.1=k))=(Gi_ kvs k).isSome
 |[]=>rfl
 |p::r=>by
  rw[Cx_];by_cases e:p.1=k
  .simp only[bk_ e,AZ_ e,Bool.true_or,Option.isSome_some]
  .rw[a9_ e,AP_ e,Bool.false_or];show c8_ k r
theorem ms_(k j:κ)(y:V):∀kvs:List (κ×V),Gi_ (kvs.map λkv=>if kv.1=k then(kv.1,y)else kv) j=(Gi_ kvs j).map λx=>if j=k then y else x
 |[]=>rfl
 |p::r=>by
  have ih:=ms_ k j y r;rw[Ay_];by_cases h:p.1=k
  .rw[if_pos h];by_cases e:p.1=j
   .rw[bk_ (p:=(p.1,y)) e,bk_ e,CB_,if_pos (e.symm.trans h)]
   .rw[a9_ (p:=(p.1,y)) e,a9_ e,ih]
  .rw[if_neg h];by_cases e:p.1=j
   .rw[bk_ (p:=p) e,bk_ e,CB_,if_neg (λz=>h (e.trans z))]
   .rw[a9_ (p:=p) e,a9_ e,ih]
theorem kC_(k j:κ)(y:V):∀kvs:List (κ×V),Gi_ kvs k=none->Gi_ (kvs++[(k,y)]) j=if j=k then some y else Gi_ kvs j
 |[],_=>by
  by_cases e:k=j
  .rw[if_pos e.symm];show bk_ (p:=(k,y)) e
  .rw[if_neg (λz=>e z.symm)];show a9_ (p:=(k,y)) e
 |p::r,hn=>by
  rw[List.cons_append];have hk:¬ p.1=k:=λz=>by rw[bk_ z]at hn;cases hn
  rw[a9_ hk]at hn;have ih:=kC_ k j y r hn;by_cases e:p.1=j
  .rw[bk_ e,bk_ e,if_neg (λz=>hk (e.trans z))]
  .rw[a9_ e,a9_ e,ih]
theorem aA_(kvs:List (κ×V))(k j:κ)(y:V):Gi_ (Gn_ kvs k y) j=if j=k then some y else Gi_ kvs j:=by
 unfold Gn_;by_cases a:(kvs.any λkv=>decide (kv.1=k))=true
 .rw[if_pos a,ms_];rw[c8_]at a;by_cases e:j=k
  .obtain⟨x,hx⟩:=D7_.mp a;rw[if_pos e,e,hx,CB_,if_pos rfl]
  .rw[if_neg e];cases Gi_ kvs j with
   |none=>rfl
   |some x=>rw[CB_,if_neg e]
 .rw[if_neg a];show kC_ k j y kvs ?_;rw[c8_]at a;cases q:Gi_ kvs k with
  |none=>rfl
  |some x=>rw[q]at a;show(a rfl).elim
theorem aJ_(kvs:List (κ×V))(k:κ)(v:V):(Gn_ kvs k v).length<=kvs.length+1:=by
 unfold Gn_;split
 .rw[Ab_];lia
 .rw[Af_,A4_,List.length_nil];lia
theorem pr_{kvs:List (κ×V)}{k:κ}(v:V)(h:Gi_ kvs k=none):Gn_ kvs k v=kvs++[(k,v)]:=by unfold Gn_;rw[c8_,h];show if_neg d_
theorem Iv_.isSome_eq{o:Option V}{u:Option Value}(r:Iv_ o u):o.isSome=u.isSome:=by
 cases o with
 |none=>cases u with
  |none=>rfl
  |some _=>show(show False from r).elim
 |some _=>cases u with
  |none=>show(show False from r).elim
  |some _=>rfl
theorem Iv_.getD{o:Option V}{u:Option Value}{d:V}{d':Value}(r:Iv_ o u)(rd:Ga_ d d'):Ga_ (o.getD d) (u.getD d'):=by
 cases o with
 |none=>cases u with
  |none=>show rd
  |some _=>show(show False from r).elim
 |some _=>cases u with
  |none=>show(show False from r).elim
  |some _=>show r
theorem KV.val{kvs:List (κ×V)}{vs:List (κ×Value)}(r:KV kvs vs)(k:κ):Iv_ (Gi_ kvs k) (valueAt vs k):=by
 unfold KV at r
 induction r with
 |nil=>show True.intro
 | @cons p q ps qs h t ih =>
  obtain⟨h1,h2⟩:=h;by_cases e:p.1=k
  .have e':q.1=k:=h1.symm.trans e;have b:valueAt (q::qs) k=some q.2:=by simp[valueAt,B4_,e']
   rw[bk_ e,b];show h2
  .have e':¬ q.1=k:=λz=>e (h1.trans z);have b:valueAt (q::qs) k=valueAt qs k:=by simp[valueAt,B4_,e']
   rw[a9_ e,b];show ih
theorem KV.any{kvs:List (κ×V)}{vs:List (κ×Value)}(r:KV kvs vs)(k:κ):(kvs.any λkv=>decide (kv.1=k))=vs.any λkv=>decide (kv.1=k):=by
 unfold KV at r
 induction r with
 |nil=>rfl
 |cons h t ih=>rw[Cx_,Cx_,ih,h.1]
theorem KV.repl{kvs:List (κ×V)}{vs:List (κ×Value)}(r:KV kvs vs)(k:κ){y:V}{u:Value}(ry:Ga_ y u):
  KV (kvs.map λkv=>if kv.1=k then(kv.1,y)else kv) (vs.map λkv=>if kv.1=k then(kv.1,u)else kv):=by
 unfold KV at r⊢
 induction r with
 |nil=>show .nil
 | @cons p q ps qs h t ih =>
  rw[Ay_,Ay_];show .cons ?_ ih;obtain⟨h1,h2⟩:=h;by_cases e:p.1=k
  .rw[if_pos e,if_pos (h1.symm.trans e)];show⟨h1,ry⟩
  .rw[if_neg e,if_neg (λz=>e (h1.trans z))];show⟨h1,h2⟩
theorem KV.put{kvs:List (κ×V)}{vs:List (κ×Value)}(r:KV kvs vs)(k:κ){y:V}{u:Value}(ry:Ga_ y u):KV (Gn_ kvs k y) (stored vs k u):=by
 unfold Gn_ stored;rw[r.any k];by_cases e:(vs.any λkv=>decide (kv.1=k))=true
 .rw[if_pos e,if_pos e];show r.repl k ry
 .rw[if_neg e,if_neg e];show DE_ r ⟨rfl,ry⟩
theorem KV.length{kvs:List (κ×V)}{vs:List (κ×Value)}(r:KV kvs vs):kvs.length=vs.length:=BE_ r
end
theorem HW_{k:Key}{u:Value}(r:Ga_ (kV k) u):(FN_ P w).is k u=true:=by
 cases k with
 |inl i=>obtain⟨t,e⟩:=(show ∃t,u=Value.int i t from r);subst e;show lp_ P w i t
 |inr x=>obtain⟨t,e⟩:=(show ∃t,u=Value.str x t from r);subst e;show lq_ P w x t
theorem kD_{P:Program}{w:World}:∀{ks:List Key}{us:List Value},F4_ (ks.map kV) us->ItemsAre (FN_ P w) ks us
 |[],_,r=>by rw[CO_]at r;cases r;show .nil
 |k::ks,_,r=>by
  rw[Ay_]at r;cases r with
  |cons h t=>show .cons (HW_ h) (kD_ t)
abbrev KT(H:Hp):List (List Key×V)->List (List Key×Addr×Value)->Prop:=Paired λp q=>p.1=q.1/\H q.2.1=some (.tup (p.1.map kV))/\Ga_ p.2 q.2.2
variable{kvs:List (List Key×V)}{xs:List (List Key×Addr×Value)}
theorem KT.val(r:KT H kvs xs)(k:List Key):Iv_ (Gi_ kvs k) ((atKey xs k).map (·.2)):=by
 induction r with
 |nil=>show True.intro
 | @cons p q ps qs h t ih =>
  obtain⟨h1,_,h2⟩:=h;by_cases e:p.1=k
  .have e':q.1=k:=h1.symm.trans e;have b:atKey (q::qs) k=some q.2:=by simp[atKey,B4_,e']
   rw[bk_ e,b];show h2
  .have e':¬ q.1=k:=λz=>e (h1.trans z);have b:atKey (q::qs) k=atKey qs k:=by simp[atKey,B4_,e']
   rw[a9_ e,b];show ih
theorem KT.repl(r:KT H kvs xs)(k:List Key){y:V}{u:Value}(ry:Ga_ y u):
  KT H (kvs.map λkv=>if kv.1=k then(kv.1,y)else kv) (xs.map (putAt k u)):=by
 induction r with
 |nil=>show .nil
 | @cons p q ps qs h t ih =>
  rw[Ay_,Ay_];show .cons ?_ ih;obtain⟨h1,h2,h3⟩:=h;unfold putAt;by_cases e:p.1=k
  .rw[if_pos e,if_pos (h1.symm.trans e)];show⟨h1,h2,ry⟩
  .rw[if_neg e,if_neg (λz=>e (h1.trans z))];show⟨h1,h2,h3⟩
theorem KT.put(r:KT H kvs xs)(k:List Key){y:V}{u:Value}(hb:H b=some (.tup (k.map kV)))(ry:Ga_ y u):
  KT H (Gn_ kvs k y) (storedH xs k b u):=by
 have e:(kvs.any λkv=>decide (kv.1=k))=(atKey xs k).isSome:=by rw[c8_,(r.val k).isSome_eq,CK_]
 unfold Gn_ storedH;rw[e];by_cases q:(atKey xs k).isSome=true
 .rw[if_pos q,if_pos q];show r.repl k ry
 .rw[if_neg q,if_neg q];show DE_ r ⟨rfl,hb,ry⟩
theorem KT.keeps(r:KT H kvs xs)(ht:∀b ys,H b=some (.tup ys)->H' b=some (.tup ys)):KT H' kvs xs :=
 Paired.mapP r λ_ _ z=>⟨z.1,ht _ _ z.2.1,z.2.2⟩
variable {h:Heap}{a:Addr}
theorem Li_{u:HO}(ok:HOk P w H h)(e:Rd H a u):F9_ P w H h a u:=e.ok ok
theorem Je_{kvs:List (Key×V)}(ok:HOk P w H h)(e:Rd H a (.dK kvs)):kvs.length<=sizeLine/\(a == sysModules)=false/\∃vs,KV kvs vs/\h.DictOf (FN_ P w) a vs :=
 show F9_ P w H h a (.dK kvs)from Li_ ok e
theorem Jg_{kvs:List (Key×V)}(ok:HOk P w H h)(e:H a=some (.dK kvs)):kvs.length<=sizeLine/\(a == sysModules)=false/\∃vs,KV kvs vs/\h.DictOf (FN_ P w) a vs:=Je_ ok (.inl e)
theorem il_{ks:List Key}(ok:HOk P w H h)(e:H a=some (.tup (ks.map kV))):(tupleKind (FN_ P w)).is h ks a:=by obtain⟨_,its,r,o,h1,h2,n,h3⟩:=(show F9_ P w H h a (.tup (ks.map kV))from ok a _ e);show⟨o,its.toArray,n,h1,h2,h3,by simpa using kD_ r⟩
theorem Jh_(ok:HOk P w H h)(e:Rd H a (.dT kvs)):kvs.length<=sizeLine/\(a == sysModules)=false /\
  ∃xs,KT H kvs xs/\h.DictOfH (tupleKind (FN_ P w)) a xs:=by
 obtain⟨z,y,xs,r,o,es,ep,h1,h2,h3,h4,h5⟩:=(show F9_ P w H h a (.dT kvs)from Li_ ok e);show⟨z,y,xs,r,o,es,ep,h1,h2,h3,h4,λx hx=>?_,h5⟩
 have all:∀{l:List (List Key×V)}{m:List (List Key×Addr×Value)},KT H l m->∀x∈m,(tupleKind (FN_ P w)).is h x.1 x.2.1:=by
  intro l m q
  induction q with
  |nil=>intro x hx;show nomatch hx
  | @cons p q ps qs hq t ih =>
   intro x hx
   rcases Av_.mp hx with e|hx
   .subst e;show il_ ok (by rw[<-hq.1];show hq.2.1)
   .show ih x hx
 show all r x hx
theorem Kr_(ok:HOk P w H h)(e:H a=some (.dT kvs)):kvs.length<=sizeLine/\(a == sysModules)=false /\
  ∃xs,KT H kvs xs/\h.DictOfH (tupleKind (FN_ P w)) a xs:=Jh_ ok (.inl e)
def GT_(H:Hp)(a:Addr)(y:V)(r:Option V):Prop :=
 (∃kvs k,Rd H a (.dK kvs)/\y=kV k/\r=Gi_ kvs k)\/∃kvs k b,Rd H a (.dT kvs)/\y=.ref b/\H b=some (.tup (k.map kV))/\r=Gi_ kvs k
def HF_(H:Hp)(a:Addr)(y v:V)(H':Hp):Prop :=
 (∃kvs k,H a=some (.dK kvs)/\y=kV k/\kvs.length<sizeLine/\H'=upd H a (.dK (Gn_ kvs k v))) \/
 ∃kvs k b,H a=some (.dT kvs)/\y=.ref b/\H b=some (.tup (k.map kV))/\kvs.length<sizeLine/\H'=upd H a (.dT (Gn_ kvs k v))
theorem GT_.k{kvs:List (Key×V)}{k:Key}(e:H a=some (.dK kvs)):GT_ H a (kV k) (Gi_ kvs k):=.inl ⟨kvs,k,.inl e,rfl,rfl⟩
theorem GT_.t{k:List Key}(e:H a=some (.dT kvs))(eb:H b=some (.tup (k.map kV))):GT_ H a (.ref b) (Gi_ kvs k):=.inr ⟨kvs,k,b,.inl e,rfl,eb,rfl⟩
theorem HF_.k{kvs:List (Key×V)}{k:Key}{v:V}(e:H a=some (.dK kvs))(hl:kvs.length<sizeLine):HF_ H a (kV k) v (upd H a (.dK (Gn_ kvs k v))):=.inl ⟨kvs,k,e,rfl,hl,rfl⟩
theorem HF_.t{k:List Key}{v:V}(e:H a=some (.dT kvs))(eb:H b=some (.tup (k.map kV)))(hl:kvs.length<sizeLine):
  HF_ H a (.ref b) v (upd H a (.dT (Gn_ kvs k v))):=.inr ⟨kvs,k,b,e,rfl,eb,hl,rfl⟩
variable {σ:St}{y v:V}{u r:Value}{o:Option V}{E:Value->Shared->Prop}
theorem Inv.big(I:Inv X pins σ H s):sysModules<s.heap.objs.size:=by have h:mainGlobals<s.heap.objs.size:=(I.mod.glob.keeps I.bk).lt;show Ec_ d_ h
theorem n4_{Q:Value->Shared->Prop}(hu:A.units+1<cLine)(I:Inv X pins σ H s)(g:GT_ H a y (some v))(ry:Ga_ y u)(h:∀w' s',Inv X pins σ H s'->Ga_ v w'->Q w' s'):
  wpAny (model X.prog X.w) A (getItem (.ref a) u) Q E s:=by
 rcases g with⟨kvs,k,e,ey,l⟩|⟨kvs,k,b,e,ey,eb,l⟩
 .subst ey;obtain⟨z,hd,vs,rel,dd⟩:=Je_ I.hok e;obtain⟨w',hw,rw'⟩:=Iv_.some_of (v:=v) (o:=valueAt vs k) (by rw[l];show rel.val k);show wpAny_getItem_of (HW_ ry) dd.mapOf hw (h w' _ (I.tok _) rw')
 .subst ey;cases(show u=Value.ref b from ry);obtain⟨z,hd,xs,rel,dd⟩:=Jh_ I.hok e;obtain⟨w',hw,rw'⟩:=Iv_.some_of (v:=v) (o:=(atKey xs k).map (·.2)) (by rw[l];show rel.val k);obtain⟨p,hp,hp2⟩:=AQ_.mp hw;show wpAny_getItem_heap (C7_ hu) (il_ I.hok eb) dd hp ?_;rw[hp2];show h w' _ (I.tok _) rw'
theorem d_in{Q:Value->Shared->Prop}(hu:A.units+1<cLine)(I:Inv X pins σ H s)(g:GT_ H a y o)(ry:Ga_ y u)(h:∀s',Inv X pins σ H s'->Q (.bool o.isSome) s'):
  wpAny (model X.prog X.w) A (compareOp .In u (.ref a)) Q E s:=by
 rcases g with⟨kvs,k,e,ey,l⟩|⟨kvs,k,b,e,ey,eb,l⟩
 .subst ey;obtain⟨z,hd,vs,rel,dd⟩:=Je_ I.hok e;show wpAny_in_of (HW_ ry) hd dd.mapOf ?_;rw[<-(rel.val k).isSome_eq,<-l];show h _ (I.tok _)
 .subst ey;cases(show u=Value.ref b from ry);obtain⟨z,hd,xs,rel,dd⟩:=Jh_ I.hok e;show wpAny_in_heap (C7_ hu) (il_ I.hok eb) hd dd ?_;have q:=(rel.val k).isSome_eq;rw[CK_]at q;rw[<-q,<-l];show h _ (I.tok _)
theorem qA_{Q:Value->Shared->Prop}(hu:A.units+1<cLine)(I:Inv X pins σ H s)(g:GT_ H a y o)(ry:Ga_ y u)(h:∀s',Inv X pins σ H s'->Q (.bool (!o.isSome)) s'):
  wpAny (model X.prog X.w) A (compareOp .NotIn u (.ref a)) Q E s:=by
 rcases g with⟨kvs,k,e,ey,l⟩|⟨kvs,k,b,e,ey,eb,l⟩
 .subst ey;obtain⟨z,hd,vs,rel,dd⟩:=Je_ I.hok e;show wpAny_notIn_of (HW_ ry) hd dd.mapOf ?_;rw[<-(rel.val k).isSome_eq,<-l];show h _ (I.tok _)
 .subst ey;cases(show u=Value.ref b from ry);obtain⟨z,hd,xs,rel,dd⟩:=Jh_ I.hok e;show wpAny_notIn_heap (C7_ hu) (il_ I.hok eb) hd dd ?_;have q:=(rel.val k).isSome_eq;rw[CK_]at q;rw[<-q,<-l];show h _ (I.tok _)
theorem gQ_{t':Nat}{ob:HO}(I:Inv X pins σ H s)(mu:Mut (H a))(hs:Heap.SameBut a s.heap h')(he:∃q,h'.get? a=some q)(new:F9_ X.prog X.w (upd H a ob) h' a ob):
  Inv X pins σ (upd H a ob) {s with heap:=h',toks:=t'} :=
 I.write (x:=a) (e:=a) mu (.inl rfl) (λb q hb z=>(hs.2 b hb).trans z) he new
theorem n5_{kvs:List (Key×V)}{vs:List (Key×Value)}(z:kvs.length<=sizeLine)(hd:(a == sysModules)=false)(rel:KV kvs vs)(dd:h'.DictOf (FN_ P w) a vs):
  F9_ P w H' h' a (.dK kvs):=⟨z,hd,vs,rel,dd⟩
theorem n6_(hu:A.units+1<cLine)(I:Inv X pins σ H s)(g:HF_ H a y v H')(ry:Ga_ y u)(rv:Ga_ v r)(h:∀s',Inv X pins σ H' s'->Q () s'):
  wpAny (model X.prog X.w) A (setItem (.ref a) u r) Q E s:=by
 rcases g with⟨kvs,k,e,ey,l,eH⟩|⟨kvs,k,b,e,ey,eb,l,eH⟩
 .subst ey eH;obtain⟨z,hd,vs,rel,dd⟩:=Jg_ I.hok e;have hz:vs.length<=sizeLine:=by rw[<-rel.length];show z
  have hl:(Gn_ kvs k v).length<=sizeLine:=by have:=aJ_ kvs k v;lia
  show wpAny_setItem_pairs (hsz:=hz) (HW_ ry) dd λh' dd' hs=>h _ ?_;have he:∃q,h'.get? a=some q:=let⟨q,_,_,hq,_⟩:=dd';⟨q,hq⟩;show gQ_ I (by rw[e];show True.intro) hs he (n5_ hl hd (rel.put k rv) dd')
 .subst ey eH;cases(show u=Value.ref b from ry);obtain⟨z,hd,xs,rel,dd⟩:=Kr_ I.hok e;have hz:xs.length<=sizeLine:=by rw[<-BE_ rel];show z
  have hl:(Gn_ kvs k v).length<=sizeLine:=by have:=aJ_ kvs k v;lia
  show wpAny_setItem_heap (hsz:=hz) (C7_ hu) (il_ I.hok eb) dd λh' dd' hs=>h _ ?_;obtain⟨q,es,ep,hq,h2,h3,h4,_,h5⟩:=dd';show gQ_ I (by rw[e];show True.intro) hs ⟨q,hq⟩ ⟨hl,hd,_,(rel.put k eb rv).keeps λc ys ec=>?_,q,es,ep,hq,h2,h3,h4,h5⟩;rw[af_ (HV_ ec e (λz=>nomatch z))];show ec
def Lz_(i:Expr):Prop:=∀ov iv,subscripted i false ov iv=operate [ov,iv] (getItem ov iv)
theorem n7_{prog:Program}{w:World}{A:Around}{E:Value->Shared->Prop}{s:Shared}{env:Env}{value slice:Expr}{pos:Pos}{T id:String}{Q:Value->Shared->Prop}
  (hl:typeLookup (.type T) "__getitem__"=pure (some (.builtin id))) (hs:Lz_ slice)
  (h:wpAny (model prog w) A (eval value env) (λo s₁=>wpAny (model prog w) A (eval slice env) (λi s₂=>s₂.TypeIs o T/\wpAny (model prog w) A (getItem o i) Q E s₂) E s₁) E s):
  wpAny (model prog w) A (eval (.Subscript value slice pos) env) Q E s:=by
 show E0_ (Bu_ h (λo s₁ h₁=>Bu_ h₁ (λi s₂ h₂=>?_) λ_ _ x=>x) λ_ _ x=>x);obtain⟨hT,h₂⟩:=h₂;unfold subscriptTail;show Ac_ ?_;rw[getitemInPython_of_ne hT.not_modules];show Ac_ (C2_ hT hl ?_);have fin:wpAny (model prog w) A (subscripted slice false o i) (λr s₃=>wpAny (model prog w) A (letTemporaryGo value o r >>= λ_=>pure r) Q E s₃) E s₂:=by rw[hs o i];show wpAny_operating (Bu_ h₂ (λr s₃ h₃=>Ac_ (wpAny_letTemporaryGo (Aj_ h₃))) λ_ _ x=>x)
 first
  |show Aj_ (Ac_ fin)
  |show Ac_ (Aj_ (Ac_ fin))
  |show Ac_ fin
theorem lw_(I:Inv X pins σ H s)(g:GT_ H a y o):s.TypeIs (.ref a) "dict" := by
 rcases g with⟨kvs,k,e,_,_⟩|⟨kvs,k,b,e,_,_,_⟩
 .obtain⟨_,_,vs,_,dd⟩:=Je_ I.hok e;show dd.typeIs
 .obtain⟨_,_,xs,_,dd⟩:=Jh_ I.hok e;show dd.typeIs
def KT_(td ty:TE):TE:=λσ H Q=>td σ H λx H1=>ty σ H1 λy H2=>onR x λa=>∃v,GT_ H2 a y (some v)/\Q v H2
def LY_(ty td:TE):TE:=λσ H Q=>ty σ H λy H1=>td σ H1 λx H2=>onR x λa=>∃o,GT_ H2 a y o/\Q (.bl o.isSome) H2
def IX_(ty td:TE):TE:=λσ H Q=>ty σ H λy H1=>td σ H1 λx H2=>onR x λa=>∃o,GT_ H2 a y o/\Q (.bl (!o.isSome)) H2
def K3_(td ty tv:TE):TS:=λD σ H=>tv σ H λv H1=>td σ H1 λx H2=>ty σ H2 λy H3=>onR x λa=>∃H4,HF_ H3 a y v H4/\D.nx σ H4
section
variable {o i e value:Expr}{pos':Pos}{td ty tv:TE}
theorem ce_(hu:X.A.units+1<cLine)(ho:PE X o td)(hi:PE X i ty)(hs:Lz_ i:=by intro _ _;rfl):PE X (.Subscript o i pos) (KT_ td ty):=by intro pins s σ H Q I h;show n7_ PySem.F.slot_dict_getitem.lookup hs (thn (ho pins s σ H _ I h) λu s1 ⟨x,H1,I1,rx,q1⟩=>thn (hi pins s1 σ H1 _ I1 q1) λiv s2 ⟨y,H2,I2,ry,q9⟩=>?_);obtain⟨a,ex,v,g,q2⟩:=eB_ q9;subst ex;obtain rfl:u=Value.ref a:=rx;show⟨lw_ I2 g,n4_ hu I2 g ry λw' s3 I3 rw'=>⟨v,H2,I3,rw',q2⟩⟩
theorem p6_(hu:X.A.units+1<cLine)(hi:PE X i ty)(ho:PE X o td):PC X .In i o (LY_ ty td):=by intro pins s σ H Q I h;show thn (hi pins s σ H _ I h) λiv s1 ⟨y,H1,I1,ry,q1⟩=>thn (ho pins s1 σ H1 _ I1 q1) λu s2 ⟨x,H2,I2,rx,q9⟩=>?_;obtain⟨a,ex,ov,g,q2⟩:=eB_ q9;subst ex;obtain rfl:u=Value.ref a:=rx;show d_in hu I2 g ry λs3 I3=>⟨.bl ov.isSome,H2,I3,rfl,q2⟩
theorem im_(hu:X.A.units+1<cLine)(hi:PE X i ty)(ho:PE X o td):PC X .NotIn i o (IX_ ty td):=by intro pins s σ H Q I h;show thn (hi pins s σ H _ I h) λiv s1 ⟨y,H1,I1,ry,q1⟩=>thn (ho pins s1 σ H1 _ I1 q1) λu s2 ⟨x,H2,I2,rx,q9⟩=>?_;obtain⟨a,ex,ov,g,q2⟩:=eB_ q9;subst ex;obtain rfl:u=Value.ref a:=rx;show qA_ hu I2 g ry λs3 I3=>⟨.bl (!ov.isSome),H2,I3,rfl,q2⟩
theorem cR_(hu:X.A.units+1<cLine)(ho:PE X o td)(hi:PE X i ty)(hv:PE X value tv)(hs:swapsWith value (some (.Subscript o i pos')) pos.line X.env=pure false):
  PS X (.Assign [.Subscript o i pos'] value pos) (K3_ td ty tv):=by
 intro pins s σ H D I h;show EG_ (thn (hv pins s σ H _ I h) λr s1 ⟨v,H1,I1,rv,q1⟩=>thn (ho pins s1 σ H1 _ I1 q1) λu s2 ⟨x,H2,I2,rx,q2⟩=>thn (hi pins s2 σ H2 _ I2 q2) λiv s3 ⟨y,H3,I3,ry,q9⟩=>?_) hs;obtain⟨a,ex,H4,g,q3⟩:=eB_ q9;subst ex;obtain rfl:u=Value.ref a:=rx;show n6_ hu I3 g ry rv λs4 I4=>⟨σ,H4,I4,q3⟩
end
theorem ps_(h:Heap)(hb:sysModules<h.objs.size):F9_ P w H (h.push {cls:=.type "dict",data:=.dict #[]}) h.objs.size (.dK []):=
 ⟨Az_ _,Cv_.mpr (Ne.symm (AE_ hb)),[],.nil,Heap.DictOf.new h⟩
theorem pt_(h:Heap)(hb:sysModules<h.objs.size):F9_ P w H (h.push {cls:=.type "dict",data:=.dict #[]}) h.objs.size (.dT []):=
 ⟨Az_ _,Cv_.mpr (Ne.symm (AE_ hb)),[],.nil,_,#[],0,Ax_ _ rfl,⟨rfl,rfl,rfl⟩,rfl,rfl,A8_⟩
def JR_:TE:=λ_ H Q=>∀p,H p=none->Q (.ref p) (upd H p (.dK []))
def JT_:TE:=λ_ H Q=>∀p,H p=none->Q (.ref p) (upd H p (.dT []))
theorem hT_:PE X (.Dict [] [] pos) JR_:=λpins s σ H Q I h =>Ed_ ⟨.ref s.heap.objs.size,_,I.laid (a:=s.heap.objs.size) (o:=.dK []) (t':=s.toks) (λ_ _ q=>Ah_ _ q) (Ai_ _) (ps_ s.heap I.big),rfl,h _ (I.hok.fresh (Ai_ _))⟩
theorem fd_:PE X (.Dict [] [] pos) JT_:=λpins s σ H Q I h =>Ed_ ⟨.ref s.heap.objs.size,_,I.laid (a:=s.heap.objs.size) (o:=.dT []) (t':=s.toks) (λ_ _ q=>Ah_ _ q) (Ai_ _) (pt_ s.heap I.big),rfl,h _ (I.hok.fresh (Ai_ _))⟩
def G5_(kvs more:List (Key×V)):List (Key×V):=more.foldl (λacc kv=>Gn_ acc kv.1 kv.2) kvs
theorem KV.merge:∀{more:List (Key×V)}{rs:List (Key×Value)}{kvs:List (Key×V)}{vs:List (Key×Value)},KV more rs->KV kvs vs->KV (G5_ kvs more) (merged vs rs):=by
 intro more rs kvs vs r;unfold KV at r
 induction r generalizing kvs vs with
 |nil=>intro q;show q
 | @cons p q ps qs h t ih =>
  intro r0;have e:KV (Gn_ kvs p.1 p.2) (stored vs q.1 q.2):=by have:=r0.put p.1 h.2;rw[<-h.1];show this
  show ih e
variable {d:V}
variable {kvs:List (Key×V)}
end L2
namespace Att
open PySem PySem.W PySem.Calls PyProof.Rows
end Att
namespace L2
open PySem PySem.Spec PyProof.Rows
variable {X:Cx}
section
variable {κ:Type}[DecidableEq κ]
theorem n8_{kvs:List (κ×V)}{k:κ}{v:V}(h:Gi_ kvs k=some v):k∈kvs.map (·.1):=by
 have q:(kvs.any λkv=>decide (kv.1=k))=true:=by
  rw[c8_,h]
  all_goals rfl
 obtain⟨p,hp,e⟩:=CW_.mp q;show As_.mpr ⟨p,hp,Bj_ e⟩
end
abbrev Sk:=List Key×Bool
variable {P:Program}{w:World}{A:Around}{E:Value->Shared->Prop}{s:Shared}
def Kz_(b:Bool):Int:=if b then 1 else 0
theorem n9_{b:Bool}{Q:Int->Shared->Prop}(hu:A.units<cLine)(k:Q (Kz_ b) {s with toks:=s.toks+1}):wpAny (model P w) A (pyHash (.bool b)) Q E s:=by
 change wpAny _ _ (pyHashByItsType (.bool b)) _ _ _;show Fj_ (T := "bool") rfl F.slot_bool_hash entry_int_hash (args_int_hash _) (beq_builtin_none _) (.inr hu) ?_;cases b
 .show(show wpAny _ _ (do ret (<-mkInt 0)) _ _ s from Ac_ (Fy_ (Aj_ ⟨_,_,rfl,k⟩)))
 .show(show wpAny _ _ (do ret (<-mkInt 1)) _ _ s from Ac_ (Fy_ (Aj_ ⟨_,_,rfl,k⟩)))
def IE_(P:Program)(w:World)(h:Heap)(k:Sk)(a:Addr):Prop:=∃o n p,h.get? a=some o/\o.cls=.type "tuple" /\ o.data=.seq #[.ref p,.bool k.2] n/\(tupleKind (FN_ P w)).is h k.1 p
variable{a:Addr}
theorem IE_.ty{k:Sk}(x:IE_ P w s.heap k a):s.TypeIs (.ref a) "tuple" := let⟨o,_,_,h,c,_⟩:=x;⟨o,h,c⟩
variable{h:Heap}{x y:Sk}
theorem IE_.inj(hx:IE_ P w h x a)(hy:IE_ P w h y a):x=y:=by
 obtain⟨o,n,p,h1,_,h3,h4⟩:=hx;obtain⟨o',n',p',g1,_,g3,g4⟩:=hy;cases h1.symm.trans g1;rw[h3]at g3;injection g3 with g3 _
 have e:p=p'/\x.2=y.2:=by simpa using g3
 obtain⟨rfl,e2⟩:=e;have e1:=(tupleKind (FN_ P w)).inj h4 g4;show Bb_ e1 e2
variable{d:Addr}
theorem IE_.keeps{h':Heap}{k:Sk}{o:Obj}{es ep} (x:IE_ P w h k a) (ho:h.get? d=some o) (hd:o.data=.dict es ep) (hs:Heap.SameBut d h h'):IE_ P w h' k a:=by
 obtain⟨o',n,p,h1,h2,h3,h4⟩:=x;have ne:a≠d:=by rintro rfl;cases h1.symm.trans ho;rw[hd]at h3;show nomatch h3
 show⟨o',n,p,(hs.2 a ne).trans h1,h2,h3,(tupleKind (FN_ P w)).keeps h4 ho hd hs⟩
def JW_(P:Program)(w:World)(k:Sk):Int:=reduceHash (Builtin.Tuple.tupleHashOf [(tupleKind (FN_ P w)).hash k.1,Kz_ k.2])
theorem qB_{k:Sk}{Q:Int->Shared->Prop}(hu:A.units+1<cLine)(x:IE_ P w s.heap k a)(h:Q (JW_ P w k) {s with toks:=s.toks+((k.1.length+1)+2)}):wpAny (model P w) A (pyHash (.ref a)) Q E s:=by have ty:=x.ty;obtain⟨o,n,p,h1,h2,h3,h4⟩:=x;change wpAny _ _ (pyHashByItsType (.ref a)) _ _ _;show Fj_ (T := "tuple") ty F.slot_tuple_hash F.entry_tuple_hash (F.args_tuple_hash_1 _) (beq_builtin_none _) (.inr o_) ?_;change wpAny _ _ (Builtin.Tuple.tupleItemsOf (.ref a) >>= _) _ _ s;show Ac_ (DO_ h1 h3 ?_);show Ac_ ?_;rw[<-DP_];change wpAny _ _ (forIn [Value.ref p,Value.bool k.2] _ _) _ _ _;rw[Cn_];show Ac_ (Ac_ ((tupleKind (FN_ P w)).pyHash (show A.in1.units<cLine from hu) h4 ?_));show Ac_ (Aj_ (Aj_ ?_));change wpAny _ _ (forIn [Value.bool k.2] _ _) _ _ _;rw[Cn_];show Ac_ (Ac_ (n9_ (show A.in1.units<cLine from hu) ?_));show Ac_ (Aj_ (Aj_ ?_));change wpAny _ _ (forIn ([]:List Value) _ _) _ _ _;rw[EQ_];show Aj_ ?_;change wpAny _ _ (retInt _) _ _ _;show Ac_ (Fy_ (Aj_ ⟨_,_,rfl,h⟩))
variable{Q:Bool->Shared->Prop}
theorem rH_{b c:Bool}(h:Q (decide (b=c)) s):wpAny (model P w) A (eqBool (.bool b) (.bool c)) Q E s:=by
 unfold eqBool;change wpAny _ _ (if(Value.bool b == Value.bool c)=true then _ else _) Q E s;by_cases e:b=c
 .subst e;rw[if_pos s_];show Ac_ (C9_ (Aj_ (by simpa using h)))
 .rw[if_neg (by simp[e])];show Ac_ (wpAny_richCompare_same (op:=.Eq) (T := "bool") rfl rfl F.slot_bool_eq (BW_ F.slot_bool_eq rfl entry_int_eq (Aj_ ⟨.bool (decide (b=c)),?_,s_,Bo_ h⟩) (args_int_eq _ _)));cases b <;> cases c <;> first|show absurd rfl e|rfl
theorem LI_{b:Addr}(hu:A.units+1<cLine)(hx:IE_ P w s.heap x a)(hy:IE_ P w s.heap y b)(h:Q (decide (x=y)) s):wpAny (model P w) A (eqBool (.ref a) (.ref b)) Q E s:=by
 unfold eqBool
 try with_reducible show A5_ ?_
 change wpAny _ _ (if(Value.ref a == Value.ref b)=true then _ else _) Q E s;by_cases hab:a=b
 .subst hab;rw[if_pos s_];obtain rfl:=hx.inj hy;show Ac_ (C9_ (Aj_ (by simpa using h)))
 .rw[if_neg (by simp[hab])];show Ac_ (wpAny_richCompare_same_room (op:=.Eq) hx.ty hy.ty F.slot_tuple_eq (BW_ F.slot_tuple_eq hx.ty F.entry_tuple_eq ?_ (F.args_tuple_eq_2 _ _)) o_);have tb:=hy.ty;obtain⟨o,n,p,h1,h2,h3,h4⟩:=hx;obtain⟨o',n',q,g1,g2,g3,g4⟩:=hy;change wpAny _ _ (isInstance (.ref b) (.type "tuple") >>= _) _ _ s;show Ac_ (CX_ tb Dj_ ?_);simp only[Bool.not_true,BO_,Cb_];show Ac_ (DO_ h1 h3 ?_);show Ac_ (DO_ g1 g3 ?_);show Ac_ ?_;change wpAny _ _ (forIn [(Value.ref p,Value.ref q),(Value.bool x.2,Value.bool y.2)] _ _) _ _ _;rw[Cn_];show Ac_ (Ac_ ((tupleKind (FN_ P w)).eqBool (show A.in1.units<cLine from hu) h4 g4 ?_));by_cases e1:x.1=y.1
  .rw[AZ_ e1,if_neg d_];show Aj_ ?_;change wpAny _ _ (forIn [(Value.bool x.2,Value.bool y.2)] _ _) _ _ _;rw[Cn_];show Ac_ (Ac_ (rH_ ?_));by_cases e2:x.2=y.2
   .rw[AZ_ e2,if_neg d_];rw[AZ_ (Bb_ e1 e2)]at h;show Aj_ ?_;change wpAny _ _ (forIn ([]:List (Value×Value)) _ _) _ _ _;rw[EQ_];show Aj_ (Aj_ ⟨_,rfl,(λe=>nomatch e),Bo_ h⟩)
   .rw[AP_ e2,if_pos d_];rw[AP_ (λz=>e2 (congrArg Prod.snd z))]at h;show Ac_ (Aj_ (Aj_ (Aj_ (Aj_ ⟨_,rfl,(λe=>nomatch e),Bo_ h⟩))))
  .rw[AP_ e1,if_pos d_];rw[AP_ (λz=>e1 (congrArg Prod.fst z))]at h;show Ac_ (Aj_ (Aj_ (Aj_ (Aj_ ⟨_,rfl,(λe=>nomatch e),Bo_ h⟩))))
theorem oa_{ks:List Key}{p:Addr}{n:Nat}(x:(tupleKind (FN_ P w)).is s.heap ks p)(h:Q true s):wpAny (model P w) A (eqIsQuiet (n+1) (.ref p)) Q E s:=by
 have ty:=IsTupleKey.typeIs x;obtain⟨o,items,m,ho,_,hd,hi⟩:=x;unfold eqIsQuiet;show Ac_ (C2_ ty F.slot_tuple_eq.lookup ?_);change wpAny _ _ (isInstance (.ref p) (.type "tuple") >>= _) _ _ s;show Ac_ (CX_ ty Dj_ ?_);rw[if_neg d_];show Ac_ (Cs_ ho hd (Ac_ ?_));change wpAny _ _ (forIn items _ _) _ _ s;rw[<-DP_];show wpAny_forIn_list _ (λrest r s'=>r.1=none/\s'=s/\∀v∈rest,carriedByValue v=true) _ ?_ ?_ _ _ ⟨rfl,rfl,hi.byValue⟩
 .rintro v rest r s' ⟨hr,rfl,all⟩;rw[eqIsQuiet_byValue _ (all v Ar_)];show Ac_ (Aj_ ?_);rw[if_neg d_];show Aj_ ⟨rfl,rfl,λu hu=>all u (An_ _ hu)⟩
 .rintro⟨r1,r2⟩ s' ⟨hr,rfl,_⟩;cases(show r1=none from hr);show Aj_ h
theorem pu_{k:Sk}(x:IE_ P w s.heap k a)(h:Q true s):wpAny (model P w) A (eqIsQuiet 8 (.ref a)) Q E s:=by have ty:=x.ty;obtain⟨o,n,p,h1,h2,h3,h4⟩:=x;unfold eqIsQuiet;show Ac_ (C2_ ty F.slot_tuple_eq.lookup ?_);change wpAny _ _ (isInstance (.ref a) (.type "tuple") >>= _) _ _ s;show Ac_ (CX_ ty Dj_ ?_);rw[if_neg d_];show Ac_ (Cs_ h1 h3 (Ac_ ?_));change wpAny _ _ (forIn #[Value.ref p,Value.bool k.2] _ _) _ _ s;rw[<-DP_];change wpAny _ _ (forIn [Value.ref p,Value.bool k.2] _ _) _ _ _;rw[Cn_];show Ac_ (Ac_ (oa_ (n:=6) h4 ?_));rw[if_neg d_];show Aj_ ?_;change wpAny _ _ (forIn [Value.bool k.2] _ _) _ _ _;rw[Cn_,eqIsQuiet_byValue _ (by rfl)];show Ac_ (Ac_ (Aj_ ?_));rw[if_neg d_];show Aj_ ?_;change wpAny _ _ (forIn ([]:List Value) _ _) _ _ _;rw[EQ_];show Aj_ (Aj_ h)
def GZ_(P:Program)(w:World):HeapKind P w Sk where
 is:=IE_ P w
 hash:=JW_ P w
 draws:=λk=>(k.1.length+1)+2
 room:=λA=>A.units+1<cLine
 inj:=λhx hy=>hx.inj hy
 keeps:=λx ho hd hs=>x.keeps ho hd hs
 pyHash:=λhu hk h=>qB_ hu hk h
 eqBool:=λhu hx hy h=>LI_ hu hx hy h
 quiet:=λhk h=>pu_ hk h
def Hl_(n:Nat):List V:=(List.range n).map λi:Nat=>V.int (i:Int)
def IY_(ta:TA):TE:=λσ H Q=>ta σ H λvs H1=>∃n:Nat,vs=[.int (n:Int)]/\n<=1000/\∀l,H1 l=none->Q (.ref l) (upd H1 l (.lst (Hl_ n)))
theorem hU_:∀{xs:List V}{us:List Value},xs.length=us.length->(∀(j:Nat) x u,xs[j]?=some x->us[j]?=some u->Ga_ x u)->F4_ xs us
 |[],[],_,_=>.nil
 |[],_::_,h,_=>by simp at h
 |_::_,[],h,_=>by simp at h
 |x::xs,u::us,h,k=>.cons (k 0 x u rfl rfl) (hU_ (by simpa using h) λj y v e e'=>k (j+1) y v (by simpa using e) (by simpa using e'))
variable{ta:TA}{p pos pos':Pos}
theorem kE_{a:Expr}{p':Pos}(hc:X.calm=true)(hg:Gl X "list") (hm:X.mg "list"=none) (hg':Gl X "range") (hm':X.mg "range"=none) (ha:PA X [a] ta) (hs:FL_ [a]=true:=by rfl):
  PE X (.Call (.Name "list" p) [.Call (.Name "range" p') [a] [] pos'] [] pos) (IY_ ta):=by
 have h':Gu_ a=true:=by simpa[FL_]using hs
 intro pins s σ H Q I h;show BZ_ (dP_ I hg hm fz_ ?_ d_ d_);show Bd_ ?_ (ap_ rfl) rfl;rw[ap_ (e:=.Call (.Name "range" p') [a] [] pos') (es:=[]) rfl];change wpAny _ _ (spliced ((false,eval (.Call (.Name "range" p') [a] [] pos') X.env)::backTo pos (starEach [] X.env))) _ _ s;show DL_ ?_;show Call_ (dP_ I hg' hm' EY_ (Bd_ (thn (ha pos' pins s σ H _ I h) λus s1 ⟨vs,H1,I1,r1,q1⟩=>?_) (ap_ h') rfl));obtain⟨n,e,n1,q⟩:=q1;subst e;cases r1 with
 |cons r rr =>
  cases rr;obtain⟨t,rfl⟩:=r;show call_range_1 ?_;show DX_ ?_;have I2:Inv X pins σ H1 {s1 with heap:=s1.heap.push {cls:=.type "range",data:=.fields #[.int 0 s1.toks,.int (n:Int) t,.int 1 (s1.toks+1)]},toks:=s1.toks+1+1}:=I1.kept λb o e=>Ah_ _ e;show call_list_range (n:=n) (I2.ok.hd hc) (Fx_ ..) (small_one o_ o_ o_ o_) (by rw[rangeSize_one];split <;> lia) o_ λh2 tk acc c hk hS hacc=>?_;show⟨.ref _,_,I2.laid (t':=tk) hk (Ai_ _) (show F9_ X.prog X.w _ h2 _ (.lst (Hl_ n))from⟨?_,acc.toList,c,hU_ ?_ ?_,by simpa using hS⟩),rfl,q _ (I2.hok.fresh (Ai_ _))⟩
  .show AH_ (FB_ (by simp[Hl_];lia))
  .simp[Hl_,hacc.1]
  .intro j x u hx hu;have hj:j<n:=by have:=(Ae_.mp hx).1;simpa[Hl_]using this
   have hx':x=V.int (j:Int):=by rw[Hl_,Ag_,Ca_ hj]at hx;show(Au_ hx).symm
   obtain⟨tk',rfl⟩:=hacc.2 j u (by simpa using hu);rw[hx'];show⟨tk',by rw[B5_,Int.mul_one]⟩
def L6_(te:TE)(ts:TO):TE:=λσ H Q=>te σ H λx H1=>ts σ H1 λo H2=>o=some (-1)/\∃a xs,x=.ref a/\H2 a=some (.lst xs)/\∀p,H2 p=none->Q (.ref p) (upd H2 p (.lst xs.reverse))
theorem pv_{xs:List V}{us:List Value}(r:F4_ xs us):F4_ xs.reverse us.reverse:=by
 have hl:=r.length;show hU_ (by simp[hl]) λj x u hx hu=>?_;have hj:j<xs.length:=by have:=(Ae_.mp hx).1;simpa using this
 rw[Cl_ hj]at hx;rw[Cl_ o_,<-hl]at hu;obtain⟨u',hu',ru⟩:=r.get hx;rw[hu]at hu';cases hu';show ru
theorem rI_{e:Expr}{st:Expr}{te:TE}{ts:TO}{p2:Pos}(he:PE X e te)(hk:PO X (some st) ts):PE X (.Subscript e (.Slice none none (some st) p2) pos) (L6_ te ts):=by intro pins s σ H Q I h;show E0_ (thn (he pins s σ H _ I h) λv s1 ⟨x,H1,I1,r1,q1⟩=>?_);show wpAny_Slice ?_;rw[Fa_];show Aj_ (Aj_ ?_);show thn (hk pins s1 σ H1 _ I1 q1) λvk s2 ⟨o,H2,I2,pk,q2⟩=>?_;obtain⟨rfl,a,xs,rfl,hx,q⟩:=q2;cases r1;have I4:Inv X pins σ H2 {s2 with heap:=s2.heap.push {cls:=.type "slice",data:=.fields #[.none,.none,vk]}}:=I2.kept (t':=s2.toks) λb ob q=>Ah_ _ q;obtain⟨its,r,ht,hz⟩:=I4.list (.inl (.inl hx));have hlen:=r.length;change wpAny (model X.prog X.w) X.A (subscriptTail e (.Slice none none (some st) p2) (.ref a) (.ref s2.heap.objs.size)) (EP X pins σ Q) X.xe {s2 with heap:=s2.heap.push {cls:=.type "slice",data:=.fields #[.none,.none,vk]}};show tail_any (ops:=[.ref a,.ref s2.heap.objs.size]) ht.isList.typeIs slot_list_getitem.lookup ?_ (by with_unfolding_all rfl);show D8_ ht.isList (Heap.IsSliceOf.new ..) .none .none pk d_ ?_ (by rw[At_] <;> lia);rw[PySem.W.krv_pick];show⟨.ref _,_,I4.laid (t':=s2.toks) (o:=.lst xs.reverse) (λb ob q=>Ah_ _ q) (Ai_ _) ?_,rfl,q _ (I4.hok.fresh (Ai_ _))⟩;show⟨by rw[Bl_];show hz,its.reverse,0,pv_ r,Ax_ _ rfl⟩
open PySem.W
def GO_{α:Type}(lt:Nat->Nat->Bool)(n:Nat):KasT α->Option α
 | .ret a=>some a
 | .ask i j k=>if i<n/\j<n then GO_ lt n (k (lt i j))else none
theorem mt_{α:Type}{ask:Nat->Nat->(Bool->Shared->Prop)->Shared->Prop}{lt:Nat->Nat->Bool}{n:Nat}{Q:α->Shared->Prop}{s:Shared}(hc:∀i j (C:Bool->Shared->Prop),i<n->j<n->C (lt i j) s->ask i j C s):
  ∀(t:KasT α){p:α},GO_ lt n t=some p->Q p s->t.kasWp ask Q s
 | .ret a,p,e,q=>by
  cases e;show q
 | .ask i j k,p,e,q=>by
  unfold GO_ at e;split at e
  .rename_i h;show hc i j _ h.1 h.2 (mt_ hc (k (lt i j)) e q)
  .cases e
variable {pins:List (Addr×Obj)}{σ:St}{H:Hp}
theorem p7_{m m':Str->Option Value}(x:h.Ns a m)(y:h.Ns a m'):m=m':=by obtain⟨o,es,ep,ho,hd,_,hf⟩:=x;obtain⟨o',es',ep',ho',hd',_,hf'⟩:=y;rw[ho]at ho';cases ho';rw[hd]at hd';cases hd';funext z;rw[<-hf z,hf' z]
theorem Inv.keeps(I:Inv X pins σ H s){m:Str->Option Value}{h':Heap}(F:Fr X.base X.env.locals h' m)(N:News X.base X.env.locals h' (Gg_ X.base s.heap X.env.locals)):
  ∀b o,b≠X.env.locals->s.heap.get? b=some o->h'.get? b=some o:=λb o hb e=>by
 cases q:X.base.get? b with
 |some u =>
  have z:=I.bk b u q;rw[e]at z;cases z;show F.keep b _ q
 |none=>show(N (b,o) (bN_ hb q e)).1
theorem Inv.led{H':Hp}{t':Nat}(I:Inv X pins σ H s){m:Str->Option Value}(hn:s.heap.Ns X.env.locals m){h':Heap}(F:Fr X.base X.env.locals h' m)(N:News X.base X.env.locals h' (Gg_ X.base s.heap X.env.locals))
  (free:∀b o,s.heap.get? b=some o->H b=none->H' b=none) (old:∀b o,H b=some o->H' b=some o) (new:∀b o,H' b=some o->H b=none->F9_ X.prog X.w H' h' b o):Inv X pins σ H' {s with heap:=h',toks:=t'}:=by
 have kp:=I.keeps F N;show I.step (g':=s.gens) (d':=s.drawn) (ch:=[]) (λ_ z=>nomatch z) (λb o hb _ _ e _=>kp b o hb e) (λb o hb _ _ e _=>⟨o.slots,kp b o hb e⟩) (λb o _ e n=>free b o e n) (λb o _ e=>?_) (λb xs q=>old b _ q) (λb o u q=>old b _ q) (λb ps q=>⟨#[],by simpa using old b _ q⟩) (λm' hm=>?_) ?_ I.bare
 .by_cases hb:b=X.env.locals
  .subst hb;obtain⟨o',_,_,ho',_⟩:=F.ns;show⟨o',ho'⟩
  .show⟨o,kp b o hb e⟩
 .rw[p7_ hm hn];show F.ns
 .intro b o e;cases q:H b with
  |none=>show new b o e q
  |some u =>
   have z:=old b u q;rw[e]at z;cases z;show(I.hok b o q).stay (λc v hc r=>kp c v (λw=>?_) r) (λc r=>old c _ r) λc xs r=>old c _ r
   rcases hc with rfl|hc
   .rw[w,I.free]at q;cases q
   .rw[w,I.free]at hc;cases hc
theorem io_{ys:List V}{its:List Value}(r:F4_ ys its)(is:List Nat):F4_ (is.map λi=>ys.getD i .non) (is.map λi=>its.getD i Value.none):=by
 induction is with
 |nil=>show .nil
 |cons i is ih =>
  show .cons ?_ ih;change Ga_ (ys.getD i .non) (its.getD i Value.none);rw[Ad_,Ad_];have hl:=r.length;cases e:ys[i]? with
  |none =>
   have:ys.length<=i:=D1_.mp e;rw[D1_.mpr o_];show rfl
  |some x =>obtain⟨u,hu,ru⟩:=r.get e;rw[hu];show ru
theorem JC_{o:HO}(x:F9_ P w H h a o):∃ob,h.get? a=some ob:=by
 cases o with
 |lst xs=>obtain⟨_,_,_,_,e⟩:=x;show⟨_,e⟩
 |tup xs=>obtain⟨_,_,_,ob,e,_⟩:=x;show⟨_,e⟩
 |dK kvs=>obtain⟨_,_,_,_,ob,_,_,e,_⟩:=x;show⟨_,e⟩
 |dT kvs=>obtain⟨_,_,_,_,ob,_,_,e,_⟩:=x;show⟨_,e⟩
 |set S n=>obtain⟨ob,_,_,_,e,_⟩:=x;show⟨_,e⟩
 |ins C dx fs=>obtain⟨_,_,_,e,_⟩:=x;show⟨_,e⟩
 |own y=>show x
 |xd fs=>obtain⟨_,⟨ob,_,_,e,_⟩,_⟩:=x;show⟨_,e⟩
 |rng lo hi=>obtain⟨_,_,_,e⟩:=x;show⟨_,e⟩
 |frz ob u=>show⟨_,x.1⟩
 |tbl ps=>show⟨_,show h.get? a=some _ from x⟩
 |met f y=>show⟨_,show h.get? a=some _ from x⟩
 |ext φ=>show x.2.1
theorem kF_{Q:VK}{p:Addr}{ys:List V}{lt:Nat->Nat->Bool}{κ:SortKind}{pm:Array Nat}(I:Inv X pins σ H s)(hq:SqL X.K H p ys)(h2:2<=ys.length)(h64:ys.length<64)
  (kind:∀(its:List Value)(s':Shared),F4_ ys its->Inv X pins σ H s'->∀C:SortKind->Shared->Prop,C κ s'->wpAny (model X.prog X.w) X.A.in1.in1 (keyKind' its.toArray) C (λ_ _=>False) s')
  (less:∀(its:List Value)(s':Shared)(i j:Nat),F4_ ys its->Inv X pins σ H s'->i<ys.length->j<ys.length->∀C:Bool->Shared->Prop,C (lt i j) s'->wpAny (model X.prog X.w) X.A.in1.in1 (keyLt' κ (its.getD i Value.none) (its.getD j Value.none)) C (λ_ _=>False) s')
  (run:GO_ lt ys.length (kas_sort ys.length)=some pm) (hz:pm.size<=1000) (q:∀l,H l=none->Q (.ref l) (upd H l (.lst (pm.toList.map λi=>ys.getD i .non)))):
  wpAny (model X.prog X.w) X.A (call (.builtin "sorted") [.ref p]) (EP X pins σ Q) X.xe s:=by
 obtain⟨its,rv,pl,_⟩:=I.list hq;have hl:=rv.length;obtain⟨m,hn,_⟩:=id I.loc;have F0:Fr X.base X.env.locals s.heap m:=⟨hn,I.bk,AG_ I.ok.bsz I.ok.above⟩;show kat_sorted F0 d6_ pl.isList o_ o_ λD e1 h1 F1 N1 lt1=>?_;have N1':News X.base X.env.locals h1 (Gg_ X.base s.heap X.env.locals):=λz hz'=>N1 z (An_ _ hz');have ND:=N1 (D,_) Ar_;have fr:∀b o,s.heap.get? b=some o->b≠D:=λb o e w=>by subst w;show absurd (lt1 (b,o) (bN_ ND.2.1 ND.2.2 e)) (Bc_ _)
 have HD:H D=none:=by
  cases w:H D with
  |none=>rfl
  |some u =>obtain⟨o,g⟩:=JC_ (I.hok D u w);show absurd rfl (fr D o g)
 have I1:Inv X pins σ H {s with heap:=h1,toks:=s.toks}:=I.led hn F1 N1' (λ_ _ _ n=>n) (λ_ _ w=>w) (λb o w n=>by rw[w]at n;cases n);show kind its _ rv I1 _ ?_;rw[<-hl];show mt_ (lt:=lt) (n:=ys.length) (λi j C hi hj hC=>less its _ i j rv I1 hi hj C hC) _ run ?_;show Fp_ F1 N1 (.head λz hz' w=>?_) λh2' c F2 N2=>?_
 .show absurd (lt1 z hz') (by rw[w];show Bc_ _)
 .have N2':News X.base X.env.locals h2' (Gg_ X.base s.heap X.env.locals):=λz hz'=>N2 z (An_ _ hz');have hD:=(N2 (D,_) Ar_).1;show⟨.ref D,upd H D (.lst (pm.toList.map λi=>ys.getD i .non)),I.led (t':=s.toks) hn F2 N2' (λb o e n=>by rw[af_ (fr b o e)];show n) (λb o e=>by rw[af_ (ae_ e HD)];show e) (λb o e n=>?_),rfl,q D HD⟩;by_cases hb:b=D
  .subst hb;rw[aa_]at e;cases e;show⟨AH_ (FB_ (by simp;lia)),_,c,io_ rv _,hD⟩
  .rw[af_ hb,n]at e;cases e
open HT
open PySem.SeqAt
open PySem.AutoSeq1 (wpAny_loadPart')
open PySem.MeetsSeq PySem.MeetsSeq2 PySem.MeetsSeq3
variable {prog:Program}
theorem bx_{α β:Type}{lt:Nat->Nat->Bool}{N:Nat}{f:α->KasT β}:∀(t:KasT α){a:α},GO_ lt N t=some a->GO_ lt N (t.bind f)=GO_ lt N (f a)
 | .ret b,a,e=>by cases e;rfl
 | .ask i j k,a,e=>by
  unfold GO_ at e;change(if i<N/\j<N then GO_ lt N ((k (lt i j)).bind f)else none)=_;split at e
  .rename_i h;rw[if_pos h];show bx_ (k (lt i j)) e
  .cases e
section
variable {lt:Nat->Nat->Bool}{N:Nat}
def Pm(N:Nat)(p:Array Nat):Prop:=p.Perm (List.toArray (List.range N))
theorem Pm.below{p:Array Nat}(h:Pm N p)(h0:0<N)(i:Nat):p.getD i 0<N:=by
 by_cases hi:i<p.size
 .have e:p.getD i 0=p[i]:=by simp[Array.getD,hi]
  have m:p[i]∈(List.range N):=by
   have:p[i]∈p.toList:=s_
   show(Bk_.mp h).mem_iff.mp this
  rw[e];show A3_.mp m
 .have e:p.getD i 0=0:=by simp[Array.getD,hi]
  rw[e];show h0
theorem lx_{p:Array Nat}(h:Pm N p)(h0:0<N):∀(f n:Nat),∃m,GO_ lt N (kas_asc p f n)=some m
 |0,n=>⟨n,rfl⟩
 |f+1,n=>by
  unfold kas_asc GO_;rw[if_pos ⟨h.below h0 _,h.below h0 _⟩];cases lt (p.getD n 0) (p.getD (n-1) 0)with
  |true=>show⟨n,rfl⟩
  |false=>show lx_ h h0 f (n+1)
theorem Pm.rev{p:Array Nat}(h:Pm N p)(i j:Nat):Pm N (kas_rev p i j):=(mirror_perm _ _ _ _).trans h
theorem hV_(h0:0<N):∀(f:Nat)(p:Array Nat)(n q:Nat),Pm N p->∃r,GO_ lt N (kas_desc f p n q)=some r/\Pm N r.1
 |0,p,n,q,h=>⟨_,rfl,h⟩
 |f+1,p,n,q,h=>by
  unfold kas_desc GO_;rw[if_pos ⟨h.below h0 _,h.below h0 _⟩];cases lt (p.getD n 0) (p.getD (n-1) 0)with
  |true =>
   simp only[if_true];split
   .show hV_ h0 f _ _ _ (h.rev _ _)
   .show hV_ h0 f _ _ _ h
  |false =>
   simp only[BO_,Cb_];unfold GO_;rw[if_pos ⟨h.below h0 _,h.below h0 _⟩];cases lt (p.getD (n-1) 0) (p.getD n 0)with
   |true=>show⟨_,rfl,h⟩
   |false=>show hV_ h0 f _ _ _ h
theorem kG_(h0:0<N){n r:Nat}{p:Array Nat}(h:Pm N p):∃z,GO_ lt N (kas_tail3 n r p)=some z/\Pm N z.2:=by obtain⟨m,hm⟩:=lx_ (lt:=lt) (h.rev 0 n) h0 (r-n) n;unfold kas_tail3;show⟨_,(bx_ _ hm).trans rfl,h.rev 0 n⟩
theorem hb_(h0:0<N){n r:Nat}{p:Array Nat}(h:Pm N p):∃z,GO_ lt N (kas_descPart n r p)=some z/\Pm N z.2:=by
 obtain⟨d,hd,hp⟩:=hV_ (lt:=lt) h0 (r-(n+1)) p (n+1) 0 h;unfold kas_descPart;rw[bx_ _ hd];split
 .show kG_ h0 (hp.rev _ _)
 .show kG_ h0 hp
theorem ob_(h0:0<N){r:Nat}{p:Array Nat}(h:Pm N p):∃z,GO_ lt N (kas_count r p)=some z/\Pm N z.2:=by
 obtain⟨m,hm⟩:=lx_ (lt:=lt) h h0 (r-1) 1;unfold kas_count;rw[bx_ _ hm];split
 .show⟨_,rfl,h⟩
 .split
  .unfold GO_;rw[if_pos ⟨h.below h0 _,h.below h0 _⟩];cases lt (p.getD 0 0) (p.getD (m-1) 0)with
   |true=>show⟨_,rfl,h⟩
   |false=>show hb_ h0 (h.rev _ _)
  .show hb_ h0 h
theorem ip_(h0:0<N){p:Array Nat}(h:Pm N p)(k:Nat):∀(f l r:Nat),∃m,GO_ lt N (kas_place p k f l r)=some m
 |0,l,r=>⟨l,rfl⟩
 |f+1,l,r=>by
  unfold kas_place;split
  .show⟨l,rfl⟩
  .unfold GO_;rw[if_pos ⟨h.below h0 _,h.below h0 _⟩];cases lt (p.getD k 0) (p.getD ((l+r)/2) 0)with
   |true=>show ip_ h0 h k f l _
   |false=>show ip_ h0 h k f _ r
theorem oc_(h0:0<N):∀(f:Nat)(p:Array Nat)(k:Nat),Pm N p->∃z,GO_ lt N (kas_bin f p k)=some z/\Pm N z
 |0,p,k,h=>⟨p,rfl,h⟩
 |f+1,p,k,h=>by obtain⟨l,hl⟩:=ip_ (lt:=lt) h0 h k k 0 k;unfold kas_bin;rw[bx_ _ hl];show oc_ h0 f _ _ ((bubble_perm _ _ _).trans h)
theorem mu_(h0:0<N):∃z,GO_ lt N (kas_sort N)=some z/\Pm N z:=by
 obtain⟨r,hr,hp⟩:=ob_ (lt:=lt) h0 (r:=N) (p:=List.toArray (List.range N)) (Array.Perm.refl _);unfold kas_sort;rw[bx_ _ hr];split
 .show oc_ h0 _ _ _ hp
 .show⟨_,rfl,hp⟩
end
theorem Inv.frm(I:Inv X pins σ H s):∃m,s.heap.Ns X.env.locals m/\Fr X.base X.env.locals s.heap m:=by obtain⟨m,hn,_⟩:=id I.loc;show⟨m,hn,hn,I.bk,AG_ I.ok.bsz I.ok.above⟩
theorem Inv.led_new{X:Cx}{pins:List (Addr×Obj)}{σ:St}{H:Hp}{s:Shared}{t':Nat}{m:Str->Option Value}{h':Heap}{D:Addr}{o:HO}{ob:Obj}(I:Inv X pins σ H s)(hn:s.heap.Ns X.env.locals m)(F:Fr X.base X.env.locals h' m)
  (N:News X.base X.env.locals h' ((D,ob)::Gg_ X.base s.heap X.env.locals)) (lt1:∀q∈Gg_ X.base s.heap X.env.locals,q.1<D) (new:F9_ X.prog X.w (upd H D o) h' D o):H D=none/\Inv X pins σ (upd H D o) {s with heap:=h',toks:=t'}:=by
 have ND:=N (D,ob) Ar_;have fr:∀b o,s.heap.get? b=some o->b≠D:=λb o e w=>by subst w;show absurd (lt1 (b,o) (bN_ ND.2.1 ND.2.2 e)) (Bc_ _)
 have HD:H D=none:=by
  cases w:H D with
  |none=>rfl
  |some u =>obtain⟨o',g⟩:=JC_ (I.hok D u w);show absurd rfl (fr D o' g)
 show⟨HD,I.led hn F (λz hz'=>N z (An_ _ hz')) (λb o' e n=>by rw[af_ (fr b o' e)];show n) (λb o' e=>by rw[af_ (ae_ e HD)];show e) (λb o' e n=>?_)⟩;by_cases hb:b=D
 .subst hb;rw[aa_]at e;cases e;show new
 .rw[af_ hb,n]at e;cases e
def KU_:List V->Hp->VK->Prop:=λvs H Q=>∃(p:Addr)(ns:List Int),vs=[.ref p]/\H p=some (.lst (ns.map V.int))/\ns.length<64/\∀(l:Addr)(zs:List Int),H l=none->zs.Perm ns->zs.Pairwise (· <= ·)->Q (.ref l) (upd H l (.lst (zs.map V.int)))
theorem hc_:∀{us:List Value}{ns:List Int},IntsAre us ns->F4_ (ns.map V.int) us
 |_,_,.nil=>.nil
 |_,_,.cons n t h=>.cons ⟨t,rfl⟩ (hc_ h)
theorem jd_:GF_ X (.builtin "sorted") KU_:=by intro pins s σ H xs us Q I r h;obtain⟨p,ns,rfl,hp,h64,q⟩:=h;obtain⟨u,rfl,e⟩:=GI_ r;cases e;obtain⟨its,rv,pl,_⟩:=I.list (.inl (.inl hp));obtain⟨m,hn,F0⟩:=I.frm;show kso_sorted F0 d6_ pl.isList (mT_ rv) h64 λD vs' zs c h' F N lt1 hz hlz hpm hpw _=>?_;have hD:=(N (D,_) Ar_).1;obtain⟨HD,I2⟩:=I.led_new (t':=s.toks) (o:=.lst (zs.map V.int)) hn F N lt1 ⟨AH_ (FB_ (by rw[Ab_];lia)),vs',c,hc_ hz,hD⟩;show⟨.ref D,_,I2,rfl,q D zs HD hpm hpw⟩
theorem LD_{a:Addr}{v:Value}{n:Nat}{P:PySem.Fin->Shared->Prop}(ho:s.heap.get? a=some (seqObj "list" #[v] n))
  (h:∀h' c,(∀b o,b≠a->s.heap.get? b=some o->h'.get? b=some o)->h'.get? a=some (seqObj "list" #[v] c)->P (.done (.ret .none)) {s with heap:=h'}):wpAny (model prog w) A (Builtin.«list.sort» ⟨[.ref a],[]⟩) P E s:=by
 have s1:=Cw_ s.heap a (Obj.mapSeq λ_=>(#[]:Array Value));obtain⟨e1,o1⟩:∃e1,(s.heap.update a (Obj.mapSeq λ_=>(#[]:Array Value))).get? a=some (seqObj "list" #[] e1):=⟨_,Cp_ ho λ_=>#[]⟩;rw[list_sort_plain];show Ac_ (Dr_ ho rfl (Ac_ (Cy_ ho rfl (Ac_ (DF_ o1 rfl (Ac_ (DA_ (Ac_ (CZ_ (A5_ ?_) (Az_ _))) ?_)))) ?_ (Az_ _))))
 .dsimp only
  have lt2:(#[v]:Array Value).size<2:=by change 1<2;decide
  rw[if_pos lt2];show Ac_ (Aj_ ?_);rw[if_pos lt2];have k3:∀b o,(s.heap.update a (Obj.mapSeq λ_=>(#[]:Array Value))).get? b=some o->(((s.heap.update a (Obj.mapSeq λ_=>(#[]:Array Value))).push (seqObj "tuple" #[v] 0)).push (seqObj "list" #[] 0)).get? b=some o:=λb o e=>Ah_ _ (Ah_ _ e);have o3:=k3 _ _ o1;have st:failedOf (SortSt.mk' general' ((#[v]:Array Value).zip #[v]) #[] 7 none)=none:=rfl;have ar:(arrOf (SortSt.mk' general' ((#[v]:Array Value).zip #[v]) #[] 7 none)).map (λx=>x.snd)=#[v]:=by rw[show arrOf (SortSt.mk' general' ((#[v]:Array Value).zip #[v]) #[] 7 none)=(#[v]:Array Value).zip #[v]from rfl];simp
  show Ac_ (Aj_ (a:=((),SortSt.mk' general' ((#[v]:Array Value).zip #[v]) #[] 7 none)) ?_);show Ac_ (DF_ o3 rfl (Ac_ (Cy_ o3 rfl ?_ (Az_ _) ?_)))
  .dsimp only
   rw[ar,if_neg s_];obtain⟨c2,o4⟩:∃c2,((((s.heap.update a (Obj.mapSeq λ_=>(#[]:Array Value))).push (seqObj "tuple" #[v] 0)).push (seqObj "list" #[] 0)).update a (Obj.mapSeq λ_=>(#[v]:Array Value))).get? a=some (seqObj "list" #[v] c2):=⟨_,Cp_ o3 λ_=>#[v]⟩;show Aj_ (h _ c2 (λb o hb e=>?_) o4);rw[A6_ _ _ (Ne.symm hb)];show k3 b o ?_;rw[A6_ _ _ (Ne.symm hb)];show e
  .rw[ar];show(show 1<=sizeLine+1 from Nat.le_add_left 1 _)
 .show(show 1<=sizeLine from AH_ (FB_ d_))
 .show(show 1<=sizeLine from AH_ (FB_ d_))
theorem Kt_{l:Addr}{v:Value}{Q:Value->Shared->Prop}(hl:s.heap.IsList l #[v])
  (h:∀D h' c,s.heap.objs.size<=D->(∀b o,s.heap.get? b=some o->h'.get? b=some o)->h'.get? D=some (seqObj "list" #[v] c)->Q (.ref D) {s with heap:=h'}):wpAny (model prog w) A (call (.builtin "sorted") [.ref l]) Q E s:=by
 show Calls.call_function_entry Fz_ Fq_ Fr_ (args_sorted1 _) ?_;unfold Builtin.«sorted»;have z1:(#[v]:Array Value).size<=sizeLine:=(show 1<=sizeLine from AH_ (FB_ d_));show Ac_ (m:=checkCount "sorted" 1 1 _) (Aj_ (Ac_ (Fs_ hl (Ac_ (CZ_ ?_ z1)) z1)));have hz:((s.heap.push (seqObj "list" #[] 0)).update s.heap.objs.size (Obj.mapSeq λx=>x ++ #[v])).objs.size=s.heap.objs.size+1:=by rw[Ee_,D2_]
 have kp:∀b o,s.heap.get? b=some o->(((s.heap.push (seqObj "list" #[] 0)).update s.heap.objs.size (Obj.mapSeq λx=>x ++ #[v])).push (seqObj "list" #[v] 0)).get? b=some o:=λb o q=>by have hlt:=Aw_ q;show Ah_ _ ?_;rw[A6_ _ _ (CM_ hlt)];show Ah_ _ q
 have ho:=Ax_ ((s.heap.push (seqObj "list" #[] 0)).update s.heap.objs.size (Obj.mapSeq λx=>x ++ #[v])) (o:=seqObj "list" #[v] 0) rfl;show Ac_ (A5_ (BW_ DB_ ⟨_,ho,rfl⟩ Ds_ (LD_ (n:=0) ho λh' c k2 hD=>⟨_,rfl,Aj_ ⟨_,rfl,h _ h' c ?_ (λb o e=>k2 b o ?_ (kp b o e)) hD⟩⟩) (args_list_sort _)))
 .change s.heap.objs.size<=((s.heap.push (seqObj "list" #[] 0)).update s.heap.objs.size (Obj.mapSeq λx=>x ++ #[v])).objs.size;rw[hz];show C1_ _
 .have:=Aw_ e;change b≠((s.heap.push (seqObj "list" #[] 0)).update s.heap.objs.size (Obj.mapSeq λx=>x ++ #[v])).objs.size;rw[hz];show AE_ (A9_ this)
def KG_:List V->Hp->VK->Prop:=λvs H Q=>∃(p:Addr)(y:V),vs=[.ref p]/\H p=some (.lst [y])/\∀l,H l=none->Q (.ref l) (upd H l (.lst [y]))
theorem je_:GF_ X (.builtin "sorted") KG_:=by intro pins s σ H xs us Q I r h;obtain⟨p,y,rfl,hp,q⟩:=h;obtain⟨u,rfl,e⟩:=GI_ r;cases e;obtain⟨its,rv,pl,_⟩:=I.list (.inl (.inl hp));obtain⟨v,rfl,ry⟩:=GI_ rv;show Kt_ pl.isList λD h' c hD kp ho=>?_;show⟨.ref D,_,I.laid (t':=s.toks) kp hD (show F9_ X.prog X.w _ h' _ (.lst [y])from⟨(show 1<=sizeLine from AH_ (FB_ d_)),[v],c,rv,ho⟩),rfl,q _ (I.hok.fresh hD)⟩
theorem od_:typeLookup (.type "list_reverseiterator") "__len__"=pure none:=by rw[typeLookup_type,ER_];kernel_rfl
theorem pw_:typeLookup (.type "list_reverseiterator") "__length_hint__"=pure (some (.builtin "list_reverseiterator.__length_hint__")):=by rw[typeLookup_type,ER_];kernel_rfl
abbrev GU_(acc:Array Value)(c:Nat):Obj:={cls:=.type "list",dict:=none,data:=.seq acc c,slots:=#[]}
theorem ly_{it l:Addr}{items:Array Value}{Q:Value->Shared->Prop}(hh:A.handled=none)(hit:s.heap.IsRevIter it l ((items.size:Int)-1))(hl:s.heap.IsList l items)(hne:l≠it)(hz:items.size<=sizeLine)
  (hQ:∀h' tk acc c,(∀b o,b≠it->s.heap.get? b=some o->h'.get? b=some o)->h'.get? s.heap.objs.size=some (GU_ acc c)->ItemsOf (λi v=>items[items.size-1-i]?=some v) acc items.size->Q (.ref s.heap.objs.size) {s with heap:=h',toks:=tk}):
  wpAny (model prog w) A (call (.type "list") [.ref it]) Q E s:=by
 obtain⟨oi,hoi,_⟩:=id hit;obtain⟨ol,hol,_⟩:=id hl;have itl:=Aw_ hoi;have ll:=Aw_ hol;show callType_codes (Q₁:=λobj s₁=>obj=.ref s.heap.objs.size/\s₁={s with heap:=s.heap.push (GU_ #[] 0)}) F.called_list (F.typeCall_list_1 _) F.entry_list_init (code_list_new _ ⟨rfl,rfl⟩) λobj s₁ h₁=>?_;obtain⟨rfl,rfl⟩:=h₁;have hS:(s.heap.push (GU_ #[] 0)).get? s.heap.objs.size=some (GU_ #[] 0):=Ax_ _ rfl;have k1:∀b o,s.heap.get? b=some o->(s.heap.push (GU_ #[] 0)).get? b=some o:=λb o e=>Ah_ _ e;have nS:∀b o,s.heap.get? b=some o->b≠s.heap.objs.size:=λb o e=>AE_ (Aw_ e);show⟨⟨_,hS,rfl⟩,F.args_list_init_2 _ _,?_⟩;change wpAny _ _ (do let old <-Builtin.List.listItems (.ref s.heap.objs.size);Builtin.List.listUpdate (.ref s.heap.objs.size) (λ_=>#[]);letGo old.toList.reverse;Builtin.List.listExtendWith (.ref s.heap.objs.size) (.ref it) .none) _ _ _;show Ac_ (Dr_ hS rfl (Ac_ (Cy_ hS rfl (Ac_ (Dd_ ?_)) (Az_ _) (Az_ _))));have k2:∀b o,s.heap.get? b=some o->((s.heap.push (GU_ #[] 0)).update s.heap.objs.size (Obj.mapSeq λ_=>(#[]:Array Value))).get? b=some o:=λb o e=>by rw[A6_ _ _ (nS b o e).symm];show k1 b o e
 obtain⟨c0,hS2⟩:∃c0,((s.heap.push (GU_ #[] 0)).update s.heap.objs.size (Obj.mapSeq λ_=>(#[]:Array Value))).get? s.heap.objs.size=some (GU_ #[] c0):=⟨_,Cp_ hS λ_=>#[]⟩;change wpAny _ _ _ _ _ {s with heap:=(s.heap.push (GU_ #[] 0)).update s.heap.objs.size (Obj.mapSeq λ_=>(#[]:Array Value))};generalize(s.heap.push (GU_ #[] 0)).update s.heap.objs.size (Obj.mapSeq λ_=>(#[]:Array Value))=h2 at*;have hit2:h2.IsRevIter it l ((items.size:Int)-1):=hit.at λo e=>k2 _ _ e;have hl2:h2.IsList l items:=hl.at λo e=>k2 _ _ e;have ty:Shared.TypeIs {s with heap:=h2} (.ref it) "list_reverseiterator" := Heap.IsRevIter.typeIs (s:={s with heap:=h2}) hit2;have W:=(Walks.listRev (prog:=prog) (w:=w) (A:=A.in1.in1) hh it l hne items).toS
 have nf:s.heap.objs.size∉[it,l]:=λhm=>by
  rcases Av_.mp hm with e|hm
  .show absurd itl (by rw[<-e];show Bc_ _)
  .show absurd ll (by rw[<-Ak_.mp hm];show Bc_ _)
 have ne1:Builtin.List.listSameRef (.ref s.heap.objs.size) (.ref it)=false:=by have:s.heap.objs.size≠it:=λe=>nf (by rw[e];show Ar_);simp[Builtin.List.listSameRef,this]
 unfold Builtin.List.listExtendWith;show Ac_ (C6_ ty ?_);rw[if_neg (by rw[ne1];decide)];show Ac_ (wpAny_pyIter_revIter (s:={s with heap:=h2}) hit2 (Ac_ (A5_ ?_)));unfold Builtin.List.listLengthHint;show Ac_ (C2_ ty od_ ?_);change wpAny _ _ (specialOf (Value.ref it) (Str.ofString "__length_hint__") >>= _) _ _ _;show Ac_ (C2_ ty pw_ ?_);generalize hid:("list_reverseiterator.__length_hint__" : String)=id0
 wp_delta
 rw[show splitId id0=some ("list_reverseiterator","__length_hint__")from by subst hid;decide +kernel];subst hid;show Ac_ (CX_ (b:=true) ty (by rw[isSubtype_type];kernel_rfl) (Aj_ ?_));rw[if_neg d_];have st0:(0:Nat)<=items.size/\h2.IsRevIter it l ((items.size:Int)-1-((0:Nat):Int))/\h2.IsList l items:=⟨Az_ _,by rw[show(items.size:Int)-1-((0:Nat):Int)=(items.size:Int)-1 by lia];show hit2,hl2⟩;show Aj_ ⟨BI_ F.plain_extend_loop _,codeAny_extend_loopS (s:={s with heap:=h2}) W hz s.heap.objs.size nf .none items.size 0 #[] c0 rfl (Az_ _) st0 hS2 (ItemsOf.nil _) λs' acc c hm hS' hacc=>?_⟩;rw[Moved.eq_with hm];show⟨rfl,hQ s'.heap s'.toks acc c (λb o hb e=>hm.heap b o (λhmem=>?_) (k2 b o e)) hS' hacc⟩
 rcases Av_.mp hmem with e'|hmem
 .show nS b o e e'
 .show hb (Ak_.mp hmem)
theorem lz_:bootBuiltins "reversed"=some (.type "reversed"):=r_
def Kw_(ta:TA):TE:=λσ H Q=>ta σ H λvs H1=>∃a xs,vs=[.ref a]/\H1 a=some (.lst xs)/\∀p,H1 p=none->Q (.ref p) (upd H1 p (.lst xs.reverse))
theorem iq_{a:Expr}{p':Pos}(hc:X.calm=true)(hg:Gl X "list") (hm:X.mg "list"=none) (hg':Gl X "reversed") (hm':X.mg "reversed"=none) (ha:PA X [a] ta) (hs:FL_ [a]=true:=by rfl):
  PE X (.Call (.Name "list" p) [.Call (.Name "reversed" p') [a] [] pos'] [] pos) (Kw_ ta):=by
 have h':Gu_ a=true:=by simpa[FL_]using hs
 intro pins s σ H Q I h;show BZ_ (dP_ I hg hm fz_ ?_ d_ d_);show Bd_ ?_ (ap_ rfl) rfl;rw[ap_ (e:=.Call (.Name "reversed" p') [a] [] pos') (es:=[]) rfl];change wpAny _ _ (spliced ((false,eval (.Call (.Name "reversed" p') [a] [] pos') X.env)::backTo pos (starEach [] X.env))) _ _ s;show DL_ ?_;show Call_ (dP_ I hg' hm' lz_ (Bd_ (thn (ha pos' pins s σ H _ I h) λus s1 ⟨vs,H1,I1,r1,q1⟩=>?_) (ap_ h') rfl));obtain⟨b,xs,rfl,hb,q⟩:=q1;obtain⟨u,rfl,e⟩:=GI_ r1;cases e;obtain⟨its,rv,pl,hz⟩:=I1.list (.inl (.inl hb));have hlen:=rv.length;show call_reversed_list pl.isList (DX_ ?_);obtain⟨ob,hob,_⟩:=id pl.isList;have bl:=Aw_ hob;have e1:((its.toArray.size:Nat):Int)-1=((its.toArray.size:Nat):Int)-1:=rfl;have hit:(s1.heap.push (revObj b ((its.toArray.size:Int)-1))).IsRevIter s1.heap.objs.size b ((its.toArray.size:Int)-1):=⟨_,Ax_ _ rfl,rfl,rfl⟩;show ly_ (s:={s1 with heap:=s1.heap.push (revObj b ((its.toArray.size:Int)-1))}) (I1.ok.hd hc) hit (pl.isList.at λo e=>Ah_ _ e) (AE_ bl) (by rw[At_];lia) λh2 tk acc c kp hS hacc=>?_;have k1:∀b o,s1.heap.get? b=some o->h2.get? b=some o:=λb o e=>kp b o (AE_ (Aw_ e)) (Ah_ _ e);have sz:s1.heap.objs.size<=(s1.heap.push (revObj b ((its.toArray.size:Int)-1))).objs.size:=by rw[D2_];show C1_ _
 show⟨.ref _,_,I1.laid (t':=tk) k1 sz (show F9_ X.prog X.w _ h2 _ (.lst xs.reverse)from⟨by rw[Bl_];show hz,acc.toList,c,hU_ ?_ ?_,by simpa using hS⟩),rfl,q _ (I1.hok.fresh sz)⟩
 .have z:acc.size=its.length:=by have:=hacc.1;simpa using this
  have z2:acc.toList.length=acc.size:=BV_;rw[Bl_];lia
 .intro j x u hx hu;have hj:j<xs.length:=by have:=(Ae_.mp hx).1;simpa using this
  rw[Cl_ hj]at hx;have z:=hacc.2 j u (by simpa using hu);obtain⟨u',hu',ru⟩:=rv.get hx;have z':its[its.length-1-j]?=some u:=by simpa using z
  rw[<-hlen,hu']at z';cases z';show ru
def I4_:V->List V->Hp->VK->Prop:=λx vs H Q=>∃(l:Addr)(xs:List V)(i:Int)(y:V),x=.ref l/\vs=[.int i,y]/\H l=some (.lst xs)/\0<=i/\i.toNat<=xs.length/\xs.length<1000/\Q .non (upd H l (.lst (xs.take i.toNat++y::xs.drop i.toNat)))
theorem kH_:MtM X "list.insert" I4_:=by
 intro pins s σ H x vs v us Q I rx rv h;obtain⟨l,xs,i,y,rfl,rfl,hH,h0,h1,h2,q⟩:=h;cases rx;obtain⟨u,w,rfl,ru,rw'⟩:=rv.two;obtain⟨t,rfl⟩:=ru;obtain⟨z,its,n,r,hl,e⟩:=I.lstM hH;show CV_ F.slot_list_insert ⟨_,e,rfl⟩ F.entry_list_insert (F.args_list_insert_3 _ _ _) (AutoSeq1.list_insert_list_int_val_1 l its.toArray n i t w (by rw[fitsIndex_both (k:=i) o_ o_];decide) (by rw[At_];lia)) ⟨e,?_⟩;show⟨.non,_,I.lset (its':=its.take i.toNat++w::its.drop i.toNat) hH e ?_ ((r.take _).append (.cons rw' (r.drop _))) ?_,rfl,q⟩
 .dsimp only
  rw[if_neg o_,At_,Ev_ o_];simp;show Bp_ s_
 .have:=FB_ h2;simp;lia
def Ite(K:PySem.W.Frag)(a:Addr):It :=
  ⟨λi H=>∃xs x,SqL K H a xs/\xs[i]?=some x,
   λi H v H'=>∃T x,v=.ref T/\H T=none/\H'=upd H T (.tup [.int i,x])/\(∀xs,SqL K H a xs->xs[i]?=some x),
   λi H=>∃xs,SqL K H a xs/\xs.length<=i⟩
def KP_(e it l:Addr)(i:Nat)(h:Heap):Prop:=(∃old,IsEnum h e it i old)/\h.IsListIter it l i
variable{K:PySem.W.Frag}{elts:List Expr}{kt:Nat}{tpos:Pos}{it:Addr}
theorem oe_{e l:Addr}(hei:e≠it):
  JU_ P w K (.Tuple elts kt tpos) (Ite K l) [e,it] e (KP_ e it l) where
 mem:=s_
 obj:=λi h st b hb=>by
  obtain⟨⟨old,s1⟩,⟨o4,s4,c4,d4⟩⟩:=st;simp only[Av_,AL_,Dz_]at hb
  rcases hb with rfl|rfl
  .show⟨_,s1,λv e=>by cases(show Data.fields _=Data.cell v from e)⟩
  .show⟨o4,s4,λv e=>by rw[d4]at e;cases e⟩
 keep:=λi h h' st k=>by obtain⟨⟨old,s1⟩,s4⟩:=st;show⟨⟨old,k e s_ _ s1⟩,s4.at λo q=>k it s_ o q⟩
 item:=by
  intro X hP hw hK hc i pins s σ H E I hf st hg;subst hP hw hK;obtain⟨xs,x,hq,hx⟩:=hg;obtain⟨its,rv,p1,z1⟩:=I.list hq;obtain⟨u,hu,ru⟩:=rv.get hx;obtain⟨⟨old,s1⟩,s4⟩:=id st;show wpAny_pyNext_enum_item s1 s4 p1.isList (x:=u) (by simpa using hu) hei λh' g1 g2 g3 g4 g5=>?_;show⟨_,rfl,wpAny_letOwnedTupleGo_enum g1 λh'' k1 k2=>?_⟩
  have lt:∀b∈[e,it],b<s.heap.objs.size:=λb hb=>by
   simp only[Av_,AL_,Dz_]at hb
   rcases hb with rfl|rfl
   .show Aw_ s1
   .obtain⟨o,e,_⟩:=s4;show Aw_ e
  have hT:H s.heap.objs.size=none:=I.hok.fresh (Ai_ _)
  have I1:Inv X pins σ (upd H s.heap.objs.size (.tup [.int i,x])) {s with heap:=s.heap.push {cls:=.type "tuple",data:=.seq #[.int i s.toks,u]}} :=
   I.laid (t':=s.toks) (λb u e=>Ah_ _ e) (Ai_ _) ⟨by change 2<=sizeLine;decide,[.int i s.toks,u],.cons ⟨_,rfl⟩ (.cons ru .nil),⟨_,Ax_ _ rfl,rfl,_,rfl⟩⟩
  have f1:∀b∈[e,it],H2_ X pins (upd H s.heap.objs.size (.tup [.int i,x])) b:=λb hb=>⟨by rw[af_ (AE_ (lt b hb))];show(hf b hb).1,(hf b hb).2⟩
  have I2:Inv X pins σ (upd H s.heap.objs.size (.tup [.int i,x])) {s with heap:=h'',toks:=s.toks+1}:=by
   show Inv.turnedL (s:={s with heap:=s.heap.push {cls:=.type "tuple",data:=.seq #[.int i s.toks,u]}}) (ch:=[e,it]) (t':=s.toks+1) I1 (λb o hb q=>?_) f1;simp only[Av_,AL_,Dz_,not_or]at hb;show(k2.2 b hb.1).trans ?_;by_cases hbT:b=s.heap.objs.size
   .subst hbT;have e':(s.heap.push {cls:=.type "tuple",data:=.seq #[.int i s.toks,u]}).get? s.heap.objs.size=some o:=q;rw[Ax_ _ rfl]at e';cases e';show g3
   .have hb2:s.heap.get? b=some o:=by have e':(s.heap.push {cls:=.type "tuple",data:=.seq #[.int i s.toks,u]}).get? b=some o:=q;show(Cq_ _ _ _ hbT).symm.trans e'
    show g5 b o hb.1 hb.2 hb2
  show⟨.ref s.heap.objs.size,_,I2,rfl,⟨_,x,rfl,hT,rfl,λxs' h'=>by rw[I.list_inj h' hq];show hx⟩,?_,λb hb=>(f1 b hb).1⟩;show⟨⟨u,k1⟩,g2.at λo q=>(k2.2 it hei.symm).trans q⟩
 done:=by intro X hP hw hK hc i pins s σ H E I hf st hg;subst hP hw hK;obtain⟨xs,hq,he⟩:=hg;obtain⟨its,rv,p1,z1⟩:=I.list hq;obtain⟨⟨old,s1⟩,s4⟩:=id st;have l1:=rv.length;show wpAny_pyNext_enum_end (I.ok.hd hc) s1 s4 p1.isList (by simp;lia) λh' k=>⟨rfl,?_⟩;show Inv.turnedL (ch:=[e,it]) (t':=s.toks) I (λb o hb q=>?_) hf;simp only[Av_,AL_,Dz_,not_or]at hb;show k b o hb.2 q
 self:=λ_ _ _ _ _ st h=>by obtain⟨⟨old,s1⟩,_⟩:=st;show wpAny_pyIter_enum s1 h
def KA_(K:PySem.W.Frag)(ta:TA):TI:=λσ H R=>ta σ H λvs H1=>∃a,vs=[.ref a]/\(∃xs,SqL K H1 a xs)/\R (Ite K a) H1
theorem lA_{a:Expr}(hK:X.K=K)(hg:Gl X "enumerate") (hm:X.mg "enumerate"=none) (ha:PA X [a] ta) (hs:FL_ [a]=true:=by rfl):PI X (.Tuple elts kt tpos) (.Call (.Name "enumerate" p) [a] [] pos) (KA_ K ta):=by
 subst hK;intro pins s σ H R I h;have h':Gu_ a=true/\FL_ []=true:=by simpa[FL_]using hs
 show Call_ (dP_ I hg hm kt_ (Bd_ (thn (ha pos pins s σ H _ I h) λus s1 ⟨vs,H1,I1,r1,q1⟩=>?_) (ap_ h'.1) (bT_ h'.2)));obtain⟨l,e,⟨xs,hx⟩,q⟩:=q1;subst e;obtain⟨u1,rfl,e1⟩:=GI_ r1;cases e1;obtain⟨its1,rv1,p1,z1⟩:=I1.list hx;show call_enumerate_list p1.isList λh' g1 g2 g3 g4=>?_;have I2:Inv X pins σ H1 {s1 with heap:=h'}:=I1.kept (t':=s1.toks) g4;show wpAny_pyIter_enum g1 ⟨_,[s1.heap.objs.size+1,s1.heap.objs.size],_,Ite X.K l,H1,rfl,I2,oe_ (Nat.succ_ne_self _),⟨⟨_,g1⟩,g2⟩,λb hb=>?_,q⟩
 have hb':s1.heap.objs.size<=b:=by
  simp only[Av_,AL_,Dz_]at hb
  rcases hb with rfl|rfl <;> first|show Bt_ _ _|show Ai_ _
 show I1.fpOk hb' (I1.hok.fresh hb')
variable {h₀:Heap}{L a:Addr}{m:Str->Option Value}{news:List (Addr×Obj)}{vs:List Value}
abbrev HM_:List (Str×Value):=[(Str.ofString "reverse",.bool true)]
def JS_(a:Addr)(before:Nat)(st:SortSt):Sem PySem.Fin:=do
 let out:=(arrOf st).map (·.2)
 let moved:=(<-seqEpoch a) != before
 Builtin.List.listUpdate (.ref a) λ_=>out.reverse
 if let some x:=failedOf st then rule "list.sort.comparison-raised";throw x
 if moved then rule "list.sort.modified";raiseError "ValueError" "list modified during sort"
 ret .none
def IQ_(a:Addr)(xs:Array Value)(before:Nat):Sem PySem.Fin:=do
 let two:=xs.zip xs
 rule "list.sort.reverse"
 let kd <-if xs.size<2 then pure general' else keyKind' xs
 let((),st) <-(if xs.size<2 then pure ()else sortRuns').run (SortSt.mk' kd two.reverse #[] 7 none)
 JS_ a before st
theorem jL_(a:Addr):Builtin.«list.sort» ⟨[.ref a],HM_⟩=(Builtin.List.listItems (.ref a) >>= λxs=>Builtin.List.listUpdate (.ref a) (λ_=>#[]) >>= λ_=>seqEpoch a >>= λbefore=>newTuple xs.toList >>= λheld=>newList [] >>= λstore=>holding [held,store] (IQ_ a xs before)):=rfl
theorem qC_(xs:List Value):((List.toArray xs).zip (List.toArray xs)).reverse=(List.toArray xs.reverse).zip (List.toArray xs.reverse):=by have e:=kat_pairs (ks:=xs) (vs:=xs) true rfl;rw[if_pos rfl]at e;show e
theorem px_{n:Nat}{P:PySem.Fin->Shared->Prop}(F0:Fr h₀ L s.heap m)(N0:News h₀ L s.heap news)(got:s.heap.get? a=some (seqObj "list" vs.toArray n)) (aL:a≠L) (a0:h₀.get? a=none) (na:∀q∈news,q.1≠a) (two:2<=vs.length) (few:vs.length<64)
  (ask:∀c h',Fr h₀ L h' m->News h₀ L h' ((a,seqObj "list" #[] c)::news)->wpAny (model prog w) A (keyKind' vs.toArray) (λκ s1=>(kas_sort vs.length).kasWp (kas_ask prog w A κ vs.reverse) (λp s2=>KasFin h₀ L m a c ((p.toList.map λi=>vs.reverse.getD i Value.none).reverse) (λs3=>P (.done (.ret .none)) s3) s2) s1) (λ_ _=>False) {s with heap:=h'}):
  wpAny (model prog w) A (Builtin.«list.sort» ⟨[.ref a],HM_⟩) P E s:=by
 have lt:=Aw_ got;have b1:=Cw_ s.heap a (Obj.mapSeq λ_=>(#[]:Array Value));obtain⟨c,got1⟩:∃c,(s.heap.update a (Obj.mapSeq λ_=>(#[]:Array Value))).get? a=some (seqObj "list" #[] c):=⟨_,Cp_ got λ_=>#[]⟩;have F1:=((kas_fr F0 b1 aL a0).push (seqObj "tuple" vs.toArray 0)).push (seqObj "list" #[] 0);have N1:=(kas_news N0 b1 na).grown (h':=((s.heap.update a (Obj.mapSeq λ_=>(#[]:Array Value))).push (seqObj "tuple" vs.toArray 0)).push (seqObj "list" #[] 0)) λb x e=>Ah_ _ (Ah_ _ e)
 have N2:News h₀ L (((s.heap.update a (Obj.mapSeq λ_=>(#[]:Array Value))).push (seqObj "tuple" vs.toArray 0)).push (seqObj "list" #[] 0)) ((a,seqObj "list" #[] c)::news):=λq hq=>by
  rcases Av_.mp hq with rfl|hq
  .show⟨Ah_ _ (Ah_ _ got1),aL,a0⟩
  .show N1 q hq
 have asked:=ask c _ F1 N2;have big:64<=sizeLine:=by rw[Ch_];decide
 rw[jL_];show Ac_ (Dr_ got rfl (Ac_ (Cy_ got rfl (Ac_ (DF_ got1 rfl (Ac_ (DA_ (Ac_ (CZ_ (A5_ ?_) (Az_ _))) (by change vs.length<=_;lia))))) (by rw[At_];lia) (Az_ _))));change wpAny (model prog w) A (IQ_ a vs.toArray c) P E {s with heap:=((s.heap.update a (Obj.mapSeq λ_=>(#[]:Array Value))).push (seqObj "tuple" vs.toArray 0)).push (seqObj "list" #[] 0)};unfold IQ_
 dsimp only
 have n2:¬ vs.toArray.size<2:=by rw[At_];lia
 rw[if_neg n2,if_neg n2,qC_];show Ac_ (C9_ (Ac_ (Bu_ asked (λκ s0 hk=>?_) λ_ _ x=>x.elim)));have rl:vs.reverse.length=vs.length:=Bl_
 show Ac_ (Bu_ (kat_run (ks:=vs.reverse) (vs:=vs.reverse) (Q:=λst s1=>∃p:Array Nat,p.size=vs.length/\arrOf st=p.map (kas_item (vs.reverse.toArray.zip vs.reverse.toArray))/\failedOf st=none/\KasFin h₀ L m a c ((p.toList.map λi=>vs.reverse.getD i Value.none).reverse) (λs2=>P (.done (.ret .none)) s2) s1)
  rfl o_ o_ (λp st s1 x1 x2 x3 x4=>⟨p,by rw[x1,rl],x2,x3,x4⟩) (by rw[rl];show hk)) ?_ λ_ _ e=>e)
 rintro⟨⟨⟩,st⟩ s1 ⟨p,hp,har,hf,news1,g,F2,N3,U,k⟩;obtain⟨pre,post,e0,hg,x1,x2⟩:=U.split;rw[e0]at N3;have now:=N3 (a,seqObj "list" #[] c) (AO_ _ (.head _));have out:=kat_snds (ks:=vs.reverse) (vs:=vs.reverse) rfl har;have outr:((arrOf st).map (·.2)).reverse=List.toArray ((p.toList.map λi=>vs.reverse.getD i Value.none).reverse):=by rw[out];simp
 unfold JS_
 dsimp only
 rw[outr];have sz:(List.toArray ((p.toList.map λi=>vs.reverse.getD i Value.none).reverse)).size=vs.length:=by rw[At_,Bl_,Ab_,BV_,hp]
 have b2:=Cw_ s1.heap a (Obj.mapSeq λ_=>List.toArray ((p.toList.map λi=>vs.reverse.getD i Value.none).reverse));obtain⟨c2,got2⟩:∃c2,(s1.heap.update a (Obj.mapSeq λ_=>List.toArray ((p.toList.map λi=>vs.reverse.getD i Value.none).reverse))).get? a=some (seqObj "list" (List.toArray ((p.toList.map λi=>vs.reverse.getD i Value.none).reverse)) c2):=⟨_,Cp_ now.1 λ_=>List.toArray ((p.toList.map λi=>vs.reverse.getD i Value.none).reverse)⟩;show Ac_ (DF_ now.1 rfl (Ac_ (Cy_ now.1 rfl ?_ (Az_ _) (by rw[sz];lia))));rw[hf];simp only[bne_self_eq_false,BO_,Cb_];show Aj_ (k _ c2 (kas_fr F2 b2 now.2.1 now.2.2) ?_);rw[hg];show news_set N3 x1 x2 b2 got2
theorem kI_(x:Value):argsOk "sorted" ⟨[x],HM_⟩:=by unfold argsOk;kernel_rfl
theorem mW_(x:Value):argsOk "list.sort" ⟨[x],HM_⟩:=by unfold argsOk;kernel_rfl
theorem mX_{l:Addr}{Q:Value->Shared->Prop}(F0:Fr h₀ L s.heap m)(N0:News h₀ L s.heap news)(isl:s.heap.IsList l vs.toArray)(two:2<=vs.length)(few:vs.length<64)
  (ask:∀D c h',Fr h₀ L h' m->News h₀ L h' ((D,seqObj "list" #[] c)::news)->(∀q∈news,q.1<D)->wpAny (model prog w) A.in1.in1 (keyKind' vs.toArray) (λκ s1=>(kas_sort vs.length).kasWp (kas_ask prog w A.in1.in1 κ vs.reverse) (λp s2=>KasFin h₀ L m D c ((p.toList.map λi=>vs.reverse.getD i Value.none).reverse) (λs3=>Q (.ref D) s3) s2) s1) (λ_ _=>False) {s with heap:=h'}):
  wpAny (model prog w) A (call (.builtin "sorted") [.ref l] HM_) Q E s:=by
 have big:64<=sizeLine:=by rw[Ch_];decide
 show EH_ Fz_ Fq_ Fr_ (kI_ _) ?_;unfold Builtin.«sorted»;show Ac_ (m:=checkCount "sorted" 1 1 _) (Aj_ (Ac_ (Fs_ isl (Ac_ (CZ_ ?_ o_)) o_)));have sz:((s.heap.push (seqObj "list" #[] 0)).update s.heap.objs.size (Obj.mapSeq (· ++ vs.toArray))).objs.size=s.heap.objs.size+1:=(Ee_ ..).trans (D2_ ..);obtain⟨hx,ex⟩:∃hx,hx=(s.heap.push (seqObj "list" #[] 0)).update s.heap.objs.size (Obj.mapSeq (· ++ vs.toArray)):=⟨_,rfl⟩;rw[<-ex]at sz;have got:(hx.push (seqObj "list" vs.toArray 0)).get? (s.heap.objs.size+1)=some (seqObj "list" vs.toArray 0):=by rw[<-sz];show Ax_ _ rfl
 have kp:∀b o,s.heap.get? b=some o->(hx.push (seqObj "list" vs.toArray 0)).get? b=some o:=λb o q=>by have hb:=Aw_ q;rw[Cq_ _ _ _ (by rw[sz];show AE_ (A9_ hb)),ex,Fk_ _ _ _ _ (AE_ hb),Cq_ _ _ _ (AE_ hb)];show q
 have hL:=F0.ns.lt;change wpAny _ _ _ _ _ {s with heap:=((s.heap.push (seqObj "list" #[] 0)).update s.heap.objs.size (Obj.mapSeq (· ++ vs.toArray))).push (seqObj "list" vs.toArray 0)};rw[<-ex,sz];show Ac_ (A5_ (Fl_ DB_ ⟨_,got,rfl⟩ Ds_ ?body (mW_ _)))
 case body =>change wpAny (model prog w) A.in1.in1 (Builtin.«list.sort» ⟨[.ref (s.heap.objs.size+1)],HM_⟩) _ _ _;show px_ (s:={s with heap:=hx.push (seqObj "list" vs.toArray 0)}) (F0.kept kp) (N0.grown kp) got (CM_ (A9_ hL)) (B3_ (AG_ F0.above (Nat.le_succ_of_le (AH_ hL)))) (λq hq=>AE_ (A9_ (Aw_ (N0 q hq).1))) two few λc h' F' N'=>?_;show Bu_ (ask _ c h' F' N' λq hq=>A9_ (Aw_ (N0 q hq).1)) (λκ s1 hk=>?_) λ_ _ x=>x;rw[kat_ask_eq (vs:=vs.reverse) rfl]at hk⊢;show kas_wp_mono hk λp s2 hk2=>hk2.mono λs3 hq=>⟨_,rfl,Aj_ ⟨_,rfl,hq⟩⟩
theorem mY_{Q:VK}{p:Addr}{ys:List V}{lt:Nat->Nat->Bool}{κ:SortKind}{pm:Array Nat}(I:Inv X pins σ H s)(hq:SqL X.K H p ys)(h2:2<=ys.length)(h64:ys.length<64)
  (kind:∀(its:List Value)(s':Shared),F4_ ys its->Inv X pins σ H s'->∀C:SortKind->Shared->Prop,C κ s'->wpAny (model X.prog X.w) X.A.in1.in1 (keyKind' its.toArray) C (λ_ _=>False) s')
  (less:∀(its:List Value)(s':Shared)(i j:Nat),F4_ ys.reverse its->Inv X pins σ H s'->i<ys.length->j<ys.length->∀C:Bool->Shared->Prop,C (lt i j) s'->wpAny (model X.prog X.w) X.A.in1.in1 (keyLt' κ (its.getD i Value.none) (its.getD j Value.none)) C (λ_ _=>False) s')
  (run:GO_ lt ys.length (kas_sort ys.length)=some pm) (hz:pm.size<=1000) (q:∀l,H l=none->Q (.ref l) (upd H l (.lst (pm.toList.map λi=>ys.reverse.getD i .non).reverse))):
  wpAny (model X.prog X.w) X.A (call (.builtin "sorted") [.ref p] HM_) (EP X pins σ Q) X.xe s:=by
 obtain⟨its,rv,pl,_⟩:=I.list hq;have hl:=rv.length;obtain⟨m,hn,F0⟩:=I.frm;show mX_ F0 d6_ pl.isList o_ o_ λD e1 h1 F1 N1 lt1=>?_;have N1':News X.base X.env.locals h1 (Gg_ X.base s.heap X.env.locals):=λz hz'=>N1 z (An_ _ hz');have ND:=N1 (D,_) Ar_;have fr:∀b o,s.heap.get? b=some o->b≠D:=λb o e w=>by subst w;show absurd (lt1 (b,o) (bN_ ND.2.1 ND.2.2 e)) (Bc_ _)
 have HD:H D=none:=by
  cases w:H D with
  |none=>rfl
  |some u =>obtain⟨o,g⟩:=JC_ (I.hok D u w);show absurd rfl (fr D o g)
 have I1:Inv X pins σ H {s with heap:=h1,toks:=s.toks}:=I.led hn F1 N1' (λ_ _ _ n=>n) (λ_ _ w=>w) (λb o w n=>by rw[w]at n;cases n);have rvr:F4_ ys.reverse its.reverse:=rv.reverse;show kind its _ rv I1 _ ?_;rw[<-hl];show mt_ (lt:=lt) (n:=ys.length) (λi j C hi hj hC=>less its.reverse _ i j rvr I1 hi hj C hC) _ run ?_;show Fp_ F1 N1 (.head λz hz' w=>?_) λh2' c F2 N2=>?_
 .show absurd (lt1 z hz') (by rw[w];show Bc_ _)
 .have N2':News X.base X.env.locals h2' (Gg_ X.base s.heap X.env.locals):=λz hz'=>N2 z (An_ _ hz');have hD:=(N2 (D,_) Ar_).1;show⟨.ref D,upd H D (.lst (pm.toList.map λi=>ys.reverse.getD i .non).reverse),I.led (t':=s.toks) hn F2 N2' (λb o e n=>by rw[af_ (fr b o e)];show n) (λb o e=>by rw[af_ (ae_ e HD)];show e) (λb o e n=>?_),rfl,q D HD⟩;by_cases hb:b=D
  .subst hb;rw[aa_]at e;cases e;show⟨AH_ (FB_ (by simp;lia)),_,c,(io_ rvr _).reverse,hD⟩
  .rw[af_ hb,n]at e;cases e
def L2_(T:String):V->Prop
 | .int _=>T = "int"
 | .str _=>T = "str"
 |_=>False
theorem ir_(T:String)(I:Inv X pins σ H s):∀{ys:List V}{its:List Value},F4_ ys its->(∀y∈ys,∃a x z,y=.ref a/\H a=some (.tup [x,z])/\L2_ T x) ->
  ∃fs,KatTups s.heap its fs/\fs.length=its.length/\∀v∈fs,Looks (model X.prog X.w) s.heap (typeOf v) (.type T)
 |[],_,.nil,_=>⟨[],.nil,rfl,λv hv=>nomatch hv⟩
 |y::ys,_,.cons r1 r2,h=>by
  obtain⟨fs,t,hl,hf⟩:=ir_ T I r2 λy hy=>h y (An_ _ hy);obtain⟨a,x,z,rfl,ha,fx⟩:=h _ Ar_;cases r1;obtain⟨zs,rz,⟨ob,ho,hcl,n,hd⟩,_⟩:=I.tuple (.inl (.inl ha));obtain⟨u,w',rfl,ru,rw'⟩:=Hm_ rz;show⟨u::fs,.cons ho hcl hd rfl t,by simp[hl],λv hv=>?_⟩
  rcases Av_.mp hv with rfl|hv
  .cases x with
   |int i=>obtain⟨t,rfl⟩:=ru;cases fx;show .now
   |str i=>obtain⟨t,rfl⟩:=ru;cases fx;show .now
   |_=>show absurd fx (by simp[L2_])
  .show hf v hv
theorem kJ_(I:Inv X pins σ H s){a b:Addr}{x1 x2 y1 y2:V}{d1 d2 e1 e2:Dt}{b1 b2:Bool}{C:Bool->Shared->Prop}{A:Around}{E:Value->Shared->Prop}(hu:A.units+60<cLine)
  (ha:H a=some (.tup [x1,x2])) (hb:H b=some (.tup [y1,y2])) (r1:Rep H x1 d1) (r2:Rep H x2 d2) (q1:Rep H y1 e1) (q2:Rep H y2 e2) (h1:deq d1 e1=some b1) (h2:deq d2 e2=some b2) (z1:dep d1<=50) (z2:dep d2<=50)
  (c1:b1=false->∀u v,Ga_ x1 u->Ga_ y1 v->wpAny (model X.prog X.w) A (oneLt' true u v) C (λ_ _=>False) s)
  (c2:b1=true->b2=false->∀u v,Ga_ x2 u->Ga_ y2 v->wpAny (model X.prog X.w) A (oneLt' false u v) C (λ_ _=>False) s)
  (c3:b1=true->b2=true->C false s):wpAny (model X.prog X.w) A (keyLt' (tuples' true) (.ref a) (.ref b)) C E s:=by
 obtain⟨zs,rz,⟨ob,ho,hcl,n,hd⟩,_⟩:=I.tuple (.inl (.inl ha));obtain⟨u1,u2,rfl,ru1,ru2⟩:=Hm_ rz;obtain⟨ws,rw,⟨ob',ho',hcl',n',hd'⟩,_⟩:=I.tuple (.inl (.inl hb));obtain⟨v1,v2,rfl,rv1,rv2⟩:=Hm_ rw;show kat_lt ho hd ho' hd' ?_;show kat_cons (mn_ I Vw.refl d1 e1 r1 q1 ru1 rv1 h1 o_ _ _ _ _ ?_);cases b1 with
 |false=>show kat_no (c1 rfl _ _ ru1 rv1)
 |true =>
  show kat_yes (kat_cons (mn_ I Vw.refl d2 e2 r2 q2 ru2 rv2 h2 o_ _ _ _ _ ?_));cases b2 with
  |false=>show kat_no (c2 rfl rfl _ _ ru2 rv2)
  |true=>show kat_yes (kat_nil (c3 rfl rfl))
def Im_(ta:TA):TE:=λσ H Q=>ta σ H λvs H1=>∃(p x y:Addr)(c d:Int×Int),vs=[.ref p]/\H1 p=some (.lst [.ref x,.ref y])/\H1 x=some (.tup [.int c.1,.int c.2])/\H1 y=some (.tup [.int d.1,.int d.2])/\∀l zs,H1 l=none->(zs=[V.ref x,V.ref y]\/zs=[V.ref y,V.ref x])->Q (.ref l) (upd H1 l (.lst zs))
theorem py_{p:Array Nat}(h:Pm 2 p):p.toList=[0,1]\/p.toList=[1,0]:=by
 have e:=Bk_.mp h;have hl:p.toList.length=2:=by simpa using e.length_eq
 match hp:p.toList,hl with
 |[a,b],_ =>
  rw[hp]at e;have m0:=e.mem_iff (a:=0);have m1:=e.mem_iff (a:=1);have ma:=e.mem_iff (a:=a);have mb:=e.mem_iff (a:=b);simp[List.range,List.range.loop]at m0 m1 ma mb
  rcases ma with rfl|rfl <;> rcases mb with rfl|rfl <;> simp_all
theorem kK_{X:Cx}(hu:X.A.units+64<cLine){pins:List (Addr×Obj)}{s:Shared}{σ:St}{H:Hp}{p x y:Addr}{c d:Int×Int}{Q:VK}(I:Inv X pins σ H s)(hp:H p=some (.lst [.ref x,.ref y]))(hx:H x=some (.tup [.int c.1,.int c.2]))(hy:H y=some (.tup [.int d.1,.int d.2]))
  (q:∀l zs,H l=none->(zs=[V.ref x,V.ref y]\/zs=[V.ref y,V.ref x])->Q (.ref l) (upd H l (.lst zs))):wpAny (model X.prog X.w) X.A (call (.builtin "sorted") [.ref p] HM_) (EP X pins σ Q) X.xe s:=by
 have all:∀z∈[V.ref x,V.ref y],∃(a:Addr)(e:Int×Int),z=.ref a/\H a=some (.tup [.int e.1,.int e.2]):=λz hz=>by
  rcases Av_.mp hz with rfl|hz
  .show⟨x,c,rfl,hx⟩
  .rw[Ak_.mp hz];show⟨y,d,rfl,hy⟩
 let lt:Nat->Nat->Bool:=λi j=>let e:=if i=0 then d else c;let f:=if j=0 then d else c;if e.1=f.1 then(if e.2=f.2 then false else decide (e.2<f.2))else decide (e.1<f.1)
 obtain⟨pm,hr,hpm⟩:=mu_ (lt:=lt) (N:=2) d_;have pz:pm.size=2:=by simpa using(Bk_.mp hpm).length_eq
 show mY_ (lt:=lt) (κ:=tuples' true) (pm:=pm) I (.inl (.inl hp)) (Ai_ _) (by change 2<64;decide) ?kind ?less hr o_ λl nl=>q l _ nl ?_
 case kind =>
  intro its s' rv I' C hC;obtain⟨fs,t,hf,lk⟩:=ir_ "int" I' rv λz hz=>by obtain⟨a,e,rfl,ha⟩:=all z hz;show⟨a,_,_,rfl,ha,rfl⟩
  have hl:=rv.length;have hl2:fs.length=2:=by rw[hf,<-hl];rfl
  show kat_kind t o_ lk d_ hC
 case less =>
  intro its s' i j rv I' hi hj C hC;have u2:X.A.in1.in1.units+60<cLine:=by rw[A0_,A0_];lia
  have pick:∀i,i<2->∃a,its.getD i Value.none=.ref a/\H a=some (.tup [.int (if i=0 then d else c).1,.int (if i=0 then d else c).2]):=λi hi=>by
   obtain⟨u,w',rfl,ru,rw'⟩:=Hm_ (show F4_ [V.ref y,V.ref x] its from rv);cases ru;cases rw'
   match i,hi with
   |0,_=>show⟨y,rfl,hy⟩
   |1,_=>show⟨x,rfl,hx⟩
  obtain⟨a,ea,ha⟩:=pick i hi;obtain⟨b,eb,hb⟩:=pick j hj;rw[ea,eb];have hlt:lt i j=if(if i=0 then d else c).1=(if j=0 then d else c).1 then(if(if i=0 then d else c).2=(if j=0 then d else c).2 then false else decide ((if i=0 then d else c).2<(if j=0 then d else c).2))else decide ((if i=0 then d else c).1<(if j=0 then d else c).1):=rfl;rw[hlt]at hC;generalize(if i=0 then d else c)=e at*;generalize(if j=0 then d else c)=f at*;show kJ_ I' u2 ha hb (d1:=.int e.1) (d2:=.int e.2) (e1:=.int f.1) (e2:=.int f.2) (b1:=decide (e.1=f.1)) (b2:=decide (e.2=f.2)) rfl rfl rfl rfl (by rw[deq];rfl) (by rw[deq];rfl) (by simp[dep]) (by simp[dep]) (λh u v ru rv=>?_) (λh1 h2 u v ru rv=>?_) (λh1 h2=>?_)
  .obtain⟨t,rfl⟩:=ru;obtain⟨t',rfl⟩:=rv;rw[if_neg (Cj_ h)]at hC;show oneLt_int hC
  .obtain⟨t,rfl⟩:=ru;obtain⟨t',rfl⟩:=rv;rw[if_pos (Bj_ h1),if_neg (Cj_ h2)]at hC;show kat_one _ _ (lt_int hC)
  .rw[if_pos (Bj_ h1),if_pos (Bj_ h2)]at hC;show hC
 .rcases py_ hpm with e|e <;> rw[e]
  .show .inl rfl
  .show .inr rfl
theorem mZ_{a:Expr}{cp kp:Pos}{k:Nat}(hu:X.A.units+64<cLine)(hg:Gl X "sorted") (hm:X.mg "sorted"=none) (ha:PA X [a] ta) (hs:FL_ [a]=true:=by rfl):
  PE X (.Call (.Name "sorted" p) [a] [⟨some "reverse",.Constant (.bool true) k cp,kp⟩] pos) (Im_ ta):=by
 have h':Gu_ a=true:=by simpa[FL_]using hs
 intro pins s σ H Q I h;show BZ_ (dP_ I hg hm eN_ ?_ d_ d_);show callWith_kw (thn (ha pos pins s σ H _ I h) λus s1 ⟨vs,H1,I1,r1,q1⟩=>?_) (by rw[ap_ h'];rfl) (by rw[ap_ h'];rfl) rfl rfl;obtain⟨p,x,y,c,d,rfl,hp,hx,hy,q⟩:=q1;obtain⟨u,rfl,e⟩:=GI_ r1;cases e;show kws_cons (thn (GG_ pins s1 σ H1 (λv H2=>v=.bl true/\H2=H1) I1 ⟨rfl,rfl⟩) λv s2 ⟨z,H2,I2,r2,e1,e2⟩=>?_);subst e1 e2;cases r2;show kws_nil (kK_ hu I2 hp hx hy q)
def JQ_:List V->Hp->VK->Prop:=λvs H Q=>∃(p:Addr)(ys:List V)(nm:Nat->Str),vs=[.ref p]/\H p=some (.lst ys)/\ys.length<64 /\
 (∀i,i<ys.length->∃(a w:Addr)(e:Int×Int),ys[i]?=some (.ref a)/\H a=some (.tup [.str (nm i),.ref w])/\H w=some (.tup [.int e.1,.int e.2]))/\(∀i j,i<ys.length->j<ys.length->nm i=nm j->i=j) /\
 ∀l zs,H l=none->zs.Perm ys->Q (.ref l) (upd H l (.lst zs))
theorem of_{pm:Array Nat}{ys:List V}(h:Pm ys.length pm):(pm.toList.map λi=>ys.getD i .non).Perm ys:=by
 have e:=Bk_.mp h
 have e2:(List.range ys.length).map (λi=>ys.getD i .non)=ys:=by
  apply Cu_
  .simp
  .intro i h1 h2;simp[h2]
 have e3:=e.map λi=>ys.getD i V.non;rw[List.toList_toArray,e2]at e3;show e3
theorem m0_(hu:X.A.units+64<cLine):GF_ X (.builtin "sorted") JQ_:=by
 intro pins s σ H xs us Q I r h;obtain⟨p,ys,nm,rfl,hp,h64,it,inj,q⟩:=h;by_cases h0:ys.length=0
 .have e0:ys=[]:=AY_ h0;subst e0;show jd_ pins s σ H _ us Q I r ⟨p,[],rfl,hp,d_,λl zs nl pm _=>q l _ nl (by rw[pm.eq_nil];show .nil)⟩
 by_cases h1:ys.length=1
 .obtain⟨y,rfl⟩:=CH_.mp h1;show je_ pins s σ H _ us Q I r ⟨p,y,rfl,hp,λl nl=>q l _ nl (.refl _)⟩
 obtain⟨u,rfl,e⟩:=GI_ r;cases e
 let lt:Nat->Nat->Bool:=λi j=>if nm i=nm j then false else decide ((nm i).cps.toList<(nm j).cps.toList)
 obtain⟨pm,hr,hpm⟩:=mu_ (lt:=lt) (N:=ys.length) o_;have pz:pm.size=ys.length:=by simpa using(Bk_.mp hpm).length_eq
 show kF_ (lt:=lt) (κ:=tuples' true) (pm:=pm) I (.inl (.inl hp)) o_ h64 ?kind ?less hr o_ λl nl=>q l _ nl (of_ hpm)
 case kind =>
  intro its s' rv I' C hC;obtain⟨fs,t,hf,lk⟩:=ir_ "str" I' rv λz hz=>by obtain⟨i,hi,rfl⟩:=AD_.mp hz;obtain⟨a,w,e,ea,ha,_⟩:=it i hi;rw[Aa_ hi]at ea;show⟨a,_,_,Au_ ea,ha,rfl⟩
  have hl:=rv.length;show kat_kind t o_ lk d_ hC
 case less =>
  intro its s' i j rv I' hi hj C hC;have u2:X.A.in1.in1.units+60<cLine:=by rw[A0_,A0_];lia
  have pick:∀i,i<ys.length->∃(a w:Addr)(e:Int×Int),its.getD i Value.none=.ref a/\H a=some (.tup [.str (nm i),.ref w])/\H w=some (.tup [.int e.1,.int e.2]):=λi hi=>by obtain⟨a,w,e,ea,ha,hw⟩:=it i hi;obtain⟨u,hu',ru⟩:=rv.get ea;cases ru;show⟨a,w,e,by rw[Ad_,hu'];rfl,ha,hw⟩
  obtain⟨a,w1,e,ea,ha,hw1⟩:=pick i hi;obtain⟨b,w2,f,eb,hb,hw2⟩:=pick j hj;have rw1:Rep H (.ref w1) (.tup [.int e.1,.int e.2]):=⟨w1,_,rfl,hw1,_,_,rfl,rfl,_,_,rfl,rfl,rfl⟩;have rw2:Rep H (.ref w2) (.tup [.int f.1,.int f.2]):=⟨w2,_,rfl,hw2,_,_,rfl,rfl,_,_,rfl,rfl,rfl⟩;rw[ea,eb];have hlt:lt i j=if nm i=nm j then false else decide ((nm i).cps.toList<(nm j).cps.toList):=rfl;rw[hlt]at hC;have same:nm i=nm j->e=f:=λhn=>by have hij:=inj i j hi hj hn;subst hij;rw[ea]at eb;cases eb;rw[ha]at hb;cases hb;rw[hw1]at hw2;have h3:=HO.tup.inj (Au_ hw2);have h4:=DR_ h3;have h5:=DR_ h4.2;show Bb_ (V.int.inj h4.1) (V.int.inj h5.1)
  show kJ_ I' u2 ha hb (d1:=.str (nm i)) (d2:=.tup [.int e.1,.int e.2]) (e1:=.str (nm j)) (e2:=.tup [.int f.1,.int f.2]) (b1:=decide (nm i=nm j)) (b2:=decide (e.1=f.1) && decide (e.2=f.2)) rfl rw1 rfl rw2 (by rw[deq];rfl) ?eq2 (by simp[dep]) (by simp[dep,deps]) (λh u v ru rv=>?_) (λh1 h2 u v ru rv=>?_) (λh1 h2=>?_)
  case eq2=>simp[deq,deqs];rfl
  .obtain⟨t,rfl⟩:=ru;obtain⟨t',rfl⟩:=rv;rw[if_neg (Cj_ h)]at hC;show oneLt_str hC
  .have:=same (Bj_ h1);subst this;simp at h2
  .rw[if_pos (Bj_ h1)]at hC;show hC
def KD_:R2:=λx y H Q=>∃i n,x=.str i/\y=.int n/\MulOk i n/\Q (.str (Txt.mul i n)) H
theorem jf_:OpR X (binaryOp .Mult) KD_:=by intro pins s σ H x y v u Q I rx ry h;obtain⟨i,n,rfl,rfl,ok,q⟩:=h;obtain⟨t,rfl⟩:=rx;obtain⟨t',rfl⟩:=ry;show SB.mul ok λt' k=>⟨.str (Txt.mul i n),H,I.tok _,⟨_,rfl⟩,q⟩
theorem og_(i j:Str):(i++j).length=i.length+j.length:=by change(i.cps++j.cps).size=_;rw[Array.size_append];rfl
theorem rJ_{X:Cx}{K:PySem.W.Frag}{o e:Expr}{es:List Expr}{to:TE}{t:TA}{name:Str}{apos cpos:Pos}{T id:String}{r:V->List V->Hp->VK->Prop}(hK:X.K=K)(pa:PlainAttrs T)(slot:Slot T name id)(hty:typeOf (.builtin id)=pure (.type "method_descriptor")) (hm:MtR X id r) (ho:PE X o to) (ha:PA X (e::es) t)
  (hbase:attributeBase o name X.env (eval o X.env)=eval o X.env:=by rfl)
  (hfew:((backTo cpos (starEach (e::es) X.env)).all (λx=>!x.1) && (backToKw cpos (keywordEach [] X.env)).all (λx=>x.1.isSome) && decide ((e::es).length+([]:List Keyword).length+(if([]:List Keyword).isEmpty then 0 else 1)<30))=true:=by rfl)
  (hline:(apos.endLine == cpos.line)=true:=by rfl) (hs:starEach (e::es) X.env=(false,eval e X.env)::starEach es X.env:=by rfl) (hplain:(backTo cpos (starEach es X.env)).any (·.1)=false:=by rfl):
  PE X (.Call (.Attribute o name apos) (e::es) [] cpos) (tBM K T r to t):=by
 subst hK;show Gq_ pa slot hty hm ho ha hbase hfew hline hs hplain
def Jb_:V->List V->Hp->VK->Prop:=λx vs H Q=>∃(a:Addr)(kvs:List (Key×V))(k:Key)(z:V),x=.ref a/\vs=[kV k,z]/\H a=some (.dK kvs)/\kvs.length<1000/\(∀v,Gi_ kvs k=some v->Q v H)/\(Gi_ kvs k=none->Q z (upd H a (.dK (Gn_ kvs k z))))
theorem gc_:MtR X "dict.setdefault" Jb_:=by
 intro pins s σ H x xs v us Q I rx r h;obtain⟨a,kvs,k,z,rfl,rfl,e,hz,h1,h2⟩:=h;cases rx;obtain⟨u,w',rfl,ru,rw'⟩:=Hm_ r;obtain⟨_,hd,vs,rel,dd⟩:=Jg_ I.hok e;have hl:vs.length<=sizeLine:=by rw[<-rel.length];show AH_ (FB_ (AH_ hz))
 show Ft_ CQ_ dd.typeIs PySem.F.entry_dict_setdefault (PySem.F.args_dict_setdefault_3 _ _ _) (kt_meets_setdefault (FN_ X.prog X.w) a (HW_ ru) hd w') ⟨vs,dd,hl,λv hv=>?_,λhn h' dd' hs=>?_⟩
 .have rv:=rel.val k;rw[hv]at rv;cases e2:Gi_ kvs k with
  |none=>rw[e2]at rv;cases rv
  |some y =>rw[e2]at rv;show⟨y,H,I.tok _,rv,h1 y e2⟩
 .have rv:=rel.val k;rw[hn]at rv;cases e2:Gi_ kvs k with
  |some y=>rw[e2]at rv;cases rv
  |none =>
   have he:∃q,h'.get? a=some q:=let⟨q,_,_,hq,_⟩:=dd';⟨q,hq⟩;have pl:(Gn_ kvs k z).length<=sizeLine:=by have:=aJ_ kvs k z;have:=FB_ (n:=1000) (Ai_ _);lia
   show⟨z,_,gQ_ (t':=s.toks+1) I (by rw[e];show True.intro) hs he (n5_ pl hd (rel.put k rw') dd'),rw',h2 e2⟩
def Idv(d:Addr)(ob:Obj)(kvs:List (Key×V)):It :=
 ⟨λi H=>H d=some (.frz ob (.dK kvs))/\i<kvs.length,λi H x H'=>H'=H/\∃k,kvs[i]?=some (k,x),λi H=>H d=some (.frz ob (.dK kvs))/\kvs.length<=i⟩
theorem fe_{α β:Type}{F:α->β->Prop}:∀{l:List α}{m:List β}{i:Nat}{a:α}{b:β},Paired F l m->l[i]?=some a->m[i]?=some b->F a b
 |_,_,_,_,_,.nil,h,_=>by cases h
 |_,_,0,_,_,.cons x _,h1,h2=>by cases h1;cases h2;show x
 |_,_,i+1,_,_,.cons _ r,h1,h2=>fe_ (i:=i) r h1 h2
variable{ob:Obj}{kvs:List (Key×V)}{es0:Array DictEntry}{ep:Nat}
theorem oh_(ok:HOk P w H h)(e:H d=some (.frz ob (.dK kvs)))(hd:ob.data=.dict es0 ep):∃vs,KV kvs vs/\h.DictAt (FN_ P w) d vs ep:=by obtain⟨g,_,_,vs,rel,o,es,ep',ho,r1,r2,r3⟩:=(show F9_ P w H h d (.frz ob (.dK kvs))from ok d _ e);rw[g]at ho;cases ho;rw[hd]at r2;cases r2;show⟨vs,rel,ob,es0,g,r1,hd,r3⟩
theorem oi_{tg:Expr}(hob:ob.data=.dict es0 ep):
  JU_ P w K tg (Idv d ob kvs) [it] it (λi h=>h.IsValIter it d i kvs.length ep) where
 mem:=s_
 obj:=λi h st b hb=>by
  have e:b=it:=by simpa using hb
  subst e;obtain⟨o,e,c,dd⟩:=st;show⟨o,e,λv z=>by rw[dd]at z;cases z⟩
 keep:=λi h h' st k=>let⟨o,e,r⟩:=st;⟨o,k it s_ o e,r⟩
 item:=by intro X hP hw hK hc i pins s σ H E I hf st hg;subst hP hw hK;obtain⟨e,hi⟩:=hg;obtain⟨vs,rel,da⟩:=oh_ I.hok e hob;have hl:kvs.length=vs.length:=rel.length;obtain⟨f0,f1,f2,f3,f4,f5⟩:=hf it s_;have hx:vs[i]?=some (vs[i]'o_):=Aa_ _;have hk:kvs[i]?=some (kvs[i]):=Aa_ _;obtain⟨e1,e2⟩:=fe_ rel hk hx;rw[hl]at st;show wpAny_pyNext_values_item st da (k:=(vs[i]'o_).1) (v:=(vs[i]'o_).2) hx λh' st' sb=>?_;have I1:Inv X pins σ H {s with heap:=h'}:=I.turned (t':=s.toks) (λb o hb e=>(sb.2 b hb).trans e) f0 f1 f3 f4 f5;rw[<-hl]at st';obtain⟨o,e,c,dd⟩:=id st';show⟨_,rfl,Jf_ (s:={s with heap:=h'}) e c dd d_ ⟨(kvs[i]).2,H,I1,e2,⟨rfl,(kvs[i]).1,hk⟩,st',λb hb=>(hf b hb).1⟩⟩
 done:=by intro X hP hw hK hc i pins s σ H E I hf st hg;subst hP hw hK;obtain⟨e,hi⟩:=hg;obtain⟨vs,rel,da⟩:=oh_ I.hok e hob;have hl:kvs.length=vs.length:=rel.length;obtain⟨f0,f1,f2,f3,f4,f5⟩:=hf it s_;rw[hl]at st;show wpAny_pyNext_values_end (I.ok.hd hc) st da (Ba_ o_) λh' eb=>⟨rfl,I.turned (t':=s.toks) (λb o hb e=>eb b o hb e) f0 f1 f3 f4 f5⟩
 self:=λ_ _ _ _ _ st h=>wpAny_pyIter_valiter st h
theorem Inv.freeze(I:Inv X pins σ H s)(e:H d=some (.dK kvs)):∃ob es0 ep,ob.data=.dict es0 ep/\s.heap.get? d=some ob/\Inv X pins σ (upd H d (.frz ob (.dK kvs))) s:=by obtain⟨z,hd,vs,rel,dd⟩:=Jg_ I.hok e;obtain⟨ob,es,ep,ho,r1,r2,r3⟩:=id dd;show⟨ob,es,ep,r2,ho,?_⟩;have:=gQ_ (h':=s.heap) (t':=s.toks) (ob:=.frz ob (.dK kvs)) I (by rw[e];show True.intro) ⟨rfl,λ_ _=>rfl⟩ ⟨ob,ho⟩ ⟨ho,z,hd,vs,rel,dd⟩;show this
def iDV(td:TE):TI:=λσ H R=>td σ H λx H1=>∃(d:Addr)(kvs:List (Key×V)),x=.ref d/\H1 d=some (.dK kvs)/\∀ob,R (Idv d ob kvs) (upd H1 d (.frz ob (.dK kvs)))
theorem pz_{tg o:Expr}{td:TE}{apos cpos:Pos}(ho:PE X o td)(hbase:attributeBase o "values" X.env (eval o X.env)=eval o X.env:=by rfl) (hline:(apos.endLine == cpos.line)=true:=by rfl):PI X tg (.Call (.Attribute o "values" apos) [] [] cpos) (iDV td):=by
 intro pins s σ H R I h;show Ep_ hbase hline (thn (ho pins s σ H _ I h) λv s1 ⟨x,H1,I1,r1,d,kvs,e,hd,q⟩=>?_);subst e;cases r1;obtain⟨ob,es0,ep,hob,hoo,I2⟩:=I1.freeze hd;obtain⟨_,hsys,vs0,_,dd⟩:=Jg_ I1.hok hd;show⟨"dict","dict.values",BS_,Ef_,PySem.F.type_dict_values,dd.typeIs,λb q=>?_,Dc_ rfl (Fm_ ?_)⟩
 .cases q;obtain⟨o2,_,_,h1,h2,_⟩:=id dd;show⟨o2,h1,h2.2.1⟩
 show Ft_ Ef_ dd.typeIs PySem.F.entry_dict_values (PySem.F.args_dict_values_1 _) (meets_dict_values (FN_ X.prog X.w) d hsys) ⟨⟨vs0,dd⟩,?_⟩;have I3:Inv X pins σ (upd H1 d (.frz ob (.dK kvs))) {s1 with heap:=s1.heap.push {cls:=.type "dict_values",data:=.fields #[.ref d]}}:=I2.kept (t':=s1.toks) λb o e=>Ah_ _ e;obtain⟨vs,rel,da⟩:=oh_ (kvs:=kvs) I3.hok aa_ hob;show wpAny_pyIter_values (s:={s1 with heap:=s1.heap.push {cls:=.type "dict_values",data:=.fields #[.ref d]}}) ⟨_,Ax_ _ rfl,rfl,rfl⟩ da ?_;rw[<-show kvs.length=vs.length from rel.length];show⟨(s1.heap.push {cls:=.type "dict_values",data:=.fields #[.ref d]}).objs.size,[_],_,_,upd H1 d (.frz ob (.dK kvs)),rfl,I3.kept (t':=s1.toks) λb o e=>Ah_ _ e,oi_ hob,⟨_,Ax_ _ rfl,rfl,rfl⟩,λb hb=>?_,q ob⟩;have e:b=_:=Ak_.mp hb;subst e;show I3.fpOk (Ai_ _) (I3.hok.fresh (Ai_ _))
theorem LR_{d:Addr}{ob:Obj}{kvs:List (Key×V)}{g:TG}{tb:TS}{D:H4_}{σ:St}{H:Hp}(Pv:Nat->St->Hp->Prop)(h0:Pv 0 σ H)(hl:∀i σ H,i<=kvs.length->Pv i σ H->H d=some (.frz ob (.dK kvs)))
  (hs:∀i k x σ H,kvs[i]?=some (k,x)->Pv i σ H->g x σ H λσ2 H2=>tb {D with nx:=Pv (i+1),ct:=Pv (i+1),bk:=D.nx} σ2 H2) (hd:∀σ H,Pv kvs.length σ H->D.nx σ H):G6_ (Idv d ob kvs) g tb D σ H:=by
 show⟨λi m σ H=>m=kvs.length-i/\i<=kvs.length/\Pv i σ H,⟨kvs.length,s_,Az_ _,h0⟩,?_⟩;rintro i m σ H ⟨rfl,hi,p⟩;have q:=hl i σ H hi p;by_cases hlt:i<kvs.length
 .show .inr ⟨⟨q,hlt⟩,Pv (i+1),λσ' H' p'=>⟨kvs.length-(i+1),o_,rfl,hlt,p'⟩,λx H' y=>?_⟩;obtain⟨rfl,k,hk⟩:=y;show hs i k x σ H' hk p
 .have e:i=kvs.length:=o_
  subst e;show .inl ⟨⟨q,Ai_ _⟩,hd σ H p⟩
theorem oj_{K:PySem.W.Frag}{a:Addr}{xs:List V}{g:TG}{tb:TS}{D:H4_}{σ:St}{H:Hp}(Pv:Nat->St->Hp->Prop)(h0:Pv 0 σ H)(hl:∀i σ H,i<=xs.length->Pv i σ H->SqL K H a xs)
  (hs:∀i x T σ H,xs[i]?=some x->Pv i σ H->H T=none->g (.ref T) σ (upd H T (.tup [.int i,x])) λσ2 H2=>tb {D with nx:=Pv (i+1),ct:=Pv (i+1),bk:=D.nx} σ2 H2) (hd:∀σ H,Pv xs.length σ H->D.nx σ H):G6_ (Ite K a) g tb D σ H:=by
 show⟨λi m σ H=>m=xs.length-i/\i<=xs.length/\Pv i σ H,⟨xs.length,s_,Az_ _,h0⟩,?_⟩;rintro i m σ H ⟨rfl,hi,p⟩;have q:=hl i σ H hi p;by_cases hlt:i<xs.length
 .show .inr ⟨⟨xs,xs[i],q,by simp[hlt]⟩,Pv (i+1),λσ' H' p'=>⟨xs.length-(i+1),o_,rfl,hlt,p'⟩,λx H' y=>?_⟩;obtain⟨T,y,rfl,hT,rfl,hy⟩:=y;show hs i y T σ H (hy xs q) p hT
 .have e:i=xs.length:=o_
  subst e;show .inl ⟨⟨xs,q,Ai_ _⟩,hd σ H p⟩
def KN_(t u:TS):TS:=λD σ H=>∀kk:St->Hp->Prop,(∀σ' H',u D σ' H'->kk σ' H')->t {D with nx:=kk} σ H
theorem ac_{st:Stmt}{rest:List Stmt}{t u:TS}(h1:PS X st t)(h2:PSs X rest u):PSs X (st::rest) (KN_ t u):=λpins s σ H D I h=>aj_ h1 h2 pins s σ H D I (h (u D) λ_ _ q=>q)
theorem qD_{t u:TS}{D:H4_}(h:∀kk:St->Hp->Prop,(∀σ' H',u D σ' H'->kk σ' H')->t {D with nx:=kk} σ H):KN_ t u D σ H:=h
theorem rK_{kk u:St->Hp->Prop}(h:∀σ' H',u σ' H'->kk σ' H')(q:u σ H):kk σ H:=h _ _ q
theorem LK_{A G:Prop}(h:A->G)(a:A):G:=h a
abbrev SHP:=St->Hp->Prop
theorem a5_{lo:Int}{n:Nat}{g:TG}{tb:TS}{nx bk ct:SHP}{rt:VK}{σ:St}{H:Hp}(Pv:Nat->St->Hp->Prop)(h0:Pv 0 σ H)
  (hs:∀(i:Nat) σ H,i<n->∀(kk kb:SHP),(∀σ' H',Pv (i+1) σ' H'->kk σ' H')->(∀σ' H',nx σ' H'->kb σ' H')->∀G:Prop,((g (.int (lo+i)) σ H λσ2 H2=>tb ⟨kk,rt,kb,kk⟩ σ2 H2)->G)->Pv i σ H->G) (hd:∀σ H,Pv n σ H->nx σ H):G6_ (Itr lo n) g tb ⟨nx,rt,bk,ct⟩ σ H :=
 jB_ Pv h0 (λi σ H hi p=>hs i σ H hi _ _ (λ_ _ q=>q) (λ_ _ q=>q) _ id p) hd
theorem c9_{K:PySem.W.Frag}{a:Addr}{xs:List V}{g:TG}{tb:TS}{nx bk ct:SHP}{rt:VK}{σ:St}{H:Hp}(Pv:Nat->St->Hp->Prop)(h0:Pv 0 σ H)(hl:∀i σ H,i<=xs.length->Pv i σ H->SqL K H a xs)
  (hs:∀(i:Nat) x σ H,xs[i]?=some x->∀(kk kb:SHP),(∀σ' H',Pv (i+1) σ' H'->kk σ' H')->(∀σ' H',nx σ' H'->kb σ' H')->∀G:Prop,((g x σ H λσ2 H2=>tb ⟨kk,rt,kb,kk⟩ σ2 H2)->G)->Pv i σ H->G) (hd:∀σ H,Pv xs.length σ H->nx σ H):G6_ (Itl K a) g tb ⟨nx,rt,bk,ct⟩ σ H :=
 jC_ Pv h0 hl (λi x σ H hx p=>hs i x σ H hx _ _ (λ_ _ q=>q) (λ_ _ q=>q) _ id p) hd
theorem mv_{K:PySem.W.Frag}{a:Addr}{xs:List V}{g:TG}{tb:TS}{nx bk ct:SHP}{rt:VK}{σ:St}{H:Hp}(Pv:Nat->St->Hp->Prop)(h0:Pv 0 σ H)(hl:∀i σ H,i<=xs.length->Pv i σ H->SqL K H a xs)
  (hs:∀(i:Nat) x T σ H,xs[i]?=some x->∀(kk kb:SHP),(∀σ' H',Pv (i+1) σ' H'->kk σ' H')->(∀σ' H',nx σ' H'->kb σ' H')->∀G:Prop,((g (.ref T) σ (upd H T (.tup [.int i,x])) λσ2 H2=>tb ⟨kk,rt,kb,kk⟩ σ2 H2)->G)->Pv i σ H->H T=none->G) (hd:∀σ H,Pv xs.length σ H->nx σ H):G6_ (Ite K a) g tb ⟨nx,rt,bk,ct⟩ σ H :=
 oj_ Pv h0 hl (λi x T σ H hx p hT=>hs i x T σ H hx _ _ (λ_ _ q=>q) (λ_ _ q=>q) _ id p hT) hd
theorem hW_{c:TT}{tb:TS}{nx bk ct:SHP}{rt:VK}{σ:St}{H:Hp}(Pv:St->Hp->Prop)(μ:St->Hp->Nat)(h0:Pv σ H)
  (hs:∀σ H,∀kb:SHP,(∀σ' H',nx σ' H'->kb σ' H')->∀G:Prop,((c σ H λb H1=>if b=true then ∃N:St->Hp->Prop,(∀σ' H',N σ' H'->∃m',m'<μ σ H/\m'=μ σ' H'/\Pv σ' H')/\tb ⟨N,rt,kb,N⟩ σ H1 else kb σ H1)->G)->Pv σ H->G):IR_ c tb ⟨nx,rt,bk,ct⟩ σ H :=
 lt_ Pv μ h0 λσ H p=>hs σ H nx (λ_ _ q=>q) _ id p
theorem boxN{tb:TS}{N kb:SHP}{rt:VK}(h:∀kk:SHP,(∀σ' H',N σ' H'->kk σ' H')->tb ⟨kk,rt,kb,kk⟩ σ H):tb ⟨N,rt,kb,N⟩ σ H:=h N λ_ _ q=>q
def Kl_(P:Program)(w:World)(a:Addr)(xs:List (Sk×Addr×Value))(h:Heap):Prop :=
 (a == sysModules)=false/\∃o es ep,h.get? a=some o/\o.ExactDict/\o.data=.dict es ep/\es.toList=xs.map (entryOfKey (GZ_ P w))/\(xs.map (·.1)).Nodup
def GM_(H:Hp)(b:Addr)(k:Sk):Prop:=∃p,H b=some (.tup [.ref p,.bl k.2])/\H p=some (.tup (k.1.map kV))
def KP(H:Hp):List (Sk×V)->List (Sk×Addr×Value)->Prop:=Paired λ(p:Sk×V)(q:Sk×Addr×Value)=>p.1=q.1/\GM_ H q.2.1 p.1/\Ga_ p.2 q.2.2
def DP(P:Program)(w:World)(H:Hp)(a:Addr)(kvs:List (Sk×V)):Prop:=kvs.length<=sizeLine/\∃xs,H a=some (.ext (Kl_ P w a xs))/\KP H kvs xs
variable{H':Hp}{b:Addr}
theorem GM_.mono{k:Sk}(h:GM_ H b k)(s:FA_ H H'):GM_ H' b k:=let⟨p,h1,h2⟩:=h;⟨p,s _ _ h1,s _ _ h2⟩
variable{xs:List (Sk×Addr×Value)}
theorem KP.mono{kvs:List (Sk×V)}(h:KP H kvs xs)(s:∀b k,GM_ H b k->GM_ H' b k):KP H' kvs xs:=Paired.mapP h λ_ _ z=>⟨z.1,s _ _ z.2.1,z.2.2⟩
theorem DP.mono{kvs:List (Sk×V)}(h:DP P w H a kvs)(s:FA_ H H'):DP P w H' a kvs:=let⟨h0,xs,h1,h2⟩:=h;⟨h0,xs,s _ _ h1,h2.mono λ_ _ z=>z.mono s⟩
theorem KP.val{kvs:List (Sk×V)}(r:KP H kvs xs)(k:Sk):Iv_ (Gi_ kvs k) ((atKey xs k).map (·.2)):=by
 induction r with
 |nil=>show True.intro
 | @cons p q ps qs h t ih =>
  by_cases e:p.1=k
  .rw[bk_ e];have:atKey (q::qs) k=some q.2:=by simp[atKey,B4_,show q.1=k from h.1▸e]
   rw[this];show h.2.2
  .rw[a9_ e];have:atKey (q::qs) k=atKey qs k:=by simp[atKey,B4_,show ¬ q.1=k from h.1▸e]
   rw[this];show ih
theorem KP.repl{kvs:List (Sk×V)}(r:KP H kvs xs)(k:Sk){y:V}{u:Value}(ry:Ga_ y u):KP H (kvs.map λkv=>if kv.1=k then(kv.1,y)else kv) (xs.map (putAt k u)):=by
 induction r with
 |nil=>show .nil
 | @cons p q ps qs h t ih =>
  show .cons ?_ ih;change(if p.1=k then(p.1,y)else p).1=(putAt k u q).1/\GM_ H (putAt k u q).2.1 (if p.1=k then(p.1,y)else p).1/\Ga_ (if p.1=k then(p.1,y)else p).2 (putAt k u q).2.2;unfold putAt;by_cases e:p.1=k
  .rw[if_pos e,if_pos (h.1▸e)];show⟨h.1,h.2.1,ry⟩
  .rw[if_neg e,if_neg (h.1▸e)];show h
theorem KP.put{kvs:List (Sk×V)}(r:KP H kvs xs)(k:Sk){y:V}{u:Value}(hb:GM_ H b k)(ry:Ga_ y u):KP H (Gn_ kvs k y) (storedH xs k b u):=by
 have e:(kvs.any λkv=>decide (kv.1=k))=(atKey xs k).isSome:=by rw[c8_,(r.val k).isSome_eq,CK_]
 unfold Gn_ storedH;rw[e];split
 .show r.repl k ry
 .show DE_ r ⟨rfl,hb,ry⟩
variable {h:Heap}
theorem jM_{k:Sk}(ok:HOk P w H h)(e:GM_ H a k):(GZ_ P w).is h k a:=by
 obtain⟨p,h1,h2⟩:=e;obtain⟨_,its,r,o,g1,g2,n,g3⟩:=(show F9_ P w H h a (.tup [.ref p,.bl k.2])from ok a _ h1);cases r with
 |cons r1 r =>
  cases r with
  |cons r2 r =>
   cases r;cases(show _=Value.ref p from r1);cases(show _=Value.bool k.2 from r2);show⟨o,n,p,g1,g2,g3,il_ ok h2⟩
theorem Ks_{kvs:List (Sk×V)}(ok:HOk P w H h)(e:DP P w H a kvs):(a == sysModules)=false/\∃xs,H a=some (.ext (Kl_ P w a xs))/\KP H kvs xs/\h.DictOfH (GZ_ P w) a xs:=by
 obtain⟨z,xs,h1,h2⟩:=e;obtain⟨⟨hs,o,es,ep,g1,g2,g3,g4,g5⟩,_⟩:=(show F9_ P w H h a (.ext (Kl_ P w a xs))from ok a _ h1);show⟨hs,xs,h1,h2,o,es,ep,g1,g2,g3,g4,λx hx=>?_,g5⟩
 have all:∀{l:List (Sk×V)}{m:List (Sk×Addr×Value)},KP H l m->∀x∈m,(GZ_ P w).is h x.1 x.2.1:=by
  intro l m q
  induction q with
  |nil=>intro x hx;show nomatch hx
  | @cons p q ps qs hq t ih =>
   intro x hx
   rcases Av_.mp hx with e|hx
   .subst e;show jM_ ok (by rw[<-hq.1];show hq.2.1)
   .show ih x hx
 show all h2 x hx
theorem p8_(hs:(a == sysModules)=false)(d:h.DictOfH (GZ_ P w) a xs):F9_ P w H' h a (.ext (Kl_ P w a xs)):=by obtain⟨o,es,ep,g1,g2,g3,g4,_,g5⟩:=d;show⟨⟨hs,o,es,ep,g1,g2,g3,g4,g5⟩,⟨o,g1⟩,λh1 h2 ⟨z0,o',es',ep',z1,z2⟩ k=>⟨z0,o',es',ep',k _ z1,z2⟩⟩
def K0_(P:Program)(w:World):TE:=λ_ H Q=>∀p,H p=none->∀H',FA_ H H'->DP P w H' p []->(∀b,b≠p->H' b=H b)->Q (.ref p) H'
def KH_(P:Program)(w:World)(td ty:TE):TE:=λσ H Q=>td σ H λx H1=>ty σ H1 λy H2=>∃a b kvs k v,x=.ref a/\y=.ref b/\DP P w H2 a kvs/\GM_ H2 b k/\Gi_ kvs k=some v/\Q v H2
def Mi_(P:Program)(w:World)(ty td:TE):TE:=λσ H Q=>ty σ H λy H1=>td σ H1 λx H2=>∃a b kvs k,x=.ref a/\y=.ref b/\DP P w H2 a kvs/\GM_ H2 b k/\Q (.bl (Gi_ kvs k).isSome) H2
def KK_(P:Program)(w:World)(td ty tv:TE):TS:=λD σ H=>tv σ H λv H1=>td σ H1 λx H2=>ty σ H2 λy H3=>∃a b kvs k,x=.ref a/\y=.ref b/\DP P w H3 a kvs/\GM_ H3 b k/\kvs.length<sizeLine /\
 ∀H4,(∀c,c≠a->H4 c=H3 c)->DP P w H4 a (Gn_ kvs k v)->D.nx σ H4
section
variable {o i value:Expr}{pos pos':Pos}{td ty tv:TE}
theorem qE_(hP:X.prog=P)(hw:X.w=w):PE X (.Dict [] [] pos) (K0_ P w):=by
 subst hP hw;intro pins s σ H Q I h;have hd:(s.heap.objs.size == sysModules)=false:=by have:=I.big;show Cv_.mpr (CM_ this)
 have ob:∀H',F9_ X.prog X.w H' (s.heap.push {cls:=.type "dict",data:=.dict #[]}) s.heap.objs.size (.ext (Kl_ X.prog X.w s.heap.objs.size [])):=λH'=>p8_ hd ⟨_,#[],0,Ax_ _ rfl,⟨rfl,rfl,rfl⟩,rfl,rfl,λx hx=>(by cases hx),A8_⟩;have nn:=I.hok.fresh (Ai_ s.heap.objs.size);show Ed_ ⟨.ref s.heap.objs.size,_,I.laid (a:=s.heap.objs.size) (o:=.ext (Kl_ X.prog X.w s.heap.objs.size [])) (t':=s.toks) (λ_ _ q=>Ah_ _ q) (Ai_ _) (ob _),rfl,h _ nn _ (FA_.new nn) ⟨Az_ _,[],aa_,.nil⟩ λb hb=>af_ hb⟩
theorem ok_(hP:X.prog=P)(hw:X.w=w)(hu:X.A.units+2<cLine)(ho:PE X o td)(hi:PE X i ty)(hs:Lz_ i:=by intro _ _;rfl):PE X (.Subscript o i pos) (KH_ P w td ty):=by subst hP hw;intro pins s σ H Q I h;show n7_ PySem.F.slot_dict_getitem.lookup hs (thn (ho pins s σ H _ I h) λu s1 ⟨x,H1,I1,rx,q1⟩=>thn (hi pins s1 σ H1 _ I1 q1) λiv s2 ⟨y,H2,I2,ry,a,b,kvs,k,v,ex,ey,g,kb,hv,q2⟩=>?_);subst ex ey;obtain rfl:u=Value.ref a:=rx;obtain rfl:iv=Value.ref b:=ry;obtain⟨hd,xs,e,rel,dd⟩:=Ks_ I2.hok g;obtain⟨w',hw,rw'⟩:=Iv_.some_of (v:=v) (o:=(atKey xs k).map (·.2)) (by rw[<-hv];show rel.val k);obtain⟨p,hp,hp2⟩:=AQ_.mp hw;show⟨dd.typeIs,wpAny_getItem_heap (show X.A.in1.units+1<cLine from hu) (jM_ I2.hok kb) dd hp ?_⟩;rw[hp2];show⟨v,H2,I2.tok _,rw',q2⟩
theorem rL_(hP:X.prog=P)(hw:X.w=w)(hu:X.A.units+2<cLine)(hi:PE X i ty)(ho:PE X o td):PC X .In i o (Mi_ P w ty td):=by subst hP hw;intro pins s σ H Q I h;show thn (hi pins s σ H _ I h) λiv s1 ⟨y,H1,I1,ry,q1⟩=>thn (ho pins s1 σ H1 _ I1 q1) λu s2 ⟨x,H2,I2,rx,a,b,kvs,k,ex,ey,g,kb,q2⟩=>?_;subst ex ey;obtain rfl:u=Value.ref a:=rx;obtain rfl:iv=Value.ref b:=ry;obtain⟨hd,xs,e,rel,dd⟩:=Ks_ I2.hok g;show wpAny_in_heap (show X.A.in1.units+1<cLine from hu) (jM_ I2.hok kb) hd dd ?_;have q:=(rel.val k).isSome_eq;rw[CK_]at q;rw[<-q];show⟨.bl _,H2,I2.tok _,rfl,q2⟩
theorem ol_(hP:X.prog=P)(hw:X.w=w)(hu:X.A.units+2<cLine)(ho:PE X o td)(hi:PE X i ty)(hv:PE X value tv)(hs:swapsWith value (some (.Subscript o i pos')) pos.line X.env=pure false):PS X (.Assign [.Subscript o i pos'] value pos) (KK_ P w td ty tv):=by
 subst hP hw;intro pins s σ H D I h;show EG_ (thn (hv pins s σ H _ I h) λr s1 ⟨v,H1,I1,rv,q1⟩=>thn (ho pins s1 σ H1 _ I1 q1) λu s2 ⟨x,H2,I2,rx,q2⟩=>thn (hi pins s2 σ H2 _ I2 q2) λiv s3 ⟨y,H3,I3,ry,a,b,kvs,k,ex,ey,g,kb,hl,q3⟩=>?_) hs;subst ex ey;obtain rfl:u=Value.ref a:=rx;obtain rfl:iv=Value.ref b:=ry;obtain⟨hd,xs,e,rel,dd⟩:=Ks_ I3.hok g;have hz:xs.length<=sizeLine:=by rw[<-BE_ rel];show g.1
 have hl':(Gn_ kvs k v).length<=sizeLine:=by have:=aJ_ kvs k v;lia
 show wpAny_setItem_heap (hsz:=hz) (show X.A.in1.units+1<cLine from hu) (jM_ I3.hok kb) dd λh' dd' hs'=>?_;have he:∃q,h'.get? a=some q:=let⟨q,_,_,hq,_⟩:=dd';⟨q,hq⟩;have kk:∀c k',GM_ H3 c k'->GM_ (upd H3 a (.ext (Kl_ X.prog X.w a (storedH xs k b r)))) c k':=λc k' ⟨p,z1,z2⟩=>⟨p,by rw[af_ (HV_ z1 e (λz=>nomatch z))];show z1,by rw[af_ (HV_ z2 e (λz=>nomatch z))];show z2⟩;show⟨σ,_,gQ_ I3 (by rw[e];show True.intro) hs' he (p8_ hd dd'),q3 _ (λc hc=>af_ hc) ⟨hl',_,aa_,(rel.put k kb rv).mono kk⟩⟩
end
abbrev L5_:=St->Hp->Prop
theorem jN_:entryFor table "proto.unchain"=some Builtin.«proto.unchain»:=entryFor_of_fast (by kernel_rfl)
def QuA(A:Around)(h:Heap):Prop:=A.handled=none\/∃ea,A.handled=some (.ref ea)/\Pl2 h ea
theorem qF_{α:Type}{Q:α->Shared->Prop}{x:Addr}{o:Obj}{vs:Array Value}(hq:QuA A s.heap)(hx:s.heap.get? x=some o)(hd:o.data=.fields vs)(sz:2<vs.size)(hne:∀ea,A.handled=some (.ref ea)->ea≠x)
  (k:∀g,(∀b,b≠x->g.get? b=s.heap.get? b)->(∃u,g.get? x=some u/\u.cls=o.cls)->E (.ref x) {s with heap:=g}):wpAny (model prog w) A (raiseNew (.ref x):Sem α) Q E s:=by
 unfold raiseNew;show Ac_ (wpAny_handled ?_)
 rcases hq with hq|⟨ea,hq,oe,us,he,de,h2⟩
 .rw[hq];show Ac_ (Aj_ (wpAny_throw (k _ (λ_ _=>rfl) ⟨o,hx,rfl⟩)))
 .rw[hq];have ne:=hne ea hq
  dsimp only
  rw[if_pos (show(Value.ref ea != Value.ref x)=true by simp[ne])];show Ac_ (A5_ (runValue_entry jN_ ?_));unfold Builtin.«proto.unchain»
  dsimp only
  show Ac_ (CG_ he de h2 ?_);rw[if_pos (show(Value.none == Value.none)=true by rfl)];show Aj_ ⟨_,rfl,Ac_ (wpAny_setField hx hd sz (wpAny_throw (k _ (λb hb=>A6_ _ _ (Ne.symm hb)) ⟨_,CP_ _ hx (Obj.isFreed_of_fields (Obj.data_mapFields hd _)),Obj.cls_mapFields _ _⟩)))⟩
theorem rM_{α:Type}{Q:α->Shared->Prop}(hq:QuA A s.heap)(k:∀g x,(∀b o,s.heap.get? b=some o->g.get? b=some o)->(∃u,g.get? x=some u/\u.cls=.type "StopIteration")->E (.ref x) {s with heap:=g}):
  wpAny (model prog w) A (newExc (.type "StopIteration") [] >>= λe=>(raiseNew e:Sem α)) Q E s:=by
 show Ac_ ?_;simp only[newExc,newTuple];show Ac_ (Bx_ ?_ (by size_fits));show Ac_ (m:=firstArgMember _ _) (wpAny_of_eq (a:=Value.none) (by first|rfl|(simp only[firstArgMember];rfl)) ?_);show Bx_ ?_ (by size_fits);have kp:∀{o1 o2:Obj}(b:Addr)(o:Obj),s.heap.get? b=some o->((s.heap.push o1).push o2).get? b=some o:=λb o e=>Ah_ _ (Ah_ _ e);show qF_ (hq.imp id λ⟨ea,z,oe,us,he,z2⟩=>⟨ea,z,oe,us,kp ea oe he,z2⟩) (Ax_ _ rfl) rfl (by rw[Array.size_append];show AK_ (show 2<6 by decide) (Bt_ 6 _)) (λea z=>?_) λg g1 g2=>k g _ (λb o e=>(g1 b ?_).trans (kp b o e)) g2
 .rcases hq with q|⟨ea',q,oe,us,he,_⟩
  .rw[q]at z;cases z
  .rw[q]at z;cases z;show AE_ (AK_ (Aw_ he) s_)
 .show AE_ (AK_ (Aw_ e) s_)
def J8_(h:Heap)(d:Addr)(es:Array DictEntry)(ep:Nat):Prop:=∃o,h.get? d=some o/\o.ExactDict/\o.data=.dict es ep
theorem J8_.ty{es:Array DictEntry}(x:J8_ s.heap d es ep):s.TypeIs (.ref d) "dict" := let⟨o,h,c,_⟩:=x;⟨o,h,c.1⟩
theorem om_(d:Addr)(hd:(d == sysModules)=false):MeetsIn prog w (Builtin.«dict.items» ⟨[.ref d],[]⟩) (λ_ R s=>(∃es ep,J8_ s.heap d es ep)/\R (.ok (.ret (.ref s.heap.objs.size))) {s with heap:=s.heap.push {cls:=.type "dict_items",data:=.fields #[.ref d]}}):=
 .of_wp λA R s ⟨⟨es,ep,x⟩,h⟩=>by unfold Builtin.«dict.items»;show Ac_ ?_;unfold Builtin.Dict.noArgs;show Ac_ (Dk_ x.ty ?_);show(show wpAny _ _ (pure d) _ _ s from Aj_ ?_);show(show wpAny _ _ (Builtin.Dict.showsAll d >>= _) _ _ s from ?_);unfold Builtin.Dict.showsAll;rw[hd,if_neg d_];show Ac_ (Aj_ (Ac_ (Bx_ (Aj_ ⟨_,rfl,h⟩))))
theorem pA_{v d:Addr}{es:Array DictEntry}{ep:Nat}{Q:Value->Shared->Prop}(hv:s.heap.IsItemsView v d)(x:J8_ s.heap d es ep)
  (k:Q (.ref s.heap.objs.size) {s with heap:=s.heap.push {cls:=.type "dict_itemiterator",data:=.fields #[.none,.bool false,.ref d,.int 0 0,.int es.size 0,.int ep 0,.none,.none]}}):wpAny (model prog w) A (pyIter (.ref v)) Q E s:=by
 obtain⟨ov,g1,g2,g3⟩:=id hv;obtain⟨o,h1,h2,h3⟩:=x;show wpAny_pyIter_slot hv.typeIs EI_ (BW_ EI_ hv.typeIs F.entry_dict_items_iter ?_ (F.args_dict_items_iter_1 _));unfold Builtin.«dict_items.__iter__»;show Ac_ (Aj_ (Ac_ ?_));unfold Builtin.Dict_items.dictOf;show Ac_ (CG_ g1 g3 (x:=.ref d) rfl (Aj_ (Ac_ ?_)));unfold Builtin.Dict_items.newIterator;show Ac_ (DY_ h1 h3 (Ac_ (Ew_ h1 h3 ?_)));simp only[show Builtin.Dict_items.ownsTuple "dict_itemiterator"=true by decide,if_true];show Bx_ (Aj_ ⟨_,rfl,"dict_itemiterator",_,⟨_,Ax_ _ rfl,rfl⟩,F.slot_dict_itemiterator_next.lookup,?_⟩) (by simp only[sizeOk,Builtin.Dict_items.ownedTupleFields,At_,Af_,A4_,List.length_nil,Ch_];lia);simpa[rawInt,Builtin.Dict_items.ownedTupleFields]using k
theorem qG_{it d:Addr}{i ep:Nat}{es:Array DictEntry}{ok ov:Value}{Q:Option Value->Shared->Prop}(hh:A.handled=none)(st:IsItemIter s.heap it d i es.size ep ok ov)(x:J8_ s.heap d es ep)(hi:es.size<=i)
  (k:∀g,Heap.ExtBut it s.heap g->Q none {s with heap:=g}):wpAny (model prog w) A (pyNext (.ref it)) Q E s:=by
 obtain⟨o,h1,h2,h3⟩:=x;have ty:s.TypeIs (.ref it) "dict_itemiterator" := ⟨_,st,rfl⟩;unfold pyNext;show Ac_ (Fc_ (Da_ (name:=Str.ofString "__next__") ty B9_ (BW_ B9_ ty Dt_ ?_ (Dm_ _))));show Ac_ (Aj_ (Ac_ (Ac_ ?_)))
 first|show Ac_ (B6_ ty (Aj_ ?_))|show Ac_ (Cr_ ty (Aj_ ?_))
 show Ac_ (wpAny_fieldsOf st rfl ?_);simp only[show Builtin.Dict_items.ownsTuple "dict_itemiterator"=true by decide,if_true];show(show wpAny _ _ (if(Value.ref d == Value.none)=true then _ else _) _ _ s from ?_);rw[if_neg s_];show Ac_ (Aj_ (Ac_ (DY_ h1 h3 ?_)));rw[if_neg s_];show Ac_ (Aj_ (Ac_ (Ew_ h1 h3 ?_)));rw[if_neg s_];show Aj_ ?_;simp only[show ¬ ((i:Int)<0)from by lia,Cb_,AC_,CI_ hi];show Ac_ ?_
 first|show Ac_ (B6_ ty (Aj_ ?_))|show Ac_ (Cr_ ty (Aj_ ?_))
 show(show wpAny _ _ (setField (.ref it) 2 .none >>= _) _ _ s from Ac_ (wpAny_setField st rfl s_ ?_));show rM_ (A:=A.in1) (.inl hh) λg y g1 ⟨u,hu,cu⟩=>?_;show Ac_ (CX_ (T := "StopIteration") (b:=true) ⟨u,hu,cu⟩ isSubtype_stop (Aj_ (k g λb o hb e=>g1 b o ((A6_ _ _ (Ne.symm hb)).trans e))))
theorem pB_{it d:Addr}{i ep:Nat}{es:Array DictEntry}{ok ov:Value}{Q:Option Value->Shared->Prop}(st:IsItemIter s.heap it d i es.size ep ok ov)(x:J8_ s.heap d es ep)(hi:i<es.size)
  (k:∀g,IsItemIterOut g it d (i+1) es.size ep es[i].key es[i].val s.heap.objs.size->g.get? s.heap.objs.size=some {cls:=.type "tuple",data:=.seq #[es[i].key,es[i].val]}->(∀b o,b≠it->s.heap.get? b=some o->g.get? b=some o)->Q (some (.ref s.heap.objs.size)) {s with heap:=g}):
  wpAny (model prog w) A (pyNext (.ref it)) Q E s:=by
 obtain⟨o,h1,h2,h3⟩:=x;have ty:s.TypeIs (.ref it) "dict_itemiterator" := ⟨_,st,rfl⟩;have il:it<s.heap.objs.size:=Aw_ st;unfold pyNext;show Ac_ (Fc_ (Da_ (name:=Str.ofString "__next__") ty B9_ (BW_ B9_ ty Dt_ ?_ (Dm_ _))));show Ac_ (Aj_ (Ac_ (Ac_ ?_)))
 first|show Ac_ (B6_ ty (Aj_ ?_))|show Ac_ (Cr_ ty (Aj_ ?_))
 show Ac_ (wpAny_fieldsOf st rfl ?_);simp only[show Builtin.Dict_items.ownsTuple "dict_itemiterator"=true by decide,if_true];show(show wpAny _ _ (if(Value.ref d == Value.none)=true then _ else _) _ _ s from ?_);rw[if_neg s_];show Ac_ (Aj_ (Ac_ (DY_ h1 h3 ?_)));rw[if_neg s_];show Ac_ (Aj_ (Ac_ (Ew_ h1 h3 ?_)));rw[if_neg s_];show Aj_ ?_;simp only[show ¬ ((i:Int)<0)from by lia,Cb_,AC_,D3_ hi];show Ac_ ?_
 first|show Ac_ (B6_ ty (Aj_ ?_))|show Ac_ (Cr_ ty (Aj_ ?_))
 show Ac_ (De_ ty ?_);show(show wpAny _ _ (setField (.ref it) 3 (rawInt ((i:Int)+1)) >>= _) _ _ s from ?_);show Ac_ (CD_ st s_ λg1 e1 s1=>?_);have e1':IsItemIter g1 it d (i+1) es.size ep ok ov:=by unfold IsItemIter;rw[show((i+1:Nat):Int)=(i:Int)+1 by lia];simpa[rawInt]using e1
 have ty1:Shared.TypeIs {s with heap:=g1} (.ref it) "dict_itemiterator" := ⟨_,e1',rfl⟩;show Ac_ (A5_ (Ac_ (De_ (s:={s with heap:=g1}) ty1 (Ac_ (De_ (s:={s with heap:=g1}) ty1 ?_)))));show(show wpAny _ _ (Builtin.Dict_items.pairFromOwner (.ref it) 6 es[i].key es[i].val) _ _ {s with heap:=g1}from ?_);unfold Builtin.Dict_items.pairFromOwner;show Ac_ (DA_ ?_);generalize hob:({cls:=.type "tuple",data:=.seq #[es[i].key,es[i].val]}:Obj)=ob at k⊢;have fo:ob.isFreed=false:=by rw[<-hob];rfl
 have z1:g1.objs.size=s.heap.objs.size:=s1.1;have e2:IsItemIter (g1.push ob) it d (i+1) es.size ep ok ov:=Ah_ _ e1';have t2:(g1.push ob).get? s.heap.objs.size=some ob:=by rw[<-z1];show Ax_ _ fo
 have k2:∀b o,b≠it->s.heap.get? b=some o->(g1.push ob).get? b=some o:=λb o hb e=>Ah_ _ (s1.extBut b o hb e);show(show wpAny _ _ (Builtin.Dict_items.ownedTupleIsFree (.ref it) >>= _) _ _ {s with heap:=g1.push ob}from ?_);have ge:({s with heap:=g1}:Shared).heap.objs.size=s.heap.objs.size:=z1;rw[ge];show Ac_ ?_;unfold Builtin.Dict_items.ownedTupleIsFree;show Ac_ (CG_ e2 rfl (x:=.none) rfl (Aj_ ?_));simp only[if_true];show Ac_ (CG_ e2 rfl (x:=ok) rfl (Ac_ (CG_ e2 rfl (x:=ov) rfl ?_)));show Ac_ (CD_ e2 s_ λg3 e3 s3=>?_);have e3':IsItemIter g3 it d (i+1) es.size ep es[i].key ov:=e3;show Ac_ (CD_ e3' s_ λg4 e4 s4=>?_);have e4':IsItemIter g4 it d (i+1) es.size ep es[i].key es[i].val:=e4;show Ac_ (CD_ e4' s_ λg5 e5 s5=>?_);have e5':IsItemIterOut g5 it d (i+1) es.size ep es[i].key es[i].val s.heap.objs.size:=e5;show Ac_ (CD_ e5' s_ λg6 e6 s6=>?_);have e6':IsItemIterOut g6 it d (i+1) es.size ep es[i].key es[i].val s.heap.objs.size:=e6;have all:∀b o,b≠it->(g1.push ob).get? b=some o->g6.get? b=some o:=λb o hb e=>s6.extBut b o hb (s5.extBut b o hb (s4.extBut b o hb (s3.extBut b o hb e)));show Ac_ (Dd_ (Aj_ (Aj_ ⟨_,rfl,Aj_ (k g6 e6' (all _ _ (CM_ il) t2) λb o hb e=>all b o hb (k2 b o hb e))⟩)))
theorem Inv.freezeT{kvs:List (List Key×V)}(I:Inv X pins σ H s)(e:H d=some (.dT kvs)):∃ob es0 ep,ob.data=.dict es0 ep/\s.heap.get? d=some ob/\Inv X pins σ (upd H d (.frz ob (.dT kvs))) s:=by obtain⟨z,hd,xs,r,o,es,ep,g1,g2,g3,g4,g5⟩:=(show F9_ X.prog X.w H s.heap d (.dT kvs)from I.hok d _ e);show⟨o,es,ep,g3,g1,?_⟩;have r':Paired (λ(p:List Key×V)(q:List Key×Addr×Value)=>p.1=q.1/\upd H d (.frz o (.dT kvs)) q.2.1=some (.tup (p.1.map kV))/\Ga_ p.2 q.2.2) kvs xs:=Paired.mapP r λp q z=>⟨z.1,by rw[af_ (HV_ z.2.1 e (λz=>nomatch z))];show z.2.1,z.2.2⟩;show gQ_ (h':=s.heap) (t':=s.toks) (ob:=.frz o (.dT kvs)) I (by rw[e];show True.intro) ⟨rfl,λ_ _=>rfl⟩ ⟨o,g1⟩ ⟨g1,z,hd,xs,r',o,es,ep,g1,g2,g3,g4,g5⟩
theorem lB_{kvs:List (List Key×V)}(ok:HOk P w H h)(e:H d=some (.frz ob (.dT kvs)))(hd:ob.data=.dict es0 ep):
  ∃xs,KT H kvs xs/\J8_ h d es0 ep/\es0.toList=xs.map (entryOfKey (tupleKind (FN_ P w))):=by
 obtain⟨g,_,_,xs,rel,o,es,ep',ho,r1,r2,r3,_⟩:=(show F9_ P w H h d (.frz ob (.dT kvs))from ok d _ e);rw[g]at ho;cases ho;rw[hd]at r2;cases r2;show⟨xs,rel,⟨ob,g,r1,hd⟩,r3⟩
def Idt(d:Addr)(ob:Obj)(kvs:List (List Key×V)):It :=
 ⟨λi H=>H d=some (.frz ob (.dT kvs))/\i<kvs.length,λi H x H'=>∃T k v q,x=.ref T/\H T=none/\kvs[i]?=some (k,v)/\H q=some (.tup (k.map kV))/\H'=upd H T (.tup [.ref q,v]),λi H=>H d=some (.frz ob (.dT kvs))/\kvs.length<=i⟩
theorem lC_{kvs:List (List Key×V)}(hob:ob.data=.dict es0 ep):
  JU_ P w K (.Tuple elts kt tpos) (Idt d ob kvs) [it] it (λi h=>∃ok ov,IsItemIter h it d i es0.size ep ok ov) where
 mem:=s_
 obj:=λi h st b hb=>by
  cases Ak_.mp hb;obtain⟨ok,ov,e⟩:=st;show⟨_,e,λv z=>by cases(show Data.fields _=Data.cell v from z)⟩
 keep:=λi h h' st k=>let⟨ok,ov,e⟩:=st;⟨ok,ov,k it s_ _ e⟩
 item:=by
  intro X hP hw hK hc i pins s σ H E I hf st ⟨e,hi⟩;subst hP hw hK;obtain⟨xs,rel,da,he⟩:=lB_ I.hok e hob;have hl:kvs.length=xs.length:=BE_ rel;have hz:es0.size=xs.length:=by rw[<-BV_,he,Ab_]
  have hx:xs[i]?=some (xs[i]'o_):=Aa_ _;have hk:kvs[i]?=some (kvs[i]):=Aa_ _;obtain⟨e1,e2,e3⟩:=fe_ rel hk hx;obtain⟨ok,ov,st⟩:=st
  have ee:es0[i]'o_=entryOfKey (tupleKind (FN_ X.prog X.w)) (xs[i]'o_):=by
   have:es0.toList[i]?=some (entryOfKey (tupleKind (FN_ X.prog X.w)) (xs[i]'o_)):=by rw[he,Ag_,hx];rfl
   rw[EP_,D3_ o_]at this;show Au_ this
  show pB_ st da o_ λh' g1 g3 g5=>⟨_,rfl,wpAny_letOwnedTupleGo_items (s:={s with heap:=h'}) g1 λh'' k1 k2=>?_⟩;rw[ee]at g3;generalize hq:(xs[i]'o_)=y at e1 e2 e3 g3;have lt:it<s.heap.objs.size:=Aw_ st;have hT:H s.heap.objs.size=none:=I.hok.fresh (Ai_ _)
  have I1:Inv X pins σ (upd H s.heap.objs.size (.tup [.ref y.2.1,(kvs[i]).2])) {s with heap:=s.heap.push {cls:=.type "tuple",data:=.seq #[.ref y.2.1,y.2.2]}} :=
   I.laid (t':=s.toks) (λb u e=>Ah_ _ e) (Ai_ _) ⟨by change 2<=sizeLine;decide,[.ref y.2.1,y.2.2],.cons rfl (.cons e3 .nil),⟨_,Ax_ _ rfl,rfl,_,rfl⟩⟩
  have f1:∀b∈[it],H2_ X pins (upd H s.heap.objs.size (.tup [.ref y.2.1,(kvs[i]).2])) b:=λb hb=>by
   cases Ak_.mp hb;show⟨by rw[af_ (AE_ lt)];show(hf it hb).1,(hf it hb).2⟩
  have I2:Inv X pins σ (upd H s.heap.objs.size (.tup [.ref y.2.1,(kvs[i]).2])) {s with heap:=h''}:=by
   show Inv.turnedL (s:={s with heap:=s.heap.push {cls:=.type "tuple",data:=.seq #[.ref y.2.1,y.2.2]}}) (ch:=[it]) (t':=s.toks) I1 (λb o hb q=>?_) f1;simp only[Ak_]at hb;show(k2.2 b hb).trans ?_;by_cases hbT:b=s.heap.objs.size
   .subst hbT;have e':(s.heap.push {cls:=.type "tuple",data:=.seq #[.ref y.2.1,y.2.2]}).get? s.heap.objs.size=some o:=q;rw[Ax_ _ rfl]at e';cases e';show g3
   .show g5 b o hb ((Cq_ _ _ _ hbT).symm.trans (show(s.heap.push {cls:=.type "tuple",data:=.seq #[.ref y.2.1,y.2.2]}).get? b=some o from q))
  show⟨.ref s.heap.objs.size,_,I2,rfl,⟨_,_,_,y.2.1,rfl,hT,hk,e2,rfl⟩,⟨_,_,k1⟩,λb hb=>(f1 b hb).1⟩
 done:=by
  intro X hP hw hK hc i pins s σ H E I hf st ⟨e,hi⟩;subst hP hw hK;obtain⟨xs,rel,da,he⟩:=lB_ I.hok e hob;have hl:kvs.length=xs.length:=BE_ rel;have hz:es0.size=xs.length:=by rw[<-BV_,he,Ab_]
  obtain⟨f0,f1,f2,f3,f4,f5⟩:=hf it s_;obtain⟨ok,ov,st⟩:=st;show qG_ (I.ok.hd hc) st da o_ λh' eb=>⟨rfl,I.turned (t':=s.toks) (λb o hb e=>eb b o hb e) f0 f1 f3 f4 f5⟩
 self:=λ_ _ _ _ _ st h=>let⟨_,_,e⟩:=st;kcp_self e h
def iDT(td:TE):TI:=λσ H R=>td σ H λx H1=>∃(d:Addr)(kvs:List (List Key×V)),x=.ref d/\H1 d=some (.dT kvs)/\∀ob,R (Idt d ob kvs) (upd H1 d (.frz ob (.dT kvs)))
theorem m1_{o:Expr}{td:TE}{apos cpos:Pos}(ho:PE X o td)(hbase:attributeBase o "items" X.env (eval o X.env)=eval o X.env:=by rfl) (hline:(apos.endLine == cpos.line)=true:=by rfl):PI X (.Tuple elts kt tpos) (.Call (.Attribute o "items" apos) [] [] cpos) (iDT td):=by
 intro pins s σ H R I h;show Ep_ hbase hline (thn (ho pins s σ H _ I h) λv s1 ⟨x,H1,I1,r1,d,kvs,e,hd,q⟩=>?_);subst e;cases r1;obtain⟨ob,es0,ep,hob,hoo,I2⟩:=I1.freezeT hd;obtain⟨_,hsys,xs0,_,dd⟩:=Kr_ I1.hok hd;have raw:J8_ s1.heap d es0 ep:=by obtain⟨o,es,ep',z1,z2,_⟩:=id dd;rw[hoo]at z1;cases z1;show⟨ob,hoo,z2,hob⟩
 show⟨"dict","dict.items",BS_,Eq_,PySem.F.type_dict_items,dd.typeIs,λb q=>?_,Dc_ rfl (Fm_ ?_)⟩
 .cases q;obtain⟨o2,h1,h2,_⟩:=id raw;show⟨o2,h1,h2.2.1⟩
 show Ft_ Eq_ dd.typeIs PySem.F.entry_dict_items (PySem.F.args_dict_items_1 _) (om_ d hsys) ⟨⟨es0,ep,raw⟩,?_⟩;have I3:Inv X pins σ (upd H1 d (.frz ob (.dT kvs))) {s1 with heap:=s1.heap.push {cls:=.type "dict_items",data:=.fields #[.ref d]}}:=I2.kept (t':=s1.toks) λb o e=>Ah_ _ e;obtain⟨xs,rel,da,_⟩:=lB_ (kvs:=kvs) I3.hok aa_ hob;show pA_ (s:={s1 with heap:=s1.heap.push {cls:=.type "dict_items",data:=.fields #[.ref d]}}) ⟨_,Ax_ _ rfl,rfl,rfl⟩ da ?_;show⟨(s1.heap.push {cls:=.type "dict_items",data:=.fields #[.ref d]}).objs.size,[_],_,_,upd H1 d (.frz ob (.dT kvs)),rfl,I3.kept (t':=s1.toks) λb o e=>Ah_ _ e,lC_ hob,⟨_,_,Ax_ _ rfl⟩,λb hb=>?_,q ob⟩;cases Ak_.mp hb;show I3.fpOk (Ai_ _) (I3.hok.fresh (Ai_ _))
theorem qH_{d:Addr}{ob:Obj}{kvs:List (List Key×V)}{g:TG}{tb:TS}{nx bk ct:L5_}{rt:VK}{σ:St}{H:Hp}(Pv:Nat->St->Hp->Prop)(h0:Pv 0 σ H)(hl:∀i σ H,i<=kvs.length->Pv i σ H->H d=some (.frz ob (.dT kvs)))
  (hs:∀(i:Nat) k x T q σ H,kvs[i]?=some (k,x)->H T=none->H q=some (.tup (k.map kV))->∀(kk kb:L5_),(∀σ' H',Pv (i+1) σ' H'->kk σ' H')->(∀σ' H',nx σ' H'->kb σ' H')->∀G:Prop,((g (.ref T) σ (upd H T (.tup [.ref q,x])) λσ2 H2=>tb ⟨kk,rt,kb,kk⟩ σ2 H2)->G)->Pv i σ H->G) (hd:∀σ H,Pv kvs.length σ H->nx σ H):G6_ (Idt d ob kvs) g tb ⟨nx,rt,bk,ct⟩ σ H:=by
 show⟨λi m σ H=>m=kvs.length-i/\i<=kvs.length/\Pv i σ H,⟨kvs.length,s_,Az_ _,h0⟩,?_⟩;rintro i m σ H ⟨rfl,hi,p⟩;have q:=hl i σ H hi p;by_cases hlt:i<kvs.length
 .show .inr ⟨⟨q,hlt⟩,Pv (i+1),λσ' H' p'=>⟨kvs.length-(i+1),o_,rfl,hlt,p'⟩,λx H' y=>?_⟩;obtain⟨T,k,v,qa,rfl,hT,hk,hqa,rfl⟩:=y;show hs i k v T qa σ H hk hT hqa _ _ (λ_ _ q=>q) (λ_ _ q=>q) _ id p
 .have e:i=kvs.length:=o_
  subst e;show .inl ⟨⟨q,Ai_ _⟩,hd σ H p⟩
structure Lto(lt:Nat->Nat->Bool)(N:Nat):Prop where
 as:∀x y,lt x y=true->lt y x=false
 tr:∀x y z,lt y x=false->lt z y=false->lt z x=false
def So(lt:Nat->Nat->Bool)(p:Array Nat)(b:Nat):Prop:=∀i j,i<j->j<b->lt (p.getD j 0) (p.getD i 0)=false
def Fa(lt:Nat->Nat->Bool)(p:Array Nat)(b:Nat):Prop:=∀i j,i<j->j<b->lt (p.getD i 0) (p.getD j 0)=false
section
variable {lt:Nat->Nat->Bool}{N:Nat}
theorem Pm.size{p:Array Nat}(h:Pm N p):p.size=N:=by have:=(Bk_.mp h).length_eq;simpa using this
variable{n:Nat}
theorem So.more{p:Array Nat}(O:Lto lt N)(h:So lt p n)(h1:1<=n)(e:lt (p.getD n 0) (p.getD (n-1) 0)=false):So lt p (n+1):=λi j hij hj=>by
 by_cases c:j<n
 .show h i j hij c
 .have:j=n:=o_
  subst this;by_cases d:i=j-1
  .subst d;show e
  .show O.tr _ _ _ (h i (j-1) o_ o_) e
theorem Fa.more{p:Array Nat}(O:Lto lt N)(h:Fa lt p n)(h1:1<=n)(e:lt (p.getD (n-1) 0) (p.getD n 0)=false):Fa lt p (n+1):=λi j hij hj=>by
 by_cases c:j<n
 .show h i j hij c
 .have:j=n:=o_
  subst this;by_cases d:i=j-1
  .subst d;show e
  .show O.tr _ _ _ e (h i (j-1) o_ o_)
theorem on_(O:Lto lt N){p:Array Nat}(h:Pm N p)(h0:0<N):∀(f n:Nat),1<=n->So lt p n->∃m,GO_ lt N (kas_asc p f n)=some m/\So lt p m/\n<=m/\m<=n+f/\(m<n+f->lt (p.getD m 0) (p.getD (m-1) 0)=true)
 |0,n,h1,hs=>⟨n,rfl,hs,Ai_ _,Ai_ _,λx=>absurd x o_⟩
 |f+1,n,h1,hs=>by
  unfold kas_asc GO_;rw[if_pos ⟨h.below h0 _,h.below h0 _⟩];cases e:lt (p.getD n 0) (p.getD (n-1) 0)with
  |true=>show⟨n,rfl,hs,Ai_ _,o_,λ_=>e⟩
  |false =>obtain⟨m,a,b,c,d,g⟩:=on_ O h h0 f (n+1) o_ (hs.more O h1 e);show⟨m,a,b,o_,o_,λx=>g o_⟩
def Es(lt:Nat->Nat->Bool)(p:Array Nat)(a b:Nat):Prop:=∀i j,a<=i->i<b->a<=j->j<b->lt (p.getD i 0) (p.getD j 0)=false
theorem Lto.rf(O:Lto lt N)(x:Nat):lt x x=false:=by
 cases e:lt x x with
 |false=>rfl
 |true=>show e.symm.trans (O.as x x e)
theorem Es.one(O:Lto lt N){p:Array Nat}:Es lt p n (n+1):=λi j a b c d=>by rw[show i=j by lia];show O.rf _
theorem gR_{p:Array Nat}{a:Nat}(hn:n<=p.size)(k:Nat):(kas_rev p a n).getD k 0=if a<=k/\k<n then p.getD (a+n-1-k) 0 else p.getD k 0:=by have q:=Fn_ (xs:=p) (i:=a) (j:=n) hn k;change(mirror p a n ((n-a)/2)).getD k 0=_;rw[Br_,q];split <;> rw[Br_]
theorem Fa.seg{p:Array Nat}{a:Nat}(hn:n<=p.size)(h:Fa lt p n)(e:Es lt p a n):Fa lt (kas_rev p a n) n:=λi j hij hj=>by
 rw[gR_ hn,gR_ hn];by_cases ci:a<=i/\i<n
 .rw[if_pos ci,if_pos ⟨o_,hj⟩];show e _ _ o_ o_ o_ o_
 .rw[if_neg ci];split <;> show h _ _ o_ o_
theorem jO_(O:Lto lt N)(h0:0<N):∀(f:Nat)(p:Array Nat)(n q:Nat),Pm N p->q+1<=n->n+f<=N->Fa lt p n->Es lt p (n-(q+1)) n->∃z,GO_ lt N (kas_desc f p n q)=some z/\Pm N z.1/\Fa lt z.1 z.2.1/\Es lt z.1 (z.2.1-(z.2.2+1)) z.2.1/\n<=z.2.1/\z.2.1<=n+f
 |0,p,n,q,h,h1,_,hs,he=>⟨(p,n,q),rfl,h,hs,he,Ai_ _,Ai_ _⟩
 |f+1,p,n,q,h,h1,hN,hs,he=>by
  have sz:=h.size;unfold kas_desc GO_;rw[if_pos ⟨h.below h0 _,h.below h0 _⟩];cases e:lt (p.getD n 0) (p.getD (n-1) 0)with
  |true =>
   simp only[if_true];split
   .have er:∀k,¬ (n-(q+1)<=k/\k<n)->(kas_rev p (n-(q+1)) n).getD k 0=p.getD k 0:=λk hk=>by rw[gR_ o_,if_neg hk]
    obtain⟨z,a,b,c,d,g⟩:=jO_ O h0 f (kas_rev p (n-(q+1)) n) (n+1) 0 (h.rev _ _) o_ o_ ((hs.seg o_ he).more O o_ (by rw[er n o_,gR_ o_,if_pos ⟨o_,o_⟩];show O.tr _ _ _ (O.as _ _ e) (he _ _ o_ o_ o_ o_))) (Es.one O);show⟨z,a,b,c,d,o_,o_⟩
   .obtain⟨z,a,b,c,d,g⟩:=jO_ O h0 f p (n+1) 0 h o_ o_ (hs.more O o_ (O.as _ _ e)) (Es.one O);show⟨z,a,b,c,d,o_,o_⟩
  |false =>
   simp only[BO_,Cb_];unfold GO_;rw[if_pos ⟨h.below h0 _,h.below h0 _⟩];cases e2:lt (p.getD (n-1) 0) (p.getD n 0)with
   |true=>show⟨(p,n,q),rfl,h,hs,he,Nat.le_refl _,by dsimp only;lia⟩
   |false =>
    simp only[BO_,Cb_]
    obtain⟨z,a,b,c,d,g⟩:=jO_ O h0 f p (n+1) (q+1) h o_ o_ (hs.more O o_ e2) (λi j hi hi' hj hj'=>by
     have le:∀k,n+1-(q+1+1)<=k->k<n+1->lt (p.getD k 0) (p.getD (n-1) 0)=false/\lt (p.getD (n-1) 0) (p.getD k 0)=false:=λk k1 k2=>by
      by_cases kn:k=n
      .rw[kn];show⟨e,e2⟩
      .show⟨he _ _ o_ o_ o_ o_,he _ _ o_ o_ o_ o_⟩
     show O.tr _ _ _ (le j hj hj').2 (le i hi hi').1)
    show⟨z,a,b,c,d,o_,o_⟩
theorem p9_{p:Array Nat}(hn:n<=p.size){k:Nat}(hk:k<n):(kas_rev p 0 n).getD k 0=p.getD (n-1-k) 0:=by have q:=Fn_ (xs:=p) (i:=0) (j:=n) hn k;rw[if_pos ⟨Az_ _,hk⟩]at q;change(mirror p 0 n ((n-0)/2)).getD k 0=_;rw[Br_,Br_,q];congr 2;lia
theorem Fa.rev{p:Array Nat}(hn:n<=p.size)(h:Fa lt p n):So lt (kas_rev p 0 n) n:=λi j hij hj=>by rw[p9_ hn hj,p9_ hn o_];show h _ _ o_ o_
theorem is_(O:Lto lt N)(h0:0<N){p:Array Nat}(h:Pm N p)(h1:1<=n)(hN:n<N)(hf:Fa lt p (n+1)):∃z,GO_ lt N (kas_descPart n N p)=some z/\Pm N z.2/\So lt z.2 z.1/\1<=z.1/\z.1<=N:=by
 obtain⟨z,hz,b,c,d,g1,g2⟩:=jO_ O h0 (N-(n+1)) p (n+1) 0 h o_ o_ hf (Es.one O);have sz:=b.size;have tl:∀{p:Array Nat},Pm N p->Fa lt p z.2.1->∃y,GO_ lt N (kas_tail3 z.2.1 N p)=some y/\Pm N y.2/\So lt y.2 y.1/\1<=y.1/\y.1<=N:=λ{p} hp fp=>by obtain⟨m',hm',hs',h1',hN',_⟩:=on_ O (hp.rev 0 z.2.1) h0 (N-z.2.1) z.2.1 o_ (fp.rev (by rw[hp.size];lia));show⟨(m',kas_rev p 0 z.2.1),?_,hp.rev 0 _,hs',by dsimp only;lia,by dsimp only;lia⟩;unfold kas_tail3;rw[bx_ _ hm'];rfl
 unfold kas_descPart;rw[bx_ _ hz];split
 .show tl (b.rev _ _) (c.seg o_ d)
 .show tl b c
theorem pC_(O:Lto lt N)(h0:0<N){p:Array Nat}(h:Pm N p):∃z,GO_ lt N (kas_count N p)=some z/\Pm N z.2/\So lt z.2 z.1/\1<=z.1/\z.1<=N:=by
 obtain⟨m,hm,hs,h1,hN,hx⟩:=on_ O h h0 (N-1) 1 (Ai_ _) λi j a b=>absurd a o_;have sz:=h.size;unfold kas_count;rw[bx_ _ hm];split
 .show⟨_,rfl,h,hs,h1,by dsimp only;lia⟩
 .rename_i c;have cm:m≠N:=λe=>c (by rw[e];show Eb_ N);have e:=hx o_;split
  .unfold GO_;rw[if_pos ⟨h.below h0 _,h.below h0 _⟩];cases t:lt (p.getD 0 0) (p.getD (m-1) 0)with
   |true=>show⟨_,rfl,h,hs,h1,by dsimp only;lia⟩
   |false =>
    have ff:Fa lt p m:=λi j hij hj=>by
     have a1:lt (p.getD (m-1) 0) (p.getD j 0)=false:=by
      by_cases c:j=m-1
      .rw[c];show O.rf _
      .show hs _ _ o_ o_
     have a2:lt (p.getD i 0) (p.getD 0 0)=false:=by
      by_cases c:i=0
      .rw[c];show O.rf _
      .show hs _ _ o_ o_
     show O.tr _ _ _ (O.tr _ _ _ a1 t) a2
    have es:Es lt p 0 m:=λi j _ hi _ hj=>by
     rcases Nat.lt_trichotomy i j with c|c|c
     .show ff i j c hj
     .rw[c];show O.rf _
     .show hs j i c hi
    show is_ O h0 (h.rev 0 m) h1 o_ ((ff.seg o_ es).more O h1 ?_);rw[gR_ o_,gR_ o_,if_pos ⟨o_,o_⟩,if_neg o_,show 0+m-1-(m-1)=0 by lia];show O.tr _ _ _ (O.as _ _ e) t
  .have m1:m=1:=o_
   subst m1;show is_ O h0 h (Ai_ _) o_ (Fa.more O (n:=1) (λi j a b=>absurd a o_) (Ai_ _) (O.as _ _ e))
theorem jP_(O:Lto lt N)(h0:0<N){p:Array Nat}(h:Pm N p){k:Nat}(hs:So lt p k):∀(f l r:Nat),l<=r->r<=k->r<=l+f->(∀i,i<l->lt (p.getD k 0) (p.getD i 0)=false)->(∀i,r<=i->i<k->lt (p.getD i 0) (p.getD k 0)=false) ->
  ∃m,GO_ lt N (kas_place p k f l r)=some m/\m<=k/\(∀i,i<m->lt (p.getD k 0) (p.getD i 0)=false)/\∀i,m<=i->i<k->lt (p.getD i 0) (p.getD k 0)=false
 |0,l,r,a,b,c,u,v=>⟨l,rfl,o_,u,λi hi hk=>v i o_ hk⟩
 |f+1,l,r,a,b,c,u,v=>by
  unfold kas_place;split
  .show⟨l,rfl,o_,u,λi hi hk=>v i o_ hk⟩
  .unfold GO_;rw[if_pos ⟨h.below h0 _,h.below h0 _⟩];cases e:lt (p.getD k 0) (p.getD ((l+r)/2) 0)with
   |true =>
    show jP_ O h0 h hs f l _ o_ o_ o_ u λi hi hk=>?_;by_cases q:i=(l+r)/2
    .subst q;show O.as _ _ e
    .show O.tr _ _ _ (O.as _ _ e) (hs _ _ o_ hk)
   |false =>
    show jP_ O h0 h hs f _ r o_ b o_ (λi hi=>?_) v;by_cases q:i=(l+r)/2
    .subst q;show e
    .show O.tr _ _ _ (hs _ _ o_ o_) e
theorem qa_{p:Array Nat}{k l:Nat}(hk:k<p.size)(hl:l<=k)(i:Nat):(bubble p k (k-l)).getD i 0=if i=l then p.getD k 0 else if l<i/\i<=k then p.getD (i-1) 0 else p.getD i 0:=by
 have q:=getElem?_bubble (xs:=p) hk (k-l) o_ i;rw[show k-(k-l)=l by lia]at q;rw[Br_,q];by_cases a:i=l
 .rw[if_pos a,if_pos a,Br_]
 .rw[if_neg a,if_neg a];by_cases b:l<i/\i<=k
  .rw[if_pos b,if_pos b,Br_]
  .rw[if_neg b,if_neg b,Br_]
theorem qb_(O:Lto lt N)(h0:0<N):∀(f:Nat)(p:Array Nat)(k:Nat),Pm N p->So lt p k->k+f=N->∃z,GO_ lt N (kas_bin f p k)=some z/\Pm N z/\So lt z N
 |0,p,k,h,hs,e=>by
  have q:k=N:=o_
  rw[q]at hs;show⟨p,rfl,h,hs⟩
 |f+1,p,k,h,hs,e=>by
  obtain⟨l,hl,hk,u,v⟩:=jP_ O h0 h hs k 0 k o_ o_ o_ (λi hi=>absurd hi o_) λi hi hk=>absurd hi o_;unfold kas_bin;rw[bx_ _ hl];show qb_ O h0 f _ _ ((bubble_perm _ _ _).trans h) (λi j hij hj=>?_) o_;have sz:=h.size;rw[qa_ o_ hk,qa_ o_ hk];by_cases a:j=l
  .rw[if_pos a,if_neg o_,if_neg o_];show u i o_
  .rw[if_neg a];by_cases b:i=l
   .rw[if_pos b,if_pos ⟨o_,o_⟩];show v _ o_ o_
   .rw[if_neg b];by_cases c:l<j
    .rw[if_pos ⟨c,o_⟩];by_cases d:l<i
     .rw[if_pos ⟨d,o_⟩];show hs _ _ o_ o_
     .rw[if_neg o_];show hs _ _ o_ o_
    .rw[if_neg o_,if_neg o_];show hs _ _ o_ o_
theorem oo_(O:Lto lt N)(h0:0<N):∃z,GO_ lt N (kas_sort N)=some z/\Pm N z/\So lt z N:=by
 obtain⟨r,hr,hp,hs,h1,hN⟩:=pC_ O h0 (p:=List.toArray (List.range N)) (Array.Perm.refl _);unfold kas_sort;rw[bx_ _ hr];split
 .rename_i c;rw[show max r.1 1=r.1 by lia];show qb_ O h0 _ _ _ hp hs o_
 .have e:r.1=N:=o_
  rw[e]at hs;show⟨_,rfl,hp,hs⟩
theorem So.list{z:Array Nat}(hp:Pm N z)(hs:So lt z N):z.toList.Pairwise λi j=>lt j i=false:=by
 rw[BK_];intro i j hi hj hij;have sz:=hp.size;have hi':i<z.size:=by simpa using hi
 have hj':j<z.size:=by simpa using hj
 have q:=hs i j hij o_;have ei:z.getD i 0=z.toList[i]:=by simp[Array.getD,hi']
 have ej:z.getD j 0=z.toList[j]:=by simp[Array.getD,hj']
 rw[ei,ej]at q;show q
end
def sLe(a b:Str):Prop:=¬ b.cps.toList<a.cps.toList
theorem sLe.trans{a b c:Str}(h:sLe a b)(h2:sLe b c):sLe a c:=DG_.mpr (List.le_trans (DG_.mp h) (DG_.mp h2))
theorem qI_{a b:Str}(h:a.cps.toList=b.cps.toList):a=b:=by
 cases a;cases b;simpa using h
theorem sLe.antisymm{a b:Str}(h:sLe a b)(h2:sLe b a):a=b:=qI_ (List.le_antisymm (DG_.mp h) (DG_.mp h2))
theorem kL_:∀(p:Str)(l:List Str),risingS p l=true->(p::l).Pairwise sLe
 |p,[],_=>Er_ _ _
 |p,x::r,h=>by
  have h':(!ltCps x.cps.toList p.cps.toList && risingS x r)=true:=h;rw[BM_]at h';have ih:=kL_ x r h'.2;have px:sLe p x:=by have:=h'.1;rw[ltCps_eq]at this;simpa[sLe]using this
  show List.pairwise_cons.mpr ⟨λy hy=>?_,ih⟩
  rcases Av_.mp hy with rfl|hy
  .show px
  .show px.trans ((List.pairwise_cons.mp ih).1 y hy)
theorem kM_:∀{l:List Str},sortedS l=true->l.Pairwise sLe
 |[],_=>.nil
 |x::r,h=>kL_ x r h
theorem hd_:∀{us:List Value}{ns:List Str},StrsAre us ns->F4_ (ns.map V.str) us
 |_,_,.nil=>.nil
 |_,_,.cons n t h=>.cons ⟨t,rfl⟩ (hd_ h)
theorem jg_:∀{us:List Value}{ns:List Str},F4_ (ns.map V.str) us->StrsAre us ns
 |_,[],.nil=>.nil
 |_,n::ns,.cons r1 r2=>by obtain⟨t,rfl⟩:=r1;show .cons n t (jg_ r2)
def Kd_:List V->Hp->VK->Prop:=λvs H Q=>∃(d:Addr)(kvs:List (Key×V))(ns:List Str),vs=[.ref d]/\H d=some (.dK kvs)/\kvs.map (λq=>q.1)=ns.map (λn=>(Sum.inr n:Key))/\ns.length<64 /\
 ∀l (zs:List Str),H l=none->zs.Perm ns->zs.Pairwise sLe->Q (.ref l) (upd H l (.lst (zs.map V.str)))
theorem it_:∀{us:List Value}{ns:List Str},us.length=ns.length->(∀(j:Nat)(v:Value)(n:Str),us[j]?=some v->ns[j]?=some n->∃t,v=.str n t)->StrsAre us ns
 |[],[],_,_=>.nil
 |[],_::_,e,_=>nomatch e
 |_::_,[],e,_=>nomatch e
 |u::us,n::ns,e,h=>by obtain⟨t,rfl⟩:=h 0 u n rfl rfl;show .cons n t (it_ (by simpa using e) λj v x hv hx=>h (j+1) v x hv hx)
theorem lD_(hc:X.calm=true):GF_ X (.builtin "sorted") Kd_:=by
 intro pins s σ H xs us Q I r h;obtain⟨d,kvs,ns,rfl,hd,hk,h64,q⟩:=h;obtain⟨u,rfl,e⟩:=GI_ r;cases e;obtain⟨hsz,hsys,vs,rel,dd⟩:=Jg_ I.hok hd;obtain⟨m,hn,F0⟩:=I.frm;obtain⟨ep,hat⟩:=dd.dictAt;have hl:kvs.length=vs.length:=rel.length;have hl2:kvs.length=ns.length:=by simpa using congrArg List.length hk
 show kdu_sorted (kdl_dict (knd:=FN_ X.prog X.w) (kvs:=vs) (ep:=ep) hsys) (I.ok.hd hc) F0 d6_ hat o_ λD h' tk us F N l1 hlu hv=>?_
 have hS:StrsAre us ns:=it_ o_ λj v n ev en=>by
  obtain⟨k,x,ekx,kis⟩:=hv j v ev;have hj:j<ns.length:=(Ae_.mp en).1;obtain⟨e1,_⟩:=fe_ rel (Aa_ (show j<kvs.length by lia)) ekx;have e2:(kvs.map (λq=>q.1))[j]?=(ns.map (λn=>(Sum.inr n:Key)))[j]?:=by rw[hk]
  rw[Ag_,Ag_,en,Aa_ (show j<kvs.length by lia)]at e2;have e3:k=Sum.inr n:=e1.symm.trans (Au_ e2);subst e3;have kis':H9_ (Sum.inr n) v=true:=kis
  rcases a7_ kis' with⟨i,t,ek,ev⟩|⟨y,t,ek,ev⟩
  .cases ek
  .cases ek;show⟨t,ev⟩
 have hL:=N (D,_) Ar_;have hoL:h'.get? D=some (seqObj "list" us.toArray 0):=hL.1;show BW_ DB_ ⟨_,hoL,rfl⟩ Ds_ (list_sort_treeK strKind_oneLt hoL hS.keysOf (λv₁ v₂ rest e=>keyKind_strs (by rw[<-e];show hS)) o_ λst' hp hs=>⟨_,rfl,?_⟩) (args_list_sort _);obtain⟨zs,hz,hpm,hss⟩:=sorted_out_str hS hp hs;obtain⟨c,hD⟩:=sortedHeap_at (out:=(arrOf st').map (·.2)) hoL;have old:∀b o,b≠D->h'.get? b=some o->(sortedHeap h' D us ((arrOf st').map (·.2))).get? b=some o:=λb o hb e=>(sortedHeap_old hb (Aw_ e)).trans e
 have F2:Fr X.base X.env.locals (sortedHeap h' D us ((arrOf st').map (·.2))) m:=by
  show⟨?_,λb x e=>old b x (λw=>?_) (F.keep b x e),F.above⟩
  .obtain⟨o,es,ep',ho,r1,r2,r3⟩:=F.ns;show⟨o,es,ep',old _ _ (Ne.symm hL.2.1) ho,r1,r2,r3⟩
  .rw[w,hL.2.2]at e;cases e
 have N2:News X.base X.env.locals (sortedHeap h' D us ((arrOf st').map (·.2))) ((D,seqObj "list" ((arrOf st').map (·.2)) c)::Gg_ X.base s.heap X.env.locals):=λz hz'=>by
  rcases Av_.mp hz' with rfl|hz'
  .show⟨hD,hL.2⟩
  .have:=N z (An_ _ hz');show⟨old _ _ (AE_ (l1 z hz')) this.1,this.2⟩
 have hlz:=hpm.length_eq;obtain⟨HD,I2⟩:=I.led_new (t':=tk) (o:=.lst (zs.map V.str)) hn F2 N2 l1 ⟨AH_ (FB_ (by rw[Ab_];lia)),_,c,hd_ hz,hD⟩;show⟨.ref D,_,I2,rfl,q D zs HD hpm (kM_ hss)⟩
end L2
namespace PySem
open Sem (wp)
theorem iu_:typeLookup (.type "list") "keys"=pure none:=am_miss_of_fast r_
theorem gd_{prog:Program}{w:World}{A:Around}{E:Value->Shared->Prop}{s:Shared}{a:Addr}{o:Obj}{xs:Array Value}{k:Nat}{name:Str}{Q:Option Value->Shared->Prop}
  (hx:s.heap.get? a=some o) (hc:o.cls=.type "list") (hdat:o.data=.seq xs k) (hd:o.dict=none) (hmiss:typeLookup (.type "list") name=pure none) (hname:(["__module__","__name__","__qualname__","__doc__","__annotations__"]:List Str).contains name=false) (hA:A.handled=none)
  (h:∀h' tk,(∀b ob,s.heap.get? b=some ob->h'.get? b=some ob)->Q none {s with heap:=h',toks:=tk}) (hsz:name.length+100<=sizeLine:=by size_fits):
  wpAny (model prog w) A (getAttr? (.ref a) name) Q E s:=by
 obtain⟨c,dct,dat,sl⟩:=o;simp only at hc hdat hd;subst hc hdat hd;obtain⟨hp,g,d,tk,os⟩:=s;have hT:∀tk',(⟨hp,g,d,tk',os⟩:Shared).TypeIs (.ref a) "list" := λ_=>⟨_,hx,rfl⟩;have f1:=sub_AttributeError;have f3:=F.slot_list_getattribute.lookup;have f4:=F.slot_list_getattribute.bind (.ref a);have f5:=am_list_getattr_none;unfold getAttr? getAttrBy? getAttrBy
 repeat (any_goals (first|assumption|show hT _|((with_reducible change wpAny _ _ (call (Value.builtin "list.__getattribute__") _ _) _ _ _);show CV_ F.slot_list_getattribute (hT _) am_entry_list_getattribute (F.args_list_getattribute_2 _ _) (meets_getattribute_miss_list a xs k sl name _ hmiss hname hsz) ⟨hx,hA,λh' tk' e hx'=>?_⟩)|wp_step))
 obtain⟨t',u',he⟩:=hx'.there;change wpAny _ _ (getattributeRaised _ _ _ _ _ _ _) _ _ _;unfold getattributeRaised
 repeat (any_goals (first|assumption|wp_step))
 show h _ _ hx'.keeps
namespace F
theorem rim_entry_dict_update_loop:entryFor table "dict.update.loop"=some Builtin.«dict.update.loop»:=entryFor_of_tree (by kernel_rfl)
theorem rim_plain_dict_update_loop:plainId "dict.update.loop"=true:=r_
end F
section
variable {prog:Program}{w:World}{K:Type}[DecidableEq K]{knd:KeyKind prog w K}{A:Around}{R:Result->Shared->Prop}
theorem eP_{d it p:Addr}{its:Array Value}{h0:Heap}(hh:A.handled=none)(hdi:d≠it)(hp:h0.IsList p its)(hpi:p≠it)(hpd:p≠d):
  ∀(ps:List (K×Value))(i:Nat)(j:Int)(D:List (K×Value))(s:Shared),its.size=i+ps.length->D.length+ps.length<=1000->s.heap.IsListIter it p i->s.heap.DictOf knd d D ->
   (∀b o,b≠it->b≠d->h0.get? b=some o->s.heap.get? b=some o) ->
   (∀m q,ps[m]?=some q->∃(a:Addr)(kv:Value)(o:Obj)(n:Nat),its[i+m]?=some (.ref a)/\a≠it/\a≠d/\h0.get? a=some o/\o.cls=.type "tuple" /\ o.data=.seq #[kv,q.2] n/\knd.is q.1 kv=true) ->
   (∀h' tk,(∀b o,b≠it->b≠d->h0.get? b=some o->h'.get? b=some o)->h'.DictOf knd d (merged D ps)->R (.ok (.ret .none)) {s with heap:=h',toks:=tk}) ->
   codeAny (model prog w) A (.builtin "dict.update.loop" ⟨[.ref d,.ref it,rawInt j,.none],[]⟩) R s
 |[],i,j,D,s,hz,hl,hi,hD,hk,hit,hR=>by
  obtain⟨op,hop,hpr⟩:=id hp;have hp':s.heap.IsList p its:=⟨op,hk p op hpi hpd hop,hpr⟩;show Bz_ F.rim_entry_dict_update_loop ?_;rw[Bq_ F.rim_plain_dict_update_loop _];change wpAny _ A.in1 (pyNext (.ref it) >>= _) _ _ s;show Ac_ (CN_ hh hi hp' (CI_ (by simp at hz;lia)) λh' eb=>?_);change wpAny _ A.in1 (Builtin.Dict.addKeywords d [] >>= _) _ _ _;show Ac_ (Aj_ (Aj_ (hR h' s.toks (λb o h1 h2 e=>eb b o h1 (hk b o h1 h2 e)) (hD.extBut eb hdi))))
 |q::ps,i,j,D,s,hz,hl,hi,hD,hk,hit,hR=>by
  obtain⟨op,hop,hpr⟩:=id hp;have hp':s.heap.IsList p its:=⟨op,hk p op hpi hpd hop,hpr⟩;obtain⟨a,kv,o,n,e1,a1,a2,ho,hc,hd,kis⟩:=hit 0 q rfl;show Bz_ F.rim_entry_dict_update_loop ?_;rw[Bq_ F.rim_plain_dict_update_loop _];change wpAny _ A.in1 (pyNext (.ref it) >>= _) _ _ s;show Ac_ (CF_ hi hp' e1 λh1 hi1 sb=>?_);have ho1:h1.get? a=some o:=(sb.2 a a1).trans (hk a o a1 a2 ho);have hT:({s with heap:=h1}:Shared).TypeIs (.ref a) "tuple" := ⟨_,ho1,hc⟩;change wpAny _ A.in1 (holding [Value.ref a] _ >>= _) _ _ _;show Ac_ (A5_ ?_);show Ac_ ?_;show CR_ ?_;unfold Builtin.Dict.pairItems;show Ac_ (C6_ hT ?_);rw[if_pos d_];show Ac_ (Cs_ ho1 hd ?_);show Aj_ ?_;change wpAny _ A.in1 (holding [kv,q.2] (dictSet d kv q.2)) _ _ _;show A5_ ?_;have hD1:({s with heap:=h1}:Shared).heap.DictOf knd d D:=hD.sameBut sb hdi;show wpAny_dictSet_pairs kis hD1 (λh2 hD2 sb2=>?_) (by simp at hl;rw[Ch_];lia);show Aj_ ⟨BI_ F.rim_plain_dict_update_loop _,?_⟩;have sl:=stored_length_le D q.1 q.2;show eP_ hh hdi hp hpi hpd ps (i+1) (j+1) (stored D q.1 q.2) {s with heap:=h2,toks:=s.toks+1} (by simp at hz;lia) (by simp at hl;lia) ?_ hD2 (λb o h1' h2' e=>?_) (λm r e=>?_) λh' tk k3 hD3=>?_
  .obtain⟨oi,hoi,hir⟩:=hi1;show⟨oi,(sb2.2 it (Ne.symm hdi)).trans hoi,hir⟩
  .show(sb2.2 b h2').trans ((sb.2 b h1').trans (hk b o h1' h2' e))
  .obtain⟨a',kv',o',n',z1,z2⟩:=hit (m+1) r e;show⟨a',kv',o',n',by rw[show i+1+m=i+(m+1) by lia];show z1,z2⟩
  .show hR h' tk k3 hD3
end
end PySem
namespace L2
open PySem PySem.Spec PyProof.Rows PySem.W
variable {X:Cx}{pins:List (Addr×Obj)}{σ:St}{H:Hp}{s:Shared}
theorem mw_(I:Inv X pins σ H s):∀{kvs:List (Key×V)}{ys:List V}{its:List Value},F4_ ys its->ys.length=kvs.length->(∀(i:Nat)(q:Key×V),kvs[i]?=some q->∃a,ys[i]?=some (.ref a)/\H a=some (.tup [kV q.1,q.2])) ->
  ∃ps:List (Key×Value),KV kvs ps/\ps.length=its.length/\∀(m:Nat)(q:Key×Value),ps[m]?=some q->∃(a:Addr)(kv:Value)(o:Obj)(n:Nat),its[m]?=some (.ref a)/\H a≠none/\s.heap.get? a=some o/\o.cls=.type "tuple" /\ o.data=.seq #[kv,q.2] n/\(FN_ X.prog X.w).is q.1 kv=true
 |[],[],_,.nil,_,_=>⟨[],.nil,rfl,λm q e=>by simp at e⟩
 |[],_::_,_,_,e,_=>nomatch e
 |_::_,[],_,_,e,_=>nomatch e
 |kv::kvs,y::ys,_,.cons r1 r2,e,h=>by
  obtain⟨ps,rel,hl,hp⟩:=mw_ I r2 (by simpa using e) λi q hq=>h (i+1) q hq;obtain⟨a,ea,ha⟩:=h 0 kv rfl;cases ea;cases r1;obtain⟨zs,rz,⟨ob,ho,hcl,n,hd⟩,_⟩:=I.tuple (.inl (.inl ha));obtain⟨u1,u2,rfl,ru1,ru2⟩:=Hm_ rz;show⟨(kv.1,u2)::ps,.cons ⟨rfl,ru2⟩ rel,by simp[hl],λm q hq=>?_⟩;cases m with
  |zero =>
   cases hq;show⟨a,u1,ob,n,rfl,(by rw[ha];show Option.some_ne_none _),ho,hcl,hd,HW_ ru1⟩
  |succ m=>show hp m q hq
def J0_:List V->Hp->VK->Prop:=λvs H Q=>∃(p:Addr)(ys:List V)(kvs:List (Key×V)),vs=[.ref p]/\H p=some (.lst ys)/\ys.length=kvs.length/\kvs.length<=900/\(∀(i:Nat)(q:Key×V),kvs[i]?=some q->∃a,ys[i]?=some (.ref a)/\H a=some (.tup [kV q.1,q.2])) /\
 ∀l,H l=none->Q (.ref l) (upd H l (.dK (G5_ [] kvs)))
theorem kN_{K:Type}[DecidableEq K]:∀(ps D:List (K×Value)),(merged D ps).length<=D.length+ps.length
 |[],D=>Ai_ _
 |q::ps,D=>by have a:=kN_ ps (stored D q.1 q.2);have b:=stored_length_le D q.1 q.2;change(merged (stored D q.1 q.2) ps).length<=_;rw[A4_];lia
theorem jh_(hc:X.calm=true):GF_ X (.type "dict") J0_:=by
 intro pins s σ H xs us Q I r h;obtain⟨p,ys,kvs,rfl,hp,hl,hz,hk,q⟩:=h;obtain⟨u,rfl,e⟩:=GI_ r;cases e;obtain⟨_,its,c,rv,hop⟩:=(show F9_ X.prog X.w H s.heap p (.lst ys)from I.hok p _ hp);obtain⟨ps,rel,pl,hit⟩:=mw_ I rv hl hk;have hh:=I.ok.hd hc;have hlt:∀{b:Addr}{o:Obj},s.heap.get? b=some o->b<s.heap.objs.size:=λe=>Aw_ e;show callType_codes (Q₁:=λobj s₁=>obj=.ref s.heap.objs.size/\s₁={s with heap:=s.heap.push {cls:=.type "dict",data:=.dict #[]}}) F.kt_called_dict (F.kt_typeCall_dict_1 _) F.entry_dict_init (kt_code_dict_new _ ⟨rfl,rfl⟩) ?_;rintro obj s₁ ⟨rfl,rfl⟩;have hnew:(s.heap.push {cls:=.type "dict",data:=.dict #[]}).DictOf (FN_ X.prog X.w) s.heap.objs.size []:=Heap.DictOf.new s.heap;show⟨hnew.typeIs,F.args_dict_init_2 _ _,?_⟩;unfold Builtin.«dict.__init__»;show Ac_ ?_;unfold Builtin.Dict.selfAndRest;show Ac_ (Dk_ hnew.typeIs ?_);change wpAny _ _ (pure (s.heap.objs.size,[Value.ref p])) _ _ _;show Aj_ ?_;change wpAny _ _ (Builtin.Dict.updateFrom "dict.__init__" s.heap.objs.size (.ref p) [] .none) _ _ _;unfold Builtin.Dict.updateFrom;have hop1:(s.heap.push {cls:=.type "dict",data:=.dict #[]}).get? p=some (seqObj "list" its.toArray c):=Ah_ _ hop;have hT:({s with heap:=s.heap.push {cls:=.type "dict",data:=.dict #[]}}:Shared).TypeIs (.ref p) "list" := ⟨_,hop1,rfl⟩;show Ac_ (C6_ hT ?_);rw[if_pos d_];show Ac_ (gd_ hop1 rfl rfl rfl iu_ r_ hh λh1 tk k1=>?_);rw[if_pos Option.isNone_none];show Ac_ (C9_ ?_);have hop2:=k1 _ _ hop1;have dsz:s.heap.objs.size<h1.objs.size:=by obtain⟨od,_,_,hod,_⟩:=hnew;show Aw_ (k1 _ _ hod)
 show Ac_ (CJ_ (items:=its.toArray) ⟨_,hop2,rfl,c,rfl⟩ ?_);show Aj_ ⟨BI_ F.rim_plain_dict_update_loop _,?_⟩;have below:∀{b:Addr}{o:Obj},s.heap.get? b=some o->b≠h1.objs.size/\b≠s.heap.objs.size:=λe=>⟨AE_ (Ec_ (hlt e) dsz),AE_ (hlt e)⟩;have rl:kvs.length=ps.length:=rel.length;show eP_ (A:=X.A.in1) (knd:=FN_ X.prog X.w) (its:=its.toArray) (h0:=s.heap) (p:=p) hh (AE_ dsz) ⟨_,hop,rfl,c,rfl⟩ (below hop).1 (below hop).2 ps 0 0 [] _ (by simp;lia) (by simp;lia) ?_ ?_ (λb o b1 b2 e=>?_) (λm q hq=>?_) λh' tk' k3 hD3=>?_
 .show⟨_,Ax_ h1 rfl,rfl,rfl⟩
 .obtain⟨od,es,ep,hod,dr⟩:=hnew;show⟨od,es,ep,Ah_ _ (k1 _ _ hod),dr⟩
 .show Ah_ _ (k1 _ _ (Ah_ _ e))
 .obtain⟨a,kv,o,n,e1,_,ho,z⟩:=hit m q hq;show⟨a,kv,o,n,by simpa using e1,(below ho).1,(below ho).2,ho,z⟩
 .have rm:KV (G5_ [] kvs) (merged [] ps):=KV.merge rel .nil;have ml:=kN_ ps [];have mz:(G5_ [] kvs).length<=sizeLine:=by rw[show(G5_ [] kvs).length=(merged [] ps).length from rm.length];show AH_ (FB_ (by simp at ml;lia))
  show⟨rfl,.ref _,_,I.laid (a:=s.heap.objs.size) (o:=.dK (G5_ [] kvs)) (t':=tk') (λb o e=>k3 b o (below e).1 (below e).2 e) (Ai_ _) (n5_ mz (Cv_.mpr (Ne.symm (AE_ I.big))) rm hD3),rfl,q _ (I.hok.fresh (Ai_ _))⟩
abbrev TK(P:Program)(w:World):=tupleKind (FN_ P w)
def KZ_(P:Program)(w:World)(h:Heap)(d:Addr)(xs:List (List Key×Addr×Value)):Prop :=
 ∃o es ep,h.get? d=some o/\o.ExactDict/\o.data=.dict es ep/\es.toList=xs.map (entryOfKey (TK P w))/\(xs.map (·.1)).Nodup
def H8_(D ps:List (List Key×Addr×Value)):List (List Key×Addr×Value):=ps.foldl (λacc q=>storedH acc q.1 q.2.1 q.2.2) D
theorem lE_{D:List (List Key×Addr×Value)}{k:List Key}{b:Addr}{v:Value}{x:List Key×Addr×Value}(h:x∈storedH D k b v):(∃y∈D,y.1=x.1/\y.2.1=x.2.1)\/(x.1=k/\x.2.1=b):=by
 cases e:atKey D k with
 |none =>
  rw[storedH_new e]at h
  rcases Aq_.mp h with h|h
  .show .inl ⟨x,h,rfl,rfl⟩
  .rw[Ak_.mp h];show .inr ⟨rfl,rfl⟩
 |some p =>rw[storedH_old e]at h;obtain⟨y,hy,rfl⟩:=As_.mp h;show .inl ⟨y,hy,?_⟩;unfold putAt;split <;> show⟨rfl,rfl⟩
theorem m2_(D:List (List Key×Addr×Value))(k:List Key)(b:Addr)(v:Value):(storedH D k b v).length<=D.length+1:=by
 cases e:atKey D k with
 |none=>rw[storedH_new e,Af_];show Ai_ _
 |some p=>rw[storedH_old e,Ab_];show C1_ _
variable {prog:Program}{w:World}{A:Around}{R:Result->Shared->Prop}
theorem mx_{h h':Heap}{k:List Key}{b:Addr}(e:(TK prog w).is h k b)(m:∀o,h.get? b=some o->h'.get? b=some o):(TK prog w).is h' k b:=by obtain⟨o,its,n,h1,h2⟩:=e;show⟨o,its,n,m _ h1,h2⟩
theorem eD_{d it p:Addr}{its:Array Value}{h0:Heap}(hu:A.units+1<cLine)(hh:A.handled=none)(hdi:d≠it)(hp:h0.IsList p its)(hpi:p≠it)(hpd:p≠d):
  ∀(ps:List (List Key×Addr×Value))(i:Nat)(j:Int)(D:List (List Key×Addr×Value))(s:Shared),its.size=i+ps.length->D.length+ps.length<=1000->s.heap.IsListIter it p i->KZ_ prog w s.heap d D ->
   (∀x∈D,x.2.1≠it/\x.2.1≠d/\(TK prog w).is h0 x.1 x.2.1) ->
   (∀b o,b≠it->b≠d->h0.get? b=some o->s.heap.get? b=some o) ->
   (∀m q,ps[m]?=some q->∃(a:Addr)(o:Obj)(n:Nat),its[i+m]?=some (.ref a)/\a≠it/\a≠d/\h0.get? a=some o/\o.cls=.type "tuple" /\ o.data=.seq #[.ref q.2.1,q.2.2] n/\q.2.1≠it/\q.2.1≠d/\(TK prog w).is h0 q.1 q.2.1) ->
   (∀h' tk,(∀b o,b≠it->b≠d->h0.get? b=some o->h'.get? b=some o)->KZ_ prog w h' d (H8_ D ps)->R (.ok (.ret .none)) {s with heap:=h',toks:=tk}) ->
   codeAny (model prog w) A (.builtin "dict.update.loop" ⟨[.ref d,.ref it,rawInt j,.none],[]⟩) R s
 |[],i,j,D,s,hz,hl,hi,hD,hDk,hk,hit,hR=>by
  obtain⟨op,hop,hpr⟩:=id hp;have hp':s.heap.IsList p its:=⟨op,hk p op hpi hpd hop,hpr⟩;show Bz_ F.rim_entry_dict_update_loop ?_;rw[Bq_ F.rim_plain_dict_update_loop _];change wpAny _ A.in1 (pyNext (.ref it) >>= _) _ _ s;show Ac_ (CN_ hh hi hp' (CI_ (by simp at hz;lia)) λh' eb=>?_);change wpAny _ A.in1 (Builtin.Dict.addKeywords d [] >>= _) _ _ _;obtain⟨od,es,ep,g1,g2⟩:=hD;show Ac_ (Aj_ (Aj_ (hR h' s.toks (λb o h1 h2 e=>eb b o h1 (hk b o h1 h2 e)) ⟨od,es,ep,eb d od hdi g1,g2⟩)))
 |q::ps,i,j,D,s,hz,hl,hi,hD,hDk,hk,hit,hR=>by
  obtain⟨op,hop,hpr⟩:=id hp;have hp':s.heap.IsList p its:=⟨op,hk p op hpi hpd hop,hpr⟩;obtain⟨a,o,n,e1,a1,a2,ho,hc,hd,b1,b2,kis⟩:=hit 0 q rfl;show Bz_ F.rim_entry_dict_update_loop ?_;rw[Bq_ F.rim_plain_dict_update_loop _];change wpAny _ A.in1 (pyNext (.ref it) >>= _) _ _ s;show Ac_ (CF_ hi hp' e1 λh1 hi1 sb=>?_);have ho1:h1.get? a=some o:=(sb.2 a a1).trans (hk a o a1 a2 ho);have hT:({s with heap:=h1}:Shared).TypeIs (.ref a) "tuple" := ⟨_,ho1,hc⟩;change wpAny _ A.in1 (holding [Value.ref a] _ >>= _) _ _ _;show Ac_ (A5_ ?_);show Ac_ ?_;show CR_ ?_;unfold Builtin.Dict.pairItems;show Ac_ (C6_ hT ?_);rw[if_pos d_];show Ac_ (Cs_ ho1 hd ?_);show Aj_ ?_;change wpAny _ A.in1 (holding [Value.ref q.2.1,q.2.2] (dictSet d (.ref q.2.1) q.2.2)) _ _ _;show A5_ ?_;have mv:∀b,b≠it->b≠d->∀o,h0.get? b=some o->h1.get? b=some o:=λb h1' h2' o e=>(sb.2 b h1').trans (hk b o h1' h2' e);have hD1:({s with heap:=h1}:Shared).heap.DictOfH (TK prog w) d D:=by obtain⟨od,es,ep,g1,g2,g3,g4,g5⟩:=hD;show⟨od,es,ep,(sb.2 d hdi).trans g1,g2,g3,g4,λx hx=>mx_ (hDk x hx).2.2 (mv _ (hDk x hx).1 (hDk x hx).2.1),g5⟩
  show wpAny_dictSet_heap (knd:=TK prog w) (show A.in1.units<cLine from hu) (mx_ kis (mv _ b1 b2)) hD1 (λh2 hD2 sb2=>?_) (by simp at hl;rw[Ch_];lia);show Aj_ ⟨BI_ F.rim_plain_dict_update_loop _,?_⟩;have sl:=m2_ D q.1 q.2.1 q.2.2;show eD_ hu hh hdi hp hpi hpd ps (i+1) (j+1) (storedH D q.1 q.2.1 q.2.2) {s with heap:=h2,toks:=s.toks+(TK prog w).draws q.1} (by simp at hz;lia) (by simp at hl;lia) ?_ ?_ (λx hx=>?_) (λb o h1' h2' e=>?_) (λm r e=>?_) λh' tk k3 hD3=>?_
  .obtain⟨oi,hoi,hir⟩:=hi1;show⟨oi,(sb2.2 it (Ne.symm hdi)).trans hoi,hir⟩
  .obtain⟨od,es,ep,g1,g2,g3,g4,_,g5⟩:=hD2;show⟨od,es,ep,g1,g2,g3,g4,g5⟩
  .rcases lE_ hx with⟨y,hy,y1,y2⟩|⟨y1,y2⟩
   .rw[<-y1,<-y2];show hDk y hy
   .rw[y1,y2];show⟨b1,b2,kis⟩
  .show(sb2.2 b h2').trans (mv b h1' h2' o e)
  .obtain⟨a',o',n',z1,z2⟩:=hit (m+1) r e;show⟨a',o',n',by rw[show i+1+m=i+(m+1) by lia];show z1,z2⟩
  .show hR h' tk k3 hD3
def Gs_(kvs more:List (List Key×V)):List (List Key×V):=more.foldl (λacc kv=>Gn_ acc kv.1 kv.2) kvs
theorem KT.merge:∀{more:List (List Key×V)}{rs:List (List Key×Addr×Value)}{kvs:List (List Key×V)}{xs:List (List Key×Addr×Value)},KT H more rs->KT H kvs xs->KT H (Gs_ kvs more) (H8_ xs rs):=by
 intro more rs kvs xs r;unfold KT at r
 induction r generalizing kvs xs with
 |nil=>intro q;show q
 | @cons p q ps qs h t ih =>intro r0;have e:=KT.put r0 p.1 h.2.1 h.2.2;show ih (kvs:=Gn_ kvs p.1 p.2) (xs:=storedH xs q.1 q.2.1 q.2.2) ?_;rw[<-h.1];show e
theorem kO_:∀(more kvs:List (List Key×V)),(Gs_ kvs more).length<=kvs.length+more.length
 |[],kvs=>Ai_ _
 |p::r,kvs=>by have h1:=kO_ r (Gn_ kvs p.1 p.2);have h2:=aJ_ kvs p.1 p.2;change(Gs_ (Gn_ kvs p.1 p.2) r).length<=_;rw[A4_];lia
theorem kP_(I:Inv X pins σ H s):∀{kvs:List (List Key×V)}{ys:List V}{its:List Value},F4_ ys its->ys.length=kvs.length->(∀(i:Nat)(q:List Key×V),kvs[i]?=some q->∃a b,ys[i]?=some (.ref a)/\H a=some (.tup [.ref b,q.2])/\H b=some (.tup (q.1.map kV))) ->
  ∃ps:List (List Key×Addr×Value),KT H kvs ps/\ps.length=its.length/\∀(m:Nat)(q:List Key×Addr×Value),ps[m]?=some q->∃(a:Addr)(o:Obj)(n:Nat),its[m]?=some (.ref a)/\s.heap.get? a=some o/\o.cls=.type "tuple" /\ o.data=.seq #[.ref q.2.1,q.2.2] n/\(TK X.prog X.w).is s.heap q.1 q.2.1
 |[],[],_,.nil,_,_=>⟨[],.nil,rfl,λm q e=>by simp at e⟩
 |[],_::_,_,_,e,_=>nomatch e
 |_::_,[],_,_,e,_=>nomatch e
 |kv::kvs,y::ys,_,.cons r1 r2,e,h=>by
  obtain⟨ps,rel,hl,hp⟩:=kP_ I r2 (by simpa using e) λi q hq=>h (i+1) q hq;obtain⟨a,b,ea,ha,hb⟩:=h 0 kv rfl;cases ea;cases r1;obtain⟨zs,rz,⟨ob,ho,hcl,n,hd⟩,_⟩:=I.tuple (.inl (.inl ha));obtain⟨u1,u2,rfl,ru1,ru2⟩:=Hm_ rz;cases ru1;show⟨(kv.1,b,u2)::ps,.cons ⟨rfl,hb,ru2⟩ rel,by simp[hl],λm q hq=>?_⟩;cases m with
  |zero =>
   cases hq;show⟨a,ob,n,rfl,ho,hcl,hd,il_ I.hok hb⟩
  |succ m=>show hp m q hq
def Jc_(H:Hp)(p:Addr)(kvs:List (List Key×V)):Prop:=∃ys,H p=some (.lst ys)/\ys.length=kvs.length/\∀(i:Nat)(q:List Key×V),kvs[i]?=some q->∃a b,ys[i]?=some (.ref a)/\H a=some (.tup [.ref b,q.2])/\H b=some (.tup (q.1.map kV))
def KI_:V->List V->Hp->VK->Prop:=λx vs H Q=>∃(a p:Addr)(kvs0 kvs:List (List Key×V)),x=.ref a/\vs=[.ref p]/\H a=some (.dT kvs0)/\Jc_ H p kvs/\kvs0.length+kvs.length<=900/\Q .non (upd H a (.dT (Gs_ kvs0 kvs)))
theorem ji_(hu:X.A.units+64<cLine)(hc:X.calm=true):MtR X "dict.update" KI_:=by
 intro pins s σ H x xs v us Q I rx r h;obtain⟨a,p,kvs0,kvs,rfl,rfl,ha,⟨ys,hp,hl,hk⟩,hz,q⟩:=h;cases rx;obtain⟨u,rfl,e⟩:=GI_ r;cases e;obtain⟨_,its,c,rv,hop⟩:=(show F9_ X.prog X.w H s.heap p (.lst ys)from I.hok p _ hp);obtain⟨ps,rel,pl,hit⟩:=kP_ I rv hl hk;obtain⟨z0,hsys,xs0,rel0,dd⟩:=Kr_ I.hok ha;have hh:=I.ok.hd hc;have hlt:∀{b:Addr}{o:Obj},s.heap.get? b=some o->b<s.heap.objs.size:=λe=>Aw_ e;have hTn:s.TypeIs (.ref a) "dict" := Heap.DictOfH.typeIs dd;have apne:∀b ys,H b=some (.tup ys)->b≠a:=λb ys e z=>by rw[z,ha]at e;cases e
 have ppa:p≠a:=λz=>by rw[z,ha]at hp;cases hp
 show EZ_ (E4_ F.slot_dict_update.plain F.entry_dict_update (F.slot_dict_update.check _ _ _ _ _ _ _ _ hTn (F.args_dict_update_2 _ _) ?_));unfold Builtin.«dict.update»;show Ac_ ?_;unfold Builtin.Dict.selfAndRest;show Ac_ (Dk_ hTn ?_);change wpAny _ _ (pure (a,[Value.ref p])) _ _ _;show Aj_ ?_;change wpAny _ _ (Builtin.Dict.updateFrom "dict.update" a (.ref p) [] .none) _ _ _;unfold Builtin.Dict.updateFrom;have hT:s.TypeIs (.ref p) "list" := ⟨_,hop,rfl⟩;show Ac_ (C6_ hT ?_);rw[if_pos d_];show Ac_ (gd_ hop rfl rfl rfl iu_ r_ hh λh1 tk k1=>?_);rw[if_pos Option.isNone_none];show Ac_ (C9_ ?_);have hop2:=k1 _ _ hop;show Ac_ (CJ_ (items:=its.toArray) ⟨_,hop2,rfl,c,rfl⟩ ?_);show Aj_ ⟨BI_ F.rim_plain_dict_update_loop _,?_⟩;have below:∀{b:Addr}{o:Obj},s.heap.get? b=some o->b≠h1.objs.size:=λe=>AE_ (Aw_ (k1 _ _ e));have rl:kvs.length=ps.length:=BE_ rel;have rl0:kvs0.length=xs0.length:=BE_ rel0;obtain⟨od,es,ep,hod,g2,g3,g4,g6,g5⟩:=id dd;have nseq:∀{k:List Key}{b:Addr},(TK X.prog X.w).is s.heap k b->b≠a:=λ{k b} e z=>by obtain⟨ob,its',n,g,_,dat,_⟩:=e;rw[z,hod]at g;cases g;rw[g3]at dat;cases dat
 show eD_ (A:=X.A) (its:=its.toArray) (h0:=s.heap) (p:=p) (show X.A.units+1<cLine by lia) hh (below hod) ⟨_,hop,rfl,c,rfl⟩ (below hop) ppa ps 0 0 xs0 _ (by simp;lia) o_ ?_ ?_ (λx hx=>?_) (λb o b1 b2 e=>?_) (λm q hq=>?_) λh' tk' k3 hD3=>?_
 .show⟨_,Ax_ h1 rfl,rfl,rfl⟩
 .show⟨od,es,ep,Ah_ _ (k1 _ _ hod),g2,g3,g4,g5⟩
 .have kx:=g6 x hx;obtain⟨ob,_,_,g,_⟩:=id kx;show⟨below g,nseq kx,kx⟩
 .show Ah_ _ (k1 _ _ e)
 .obtain⟨a',o,n,e1,ho,z1,z2,z3⟩:=hit m q hq;obtain⟨ob,_,_,g,_⟩:=id z3;show⟨a',o,n,by simpa using e1,below ho,(λz=>by rw[z,hod]at ho;cases ho;rw[g3]at z2;cases z2),ho,z1,z2,below g,nseq z3,z3⟩
 .have ml:=kO_ kvs kvs0;have mz:(Gs_ kvs0 kvs).length<=sizeLine:=AH_ (FB_ o_);obtain⟨od',es',ep',f1,f2,f3,f4,f5⟩:=hD3;show⟨.non,_,I.write (x:=a) (e:=a) (o:=.dT (Gs_ kvs0 kvs)) (t':=tk') (by rw[ha];show True.intro) (.inl rfl) (λb o hb e=>k3 b o (below e) hb e) ⟨od',f1⟩ ⟨mz,hsys,H8_ xs0 ps,(KT.merge rel rel0).keeps λb ys e=>?_,od',es',ep',f1,f2,f3,f4,f5⟩,rfl,q⟩;rw[af_ (apne b ys e)];show e
def I6_:V->List V->Hp->VK->Prop:=λx vs H Q=>∃(l:Addr)(xs:List V)(ds:List Dt)(v:V)(d:Dt)(bs:Nat->Bool)(j:Nat),x=.ref l/\vs=[v]/\H l=some (.lst xs)/\Gd_ H xs ds/\Rep H v d/\xs.length<=1000/\(∀y∈xs,∃q,y=.ref q) /\
 (∀m dm,ds[m]?=some dm->deq dm d=some (bs m)/\dep dm<=60)/\j<ds.length/\bs j=true/\(∀m,m<j->bs m=false)/\Q (.int j) H
theorem op_(hu:X.A.units+64<cLine):MtM X "list.index" I6_:=by
 intro pins s σ H x vs v us Q I rx rv h;obtain⟨l,xs,ds,v0,d,bs,j,rfl,rfl,hH,hr,hv,hz,refs,hd,jl,hj,hno,q⟩:=h;cases rx;obtain⟨u,rfl,ru⟩:=rv.one;obtain⟨z,its,n,r,hl,e⟩:=I.lstM hH;have xl:xs.length=ds.length:=hr.length;have ji:j<its.toArray.size:=by rw[At_];lia
 have at_:∀m (hm:m<its.length),∃a dm,its[m]=.ref a/\xs[m]?=some (.ref a)/\ds[m]?=some dm/\Rep H (.ref a) dm:=λm hm=>by have hx:xs[m]?=some (xs[m]'o_):=Aa_ _;obtain⟨a,ea⟩:=refs (xs[m]'o_) (Bg_ _);obtain⟨w',hw,rw'⟩:=r.get hx;rw[Aa_ hm]at hw;obtain⟨dm,hdm,rep⟩:=hr.of_get hx;rw[ea]at rw' rep hx;cases rw';show⟨a,dm,Au_ hw,hx,hdm,rep⟩
 let f:Value->Bool:=λy=>its.zipIdx.any λp=>decide (p.1=y) && bs p.2
 have f_at:∀m (hm:m<its.length),f its[m]=bs m:=λm hm=>by
  obtain⟨a,dm,e1,e2,e3,e4⟩:=at_ m hm;rw[CC_];change(its.zipIdx.any _)=true↔_;rw[CW_];constructor
  .rintro⟨⟨y,i⟩,hy,hb⟩;rw[BM_]at hb;have ey:y=its[m]:=Bj_ hb.1;have hi:=DC_.mp hy;obtain⟨hi1,hi2⟩:=Ae_.mp hi;obtain⟨a',dm',g1,g2,g3,g4⟩:=at_ i hi1
   have ea:a'=a:=by
    have:Value.ref a'=Value.ref a:=by rw[<-g1,<-e1,<-ey];show hi2
    injection this
   subst ea;have:=Rep.inj _ _ e4 g4;subst this;have h1:=(hd m dm e3).1;have h2:=(hd i dm g3).1;rw[h1]at h2;rw[Au_ h2];show hb.2
  .intro hb;show⟨(its[m],m),DC_.mpr (Aa_ hm),by rw[AZ_ rfl,Bool.true_and];show hb⟩
 show CV_ F.slot_list_index ⟨_,e,rfl⟩ F.entry_list_index (F.args_list_index_2 _ _)
  (SeqAt.list_indexAt l its.toArray n none #[] u f j ji o_ (by rw[E5_,f_at j o_];show hj) λm hm hlt=>by rw[E5_,f_at m (by rw[At_]at hm;show hm)];show hno m hlt) ⟨e,λy hy=>?_,?_⟩
 .have hy':y∈its:=by simpa using hy
  obtain⟨m,hm,rfl⟩:=AD_.mp hy';obtain⟨a,dm,e1,e2,e3,e4⟩:=at_ m hm;rw[f_at m hm];show mn_ I Vw.refl dm d e4 hv (by rw[e1];rfl) ru (hd m dm e3).1 ?_;have:=(hd m dm e3).2;simp only[Around.in1_units];lia
 show⟨.int j,H,I.tok _,⟨_,rfl⟩,q⟩
def sLt(a b:Str):Bool:=decide (a.cps.toList<b.cps.toList)
section
variable {E:Value->Shared->Prop}{l:Addr}{a b:Str}{t u:Tok}{Q:Value->Shared->Prop}
theorem rN_{I:Addr}{h h':Heap}{o':Obj}(e1:I=h.objs.size)(hk:∀b o,b∉[I]->(h.push o').get? b=some o->h'.get? b=some o):∀b o,h.get? b=some o->h'.get? b=some o:=λb o e=>by show hk b o (λhm=>?_) (Ah_ _ e);have:=Ak_.mp hm;rw[this,e1]at e;show absurd (Aw_ e) (Bc_ _)
end
open HT
def GK_:List Str->List Str->Bool
 |[],[]=>false
 |[],_::_=>true
 |_::_,[]=>false
 |x::xs,y::ys=>if x=y then GK_ xs ys else sLt x y
theorem ge_(x y:Str)(xs ys:List Str):GK_ (x::xs) (y::ys)=if x=y then GK_ xs ys else sLt x y:=rfl
theorem kQ_:GK_ [] []=false:=rfl
theorem jQ_(y:Str)(ys:List Str):GK_ [] (y::ys)=true:=rfl
theorem jR_(x:Str)(xs:List Str):GK_ (x::xs) []=false:=rfl
theorem oq_(A:Around)(s:Shared)(a:Str)(t:Tok)(c:Str)(u:Tok):∃e,SeqAt.EqAt A s (.str a t) (.str c u) e/\(e=true↔a=c):=⟨(a == c),DM_ a t c u,s_⟩
theorem or_(A:Around)(s:Shared)(a:Str)(t:Tok)(c:Str)(u:Tok)(prog:Program)(w:World)(E:Value->Shared->Prop)(Q:Value->Shared->Prop)(h:Q (.bool (sLt a c)) s):wpAny (model prog w) A (richCompare .Lt (.str a t) (.str c u)) Q E s :=
 richCompare_gives (op:=.Lt) (D0_ s _ t) (D0_ s _ u) PySem.F.slot_str_lt PySem.F.entry_str_lt (PySem.F.args_str_lt_2 _ _) (gives_str_lt _ _ t u) (λx=>nomatch x) h
open PySem.SeqAt
open PySem.AutoSeq1 (wpAny_loadPart')
open PySem.MeetsSeq PySem.MeetsSeq2 PySem.MeetsSeq3
theorem pD_(l b:Addr)(its us:Array Value)(n n2:Nat)(dd dd2:Option Addr)(sl sl2:Array (Option Value))(ns ms:List Str)(hi:StrsAre its.toList ns)(hj:StrsAre us.toList ms)(k:Nat):
  ∀i:Nat,its.size-i=k->i<=its.size->i<=us.size->Meets (Builtin.«list.__eq__.loop» ⟨[.ref l,.ref b,rawInt i,rawInt 0],[]⟩)
   (λ_ R s=>s.heap.get? l=some {cls:=.type "list",dict:=dd,data:=.seq its n,slots:=sl}/\s.heap.get? b=some {cls:=.type "list",dict:=dd2,data:=.seq us n2,slots:=sl2} /\
    R (.ok (.ret (.bool (GK_ (ns.drop i) (ms.drop i))))) s):=by
 have z1:its.size=ns.length:=by rw[<-hi.length];simp
 have z2:us.size=ms.length:=by rw[<-hj.length];simp
 induction k with
 |zero =>
  intro i hk h1 h2 prog w A R s h;obtain⟨hp,g,d,tk,os⟩:=s;obtain⟨hl,hb,h⟩:=h
  wp_walk using BA_ hl,BA_ hb
  have e1:its[((i:Nat):Int).toNat]?=none:=by simp;lia
  have e3:GK_ (ns.drop i) (ms.drop i)=decide (its.size<us.size):=by
   rw[EJ_ (show ns.length<=i by lia)];cases e:ms.drop i with
   |nil =>
    have:=List.drop_eq_nil_iff.mp e;rw[kQ_];show(AP_ o_).symm
   |cons c cs =>
    have:(ms.drop i).length=cs.length+1:=by rw[e];rfl
    rw[BG_]at this;rw[jQ_];show(AZ_ o_).symm
  rw[e3]at h;rw[e1]
  wp_walk using BA_ hl,BA_ hb
  show h
 |succ k ih =>
  intro i hk h1 h2 prog w A R s h;obtain⟨hp,g,d,tk,os⟩:=s;obtain⟨hl,hb,h⟩:=h
  wp_walk using BA_ hl,BA_ hb
  have lt1:i<its.size:=o_
  have e1:its[((i:Nat):Int).toNat]?=some its[i]:=by simp[lt1]
  rw[e1];by_cases lt2:i<us.size
  .have e2:us[((i:Nat):Int).toNat]?=some us[i]:=by simp[lt2]
   have l1:i<ns.length:=o_
   have l2:i<ms.length:=o_
   obtain⟨t,ht⟩:=hi.get i ns[i] (Aa_ l1);obtain⟨u,hu⟩:=hj.get i ms[i] (Aa_ l2);have f1:its[i]=.str ns[i] t:=by rw[Aa_ (by simpa using lt1)]at ht;show Au_ ht
   have f2:us[i]=.str ms[i] u:=by rw[Aa_ (by simpa using lt2)]at hu;show Au_ hu
   rw[f1]at e1;rw[f2]at e2;rw[f1,e2];rw[B0_ l1,B0_ l2,ge_]at h;have hc:((i:Int)+1)=((i+1:Nat):Int):=o_
   obtain⟨e,he,hiff⟩:=oq_ A.in1 ⟨hp,g,d,tk,os⟩ ns[i] t ms[i] u;show Ac_ (he prog w _ _ ?_);cases e with
   |true =>
    rw[if_pos (hiff.mp rfl)]at h
    wp_walk
    rw[hc];have go:=ih (i+1) o_ o_ o_ prog w A R _ ⟨hl,hb,h⟩;show⟨BI_ plain_eq_loop _,Bz_ entry_eq_loop (by rw[Bq_ plain_eq_loop _];show go)⟩
   |false =>
    rw[if_neg λq=>absurd (hiff.mpr q) AR_]at h;have hri:=or_ A.in1 ⟨hp,g,d,tk,os⟩ ns[i] t ms[i] u prog w
    wp_walk using BA_ hl,BA_ hb
    rw[e1,e2]
    wp_walk using hri
    show h
  .have e2:us[((i:Nat):Int).toNat]?=none:=by simp;lia
   rw[e2]
   wp_walk using BA_ hl,BA_ hb
   have e4:GK_ (ns.drop i) (ms.drop i)=decide (its.size<us.size):=by rw[EJ_ (show ms.length<=i by lia),B0_ (show i<ns.length by lia),jR_];show(AP_ o_).symm
   rw[e4]at h;show h
theorem my_(l b:Addr)(its us:Array Value)(n n2:Nat)(dd dd2:Option Addr)(sl sl2:Array (Option Value))(ns ms:List Str)(hi:StrsAre its.toList ns)(hj:StrsAre us.toList ms):
  Meets (Builtin.«list.__lt__» ⟨[.ref l,.ref b],[]⟩)
   (λ_ R s=>s.heap.get? l=some {cls:=.type "list",dict:=dd,data:=.seq its n,slots:=sl}/\s.heap.get? b=some {cls:=.type "list",dict:=dd2,data:=.seq us n2,slots:=sl2} /\
    R (.ok (.ret (.bool (GK_ ns ms)))) s):=by
 intro prog w A R s h;obtain⟨hp,g,d,tk,os⟩:=s;obtain⟨hl,hb,h⟩:=h;have f3:=AutoSeq1.sub_list_list
 wp_walk using BA_ hl,BA_ hb
 have go:=pD_ l b its us n n2 dd dd2 sl sl2 ns ms hi hj _ 0 rfl (Az_ _) (Az_ _) prog w A R _ ⟨hl,hb,h⟩;show⟨BI_ plain_eq_loop _,Bz_ entry_eq_loop (by rw[Bq_ plain_eq_loop _];show go)⟩
variable {E:Value->Shared->Prop}
theorem iv_{l b:Addr}{its us:Array Value}{ns ms:List Str}{Q:Value->Shared->Prop}(hl:s.heap.IsList l its)(hb:s.heap.IsList b us)(hi:StrsAre its.toList ns)(hj:StrsAre us.toList ms)
  (hu:A.units<cLine) (h:Q (.bool (GK_ ns ms)) s):wpAny (model prog w) A (compareOp .Lt (.ref l) (.ref b)) Q E s:=by
 obtain⟨⟨c1,dd,da,sl⟩,ho,hc,n,hd⟩:=id hl;obtain⟨⟨c2,dd2,da2,sl2⟩,ho2,hc2,n2,hd2⟩:=id hb;simp only at hc hd hc2 hd2;subst hc hd hc2 hd2
 show richCompare_meets_room (op:=.Lt) ⟨_,ho,rfl⟩ ⟨_,ho2,rfl⟩ Du_ ES_ (EK_ _ _) (my_ l b its us n n2 dd dd2 sl sl2 ns ms hi hj)
  ⟨ho,ho2,show Value.bool (GK_ ns ms)≠Value.notImplemented/\Q (.bool (GK_ ns ms)) s from⟨(λx=>nomatch x),h⟩⟩ hu
theorem he_{l b:Addr}{its us:Array Value}{ns ms:List Str}{Q:Bool->Shared->Prop}(one:Bool)(hl:s.heap.IsList l its)(hb:s.heap.IsList b us)(hi:StrsAre its.toList ns)(hj:StrsAre us.toList ms)
  (hu:A.units<cLine) (h:Q (GK_ ns ms) s):wpAny (model prog w) A (oneLt' one (.ref l) (.ref b)) Q E s:=by
 cases one with
 |false=>show kat_one _ _ (iv_ hl hb hi hj hu h)
 |true =>rw[oneLt'_eq];simp only[if_true];show Ac_ (wpAny_cRoomFor hu ?_);obtain⟨⟨c1,dd,da,sl⟩,ho,hc,n,hd⟩:=id hl;obtain⟨⟨c2,dd2,da2,sl2⟩,ho2,hc2,n2,hd2⟩:=id hb;simp only at hc hd hc2 hd2;subst hc hd hc2 hd2;show Ac_ (wpAny_callSpecialIfBound?_slot ⟨_,ho,rfl⟩ Du_ (CV_ Du_ ⟨_,ho,rfl⟩ ES_ (EK_ _ _) (my_ l b its us n n2 dd dd2 sl sl2 ns ms hi hj) ⟨ho,ho2,?_⟩));show Bo_ h
theorem iw_{a b:Str}:sLt a b=false↔sLe b a:=⟨λh=>Cj_ h,λh=>AP_ h⟩
theorem os_:∀{a b:List Str},GK_ a b=true->GK_ b a=false
 |[],[],_=>rfl
 |[],_::_,_=>rfl
 |_::_,[],h=>by cases h
 |x::xs,y::ys,h=>by
  rw[ge_]at h⊢;by_cases e:x=y
  .rw[if_pos e]at h;rw[if_pos e.symm];show os_ h
  .rw[if_neg e]at h;rw[if_neg λz=>e z.symm];show AP_ (List.lt_asymm (Bj_ h))
theorem lF_:∀{a b:List Str},GK_ a b=false->GK_ b a=false->a=b
 |[],[],_,_=>rfl
 |[],_::_,h,_=>by cases h
 |_::_,[],_,h=>by cases h
 |x::xs,y::ys,h,k=>by
  rw[ge_]at h k;by_cases e:x=y
  .rw[if_pos e]at h;rw[if_pos e.symm]at k;rw[e,lF_ h k]
  .rw[if_neg e]at h;rw[if_neg λz=>e z.symm]at k;show absurd ((iw_.mp k).antisymm (iw_.mp h)) e
theorem ot_:∀{a b c:List Str},GK_ b a=false->GK_ c b=false->GK_ c a=false
 |_,_,[],h,k=>by
  rename_i a b;cases b with
  |nil=>show h
  |cons y ys=>cases k
 |[],_,_::_,_,_=>rfl
 |x::xs,[],z::zs,h,_=>by cases h
 |x::xs,y::ys,z::zs,h,k=>by
  rw[ge_]at h k⊢;by_cases e:y=x
  .subst e;rw[if_pos rfl]at h;by_cases e2:z=y
   .rw[if_pos e2]at k⊢;show ot_ h k
   .rw[if_neg e2]at k⊢;show k
  .rw[if_neg e]at h;by_cases e2:z=y
   .subst e2;rw[if_neg e];show h
   .rw[if_neg e2]at k;have t:=(iw_.mp h).trans (iw_.mp k);by_cases e3:z=x
    .subst e3;show absurd ((iw_.mp k).antisymm (iw_.mp h)) λz=>e z
    .rw[if_neg e3];show iw_.mpr t
theorem lexO(tss:List (List Str))(N:Nat):Lto (λi j=>GK_ (tss.getD i []) (tss.getD j [])) N:=⟨λ_ _ h=>os_ h,λ_ _ _ h k=>ot_ h k⟩
theorem gS_{bt:Nat->Nat->Bool}{N:Nat}(O:Lto bt N):∀(j i:Nat),i<=j->bt i (argBest bt j)=false
 |0,i,h=>by
  rw[show i=0 by lia];show O.rf 0
 |j+1,i,h=>by
  unfold argBest;cases e:bt (j+1) (argBest bt j)with
  |true =>
   simp only[if_true];by_cases c:i=j+1
   .rw[c];show O.rf _
   .show O.tr _ _ _ (O.as _ _ e) (gS_ O j i o_)
  |false =>
   simp only[BO_,Cb_];by_cases c:i=j+1
   .rw[c];show e
   .show gS_ O j i o_
end L2
namespace RimT
open PySem L2
def Lst(ws u:List Str):Prop:=Rd ws u/\∀v,Rd ws v->GK_ v u=false
theorem Lst.one{a b u v:List Str}(h:Lst a u)(k:Lst b v)(r:Rd a b):u=v:=lF_ (k.2 u (r.symm.trans h.1)) (h.2 v (r.trans k.1))
noncomputable def lw(ws:List Str):List Str:=@dite _ (∃u,Lst ws u) (Classical.propDecidable _) (λh=>h.choose) λ_=>[]
theorem Jd_{ws u:List Str}(h:Lst ws u):lw ws=u:=by have e:∃u,Lst ws u:=⟨u,h⟩;unfold lw;rw[dif_pos e];show e.choose_spec.one h (.inl (.refl _))
theorem LT_{a b:List Str}(ha:∃u,Lst a u)(r:Rd a b):lw a=lw b:=by obtain⟨u,h⟩:=ha;rw[Jd_ h,Jd_ (u:=u) ⟨r.symm.trans h.1,λv hv=>h.2 v (r.trans hv)⟩]
theorem JB_{α:Type}(ws:List α)(i:Nat):Rt ws (ws.drop i++ws.take i):=⟨ws.take i,ws.drop i,(BF_ i ws).symm,rfl⟩
theorem Lk_{α:Type}{ws v:List α}(h:Rt ws v)(ne:ws≠[]):∃i,i<ws.length/\v=ws.drop i++ws.take i:=by
 obtain⟨x,y,rfl,rfl⟩:=h;cases y with
 |nil=>show⟨0,BB_.mpr ne,s_⟩
 |cons b y=>show⟨x.length,s_,s_⟩
theorem qc_{ws u:List Str}{tss:List (List Str)}(ne:ws≠[])(hu:u∈tss)(h1:∀t∈tss,Rd ws t)(h2:∀i,i<ws.length->ws.drop i++ws.take i∈tss/\ws.reverse.drop i++ws.reverse.take i∈tss)(h3:∀t∈tss,GK_ t u=false):Lst ws u:=by
 show⟨h1 u hu,λv hv=>h3 v ?_⟩
 rcases hv with hv|hv
 .obtain⟨i,hi,rfl⟩:=Lk_ hv ne;show(h2 i hi).1
 .obtain⟨i,hi,rfl⟩:=Lk_ hv (by simpa using ne);rw[Bl_]at hi;show(h2 i hi).2
theorem qJ_{a b:List (List Str)}(h:a.Perm b)(ha:a.Pairwise λx y=>GK_ y x=false)(hb:b.Pairwise λx y=>GK_ y x=false):a=b:=List.Perm.eq_of_pairwise (λx y _ _ h1 h2=>lF_ h2 h1) ha hb h
end RimT
namespace L2
open PySem PySem.Spec PyProof.Rows PySem.W
section
variable {prog:Program}{w:World}{A:Around}{R:Result->Shared->Prop}{I:Addr}{fp wr:List Addr}{G:Array GenState->Array GenState->Prop}{n:Nat}{P:Nat->Value->Prop}{St:Nat->Shared->Prop}
theorem m3_(W:WalksS prog w A I fp wr G n P St)(ad:List Addr)(hd:∀b∈ad,b∉wr)(J:Heap->Prop)(hJ:∀h h':Heap,J h->(∀b∈ad,∀o,h.get? b=some o->h'.get? b=some o)->J h'):WalksS prog w A I (fp++ad) wr G n P (λi s=>St i s/\J s.heap) where
 sub:=λb hb=>Aq_.mpr (.inl (W.sub b hb))
 grefl:=W.grefl
 gtrans:=W.gtrans
 frame:=λi s h' tk st ht hk=>⟨W.frame i s h' tk st.1 ht λb hb=>hk b (Aq_.mpr (.inl hb)),hJ _ _ st.2 λb hb=>hk b (Aq_.mpr (.inr hb))⟩
 item:=λi s Q E hi st hQ=>W.item i s Q E hi st.1 λv s' hP st' hm=>hQ v s' hP ⟨st',hJ _ _ st.2 λb hb o e=>hm.heap b o (hd b hb) e⟩ hm
 done:=λs Q E st hQ=>W.done s Q E st.1 hQ
 self:=λi s Q E st hQ=>W.self i s Q E st.1 hQ
def Kc_(prog:Program)(w:World)(A:Around)(P:Nat->Value->Prop)(St:Nat->Shared->Prop)(bt:Nat->Nat->Bool):Prop:=∀k i j vi vj (s:Shared) (Q:Value->Shared->Prop) (E:Value->Shared->Prop),St k s->P i vi->P j vj->Q (.bool (bt i j)) s->wpAny (model prog w) A (richCompare .Lt vi vj) Q E s
theorem pE_(W:WalksS prog w A.in1 I fp wr G n P St)(bt:Nat->Nat->Bool)(hcmp:Kc_ prog w A.in1 P St bt)(S:Addr)(hSf:S∉fp):
  ∀(k j:Nat)(s:Shared)(vb:Value)(c:Nat),n-(j+1)=k->j+1<=n->St (j+1) s->P (argBest bt j) vb->s.heap.get? S=some {cls:=.type "list",dict:=none,data:=.seq #[vb,vb] c,slots:=#[]} ->
  (∀v s',P (argBest bt (n-1)) v->Moved (S::wr) G s s'->R (.ok (.ret v)) s')->codeAny (model prog w) A (.builtin "min.loop" ⟨[.ref I,.none,.ref S],[]⟩) R s:=by
 have hSw:S∉wr:=λh=>hSf (W.sub _ h);have hsub:∀b∈wr,b∈S::wr:=λb hb=>An_ _ hb;have hname:(toString "min" ++ toString ".loop" : String)="min.loop" := by decide
 have other:∀{b:Addr},b∉S::wr->S≠b:=λhb h=>hb (by rw[h];show Ar_);intro k
 induction k with
 |zero =>
  intro j s vb c hk hj hst hPb hS hR;have hin:j+1=n:=o_
  show Bz_ Eg_ ?_;rw[Bq_ Ce_ _];change wpAny _ A.in1 (seqItems? (.ref S) >>= _) _ _ s;show Ac_ (Cs_ hS rfl ?_);change wpAny _ A.in1 (tryCatch (pyNext (.ref I)) _ >>= _) _ _ s;show Ac_ (CR_ (W.done s _ _ (hin▸hst) λs' hm=>?_));have hS':=hm.heap S _ hSw hS;change wpAny _ A.in1 (updateSeq S (λ_=>#[]) >>= _) _ _ _;show Ac_ ?_;show Ex_ hS' rfl (Ac_ (Dd_ (Aj_ ?_)));show hR vb _ (by rw[<-hin];show hPb) ((hm.mono hsub).then_heap (tk:=s'.toks) (Ai_ _) λb o hb e=>(A6_ _ _ (other hb)).trans e)
 |succ k ih =>
  intro j s vb c hk hj hst hPb hS hR;have hlt:j+1<n:=o_
  show Bz_ Eg_ ?_;rw[Bq_ Ce_ _];change wpAny _ A.in1 (seqItems? (.ref S) >>= _) _ _ s;show Ac_ (Cs_ hS rfl ?_);change wpAny _ A.in1 (tryCatch (pyNext (.ref I)) _ >>= _) _ _ s;show Ac_ (CR_ (W.item (j+1) s _ _ hlt hst λv s' hP hst' hm=>?_));have hS':=hm.heap S _ hSw hS;change wpAny _ A.in1 (tryCatch (holding [v,v] (richCompare .Lt v vb >>= _)) _ >>= _) _ _ _;show Ac_ (CR_ (A5_ (Ac_ (hcmp _ (j+1) (argBest bt j) v vb _ _ _ hst' hP hPb ?_))));show Ac_ (A5_ (Bo_ ?_));show Ac_ (Dd_ (Aj_ ?_));cases hb:bt (j+1) (argBest bt j)with
  |true =>
   simp only[if_true];show Ac_ ?_;show Ex_ hS' rfl (Ac_ (Dd_ ?_));rw[hname];show Aj_ ⟨BI_ Ce_ _,ih (j+1) _ v _ o_ hlt (W.frame _ s' _ s'.toks hst' (Ai_ _) λb hbf o e=>?_) (by simp only[argBest,hb,if_true];show hP) (CP_ _ hS' rfl) λv' s'' hP' hm''=>?_⟩
   .show(A6_ _ _ (λh:S=b=>hSf (by rw[h];show hbf))).trans e
   .show hR v' s'' hP' (Moved.trans W.gtrans ((hm.mono hsub).then_heap (Ai_ _) λb o hb e=>(A6_ _ _ (other hb)).trans e) hm'')
  |false =>simp only[BO_,Cb_];show Ac_ (Dd_ ?_);rw[hname];show Aj_ ⟨BI_ Ce_ _,ih (j+1) _ vb c o_ hlt hst' (by simp only[argBest,hb,BO_,Cb_];show hPb) hS' λv' s'' hP' hm''=>?_⟩;show hR v' s'' hP' (Moved.trans W.gtrans (hm.mono hsub) hm'')
theorem ou_(W:WalksS prog w A.in1 I fp wr G n P St)(bt:Nat->Nat->Bool)(hcmp:Kc_ prog w A.in1 P St bt)(S:Addr)(hSf:S∉fp)(hn:0<n){s:Shared}{c:Nat}(hst:St 0 s)
  (hS:s.heap.get? S=some {cls:=.type "list",dict:=none,data:=.seq #[] c,slots:=#[]})
  (hR:∀v s',P (argBest bt (n-1)) v->Moved (S::wr) G s s'->R (.ok (.ret v)) s'):codeAny (model prog w) A (.builtin "min.loop" ⟨[.ref I,.none,.ref S],[]⟩) R s:=by
 have hSw:S∉wr:=λh=>hSf (W.sub _ h);have hsub:∀b∈wr,b∈S::wr:=λb hb=>An_ _ hb;have hname:(toString "min" ++ toString ".loop" : String)="min.loop" := by decide
 have other:∀{b:Addr},b∉S::wr->S≠b:=λhb h=>hb (by rw[h];show Ar_);show Bz_ Eg_ ?_;rw[Bq_ Ce_ _];change wpAny _ A.in1 (seqItems? (.ref S) >>= _) _ _ s;show Ac_ (Cs_ hS rfl ?_);change wpAny _ A.in1 (tryCatch (pyNext (.ref I)) _ >>= _) _ _ s;show Ac_ (CR_ (W.item 0 s _ _ hn hst λv s' hP hst' hm=>?_));have hS':=hm.heap S _ hSw hS;change wpAny _ A.in1 (updateSeq S (λ_=>#[v,v]) >>= _) _ _ _;show Ac_ ?_;show Ex_ hS' rfl ?_;rw[hname];show Aj_ ⟨BI_ Ce_ _,pE_ W bt hcmp S hSf _ 0 _ v _ rfl hn (W.frame _ s' _ s'.toks hst' (Ai_ _) λb hbf o e=>?_) hP (CP_ _ hS' rfl) λv' s'' hP' hm''=>?_⟩
 .show(A6_ _ _ (λh:S=b=>hSf (by rw[h];show hbf))).trans e
 .show hR v' s'' hP' (Moved.trans W.gtrans ((hm.mono hsub).then_heap (Ai_ _) λb o hb e=>(A6_ _ _ (other hb)).trans e) hm'')
end
variable {prog:Program}{w:World}{A:Around}{E:Value->Shared->Prop}{s:Shared}
theorem m4_{x:Value}{Q:Value->Shared->Prop}
  (h:wpAny (model prog w) A.in1 (pyIter x) (λit s₂=>∃I fp wr G n P St bt,it=.ref I/\WalksS prog w A.in1 I fp wr G n P St/\St 0 s₂/\(∀b∈fp,b<s₂.heap.objs.size)/\0<n/\Kc_ prog w A.in1 P St bt /\
   ∀v s',P (argBest bt (n-1)) v->Moved wr G s₂ s'->Q v s') E s):wpAny (model prog w) A (call (.builtin "min") [x]) Q E s:=by
 have hname:(toString "min" ++ toString ".loop" : String)="min.loop" := by decide
 show call_function_tree F.kind_min F.plain_min F.entry_min (F.args_min1 _) ?_;change wpAny _ A.in1 (Builtin.Builtins.bindParams "min" ["key","default"] 0 ⟨[],[]⟩ >>= _) _ _ s;show Ac_ (wpAny_of_eq (show Builtin.Builtins.bindParams "min" ["key","default"] 0 ⟨[],[]⟩=pure [none,none]from rfl) ?_);show Ac_ (Aj_ ?_);show Ac_ (Bu_ h (λit s₂ h₂=>?_) λ_ _ e=>e);obtain⟨I,fp,wr,G,n,P,St,bt,rfl,W,hst,hfp,hn,hcmp,hQ⟩:=h₂;show Ac_ (Bx_ ?_);have hSf:s₂.heap.objs.size∉fp:=λhm=>Bc_ _ (hfp _ hm);rw[hname];show Aj_ ⟨BI_ Ce_ _,ou_ W bt hcmp s₂.heap.objs.size hSf hn (W.frame 0 s₂ _ s₂.toks hst (Ai_ _) λb _ o e=>Ah_ _ e) (Ax_ _ rfl) λv s' hP hm=>?_⟩;show hQ v s' hP (Moved.drop_new (tk:=s₂.toks) hm (Ai_ _))
variable {X:Cx}
def J2_(H:Hp)(ls:List Addr)(tss:List (List Str)):Prop:=∀(i:Nat) l,ls[i]?=some l->H l=some (.lst ((tss.getD i []).map V.str))
def JP_:List V->Hp->VK->Prop:=λvs H Q=>∃(p:Addr)(ls:List Addr)(tss:List (List Str)),vs=[.ref p]/\H p=some (.lst (ls.map V.ref))/\ls≠[]/\J2_ H ls tss/\∀(i:Nat) l,ls[i]?=some l->(∀j,j<ls.length->GK_ (tss.getD j []) (tss.getD i [])=false)->Q (.ref l) H
theorem dR_:∀{ls:List Addr}{us:List Value},F4_ (ls.map V.ref) us->us=ls.map Value.ref
 |[],_,.nil=>rfl
 |l::ls,_,.cons h t=>by rw[dR_ t];cases h;rfl
theorem kR_:∀{ts:List Str}{us:List Value},F4_ (ts.map V.str) us->StrsAre us ts
 |[],_,.nil=>.nil
 |x::ts,_,.cons h t=>by obtain⟨k,rfl⟩:=h;show .cons _ _ (kR_ t)
def JLs(ls:List Addr)(tss:List (List Str))(h:Heap):Prop:=∀(i:Nat) l,ls[i]?=some l->∃its:Array Value,h.IsList l its/\StrsAre its.toList (tss.getD i [])
theorem JLs.keep{ls:List Addr}{tss:List (List Str)}(h h':Heap)(J:JLs ls tss h)(k:∀b∈ls,∀o,h.get? b=some o->h'.get? b=some o):JLs ls tss h':=λi l hl=>by obtain⟨its,z1,z2⟩:=J i l hl;show⟨its,z1.at λo e=>k l (Am_ hl) o e,z2⟩
theorem Inv.lists{pins:List (Addr×Obj)}{σ:St}{H:Hp}{ls:List Addr}{tss:List (List Str)}(I:Inv X pins σ H s)(h:J2_ H ls tss):JLs ls tss s.heap:=λi l hl=>by obtain⟨its,rv,pl,_⟩:=I.list (.inl (.inl (h i l hl)));show⟨_,pl.isList,kR_ rv⟩
theorem jj_(hc:X.calm=true)(hu:X.A.units+64<cLine):GF_ X (.builtin "min") JP_:=by
 intro pins s σ H xs us Q I r h;obtain⟨p,ls,tss,rfl,hp,ne,hls,q⟩:=h;obtain⟨u,rfl,e⟩:=GI_ r;cases e;obtain⟨its,rv,pl,_⟩:=I.list (.inl (.inl hp));have ei:=dR_ rv;subst ei;have hl:=pl.isList;have hlt:p<s.heap.objs.size:=by obtain⟨_,e,_⟩:=hl;show Aw_ e
 have J:=I.lists hls;have lt:∀b∈ls,b<s.heap.objs.size:=λb hb=>by obtain⟨i,hi⟩:=AU_.mp hb;obtain⟨_,⟨_,e,_⟩,_⟩:=J i b hi;show Aw_ e
 show m4_ (CJ_ hl ?_);show⟨_,[_,p]++ls,[_],_,_,_,_,λi j=>GK_ (tss.getD i []) (tss.getD j []),rfl,m3_ (Walks.toS (Walks.list (A:=X.A.in1) (I.ok.hd hc) _ p (AE_ hlt) (ls.map Value.ref).toArray)) ls (λb hb z=>?_) (JLs ls tss) JLs.keep,⟨⟨⟨_,Ax_ _ rfl,rfl,rfl⟩,hl.push _⟩,?_⟩,λc hc=>?_,?_,?_,λv s' hP hm=>?_⟩
 .rw[Ak_.mp z]at hb;show absurd (lt _ hb) (Bc_ _)
 .show JLs.keep _ _ J λb _ o e=>Ah_ _ e
 .change c<(s.heap.push _).objs.size;rw[Cd_]
  rcases Aq_.mp hc with hc|hc
  .rcases Av_.mp hc with rfl|hc
   .show CU_ _
   .rw[Ak_.mp hc];show A9_ hlt
  .show A9_ (lt _ hc)
 .rw[At_,Ab_];show BB_.mpr ne
 .intro k i j vi vj s' Q' E' st hi hj h';have at_:∀{i:Nat}{v:Value},(ls.map Value.ref).toArray[i]?=some v->∃l,ls[i]?=some l/\v=.ref l:=λ{i v} h=>by rw[ET_,Ag_]at h;obtain⟨l,h1,h2⟩:=AQ_.mp h;show⟨l,h1,h2.symm⟩
  obtain⟨l1,z1,rfl⟩:=at_ hi;obtain⟨l2,z2,rfl⟩:=at_ hj;obtain⟨i1,y1,y2⟩:=st.2 i l1 z1;obtain⟨i2,y3,y4⟩:=st.2 j l2 z2;have hu':X.A.in1.units<cLine:=by simp only[Around.in1_units];lia
  show(iv_ y1 y3 y2 y4 hu' h':wpAny (model X.prog X.w) X.A.in1 (compareOp .Lt (.ref l1) (.ref l2)) Q' E' s')
 .have e:=hm.eq_with;rw[e];rw[ET_,Ag_]at hP;obtain⟨l,h1,h2⟩:=AQ_.mp hP;subst h2;obtain⟨m,hn,F0⟩:=I.frm;have hk:=rN_ rfl hm.heap;show⟨.ref l,H,I.led (t':=s'.toks) hn (F0.grownK hk) ((d6_).grown hk) (λ_ _ _ n=>n) (λ_ _ w=>w) (λb o w n=>by rw[w]at n;cases n),rfl,q _ l h1 λj hj=>gS_ (lexO tss 0) _ j (by rw[At_,Ab_];lia)⟩
theorem jk_{α:Type}(d:α){l:List α}{n:Nat}(hn:l.length=n){p:List Nat}(h:p.Perm (List.range n)):(p.map λi=>l.getD i d).Perm l:=by
 have e2:(List.range n).map (λi=>l.getD i d)=l:=by
  apply Cu_
  .simp[hn]
  .intro i h1 h2;simp[h2]
 have e3:=h.map λi=>l.getD i d;rw[e2]at e3;show e3
def J9_:List V->Hp->VK->Prop:=λvs H Q=>∃(p:Addr)(ls:List Addr)(tss:List (List Str)),vs=[.ref p]/\H p=some (.lst (ls.map V.ref))/\ls.length=tss.length/\ls.length<64/\J2_ H ls tss /\
 ∀(l:Addr)(zs:List Addr)(uss:List (List Str)),H l=none->zs.length=uss.length->(∀z∈zs,z∈ls)->J2_ H zs uss->uss.Perm tss->uss.Pairwise (λx y=>GK_ y x=false)->Q (.ref l) (upd H l (.lst (zs.map V.ref)))
theorem m5_(hu:X.A.units+64<cLine):GF_ X (.builtin "sorted") J9_:=by
 intro pins s σ H xs us Q I r h;obtain⟨p,ls,tss,rfl,hp,hl,h64,la,q⟩:=h;by_cases h0:ls.length=0
 .have e0:ls=[]:=AY_ h0;subst e0;have e1:tss=[]:=AY_ hl.symm;subst e1;show jd_ pins s σ H _ us Q I r ⟨p,[],rfl,hp,d_,λl zs nl pm _=>by rw[pm.eq_nil];show q l [] [] nl rfl (λ_ h=>h) (λi l h=>by cases h) (.refl _) .nil⟩
 by_cases h1:ls.length=1
 .obtain⟨y,rfl⟩:=CH_.mp h1;show je_ pins s σ H _ us Q I r ⟨p,.ref y,rfl,hp,λl nl=>q l [y] tss nl hl (λ_ h=>h) la (.refl _) (by obtain⟨t,rfl⟩:=CH_.mp hl.symm;show Er_ _ _)⟩
 obtain⟨u,rfl,e⟩:=GI_ r;cases e
 let lt:Nat->Nat->Bool:=λi j=>GK_ (tss.getD i []) (tss.getD j [])
 have yl:(ls.map V.ref).length=ls.length:=Ab_ _;obtain⟨pm,hr,hpm,hso⟩:=oo_ (lexO tss (ls.map V.ref).length) o_;have pz:pm.size=(ls.map V.ref).length:=by simpa using(Bk_.mp hpm).length_eq
 have pl:pm.toList.Perm (List.range ls.length):=by rw[<-yl];simpa using Bk_.mp hpm
 have pi:∀i∈pm.toList,i<ls.length:=λi hi=>A3_.mp (pl.mem_iff.mp hi);have at_:∀{i:Nat},i<ls.length->ls[i]?=some (ls.getD i p):=λ{i} hi=>by rw[Ad_,Aa_ hi];rfl
 have eq:(pm.toList.map λi=>(ls.map V.ref).getD i .non)=(pm.toList.map λi=>ls.getD i p).map V.ref:=by rw[AW_];show Bs_ λi hi=>?_;change(ls.map V.ref).getD i .non=V.ref (ls.getD i p);rw[Ad_,Ag_,at_ (pi i hi)];rfl
 show kF_ (lt:=lt) (κ:=oneType') (pm:=pm) I (.inl (.inl hp)) o_ o_ ?kind ?less hr o_ λl nl=>?_
 case kind =>intro its s' rv I' C hC;have ei:=dR_ rv;subst ei;show kas_kind (T:=.type "list") (by rw[Ab_];lia) (λv hv=>?_) d_ d_ hC;obtain⟨b,hb,rfl⟩:=As_.mp hv;obtain⟨i,hi⟩:=AU_.mp hb;obtain⟨its,⟨o,ho,hc,_⟩,_⟩:=I'.lists la i b hi;show hc▸(Looks.ld ho).andThen .now
 case less =>
  intro its s' i j rv I' hi hj C hC;have ei:=dR_ rv;subst ei;rw[yl]at hi hj;have g:∀{i:Nat},i<ls.length->(ls.map Value.ref).getD i Value.none=.ref (ls.getD i p):=λ{i} hi=>by rw[Ad_,Ag_,at_ hi];rfl
  rw[g hi,g hj,keyLt'_oneType];obtain⟨i1,y1,y2⟩:=I'.lists la i _ (at_ hi);obtain⟨i2,y3,y4⟩:=I'.lists la j _ (at_ hj);show he_ _ y1 y3 y2 y4 (by rw[A0_,A0_];lia) hC
 .rw[eq];show q l _ (pm.toList.map λi=>tss.getD i []) nl (by rw[Ab_,Ab_]) (λz hz=>by obtain⟨i,hi,rfl⟩:=As_.mp hz;show Am_ (at_ (pi i hi))) (λi b hb=>?_) (jk_ [] hl.symm pl) (BD_.mpr ((So.list hpm hso).imp λ{i j} h=>h));rw[Ag_]at hb;obtain⟨k,hk,rfl⟩:=AQ_.mp hb;have e:(pm.toList.map λi=>tss.getD i []).getD i []=tss.getD k []:=by rw[Ad_,Ag_,hk];rfl
  rw[e];show la k _ (at_ (pi k (Am_ hk)))
end L2
namespace RimD
def su:Nat->(Nat->Int)->Int
 |0,_=>0
 |n+1,f=>su n f+f n
def sg(k:Nat):Int:=if k%2=0 then 1 else -1
def sk(k j:Nat):Nat:=if j<k then j else j+1
abbrev Mat:=Nat->Nat->Int
def mi(A:Mat)(k:Nat):Mat:=λi j=>A (i+1) (sk k j)
def D:Nat->Mat->Int
 |0,_=>1
 |n+1,A=>su (n+1) λk=>sg k*A 0 k*D n (mi A k)
def gi(r:List Int)(j:Nat):Int:=r.getD j 0
def ma(rows:List (List Int)):Mat:=λi j=>gi (rows.getD i []) j
end RimD
namespace RimM
end RimM
namespace RimD
open RimM
end RimD
namespace L2
open PySem PySem.Spec PyProof.Rows PySem.W
def Ma_:V->Option Int->Option Int->Hp->VK->Prop:=λx lo hi H Q=>∃z:Str,x=.str z/\z.length<=sizeLine/\∀y:Str,y.length<=z.length->(∀c∈y.cps.toList,c∈z.cps.toList)->Q (.str y) H
theorem ov_{v:Value}{o:Option Int}(h:IsPart v o):∃l:Option (Int×Tok),v=partValue l/\l.map (·.1)=o:=by
 cases h with
 |none=>show⟨none,rfl,rfl⟩
 |int i t=>show⟨some (i,t),rfl,rfl⟩
theorem qd_{X:Cx}:SlR X Ma_:=by
 intro pins s σ H x v vl vu lo hi sl Q I rx hs pl pu h;obtain⟨z,rfl,hz,q⟩:=h;obtain⟨t,rfl⟩:=rx;obtain⟨l,rfl,el⟩:=ov_ pl;obtain⟨u,rfl,eu⟩:=ov_ pu;show⟨"str",_,F.slot_str_getitem.lookup,D0_ _ _ _,?_⟩;show wpAny_getItem_str_slice (l:=l) (u:=u) (st:=none) hs rfl ?_;have le:=sliceIndices_le (l.map (·.1)) (u.map (·.1)) z.length;unfold sliceMade;by_cases hc:(((none:Option (Int×Tok)).map (·.1)).getD 1 == 1 && (slicePicked z l u none).length == z.length)=true
 .rw[if_pos hc];show⟨.str z,H,I,⟨_,rfl⟩,q z (Ai_ _) λ_ h=>h⟩
 .rw[if_neg hc];have hl:(⟨((slicePicked z l u none).filterMap (z.cps[·]?)).toArray⟩:Str).length<=z.length:=by change(((slicePicked z l u none).filterMap (z.cps[·]?)).toArray).size<=_;rw[At_];show AG_ (BP_ _ _) le
  show⟨AG_ hl hz,.str _,H,I.tok _,⟨_,rfl⟩,q _ hl λc hc=>?_⟩;have hc2:c∈(slicePicked z l u none).filterMap (z.cps[·]?):=by simpa using hc
  obtain⟨i,_,hi⟩:=Ci_.mp hc2;show Array.mem_toList_iff.mpr (Array.mem_of_getElem? hi)
variable {prog:Program}{w:World}{A:Around}{E:Value->Shared->Prop}{s:Shared}
structure Lam(mg:Str->Option Value)(base:Heap)(c P:Addr):Prop where
 hd:CodeHd base c P
 blt:base.BuiltinsAt mg P
variable {P:Program}{K:PySem.W.Frag}{mg:Str->Option Value}{base:Heap}
theorem qK_{k:Nat}{f c':Addr}{name qual:Str}{params:Arguments}{body:Expr}{scope:Scope}{pm ctv:Value}{A:Around}{outer:List Env}{s:Shared}{H:Hp}{us:List Value}{vs:List V}{N ps:List Str}{Q:VK}{te:TE}
  (hf:s.heap.get? f=some (kla_obj name qual params body scope [] pm c' ctv)) (hcd:s.heap.CodeRec (.ref c') qual) (S:FG_ N ps scope) (hr:GY_ (k+1) A) (e0:JV_ P w K mg base A outer s H)
  (hb:bindArgs (kla_fn name qual params body scope [] pm (.ref c') ctv) ⟨us,[]⟩=pure (ps.zip us)) (r:F4_ vs us) (hl:vs.length=ps.length) (ht:PE (ID_ CX0 P w K mg base N qual scope f (.ref c') A outer s H E0) body te) (hq:te (start N vs) H Q):
  codeAny (model P w) A (.call (.ref f) ⟨us,[]⟩) (CR CX0 outer P w H s Q E0) s:=by
 have lim:s.heap.NoLimit:=e0.mod.nolimit.keeps λb o e=>(e0.bs b o e).1
 have hkind:∀y∈ps.zip us,scope.names.lookup y.1=some .local\/(scope.names.lookup y.1=some .cell/\((cellsFrom (s.heap.objs.size+1) scope.names []).lookup y.1).isSome=true):=λ⟨n,v⟩ hy=>by
  rcases S.par n (Do_ hy).1 with q|q
  .show .inl q
  .show .inr ⟨q,Db_ _ _ _ (.inl q)⟩
 show kla_callFunE hr.depth hf rfl S.co S.gen rfl hcd ?_;rw[hb];show Aj_ (DU_ S.kind hkind λenv he s1 x=>?_);subst he;show⟨lim.keeps x.toInCall.keep,kla_codeExpr ?_⟩;have I:Inv (ID_ CX0 P w K mg base N qual scope f (.ref c') A outer s H E0) [] (start N vs) H s1:=km_ S hr.hd e0 hl r x;show Bu_ (ht [] s1 (start N vs) H _ I hq) (λu s' ⟨v,H',J,rv,q⟩=>⟨v,H',J.os,J.bare,J.base,J.hok,rv,q⟩) λe s' hs=>hs
variable {X:Cx}{pins:List (Addr×Obj)}{σ:St}{H:Hp}
structure Ia_(X:Cx)(pins:List (Addr×Obj))(H:Hp)(b:Addr):Prop where
 hn:H b=none
 hL:b≠X.env.locals
 s0:X.s₀.heap.objs.size<=b
 cl:∀x c,X.env.cells.lookup x=some c->c≠b
 pn:∀p∈X.pn++pins,p.1≠b
 fs:b∉frs X.stack
 bs:X.base.get? b=none
theorem Inv.late{b:Addr}(I:Inv X pins σ H s)(h:s.heap.get? b=none)(hs:X.s₀.heap.objs.size<=b):Ia_ X pins H b:=by
 show⟨?_,λz=>?_,hs,λx c e z=>?_,λp hp z=>?_,λz=>?_,?_⟩
 .cases e:H b with
  |none=>rfl
  |some u =>obtain⟨o,g⟩:=JC_ (I.hok b u e);rw[h]at g;cases g
 .obtain⟨m,⟨o,_,_,g,_⟩,_⟩:=I.loc;rw[<-z,h]at g;cases g
 .obtain⟨v,o,g,_⟩:=I.cell x c e;rw[z,h]at g;cases g
 .have g:=(I.pin p hp).1;rw[z,h]at g;cases g
 .obtain⟨_,o,g,_⟩:=I.stack.mem z;rw[h]at g;cases g
 .cases e:X.base.get? b with
  |none=>rfl
  |some u=>have g:=I.bk b u e;rw[h]at g;cases g
theorem Inv.turnL{t':Nat}{it:Addr}{h':Heap}{H':Hp}{m:Str->Option Value}(I:Inv X pins σ H s)(hm:s.heap.Ns X.env.locals m)(hm':h'.Ns X.env.locals m)(L:Ia_ X pins H it)(k:∀b o,b≠it->b≠X.env.locals->s.heap.get? b=some o->h'.get? b=some o)(hH:∀b,b≠it->H' b=H b)(hi:∀u,H' it=some u->F9_ X.prog X.w H' h' it u):Inv X pins σ H' {s with heap:=h',toks:=t'}:=by
 have nit:∀b u,H b=some u->b≠it:=λb u e z=>by rw[z,L.hn]at e;cases e
 have nL:∀b u,H b=some u->b≠X.env.locals:=λb u e z=>by rw[z,I.free]at e;cases e
 have up:∀b u,H b=some u->H' b=some u:=λb u e=>by rw[hH b (nit b u e)];show e
 show I.step (g':=s.gens) (d':=s.drawn) (ch:=[it]) (λb hb=>?_) (λb o hb _ hc e _=>k b o (λz=>hc (by simp[z])) hb e) (λb o hb _ hc e _=>⟨o.slots,k b o (λz=>hc (by simp[z])) hb e⟩) (λb o hc _ n=>by rw[hH b (λz=>hc (by simp[z]))];show n)
  (λb o hc e=>?_) (λb _ e=>up b _ e) (λb _ _ e=>up b _ e) (λb ps e=>⟨#[],by rw[up b _ e];simp⟩) (λm' hm2=>by rw[p7_ hm2 hm];show hm') (λb u e=>?_) I.bare
 .have e:b=it:=by simpa using hb
  subst e;show⟨.inr L.s0,L.hL,L.cl,L.pn⟩
 .by_cases z:b=X.env.locals
  .subst z;obtain⟨o',_,_,g,_⟩:=hm';show⟨o',g⟩
  .show⟨o,k b o (λy=>hc (by simp[y])) z e⟩
 .by_cases z:b=it
  .subst z;show hi u e
  .rw[hH b z]at e;show(I.hok b u e).stay (λc v hc q=>?_) (λc q=>up c _ q) λc xs q=>up c _ q
   rcases hc with rfl|hc
   .show k _ v z (nL _ _ e) q
   .show k c v (nit _ _ hc) (nL _ _ hc) q
def ldg(X:Cx)(h:Heap)(a:Addr):List (Addr×Obj):=(Gg_ X.base h X.env.locals).filter λp=>p.1 != a
variable{h h2:Heap}{a:Addr}{o2:Obj}
theorem jS_(h1:h2.get? a=some o2)(h3:a≠X.env.locals)(h4:X.base.get? a=none)(k:∀b u,b≠a->b≠X.env.locals->h.get? b=some u->h2.get? b=some u):News X.base X.env.locals h2 ((a,o2)::ldg X h a):=λp hp=>by
 rcases Av_.mp hp with rfl|hp
 .show⟨h1,h3,h4⟩
 .obtain⟨hp,ne⟩:=Be_.mp hp;obtain⟨y1,y2,y3⟩:=fm_ hp;show⟨k _ _ (by simpa using ne) y1 y3,y1,y2⟩
theorem jT_(F:∀b u,X.base.get? b=some u->h.get? b=some u/\h2.get? b=some u)(N:News X.base X.env.locals h2 ((a,o2)::ldg X h a)):∀b u,b≠a->b≠X.env.locals->h.get? b=some u->h2.get? b=some u:=λb u h1 h3 h4=>by
 cases q:X.base.get? b with
 |some v =>
  have:=F b v q;rw[h4]at this;show this.1▸this.2
 |none=>show(N (b,u) (An_ _ (Be_.mpr ⟨bN_ h3 q h4,by simpa using h1⟩))).1
theorem lG_{o:Obj}:UpdF a o ((a,o)::ldg X h a) λo'=>(a,o')::ldg X h a:=.head λz hz w=>by have:=(Be_.mp hz).2;rw[w]at this;simp at this
variable {h₀:Heap}{L a kS l:Addr}{m:Str->Option Value}{f:Value}{vs:List Value}{e1:Nat}
theorem m6_{P:PySem.Fin->Shared->Prop}(hk:s.heap.get? kS=some (seqObj "list" #[] 0)) (few:vs.length<2) (h:KatKeys prog w A h₀ L m kS f (λks e s'=>KatFin h₀ L m kS a ks e e1 vs (λs4=>P (.done (.ret .none)) s4) s') vs [] 0 s):
  wpAny (model prog w) A (ksk_rest a f false vs.toArray e1 (.ref kS)) P E s:=by
 have big:64<=sizeLine:=by rw[Ch_];decide
 unfold ksk_rest;show Ac_ (C9_ (Ac_ ?_));rw[List.forIn_toArray];show Bu_ (kat_fold (n:=vs.length) o_ (λx ks e s C hl h=>?_) vs [] 0 s s_ hk h) (λ_ s' ⟨ks,e,h1,h2,h3⟩=>?_) λ_ _ e=>e
 .show Ac_ (Fc_ (Bu_ h (λk s1 ⟨news,g,F1,N1,U,hC⟩=>?_) (λ_ _ x=>x.elim)));obtain⟨pre,post,e0,hg,x1,x2⟩:=U.split;rw[e0]at N1;have now:=N1 (kS,seqObj "list" ks.toArray e) (AO_ _ (.head _));have b2:=Cw_ s1.heap kS (Obj.mapSeq λx=>x.push k);have ek:ks.toArray.push k=(ks++[k]).toArray:=s_
  obtain⟨c2,got2⟩:∃c2,(s1.heap.update kS (Obj.mapSeq λx=>x.push k)).get? kS=some (seqObj "list" (ks.toArray.push k) c2):=⟨_,Cp_ now.1 λx=>x.push k⟩;rw[ek]at got2;show Ac_ (Cy_ now.1 rfl (Aj_ ⟨rfl,k,c2,got2,hC _ c2 (kas_fr F1 b2 now.2.1 now.2.2) (by rw[hg];show news_set N1 x1 x2 b2 got2)⟩) ?_ ?_)
  .simp;lia
  .simp;lia
 .show Ac_ (Dr_ h1 rfl ?_);unfold ksk_end
  dsimp only
  have lt2:vs.toArray.size<2:=by simpa using few
  rw[if_neg d_,if_pos lt2];show Ac_ (Aj_ ?_);rw[if_pos lt2,if_neg d_];show Ac_ (Aj_ (a:=((),SortSt.mk' general' (ks.toArray.zip vs.toArray) #[] 7 none)) ?_);show kat_tail (out:=vs) ?_ o_ o_ rfl h3;rw[show arrOf (SortSt.mk' general' (ks.toArray.zip vs.toArray) #[] 7 none)=ks.toArray.zip vs.toArray from rfl,List.zip_toArray,List.map_toArray,List.map_snd_zip o_]
theorem jU_{news:List (Addr×Obj)}{kw:List (Str×Value)}{Q:Value->Shared->Prop}(F0:Fr h₀ L s.heap m)(N0:News h₀ L s.heap news)(isl:s.heap.IsList l vs.toArray)(few:vs.length<2)(a1:argsOk "sorted" ⟨[.ref l],kw⟩) (a2:∀x:Addr,argsOk "list.sort" ⟨[.ref x],kw⟩) (tr:∀x:Addr,Builtin.«list.sort» ⟨[.ref x],kw⟩=ksk_tree x f false)
  (ask:∀(D kS:Addr)(e1:Nat)(h':Heap),Fr h₀ L h' m->News h₀ L h' ((kS,seqObj "list" #[] 0)::(D,seqObj "list" #[] e1)::news)->D<kS->(∀q∈news,q.1<D)->KatKeys prog w A.in1.in1 h₀ L m kS f (λks e s'=>KatFin h₀ L m kS D ks e e1 vs (λs4=>Q (.ref D) s4) s') vs [] 0 {s with heap:=h'}):
  wpAny (model prog w) A (call (.builtin "sorted") [.ref l] kw) Q E s:=by
 have big:64<=sizeLine:=by rw[Ch_];decide
 show EH_ Fz_ Fq_ Fr_ a1 ?_;unfold Builtin.«sorted»;show Ac_ (m:=checkCount "sorted" 1 1 _) (Aj_ (Ac_ (Fs_ isl (Ac_ (CZ_ ?_ o_)) o_)));have sz:((s.heap.push (seqObj "list" #[] 0)).update s.heap.objs.size (Obj.mapSeq (· ++ vs.toArray))).objs.size=s.heap.objs.size+1:=(Ee_ ..).trans (D2_ ..);obtain⟨hx,ex⟩:∃hx,hx=(s.heap.push (seqObj "list" #[] 0)).update s.heap.objs.size (Obj.mapSeq (· ++ vs.toArray)):=⟨_,rfl⟩;rw[<-ex]at sz;have got:(hx.push (seqObj "list" vs.toArray 0)).get? (s.heap.objs.size+1)=some (seqObj "list" vs.toArray 0):=by rw[<-sz];show Ax_ _ rfl
 have kp:∀b o,s.heap.get? b=some o->(hx.push (seqObj "list" vs.toArray 0)).get? b=some o:=λb o q=>by have hb:=Aw_ q;rw[Cq_ _ _ _ (by rw[sz];show AE_ (A9_ hb)),ex,Fk_ _ _ _ _ (AE_ hb),Cq_ _ _ _ (AE_ hb)];show q
 have hL:=F0.ns.lt;change wpAny _ _ _ _ _ {s with heap:=((s.heap.push (seqObj "list" #[] 0)).update s.heap.objs.size (Obj.mapSeq (· ++ vs.toArray))).push (seqObj "list" vs.toArray 0)};rw[<-ex,sz];show Ac_ (A5_ (Fl_ DB_ ⟨_,got,rfl⟩ Ds_ ?body (a2 _)))
 case body =>
  change wpAny (model prog w) A.in1.in1 (Builtin.«list.sort» ⟨[.ref (s.heap.objs.size+1)],kw⟩) _ _ _;rw[tr];unfold ksk_tree;have aL:s.heap.objs.size+1≠L:=CM_ (A9_ hL);have a0:h₀.get? (s.heap.objs.size+1)=none:=B3_ (AG_ F0.above (Nat.le_succ_of_le (AH_ hL)));have na:∀q∈news,q.1<s.heap.objs.size+1:=λq hq=>A9_ (Aw_ (N0 q hq).1);generalize hD:s.heap.objs.size+1=D at*;have b1:=Cw_ (hx.push (seqObj "list" vs.toArray 0)) D (Obj.mapSeq λ_=>(#[]:Array Value));obtain⟨c,got1⟩:∃c,((hx.push (seqObj "list" vs.toArray 0)).update D (Obj.mapSeq λ_=>(#[]:Array Value))).get? D=some (seqObj "list" #[] c):=⟨_,Cp_ got λ_=>#[]⟩;have F1:=((kas_fr (F0.kept kp) b1 aL a0).push (seqObj "tuple" vs.toArray 0)).push (seqObj "list" #[] 0);have N1:=(kas_news (N0.grown kp) b1 λq hq=>AE_ (na q hq));have lt1:=Aw_ got1;show Ac_ (Dr_ got rfl (Ac_ (Cy_ got rfl (Ac_ (DF_ got1 rfl (Ac_ (DA_ (Ac_ (CZ_ (A5_ ?_) (Az_ _))) (by change vs.length<=_;lia))))) (by rw[At_];lia) (Az_ _))));show m6_ (h₀:=h₀) (L:=L) (m:=m) (Ax_ _ rfl) few ?_;have hk:D<(((hx.push (seqObj "list" vs.toArray 0)).update D (Obj.mapSeq λ_=>(#[]:Array Value))).push (seqObj "tuple" vs.toArray 0)).objs.size:=by rw[D2_];show A9_ lt1
  have LD:L<D:=by rw[<-hD];show A9_ hL
  have N2:News h₀ L ((((hx.push (seqObj "list" vs.toArray 0)).update D (Obj.mapSeq λ_=>(#[]:Array Value))).push (seqObj "tuple" vs.toArray 0)).push (seqObj "list" #[] 0)) ((_,seqObj "list" #[] 0)::(D,seqObj "list" #[] c)::news):=λq hq=>by
   rcases Av_.mp hq with rfl|hq
   .show⟨Ax_ _ rfl,?_,?_⟩
    .show CM_ (Ec_ LD hk)
    .show B3_ (AG_ F0.above (AH_ (Ec_ LD hk)))
   rcases Av_.mp hq with rfl|hq
   .show⟨Ah_ _ (Ah_ _ got1),aL,a0⟩
   .show⟨Ah_ _ (Ah_ _ (N1 q hq).1),(N1 q hq).2⟩
  show kat_keys_mono (ask D _ c _ F1 N2 ?_ na) λks' e' s' _ hF=>?_
  .show hk
  .obtain⟨n2,g2,y1,y2,y3,y4⟩:=hF;show⟨n2,g2,y1,y2,y3,λh2 c2 z1 z2=>(y4 h2 c2 z1 z2).mono λs3 hq=>⟨_,rfl,Aj_ ⟨_,rfl,hq⟩⟩⟩
def Kk_(H:Hp)(ts:List Addr)(tss:List (List Str)):Prop:=∀(i:Nat) t,ts[i]?=some t->∃W,H t=some (.tup [.non,.non,.ref W])/\H W=some (.lst ((tss.getD i []).map V.str))
abbrev Kb_(f:Addr):List (Str×Value):=[(Str.ofString "key",.ref f)]
theorem hf_(x:Value)(f:Addr):argsOk "sorted" ⟨[x],Kb_ f⟩:=by unfold argsOk;kernel_rfl
theorem jl_(x:Value)(f:Addr):argsOk "list.sort" ⟨[x],Kb_ f⟩:=by unfold argsOk;kernel_rfl
theorem Ia_.to{H':Hp}{b:Addr}(L:Ia_ X pins H b)(h:H' b=none):Ia_ X pins H' b:=⟨h,L.hL,L.s0,L.cl,L.pn,L.fs,L.bs⟩
def FnC(K:PySem.W.Frag)(mg:Str->Option Value)(x:Str)(st:Stmt)(c:Addr):Prop:=∃f fd,Fun K x x st f fd/\mg x=some (.ref f)/\fd.code=.ref c
theorem qL_{P:Program}{w:World}{K:PySem.W.Frag}{mg:Str->Option Value}{base:Heap}{x:Str}{st:Stmt}{N ps:List Str}{k:Nat}{sp:Sp}{c:Addr}(F:FnC K mg x st c)(S:FG_ N ps (FC_ st))
  (hb:∀(kV doc pm:Value)(an:Option Addr)(cdv ct:Value)(us:List Value),us.length=ps.length->bindArgs (PySem.W.fnOf x x (GP_ st) (GA_ st) (FC_ st) .none kV doc pm an cdv ct) ⟨us,[]⟩=pure (ps.zip us))
  (len:∀vs H Q E,sp vs H Q E->vs.length=ps.length)
  (hbody:∀(f:Addr)(A:Around)(outer:List Env)(s:Shared)(H:Hp)(vs:List V)(Q:VK)(E:XK),GY_ k (A.deeper (envOfC x (FC_ st) s.heap.objs.size f (.ref c)))->sp vs H Q E ->
   ∃t,PSs (ID_ CX0 P w K mg base N x (FC_ st) f (.ref c) A outer s H E).nox (GA_ st) t/\t {nx:=λ_ H'=>Q .non H',rt:=Q} (start N vs) H):Cal P w K mg base x ps (k+1) sp:=by
 obtain⟨f,fd,F,m,hc⟩:=F;show⟨f,fd,m,F.kp,F.binds hb,?_⟩;obtain⟨oc,od,kV,doc,pm,an,cdv,ct,osl,rfl,lk,hcd⟩:=F.ex;obtain rfl:cdv=.ref c:=hc;show K9_ lk hcd S len λA outer s H vs Q E hr hsp=>?_;obtain⟨t,h,q⟩:=hbody f A outer s H vs Q E hr hsp;show⟨t,h.nox,q⟩
theorem rO_{K:PySem.W.Frag}{mg:Str->Option Value}{h:Heap}(X:K.In h)(G:h.Ns mainGlobals mg){x:Str}{st:Stmt}{f c:Addr}{oc:Value}{od an:Option Addr}{osl:Array (Option Value)}{kV doc pm ct:Value}
  (a:PySem.W.nsIn K mainGlobals x=some (some (.ref f))) (l:K.lookup f=some ⟨oc,od,.func (PySem.W.fnOf x x (GP_ st) (GA_ st) (FC_ st) .none kV doc pm an (.ref c) ct),osl⟩) (cc:PySem.W.codeIn K (.ref c) x=true) (k:PySem.W.keepIn K (.ref f)=true):FnC K mg x st c :=
 ⟨f,_,p5_ l cc k,PySem.W.mg_of X G a,rfl⟩
def Lv_(P:Addr)(H:Hp):Prop:=H P=some (.tbl #[])/\∀b,b≠P->H b=none\/∃o xs,H b=some (.frz o (.lst xs))
theorem ow_{P:Program}{w:World}{K:PySem.W.Frag}{mg mb:Str->Option Value}{k:Nat}{fa a c Pt:Addr}{fd:FuncData}{x:Str}{sp:Sp}{s₁:Shared}{vs:List Value}{ns:List Int}
  (KX:K.In s₁.heap) (hns:s₁.heap.Ns mainGlobals mg) (hb:s₁.heap.Ns builtinsNs mb) (hbb:∀x:Str,x ≠ "__name__" -> mb x=bootBuiltins x) (hlim:s₁.heap.NoLimit) (hg:s₁.gens = #[])
  (bm:∃bm ob,mg (Str.ofString "__builtins__")=some (Value.ref bm)/\bm≠builtinsNs/\s₁.heap.get? bm=some ob/\ob.cls=Value.type "module" /\ ob.dict=some builtinsNs/\ob.data=Data.plain)
  (hPt:s₁.heap.get? Pt=some (tabObj #[])) (hKP:K.lookup Pt=none) (hcd:∀base:Heap,K.In base->CodeHd base c Pt)
  (ha:s₁.heap.get? a=some {cls:=.type "list",data:=.seq vs.toArray}) (hi:IntsAre vs ns) (hl:ns.length<=sizeLine) (hr:GY_ k callerA)
  (F:∀base:Heap,K.In base->base.Ns mainGlobals mg->Lam mg base c Pt->Js_ P w K mg base CX0 k fa fd [x] sp) (hbind:∀(s:Shared)(u:Value),BindsTo s fd ⟨[u],[]⟩ [(x,u)])
  (hsp:∀H:Hp,H Pt=some (.tbl #[])->SqL K H a (ns.map V.int)->sp [.ref a] H (λv _=>v=.bl true) λ_ _ _=>False):
  codeAny (model P w) callerA (.call (.ref fa) ⟨[.ref a],[]⟩) (λr s'=>r=.ok (.ret (.bool true))/\OldK s₁.heap s'.heap/\s'.os=s₁.os/\AllBare s'.gens) s₁:=by
 have rv:=kr_ hi;have lenV:=hi.length;have aP:a≠Pt:=λe=>by rw[e,hPt]at ha;cases ha
 have core:∀H:Hp,Lv_ Pt H->SqL K H a (ns.map V.int)->HOk P w H s₁.heap->(∀b,H b≠none->b=a\/b=Pt)->(H a≠none->K.lookup a=none) ->
   codeAny (model P w) callerA (.call (.ref fa) ⟨[.ref a],[]⟩) (λr s'=>r=.ok (.ret (.bool true))/\OldK s₁.heap s'.heap/\s'.os=s₁.os/\AllBare s'.gens) s₁:=by
  intro H hO hS hok hA hK;have base_of:∀{b:Addr}{o:Obj},s₁.heap.get? b=some o->H b=none->(Jt_ s₁.heap H).get? b=some o:=λe n=>pd_ e n
  have noA:∀{b:Addr}{o:Obj},s₁.heap.get? b=some o->(∀v n,o.data≠.seq v n)->(∀v,o.data≠.fields v)->H b=none:=λ{b o} e d1 d2=>by
   cases q:H b with
   |none=>rfl
   |some u =>
    rcases hA b (by rw[q];simp)with e'|e'
    .subst e';rw[ha]at e;cases e;show absurd rfl (d1 _ _)
    .subst e';rw[hPt]at e;cases e;show absurd rfl (d2 _)
  have nsK:∀{b:Addr}{m:Str->Option Value},s₁.heap.Ns b m->(Jt_ s₁.heap H).Ns b m:=λ{b m} ⟨o,es,ep,e,d,r⟩=>⟨o,es,ep,base_of e (noA e (λv n z=>by rw[d]at z;cases z) λv z=>by rw[d]at z;cases z),d,r⟩
  have hKb:K.In (Jt_ s₁.heap H):=λb o e=>base_of (KX b o e) (by
   cases q:H b with
   |none=>rfl
   |some u =>
    rcases hA b (by rw[q];simp)with e'|e'
    .subst e';rw[hK (by rw[q];simp)]at e;cases e
    .subst e';rw[hKP]at e;cases e)
  have hM:Mod K mg (Jt_ s₁.heap H):=⟨hKb,nsK hns,⟨mb,nsK hb,hbb⟩,let⟨mc,h1,h2⟩:=hlim;⟨mc,nsK h1,h2⟩⟩;have e0:JV_ P w K mg (Jt_ s₁.heap H) callerA [] s₁ H:=⟨rfl,hM,λb o e=>qr_ e,Fu_ (nD_ _ _),trivial,λb hb=>absurd (show b∈([]:List Addr)from hb) s_,hok,.of_eq hg⟩
  have lam:Lam mg (Jt_ s₁.heap H) c Pt:=by
   obtain⟨bm,ob,h1,h2,h3,h4,h5,h6⟩:=bm;show⟨hcd _ hKb,bm,ob,h1,h2,λz=>?_,λz=>?_,base_of h3 (noA h3 (λv n z=>by rw[h6]at z;cases z) λv z=>by rw[h6]at z;cases z),h4,h5,h6⟩
   .obtain⟨og,es,ep,g1,g2,_⟩:=hns;rw[z,g1]at h3;cases h3;rw[g2]at h6;cases h6
   .rw[z,hPt]at h3;cases h3;cases h6
  show C5_ ((F _ hKb (nsK hns) lam).run callerA [] s₁ H ⟨[.ref a],[]⟩ [.ref a] [.ref a] _ _ hr e0 (hbind s₁ (.ref a)) (.cons rfl .nil) (hsp H hO.1 hS)) λr s' h=>?_;cases r with
  |error e=>show False.elim h
  |ok fl =>
   cases fl with
   |next=>show False.elim h
   |brk=>show False.elim h
   |cont=>show False.elim h
   |ret u =>
    obtain⟨v,H',os,bare,un,hok',r',q⟩:=h;have q':v=.bl true:=q;subst q';obtain rfl:u=Value.bool true:=r'
    have old:∀b o,s₁.heap.get? b=some o->b≠Pt->s'.heap.get? b=some o:=λb o e bP=>by
     cases q:H b with
     |none=>show un.keep b o e q (by intro z;show absurd (show b∈([]:List Addr)from z) s_) s_
     |some u =>
      rcases hO.2 b bP with z|⟨ob,xs,z⟩
      .rw[q]at z;cases z
      .have z2:=un.frzs b ob _ z;obtain⟨e1,_⟩:=hok b _ z;obtain⟨e2,_⟩:=hok' b _ z2;rw[e]at e1;cases e1;show e2
    obtain⟨more,hmo⟩:=un.tbls Pt _ hO.1;have hP2:s'.heap.get? Pt=some {cls:=.none,data:=.fields (#[]++more)}:=hok' Pt _ hmo;show⟨rfl,⟨λb o e=>?_,λb o e=>?_⟩,os,bare⟩
    .by_cases bP:b=Pt
     .subst bP;rw[hPt]at e;cases e;show .inr (.inl ⟨?_,rfl,#[],more,rfl,hP2⟩);obtain⟨o,vs,_,_,_,_,_,_,_,g1,g2,g3,g4,_⟩:=hcd _ KX;show⟨c,o,vs,g1,g2,g3,g4⟩
     .show .inl (old b o e bP)
    .by_cases bP:b=Pt
     .show⟨_,bP▸hP2⟩
     .show⟨o,old b o e bP⟩
 cases hk:K.lookup a with
 |some o =>
  have e:=KX a o hk;rw[ha]at e;cases e;show core (λb=>if b=Pt then some (.tbl #[])else none) ⟨if_pos rfl,λb h=>.inl (if_neg h)⟩ (.inr ⟨_,vs.toArray,_,hk,rfl,rfl,rfl,by rw[At_,lenV];show hl,by simpa using rv⟩) (λb u z=>?_) (λb z=>?_) λz=>absurd (if_neg aP) z
  .by_cases h:b=Pt
   .have z':=(if_pos h).symm.trans z;cases z';subst h;show hPt
   .have z':=(if_neg h).symm.trans z;cases z'
  .by_cases h:b=Pt
   .show .inr h
   .show absurd (if_neg h) z
 |none =>
  show core (λb=>if b=Pt then some (.tbl #[])else if b=a then some (.frz {cls:=.type "list",data:=.seq vs.toArray} (.lst (ns.map V.int)))else none) ⟨if_pos rfl,λb h=>?_⟩ (.inl (.inr ⟨{cls:=.type "list",data:=.seq vs.toArray},(if_neg aP).trans (if_pos rfl)⟩)) (λb u z=>?_) (λb z=>?_) λ_=>hk
  .by_cases hb:b=a
   .show .inr ⟨_,_,(if_neg h).trans (if_pos hb)⟩
   .show .inl ((if_neg h).trans (if_neg hb))
  .by_cases h:b=Pt
   .have z':=(if_pos h).symm.trans z;cases z';subst h;show hPt
   .by_cases hb:b=a
    .have z':=((if_neg h).trans (if_pos hb)).symm.trans z;cases z';subst hb;show⟨ha,by rw[Ab_];show hl,vs,_,rv,ha⟩
    .have z':=((if_neg h).trans (if_neg hb)).symm.trans z;cases z'
  .by_cases h:b=Pt
   .show .inr h
   .by_cases hb:b=a
    .show .inl hb
    .show absurd ((if_neg h).trans (if_neg hb)) z
theorem pF_{l:PySem.W.OpenLaw}{n k:Nat}{q:Program}{loose:List Str}{XP:(Str->Option Value)->Heap->Prop}{YP:World->Heap->Prop}{d:DefRec}{K:Params->PySem.W.Frag}{sp:World->Sp}{x:Str}{c Pt:Addr}
  (hn:l.most=some n) (hn2:n<=sizeLine) (hdf:d.params.defaults=[]) (hr:GY_ k callerA)
  (hY:∀(w:World)(h:Heap),YP w h->(K w.params).In h/\h.get? Pt=some (tabObj #[])) (hKP:∀p,(K p).lookup Pt=none) (hcd:∀(p:Params)(base:Heap),(K p).In base->CodeHd base c Pt)
  (F:∀(w:World)(mg:Str->Option Value)(fa:Addr)(h:Heap),(K w.params).In h->h.Ns mainGlobals mg->mg d.name=some (.ref fa) ->
   ∃fd:FuncData,(∀(s:Shared)(u:Value),BindsTo s fd ⟨[u],[]⟩ [(x,u)]) /\
    ∀base:Heap,(K w.params).In base->base.Ns mainGlobals mg->Lam mg base c Pt->Js_ l.prog w (K w.params) mg base CX0 k fa fd [x] (sp w))
  (hsp:∀(w:World)(H:Hp)(a:Addr)(ns:List Int),ns.length<=n->H Pt=some (.tbl #[])->SqL (K w.params) H a (ns.map V.int)->sp w [.ref a] H (λv _=>v=.bl true) λ_ _ _=>False):
  PySem.W.WalkO q loose XP YP l.row.toRowW d [] (λf vs=>PySem.call f vs):=by
 show Att.attach_call hn hdf λw s₀ s₁ mg mb fa o pm cd doc a vs ns G Y ho hd hcd' hmg hobj hints hlen hg=>?_;obtain⟨KX,hPt⟩:=hY w _ Y;obtain⟨fd,hb,hF⟩:=F w mg fa _ KX G.T.g hmg;show ow_ KX G.T.g G.T.b G.T.builtins G.T.nolimit hg G.T.bmain hPt (hKP _) (hcd _) hobj hints (AG_ hlen hn2) hr hF hb (λH hO hS=>hsp w H a ns hlen hO hS)
def CdO(q:Str)(c':Addr):HO:=.ext λh=>h.CodeRec (.ref c') q
theorem rP_{q:Str}{c':Addr}(hc:h.CodeRec (.ref c') q):F9_ P w H h c' (CdO q c'):=by
 show⟨hc,?_,λh1 h2 h3 h4=>?_⟩
 .obtain⟨c0,o0,v0,t0,y1,y2,y3⟩:=hc;cases y1;show⟨_,y2⟩
 .obtain⟨c0,o0,v0,t0,y1,y2,y3⟩:=h3;cases y1;show⟨c',o0,v0,t0,rfl,h4 _ y2,y3⟩
def Tb(q:Str)(lp:Pos)(P:Addr)(H:Hp):Prop:=H P=some (.tbl #[])\/∃c',H P=some (.tbl #[rawInt lp.line,rawInt lp.col,.ref c'])/\H c'=some (CdO q c')
theorem Tb.at_{q:Str}{lp:Pos}{P:Addr}(h:Tb q lp P H):∃ps,H P=some (.tbl ps):=by
 rcases h with h|⟨c',h,_⟩
 .show⟨_,h⟩
 .show⟨_,h⟩
theorem Tb.mono{q:Str}{lp:Pos}{P:Addr}{H':Hp}(h:Tb q lp P H)(s:∀b o,H b=some o->H' b=some o):Tb q lp P H':=by
 rcases h with h|⟨c',h,h2⟩
 .show .inl (s _ _ h)
 .show .inr ⟨c',s _ _ h,s _ _ h2⟩
theorem qM_{P c:Addr}{params:Arguments}{body:Expr}{scope:Scope}{lpos:Pos}{Q:Value->Shared->Prop}{E:Value->Shared->Prop}(I:Inv X pins σ H s)(hP:H P=some (.tbl #[]))(hc:X.env.code=.ref c)(L:Lam X.mg X.base c P)(hcl:closureFor scope X.env=pure [])(hdf:defaultsOf params X.env=([],[]))
  (k:∀(f c':Addr)(pm ctv:Value)(h':Heap)(tk:Nat),Inv X pins σ (upd H P (.tbl #[rawInt lpos.line,rawInt lpos.col,.ref c'])) {s with heap:=h',toks:=tk}->h'.get? f=some (kla_obj (Str.ofString "<lambda>") (X.env.qual++Str.ofString "<lambda>") params body scope [] pm c' ctv)->upd H P (.tbl #[rawInt lpos.line,rawInt lpos.col,.ref c']) f=none->s.heap.objs.size<=f->f≠X.env.locals->h'.CodeRec (.ref c') (X.env.qual++Str.ofString "<lambda>")->c'≠X.env.locals->upd H P (.tbl #[rawInt lpos.line,rawInt lpos.col,.ref c']) c'=none->s.heap.objs.size<=c'->Q (.ref f) {s with heap:=h',toks:=tk}):
  wpAny (model X.prog X.w) X.A (eval (.Lambda params body scope lpos) X.env) Q E s:=by
 have hPs:s.heap.get? P=some (tabObj #[]):=I.hok P _ hP;obtain⟨o,vs,file,tf,flags,tg,inF,text,tt,ho,r⟩:=L.hd;obtain⟨bm,ob,b1,b2,b3,b4,b5,b6⟩:=L.blt
 have bP:X.base.get? P=none:=by
  cases e:X.base.get? P with
  |none=>rfl
  |some u=>have:=(I.bs P u e).2;rw[hP]at this;cases this
 have gP:mainGlobals≠P:=λe=>by obtain⟨og,_,_,h1,_⟩:=I.ok.mod.glob;rw[e,bP]at h1;cases h1
 obtain⟨m,hn,hl⟩:=id I.loc;obtain⟨oL,esL,epL,hoL,rL⟩:=id hn;show kla_eval hdf (kla_makeFunction (mg:=X.mg) hcl I.ok.glob (I.ok.mod.glob.keeps I.bk) hc ⟨o,vs,file,tf,flags,tg,inF,text,tt,I.bk _ _ ho,r⟩ hPs trivial rfl gP ⟨bm,ob,b1,b2,b3,b4,I.bk _ _ b5,b6⟩ λc' ctv h' tk ext c1 c2 cr hT=>?_);have PL:P≠X.env.locals:=λe=>by have:=I.free;rw[<-e,hP]at this;cases this
 have neP:∀b,H b=none->b≠P:=λb e z=>by rw[z,hP]at e;cases e
 have ltP:=Aw_ hPs;have sf:s.heap.objs.size<=h'.objs.size:=AG_ c1 (AH_ c2);have kp:∀b o',b≠P->s.heap.get? b=some o'->(h'.push (kla_obj (Str.ofString "<lambda>") (X.env.qual++Str.ofString "<lambda>") params body scope [] ((X.mg (Str.ofString "__name__")).getD Value.none) c' ctv)).get? b=some o':=λb o' h1 h2=>Ah_ _ (ext b o' h1 h2);have ltn:∀{a b:Addr},a<s.heap.objs.size->s.heap.objs.size<=b->b≠a:=λh1 h2 z=>absurd (AK_ (z▸h1) h2) (Bc_ _);have fresh:∀b,s.heap.objs.size<=b->upd H P (.tbl #[rawInt lpos.line,rawInt lpos.col,.ref c']) b=none:=λb hb=>by rw[af_ (ltn ltP hb)];show I.hok.fresh hb
 have ltL:X.env.locals<s.heap.objs.size:=Aw_ hoL;show k _ c' _ ctv _ tk ?_ (Ax_ _ rfl) (fresh _ sf) sf (ltn ltL sf) ?_ (ltn ltL c1) (fresh _ c1) c1
 .show I.step (g':=s.gens) (t':=tk) (d':=s.drawn) (ch:=[]) (λ_ z=>nomatch z) (λb o' _ _ _ e n=>kp b o' (neP b n) e) (λb o' _ _ _ e n=>⟨o'.slots,kp b o' (neP b n) e⟩) (λb o' _ e n=>by rw[af_ (neP b n)];show n) (λb o' _ e=>?_) (λb xs e=>by rw[af_ (λz=>by rw[z,hP]at e;cases e)];show e) (λb o' u e=>by rw[af_ (λz=>by rw[z,hP]at e;cases e)];show e) (λb ps e=>?_) (λm' hm=>?_) (λb o' e=>?_) I.bare
  .by_cases z:b=P
   .show⟨_,z▸Ah_ _ hT⟩
   .show⟨o',kp b o' z e⟩
  .by_cases z:b=P
   .subst z;rw[hP]at e;cases e;show⟨_,aa_.trans (congrArg (λz=>some (HO.tbl z)) (Array.empty_append).symm)⟩
   .show⟨#[],by rw[af_ z,e];simp⟩
  .obtain⟨o1,e1,e2,h1,h2⟩:=hm;show⟨o1,e1,e2,kp _ _ PL.symm h1,h2⟩
  .by_cases z:b=P
   .subst z;rw[aa_]at e;cases e;show Ah_ _ hT
   .rw[af_ z]at e;show(I.hok b o' e).stay (λc v hc r=>kp c v (λy=>?_) r) (λc r=>by rw[af_ (λy=>by rw[y,hP]at r;cases r)];show r) λc xs r=>by rw[af_ (λy=>by rw[y,hP]at r;cases r)];show r
    rcases hc with rfl|hc
    .show z y
    .rw[y,hP]at hc;cases hc
 .obtain⟨c0,o0,v0,t0,y1,y2,y3⟩:=cr;show⟨c0,o0,v0,t0,y1,Ah_ _ y2,y3⟩
theorem qN_{P c:Addr}{params:Arguments}{body:Expr}{scope:Scope}{lpos:Pos}{Q:Value->Shared->Prop}{E:Value->Shared->Prop}(I:Inv X pins σ H s)(hP:Tb (X.env.qual++Str.ofString "<lambda>") lpos P H) (hc:X.env.code=.ref c) (L:Lam X.mg X.base c P) (hcl:closureFor scope X.env=pure []) (hdf:defaultsOf params X.env=([],[]))
  (k:∀(f c':Addr)(pm ctv:Value)(H2:Hp)(h':Heap)(tk:Nat),Inv X pins σ H2 {s with heap:=h',toks:=tk}->h'.get? f=some (kla_obj (Str.ofString "<lambda>") (X.env.qual++Str.ofString "<lambda>") params body scope [] pm c' ctv)->H2 f=none->s.heap.objs.size<=f->H2 c'=some (CdO (X.env.qual++Str.ofString "<lambda>") c')->Tb (X.env.qual++Str.ofString "<lambda>") lpos P H2->(∀b o,b≠P->H b=some o->H2 b=some o)->(∀b o,b≠P->(∀φ,o≠.ext φ)->H2 b=some o->H b=some o)->(∀b,H2 b=none->H b=none)->Q (.ref f) {s with heap:=h',toks:=tk}):
  wpAny (model X.prog X.w) X.A (eval (.Lambda params body scope lpos) X.env) Q E s:=by
 rcases hP with hP|⟨c',hP,hc'⟩
 .show qM_ I hP hc L hcl hdf λf c' pm ctv h' tk I2 hf nf sf fL hcd cL nc sc=>?_;have hn:s.heap.get? c'=none:=B3_ sc;have hlt:X.s₀.heap.objs.size<=c':=AG_ (AG_ I.ok.above (AH_ (by obtain⟨m,hn,_⟩:=I.loc;show hn.lt))) sc;have lt0:=I.late hn hlt;have cP:c'≠P:=λz=>by have:=lt0.hn;rw[z,hP]at this;cases this
  have lt:Ia_ X pins (upd H P (.tbl #[rawInt lpos.line,rawInt lpos.col,.ref c'])) c':=⟨nc,lt0.hL,lt0.s0,lt0.cl,lt0.pn,lt0.fs,lt0.bs⟩;obtain⟨m,hm,_⟩:=id I2.loc;have cf:f≠c':=λz=>by obtain⟨c0,o0,v0,t0,y1,y2,y3⟩:=hcd;cases y1;rw[<-z,hf]at y2;cases y2;simp[kla_obj]at y3
  have I3:=I2.turnL (t':=tk) (H':=upd (upd H P (.tbl #[rawInt lpos.line,rawInt lpos.col,.ref c'])) c' (CdO (X.env.qual++Str.ofString "<lambda>") c')) hm hm lt (λb o _ _ e=>e) (λb hb=>af_ hb) (λu z=>by rw[aa_]at z;cases z;show rP_ hcd);show k f c' pm ctv _ h' tk I3 hf (by rw[af_ cf];show nf) sf aa_ (.inr ⟨c',by rw[af_ cP.symm,aa_],aa_⟩) (λb o bP hb=>?_) (λb o bP ne hb=>?_) (λb hb=>?_)
  .rw[af_ (λz=>by rw[z,lt0.hn]at hb;cases hb),af_ bP];show hb
  .by_cases z:b=c'
   .rw[z,aa_]at hb;show absurd (Au_ hb).symm (ne _)
   .rwa[af_ z,af_ bP]at hb
  .by_cases z:b=c'
   .rw[z,aa_]at hb;cases hb
   .rw[af_ z]at hb;by_cases y:b=P
    .rw[y,aa_]at hb;cases hb
    .rwa[af_ y]at hb
 .have hPs:s.heap.get? P=some (tabObj #[rawInt lpos.line,rawInt lpos.col,.ref c']):=I.hok P _ hP;obtain⟨o,vs,file,tf,flags,tg,inF,text,tt,ho,r⟩:=L.hd;obtain⟨bm,ob,b1,b2,b3,b4,b5,b6⟩:=L.blt;show kla_eval hdf (kla_makeFunctionHit (mg:=X.mg) (cv:=.ref c') hcl I.ok.glob (I.ok.mod.glob.keeps I.bk) hc ⟨o,vs,file,tf,flags,tg,inF,text,tt,I.bk _ _ ho,r⟩ hPs ?_ ?_ ⟨bm,ob,b1,b2,b3,b4,I.bk _ _ b5,b6⟩ λctv h' tk ext sz=>?_)
  .show trivial
  .simp[codeAmong,rawInt]
  have kp:∀b o',s.heap.get? b=some o'->(h'.push (kla_obj (Str.ofString "<lambda>") (X.env.qual++Str.ofString "<lambda>") params body scope [] ((X.mg (Str.ofString "__name__")).getD Value.none) c' ctv)).get? b=some o':=λb o' h2=>Ah_ _ (ext b o' h2);show k _ c' _ ctv H _ tk ?_ (Ax_ _ rfl) (I.hok.fresh sz) sz hc' (.inr ⟨c',hP,hc'⟩) (λb o _ e=>e) (λb o _ _ e=>e) (λb e=>e);show I.step (g':=s.gens) (t':=tk) (d':=s.drawn) (ch:=[]) (λ_ z=>nomatch z) (λb o' _ _ _ e n=>kp b o' e) (λb o' _ _ _ e n=>⟨o'.slots,kp b o' e⟩) (λb o' _ e n=>n) (λb o' _ e=>⟨o',kp b o' e⟩) (λb xs e=>e) (λb o' u e=>e) (λb ps e=>⟨#[],by rw[e];simp⟩) (λm' hm=>?_) (λb o' e=>?_) I.bare
  .obtain⟨o1,e1,e2,h1,h2⟩:=hm;show⟨o1,e1,e2,kp _ _ h1,h2⟩
  .show(I.hok b o' e).stay (λc v hc r=>kp c v r) (λc r=>r) λc xs r=>r
theorem pG_{f c' kS D:Addr}{nm qual:Str}{params:Arguments}{body:Expr}{scope:Scope}{pm ctv:Value}{x:Str}{e1 k:Nat}{m:Str->Option Value}{Fin:List Value->Nat->Shared->Prop}(hr:GY_ (k+3) X.A)(S:FG_ [x] [x] scope)
  (hb:∀u:Value,bindArgs (kla_fn nm qual params body scope [] pm (.ref c') ctv) ⟨[u],[]⟩=pure [(x,u)]) (ht:∀A outer s H,PE (ID_ CX0 X.prog X.w X.K X.mg X.base [x] qual scope f (.ref c') A outer s H E0) body (tOp I0_ (Jx_ 0) (tC (.int 2))))
  (lf:Ia_ X pins H f) (hcT:H c'=some (CdO qual c')) (lk:Ia_ X pins H kS) (lD:Ia_ X pins H D) (kD:D≠kS) (kf:f≠kS):
  ∀(ts Ws:List Addr)(ks:List Value)(e:Nat)(s:Shared),Ws.length=ts.length->(∀(i:Nat) t W,ts[i]?=some t->Ws[i]?=some W->∃a b,H t=some (.tup [a,b,.ref W]))->Inv X pins σ H s->s.heap.Ns X.env.locals m->s.heap.get? kS=some (seqObj "list" ks.toArray e)->s.heap.get? D=some (seqObj "list" #[] e1)->s.heap.get? f=some (kla_obj nm qual params body scope [] pm c' ctv) ->
   (∀e' s',Inv X pins σ H s'->s'.heap.Ns X.env.locals m->s'.heap.get? kS=some (seqObj "list" (ks++Ws.map Value.ref).toArray e')->s'.heap.get? D=some (seqObj "list" #[] e1)->Fin (ks++Ws.map Value.ref) e' s')->KatKeys X.prog X.w X.A.in1.in1 X.base X.env.locals m kS (.ref f) Fin (ts.map Value.ref) ks e s:=by
 intro ts
 induction ts with
 |nil =>
  intro Ws ks e s hl _ I hm hk hD _ q;obtain rfl:Ws=[]:=AY_ hl;rw[CO_,KatKeys.eq_1];have:=q e s I hm (by simpa using hk) hD;simpa using this
 |cons t ts ih =>
  intro Ws ks e s hl hT I hm hk hD hf q;have hcd:s.heap.CodeRec (.ref c') qual:=(I.hok _ _ hcT).1
  obtain⟨W,Ws,rfl⟩:∃W Ws',Ws=W::Ws':=by
   cases Ws with
   |nil=>cases hl
   |cons W Ws=>show⟨W,Ws,rfl⟩
  rw[Ay_,KatKeys.eq_2];obtain⟨a,b,hHt⟩:=hT 0 t W rfl rfl;show EZ_ (C5_ (qK_ (vs:=[V.ref t]) (Q:=λv H'=>v=.ref W/\H'=H) hf hcd S (hr.in1.in1:GY_ (k+1) _) I.env0.in1.in1 (hb _) (.cons rfl .nil) rfl (ht _ _ _ _) ?_) λr s' hq=>?_)
  .show⟨_,hHt,.ref W,G7_,rfl,rfl⟩
  .cases r with
   |error e=>show hq.elim
   |ok fl =>
    cases fl with
    |next=>show hq.elim
    |brk=>show hq.elim
    |cont=>show hq.elim
    |ret u =>
     obtain⟨v,H',os,bare,un,hok,rv,e1,e2⟩:=hq;subst e1;rw[e2]at un hok;obtain rfl:u=Value.ref W:=rv;obtain⟨h',g,d,t',os'⟩:=s';obtain rfl:os'=s.os:=os;have I':=I.call (g':=g) (d':=d) (t':=t') (ch:=[]) un hok bare λb z=>absurd z s_;have kp:∀{b o},Ia_ X pins H b->s.heap.get? b=some o->h'.get? b=some o:=λ{b o} L z=>un.keep b o z L.hn L.fs s_;have hm':h'.Ns X.env.locals m:=by obtain⟨o,es,ep,ho,r⟩:=hm;obtain⟨sl,hL⟩:=un.any ho I.free s_;show⟨_,es,ep,hL,r⟩
     have ab:X.base.objs.size<=X.env.locals:=AG_ I.ok.bsz I.ok.above;show⟨(kS,seqObj "list" ks.toArray e)::ldg X h' kS,λo'=>(kS,o')::ldg X h' kS,⟨hm',I'.bk,ab⟩,jS_ (kp lk hk) lk.hL lk.bs λb u _ _ z=>z,lG_,λh2 c F2 N2=>?_⟩;have k2:=jT_ (λb u z=>⟨I'.bk b u z,F2.keep b u z⟩) N2;show ih Ws (ks++[.ref W]) c _ (by simpa using hl) (λi t W h1 h2=>hT (i+1) t W h1 h2) (I'.turnL (t':=t') hm' F2.ns lk k2 (λ_ _=>rfl) λu z=>by rw[lk.hn]at z;cases z) F2.ns (N2 _ Ar_).1 (k2 _ _ kD lD.hL (kp lD hD)) (k2 _ _ kf lf.hL (kp lf hf)) λe' s' I2 hm2 hk2 hD2=>?_
     .rw[Bi_]at hk2⊢;show q e' s' I2 hm2 hk2 hD2
def IV_(q:Str)(lp:Pos)(P:Addr)(ta:TA):TE:=λσ H Q=>ta σ H λvs H1=>∃(p:Addr)(ts:List Addr)(tss:List (List Str)),vs=[.ref p]/\Tb q lp P H1/\H1 p=some (.lst (ts.map V.ref))/\ts.length=tss.length/\ts.length<64/\Kk_ H1 ts tss /\
 ∀(H2:Hp)(D:Addr)(zs:List Addr)(uss:List (List Str)),(∀b o,b≠P->H1 b=some o->H2 b=some o)->Tb q lp P H2->H1 D=none->H2 D=none->zs.length=uss.length->Kk_ H2 zs uss->uss.Perm tss->uss.Pairwise (λx y=>GK_ y x=false)->Q (.ref D) (upd H2 D (.lst (zs.map V.ref)))
theorem lH_{f c' p:Addr}{nm qual:Str}{params:Arguments}{body:Expr}{scope:Scope}{pm ctv:Value}{x:Str}{k:Nat}{ts:List Addr}{tss:List (List Str)}{Q:VK}(I:Inv X pins σ H s)(hr:GY_ (k+3) X.A)(S:FG_ [x] [x] scope)
  (hb:∀u:Value,bindArgs (kla_fn nm qual params body scope [] pm (.ref c') ctv) ⟨[u],[]⟩=pure [(x,u)]) (ht:∀A outer s H,PE (ID_ CX0 X.prog X.w X.K X.mg X.base [x] qual scope f (.ref c') A outer s H E0) body (tOp I0_ (Jx_ 0) (tC (.int 2))))
  (lf:Ia_ X pins H f) (hcT:H c'=some (CdO qual c')) (hf:s.heap.get? f=some (kla_obj nm qual params body scope [] pm c' ctv))  (hp:H p=some (.lst (ts.map V.ref))) (hl:ts.length=tss.length) (h64:ts.length<64) (tl:Kk_ H ts tss)
  (q:∀(D:Addr)(zs:List Addr)(uss:List (List Str)),H D=none->zs.length=uss.length->Kk_ H zs uss->uss.Perm tss->uss.Pairwise (λx y=>GK_ y x=false)->Q (.ref D) (upd H D (.lst (zs.map V.ref)))):
  wpAny (model X.prog X.w) X.A (call (.builtin "sorted") [.ref p] (Kb_ f)) (EP X pins σ Q) X.xe s:=by
 obtain⟨its,rv,pl,_⟩:=I.list (.inl (.inl hp));have ei:=dR_ rv;subst ei;obtain⟨m,hn,F0⟩:=I.frm;have ab:=F0.above
 obtain⟨Ws,wl,wh⟩:∃Ws:List Addr,Ws.length=ts.length/\∀(i:Nat) t W,ts[i]?=some t->Ws[i]?=some W->H t=some (.tup [.non,.non,.ref W])/\H W=some (.lst ((tss.getD i []).map V.str)):=by
  have ex:∀i:Nat,∃W:Addr,∀t,ts[i]?=some t->H t=some (.tup [.non,.non,.ref W])/\H W=some (.lst ((tss.getD i []).map V.str)):=λi=>by
   cases e:ts[i]? with
   |none=>show⟨p,λt h=>by cases h⟩
   |some t =>obtain⟨W,h⟩:=tl i t e;show⟨W,λt' h'=>by cases h';show h⟩
  show⟨(List.range ts.length).map λi=>(ex i).choose,s_,λi t W h1 h2=>?_⟩;have hi:=(Ae_.mp h1).1;rw[Ag_,Ca_ hi]at h2;cases h2;show(ex i).choose_spec t h1
 have wh1:∀(i:Nat) t W,ts[i]?=some t->Ws[i]?=some W->∃a b,H t=some (.tup [a,b,.ref W]):=λi t W h1 h2=>⟨_,_,(wh i t W h1 h2).1⟩;have la:J2_ H Ws tss:=λi W h=>by have hi:=(Ae_.mp h).1;show(wh i _ W (Aa_ o_) h).2
 have slt:X.s₀.heap.objs.size<=f:=lf.s0
 have fin:∀(D kS:Addr)(e1:Nat)(h':Heap)(Fin:List Value->Nat->Shared->Prop),Fr X.base X.env.locals h' m->News X.base X.env.locals h' ((kS,seqObj "list" #[] 0)::(D,seqObj "list" #[] e1)::Gg_ X.base s.heap X.env.locals)->D<kS->(∀q∈Gg_ X.base s.heap X.env.locals,q.1<D) ->
   (∀e' s',Ia_ X pins H kS->Ia_ X pins H D->D≠kS->Inv X pins σ H s'->s'.heap.Ns X.env.locals m->s'.heap.get? kS=some (seqObj "list" (Ws.map Value.ref).toArray e')->s'.heap.get? D=some (seqObj "list" #[] e1)->Fin (Ws.map Value.ref) e' s') ->
   KatKeys X.prog X.w X.A.in1.in1 X.base X.env.locals m kS (.ref f) Fin (ts.map Value.ref) [] 0 {s with heap:=h'}:=by
  intro D kS e1 h' Fin F1 N1 dk lt hF;have NK:=N1 (kS,_) Ar_;have ND:=N1 (D,_) (An_ _ Ar_);have N1':News X.base X.env.locals h' (Gg_ X.base s.heap X.env.locals):=λz hz=>N1 z (An_ _ (An_ _ hz));have kp:=I.keeps F1 N1';have I1:Inv X pins σ H {s with heap:=h',toks:=s.toks}:=I.led hn F1 N1' (λ_ _ _ n=>n) (λ_ _ w=>w) (λb o w n=>by rw[w]at n;cases n)
  have no:∀{b:Addr},D<=b->b≠X.env.locals->X.base.get? b=none->s.heap.get? b=none:=λ{b} h1 h2 h3=>by
   cases e:s.heap.get? b with
   |none=>rfl
   |some o=>show absurd (BN_ h1 (lt _ (bN_ h2 h3 e))) (Bc_ _)
  have fD:f<D:=lt _ (bN_ lf.hL lf.bs hf);have sD:=AG_ lf.s0 (AH_ fD);have lD:=I.late (no (Ai_ _) ND.2.1 ND.2.2) sD;have nk:=no (AH_ dk) NK.2.1 NK.2.2;have lk:=I.late nk (AG_ sD (AH_ dk));show pG_ hr S hb ht lf hcT lk lD (AE_ dk) (λz=>by rw[<-z,hf]at nk;cases nk) ts Ws [] 0 _ wl wh1 I1 F1.ns NK.1 ND.1 (kp _ _ lf.hL hf) λe' s' I2 hm hk hD=>?_;show hF e' s' lk lD (AE_ dk) I2 hm hk hD
 have out:∀(D kS:Addr)(e1 e':Nat)(s':Shared)(is:List Nat),Ia_ X pins H kS->Ia_ X pins H D->D≠kS->Inv X pins σ H s'->s'.heap.Ns X.env.locals m->s'.heap.get? kS=some (seqObj "list" (Ws.map Value.ref).toArray e')->s'.heap.get? D=some (seqObj "list" #[] e1)->is.Perm (List.range ts.length)->is.Pairwise (λi j=>GK_ (tss.getD j []) (tss.getD i [])=false) ->
   KatFin X.base X.env.locals m kS D (Ws.map Value.ref) e' e1 (is.map λi=>(ts.map Value.ref).getD i Value.none) (λs4=>EP X pins σ Q (.ref D) s4) s':=by
  intro D kS e1 e' s' is lk lD ne I' hm hk hD pm srt;show⟨(kS,_)::ldg X s'.heap kS,_,⟨hm,I'.bk,ab⟩,jS_ hk lk.hL lk.bs λb u _ _ z=>z,lG_,λh2 c F2 N2=>?_⟩;have k2:=jT_ (λb u z=>⟨I'.bk b u z,F2.keep b u z⟩) N2;have I2:=I'.turnL (t':=s'.toks) (H':=H) hm F2.ns lk k2 (λ_ _=>rfl) λu z=>by rw[lk.hn]at z;cases z
  show Fp_ F2 (jS_ (X:=X) (h:=h2) (k2 _ _ ne lD.hL hD) lD.hL lD.bs λb u _ _ z=>z) lG_ λh3 c3 F3 N3=>?_;have k3:=jT_ (λb u z=>⟨I2.bk b u z,F3.keep b u z⟩) N3;have il:∀i∈is,i<ts.length:=λi hi=>A3_.mp (pm.mem_iff.mp hi);have at_:∀{i:Nat},i<ts.length->ts[i]?=some (ts.getD i p):=λ{i} hi=>by rw[Ad_,Aa_ hi];rfl
  have eq:(is.map λi=>(ts.map V.ref).getD i .non)=(is.map λi=>ts.getD i p).map V.ref:=by rw[AW_];show Bs_ λi hi=>?_;change(ts.map V.ref).getD i .non=V.ref (ts.getD i p);rw[Ad_,Ag_,at_ (il i hi)];rfl
  have vp:=io_ rv is;rw[eq]at vp;have isl:is.length=ts.length:=by rw[pm.length_eq,Bn_]
  show⟨.ref D,upd H D (.lst ((is.map λi=>ts.getD i p).map V.ref)),I2.turnL (t':=s'.toks) F2.ns F3.ns lD k3 (λb hb=>af_ hb) (λu z=>?_),rfl,q D _ (is.map λi=>tss.getD i []) lD.hn (by rw[Ab_,Ab_]) (λi t h=>?_) (jk_ [] hl.symm pm) (BD_.mpr srt)⟩
  .rw[aa_]at z;cases z;show⟨AH_ (FB_ (by rw[Ab_,Ab_];lia)),_,c3,vp,(N3 _ Ar_).1⟩
  .rw[Ag_]at h;obtain⟨j,hj,rfl⟩:=AQ_.mp h;have e:(is.map λi=>tss.getD i []).getD i []=tss.getD j []:=by rw[Ad_,Ag_,hj];rfl
   rw[e];show tl j _ (at_ (il j (Am_ hj)))
 by_cases two:ts.length<2
 .show jU_ F0 d6_ pl.isList (by rw[Ab_];show two) (hf_ _ _) (λx=>jl_ _ _) (λx=>rfl) λD kS e1 h' F1 N1 dk lt=>fin D kS e1 h' _ F1 N1 dk lt λe' s' lk lD ne I' hm hk hD=>?_;have:=out D kS e1 e' s' (List.range ts.length) lk lD ne I' hm hk hD (.refl _) (by rw[BK_];intro i j h1 h2 h3;rw[Bn_]at h2;lia)
  rwa[show((List.range ts.length).map λi=>(ts.map Value.ref).getD i Value.none)=ts.map Value.ref from by
   apply Cu_
   .simp
   .intro i h1 h2;simp only[Ab_]at h2;simp[h2]]at this
 .show kat_sortedK (b:=false) F0 d6_ pl.isList (by rw[Ab_];lia) (by rw[Ab_];lia) (hf_ _ _) (λx=>jl_ _ _) (λx=>rfl) λD kS e1 h' F1 N1 dk lt=>fin D kS e1 h' _ F1 N1 dk lt λe' s' lk lD ne I' hm hk hD=>?_;obtain⟨pm,hrn,hpm,hso⟩:=oo_ (lexO tss ts.length) o_;have J:=I'.lists la;have wat:∀{i:Nat},i<ts.length->Ws[i]?=some (Ws.getD i p):=λ{i} hi=>by rw[Ad_,Aa_ o_];rfl
  show kas_kind (T:=.type "list") (by rw[Ab_];lia) (λv hv=>?_) d_ d_ ?_
  .obtain⟨b,hb,rfl⟩:=As_.mp hv;obtain⟨i,hi⟩:=AU_.mp hb;obtain⟨its,⟨o,ho,hc,_⟩,_⟩:=J i b hi;show hc▸(Looks.ld ho).andThen .now
  .rw[Ab_];show mt_ (lt:=λi j=>GK_ (tss.getD i []) (tss.getD j [])) (n:=ts.length) (λi j C hi hj hC=>?_) _ hrn (out D kS e1 e' s' pm.toList lk lD ne I' hm hk hD (by simpa using Bk_.mp hpm) (So.list hpm hso));have g:∀{i:Nat},i<ts.length->(Ws.map Value.ref).getD i Value.none=.ref (Ws.getD i p):=λ{i} hi=>by rw[Ad_,Ag_,wat hi];rfl
   change wpAny _ _ (keyLt' oneType' ((Ws.map Value.ref).getD i Value.none) ((Ws.map Value.ref).getD j Value.none)) _ _ _;rw[g hi,g hj,keyLt'_oneType];obtain⟨i1,z1,z2⟩:=J i _ (wat hi);obtain⟨i2,z3,z4⟩:=J j _ (wat hj);show he_ _ z1 z3 z2 z4 (by rw[A0_,A0_];have:=hr.un;lia) hC
theorem ox_{X:Cx}{a:Expr}{ta:TA}{p pos lpos kpos:Pos}{params:Arguments}{body:Expr}{scope:Scope}{x:Str}{k:Nat}{P c:Addr}{q:Str}(hr:GY_ (k+3) X.A)(hg:Gl X "sorted") (hm:X.mg "sorted"=none) (ha:PA X [a] ta) (hc:X.env.code=.ref c) (hq:X.env.qual++Str.ofString "<lambda>"=q) (L:Lam X.mg X.base c P) (hcl:closureFor scope X.env=pure []) (hdf:defaultsOf params X.env=([],[])) (S:FG_ [x] [x] scope)
  (hb:∀(nm qual:Str)(pm ctv:Value)(c':Addr)(u:Value),bindArgs (kla_fn nm qual params body scope [] pm (.ref c') ctv) ⟨[u],[]⟩=pure [(x,u)]) (ht:∀qual f c' A outer s H,PE (ID_ CX0 X.prog X.w X.K X.mg X.base [x] qual scope f (.ref c') A outer s H E0) body (tOp I0_ (Jx_ 0) (tC (.int 2)))) (hs:FL_ [a]=true:=by rfl):
  PE X (.Call (.Name "sorted" p) [a] [⟨some "key",.Lambda params body scope lpos,kpos⟩] pos) (IV_ q lpos P ta):=by
 have h':Gu_ a=true:=by simpa[FL_]using hs
 intro pins s σ H Q I h;show BZ_ (dP_ I hg hm eN_ ?_ d_ d_);show callWith_kw (thn (ha pos pins s σ H _ I h) λus s1 ⟨vs,H1,I1,r1,q1⟩=>?_) (by rw[ap_ h'];rfl) (by rw[ap_ h'];rfl) rfl rfl;obtain⟨p,ts,tss,rfl,hP,hp,hl,h64,tl,qq⟩:=q1;obtain⟨u,rfl,e⟩:=GI_ r1;cases e;subst hq;show kws_cons (qN_ I1 hP hc L hcl hdf λf c' pm ctv H2 h2 tk I2 hf nf sf hcT tb up dn fr=>kws_nil ?_);obtain⟨pz,hz⟩:=hP.at_;obtain⟨pz2,hz2⟩:=tb.at_;have nP:∀{b:Addr}{o:HO},(∀z,o≠.tbl z)->H1 b=some o->b≠P:=λn e z=>by rw[z,hz]at e;show n _ (Au_ e).symm
 have nP2:∀{b:Addr}{o:HO},(∀z,o≠.tbl z)->H2 b=some o->b≠P:=λn e z=>by rw[z,hz2]at e;show n _ (Au_ e).symm
 have t2:∀{zs:List Addr}{uss:List (List Str)},Kk_ H1 zs uss->Kk_ H2 zs uss:=λh i t hi=>by obtain⟨W,y1,y2⟩:=h i t hi;show⟨W,up _ _ (nP s_ y1) y1,up _ _ (nP s_ y2) y2⟩
 have lt0:=I1.late (B3_ sf) (AG_ (AG_ I1.ok.above (AH_ (by obtain⟨m,hn,_⟩:=I1.loc;show hn.lt))) sf);show lH_ I2 hr S (hb _ _ _ _ _) (ht _ _ _) (lt0.to nf) hcT hf (up _ _ (nP s_ hp) hp) hl h64 (t2 tl) λD zs uss hD z1 z2 z3 z4=>qq H2 D zs uss up tb (fr _ hD) hD z1 z2 z3 z4
theorem oy_{K:PySem.W.Frag}{a:Addr}{xs:List V}{g:TG}{tb:TS}{nx bk ct:St->Hp->Prop}{rt:VK}{σ:St}{H:Hp}(Pv:Nat->St->Hp->Prop)(h0:Pv 0 σ H)(hl:∀i σ H,i<=xs.length->Pv i σ H->SqT K H a xs)
  (hs:∀(i:Nat) x σ H,xs[i]?=some x->∀(kk kb:St->Hp->Prop),(∀σ' H',Pv (i+1) σ' H'->kk σ' H')->(∀σ' H',nx σ' H'->kb σ' H')->∀G:Prop,((g x σ H λσ2 H2=>tb ⟨kk,rt,kb,kk⟩ σ2 H2)->G)->Pv i σ H->G) (hd:∀σ H,Pv xs.length σ H->nx σ H):G6_ (Itt K a) g tb ⟨nx,rt,bk,ct⟩ σ H:=by
 show⟨λi m σ H=>m=xs.length-i/\i<=xs.length/\Pv i σ H,⟨xs.length,s_,Az_ _,h0⟩,?_⟩;rintro i m σ H ⟨rfl,hi,p⟩;have q:=hl i σ H hi p;by_cases hlt:i<xs.length
 .show .inr ⟨⟨xs,xs[i],q,by simp[hlt]⟩,Pv (i+1),λσ' H' p'=>⟨xs.length-(i+1),o_,rfl,hlt,p'⟩,λx H' y=>?_⟩;obtain⟨rfl,hy⟩:=y;show hs i x σ H' (hy xs q) _ _ (λ_ _ q=>q) (λ_ _ q=>q) _ id p
 .have e:i=xs.length:=o_
  subst e;show .inl ⟨⟨xs,q,Ai_ _⟩,hd σ H p⟩
open PyProof.V
theorem ix_(k:Str):∀{vs:List Value}{ys:List Str},StrsAre vs ys->vs.countP (isStrOf k)=ys.count k
 |_,_,.nil=>rfl
 |_,_,.cons n u h=>by rw[List.countP_cons,B2_,ix_ k h];rfl
def KL_:V->List V->Hp->VK->Prop:=λx vs H Q=>∃(p:Addr)(ts:List Str)(k:Str),x=.ref p/\vs=[.str k]/\H p=some (.lst (ts.map V.str))/\Q (.int (ts.count k:Nat)) H
theorem pH_:MtR X "list.count" KL_:=by intro pins s σ H x xs v us Q I rx r h;obtain⟨p,ts,k,rfl,rfl,hp,q⟩:=h;cases rx;obtain⟨u,rfl,t,rfl⟩:=GI_ r;obtain⟨its,rv,pl,_⟩:=I.list (.inl (.inl hp));have hi:=jg_ rv;obtain⟨⟨cls,dd,data,sl⟩,ho,hc,n,hd⟩:=id pl.isList;simp only at hc hd;subst hc hd;show CV_ Es_ ⟨_,ho,rfl⟩ PySem.F.entry_list_count (PySem.F.args_list_count_2 _ _) (SeqAt.list_countAt p its.toArray n dd sl (.str k t) (isStrOf k)) ⟨ho,λy hy=>(eq_isStrOf k t hi y (by simpa using hy)).at _ _,?_⟩;rw[show its.toArray.toList=its from rfl,ix_ k hi];show⟨.int (ts.count k:Nat),H,I.tok _,⟨_,rfl⟩,q⟩
def inT(ts:List Str)(q:Key):Bool:=ts.any λt=>decide (q=.inr t)
theorem pI_(ts:List Str)(t:Str)(q:Key):inT (ts++[t]) q=(inT ts q ||decide (q=.inr t)):=by unfold inT;rw[List.any_append];simp
variable {R:Result->Shared->Prop}
def GV_(led:Bool):Obj:={cls:=.type "set",dict:=none,data:=.set #[] 0 (.fresh 0 0 led)}
def SzO(a:Addr)(n:Nat):HO:=.ext λh=>∃o es ep t,h.get? a=some o/\o.ExactSet/\o.data=.set es ep t/\t.fits es.size=true/\es.size=n/\es.size<scanBound
theorem m7_{led:Bool}(ho:h.get? a=some (GV_ led)):h.SetOf (FN_ prog w) a (inT ([]:List Str)) 0 :=
 ⟨GV_ led,#[],0,.fresh 0 0 led,ho,⟨rfl,rfl,rfl⟩,rfl,λe he=>absurd he AL_,λk=>⟨λz=>absurd z AR_,λ⟨e,he,_⟩=>absurd he AL_⟩,by unfold scanBound;decide,by cases led <;> rfl,rfl⟩
def LC_:List V->Hp->VK->Prop:=λvs H Q=>∃(a:Addr)(n:Nat),vs=[.ref a]/\H a=some (SzO a n)/\Q (.int n) H
theorem oz_:GF_ X (.builtin "len") LC_:=by intro pins s σ H xs us Q I r h;obtain⟨a,n,rfl,ha,q⟩:=h;obtain⟨u,rfl,e⟩:=GI_ r;cases e;obtain⟨⟨o,es,ep,t,g1,g2,g3,g4,rfl,g6⟩,_,_⟩:=(show F9_ X.prog X.w H s.heap a (SzO a n)from I.hok a _ ha);show call_len_set g1 g2 g3 g4 (by unfold scanBound at g6;lia) ⟨.int es.size,H,I.tok _,⟨_,rfl⟩,q⟩
def dc(l:List Str):Nat:=((List.range l.length).filter λi=>!inT (l.take i) (.inr (l.getD i Str.empty))).length
theorem oA_(l:List Str)(t:Str):dc (l++[t])=if inT l (.inr t)=true then dc l else dc l+1:=by
 unfold dc;rw[Af_,AS_,CA_,BY_,Af_];have e:(List.range l.length).filter (λi=>!inT ((l++[t]).take i) (.inr ((l++[t]).getD i Str.empty)))=(List.range l.length).filter λi=>!inT (l.take i) (.inr (l.getD i Str.empty)):=List.filter_congr λi hi=>by have hi:=A3_.mp hi;rw[Dx_ o_,Ad_,Al_ hi,<-Ad_]
 rw[e];have e2:(l++[t]).take l.length=l:=by rw[Dx_ (Ai_ _),CT_]
 have e3:(l++[t]).getD l.length Str.empty=t:=by rw[Ad_,Ap_ (Ai_ _),B1_];rfl
 cases h:inT l (.inr t)with
 |true =>
  rw[if_pos rfl,Et_ (by rw[e2,e3,h];decide)];rfl
 |false =>rw[if_neg d_,Eu_ (by rw[e2,e3,h];decide)];rfl
theorem Km_(l:List Str):dc l<=l.length:=by unfold dc;show AG_ (Co_ _ _) (by rw[Bn_];show Ai_ _)
theorem gf_{S it p:Addr}{its:List Value}{ts:List Str}{h0:Heap}(hh:A.handled=none)(hSi:S≠it)(hp:h0.IsList p its.toArray)(hpi:p≠it)(hpS:p≠S)(hz:its.length=ts.length)(hb:ts.length+1<scanBound)
  (hv:∀(m:Nat)(v:Value),its[m]?=some v->∃t,ts[m]?=some t/\Ga_ (.str t) v):
  ∀(k i:Nat)(s:Shared),ts.length=i+k->s.heap.IsListIter it p i->s.heap.SetOf (FN_ prog w) S (inT (ts.take i)) (dc (ts.take i)) ->
   (∀b o,b≠it->b≠S->h0.get? b=some o->s.heap.get? b=some o) ->
   (∀h' tk,(∀b o,b≠it->b≠S->h0.get? b=some o->h'.get? b=some o)->h'.SetOf (FN_ prog w) S (inT ts) (dc ts)->R (.ok (.ret .none)) {s with heap:=h',toks:=tk}) ->
   codeAny (model prog w) A (.builtin "set.update.loop" ⟨[.ref S,.ref it],[]⟩) R s
 |0,i,s,hk,hi,hS,kp,hR=>by
  obtain⟨op,hop,hpr⟩:=id hp;have hp':s.heap.IsList p its.toArray:=⟨op,kp p op hpi hpS hop,hpr⟩;show Bz_ C8_ ?_;rw[Bq_ Ck_ _];change wpAny _ A.in1 (pyNext (Value.ref it) >>= _) _ _ s;show Ac_ (CN_ hh hi hp' (CI_ (by simp;lia)) λh' eb=>?_);change wpAny _ A.in1 (ret Value.none) _ _ _;have et:ts.take i=ts:=Bp_ o_;rw[et]at hS;obtain⟨o,es,ep,t,ho,more⟩:=hS;show Aj_ (hR h' s.toks (λb o h1 h2 e=>eb b o h1 (kp b o h1 h2 e)) ⟨o,es,ep,t,eb S o hSi ho,more⟩)
 |k+1,i,s,hk,hi,hS,kp,hR=>by
  obtain⟨op,hop,hpr⟩:=id hp;have hp':s.heap.IsList p its.toArray:=⟨op,kp p op hpi hpS hop,hpr⟩;have hit:i<its.length:=o_
  have e1:its.toArray[i]?=some its[i]:=by simp[hit]
  obtain⟨t,ht,rt⟩:=hv i its[i] (Aa_ hit);obtain⟨tok,er⟩:=id rt;show Bz_ C8_ ?_;rw[Bq_ Ck_ _];change wpAny _ A.in1 (pyNext (Value.ref it) >>= _) _ _ s;show Ac_ (CF_ hi hp' e1 λh1 hi1 sb=>?_);rw[er];change wpAny _ A.in1 (holding [Value.str t tok] (setAdd S (Value.str t tok)) >>= _) _ _ _;show Ac_ (A5_ ?_);unfold setAdd;show A5_ ?_;have kis:(FN_ prog w).is (.inr t) (Value.str t tok)=true:=HW_ (k:=.inr t) ⟨tok,rfl⟩;show Ac_ ((FN_ prog w).pyHash (k:=.inr t) kis ?_);have hS1:h1.SetOf (FN_ prog w) S (inT (ts.take i)) (dc (ts.take i)):=by obtain⟨o,es,ep,tb,ho,more⟩:=hS;show⟨o,es,ep,tb,(sb.2 S hSi).trans ho,more⟩
  show wpAny_setAddHashed_of (knd:=FN_ prog w) (s:={s with heap:=h1,toks:=s.toks+1}) kis rfl hS1 (by have:=Km_ (ts.take i);rw[Bf_]at this;lia) λh2 sb2 hS2=>?_;have tk:ts.take (i+1)=ts.take i++[t]:=by rw[BJ_,ht];rfl
  show Aj_ ⟨BI_ Ck_ _,gf_ hh hSi hp hpi hpS hz hb hv k (i+1) {s with heap:=h2,toks:=s.toks+1} o_ ?_ ?_ (λb o h1' h2' e=>?_) λh' tk' k3 hS3=>?_⟩
  .obtain⟨oi,hoi,hir⟩:=hi1;show⟨oi,(sb2.2 it (Ne.symm hSi)).trans hoi,hir⟩
  .rw[show inT (ts.take (i+1))=λq=>inT (ts.take i) q ||decide (q=.inr t)from funext λq=>by rw[tk,pI_]];rw[tk,oA_];show hS2
  .show(sb2.2 b h2').trans ((sb.2 b h1').trans (kp b o h1' h2' e))
  .show hR h' tk' k3 hS3
def Lt_:List V->Hp->VK->Prop:=λvs H Q=>∃(p:Addr)(ts:List Str),vs=[.ref p]/\H p=some (.lst (ts.map V.str))/\ts.length<=1000/\∀a,H a=none->Q (.ref a) (upd H a (SzO a (dc ts)))
theorem oB_(hc:X.calm=true):GF_ X (.type "set") Lt_:=by
 intro pins s σ H xs us Q I r h;obtain⟨p,ts,rfl,hp,h1000,q⟩:=h;obtain⟨u,rfl,e⟩:=GI_ r;cases e;obtain⟨z,its,n,rv,hl,ho⟩:=I.lstM hp;have hl':its.length=ts.length:=by rw[<-hl,Ab_]
 have hh:=I.ok.hd hc;have hsb:ts.length+1<scanBound:=by unfold scanBound;lia
 obtain⟨c,tl,hmro⟩:=F.called_set.mro;have m1:=F.called_set.made;have m2:=F.called_set.sub;have m3:=F.called_set.notType;have m4:=F.called_set.canCreate;have m5:=F.typeCall_set_1 (.ref p);show EZ_ (codeAny_of_tree ?_);change wpAny _ _ (callAny (Value.type "set") _) _ _ _;show Aj_ ⟨Code.quiet_builtin _ r_,Bz_ F.entry_type_call ?_⟩;rw[Around.under_plain (weight_type_call_type "set" [Value.ref p] []) rfl]
 repeat (any_goals first|assumption|wp_step)
 show C5_ (code_set_new_1 (.ref p) (E:=X.xe) (Q₁:=λob s₁=>∃led:Bool,ob=.ref s.heap.objs.size/\s₁={s with heap:=s.heap.push (GV_ led)}) λled=>⟨led,rfl,rfl⟩) λres s₁ hres=>?_;cases res with
 |error e=>show hres
 |ok fl =>
  cases fl with
  |next=>show hres.elim
  |brk=>show hres.elim
  |cont=>show hres.elim
  |ret ob =>
   obtain⟨led,rfl,rfl⟩:=hres;have hS:(s.heap.push (GV_ led)).get? s.heap.objs.size=some (GV_ led):=Ax_ _ rfl;have hT:Shared.TypeIs {s with heap:=s.heap.push (GV_ led)} (.ref s.heap.objs.size) "set" := ⟨_,hS,rfl⟩;have i1:=F.called_set.init.lookup;have i2:=F.called_set.init.bind (.ref s.heap.objs.size)
   repeat (any_goals first|assumption|wp_step)
   show C5_ (E4_ (R:=wants (λr s₂=>r=.none/\∃h' tk,s₂={s with heap:=h',toks:=tk}/\h'.SetOf (FN_ X.prog X.w) s.heap.objs.size (inT ts) (dc ts)/\(∀b o,s.heap.get? b=some o->h'.get? b=some o)) X.xe) F.called_set.init.plain F.entry_set_init (check_set_init_1 hT ?_)) λr₂ s₂ hr₂=>?_
   .have ho':(s.heap.push (GV_ led)).get? p=some {cls:=.type "list",data:=.seq its.toArray n}:=Ah_ _ ho;have n1:=F.sub_list_set;have n2:=F.sub_list_frozenset;have n3:(Value.type "list"== Value.type "dict")=false:=d_
    have hl1:(s.heap.push (GV_ led)).IsList p its.toArray:=⟨_,ho',rfl,n,rfl⟩;unfold Builtin.«set.__init__» noKeywords Builtin.Frozenset.updateFrom;generalize hPI:pyIter=PI
    wp_walk
    subst hPI;show CJ_ hl1 ?_;show Ac_ (wpAny_runValue ?_);have psz:p<s.heap.objs.size:=Aw_ ho;have hsz:(s.heap.push (GV_ led)).objs.size=s.heap.objs.size+1:=Cd_ _ _;have nb:∀{b:Addr}{o:Obj},s.heap.get? b=some o->b≠(s.heap.push (GV_ led)).objs.size/\b≠s.heap.objs.size:=λe=>by have:=Aw_ e;rw[hsz];show⟨AE_ (A9_ this),AE_ this⟩
    show gf_ (A:=X.A.in1.in1) (h0:=s.heap) (its:=its) (ts:=ts) (show X.A.in1.in1.handled=none from hh) (by rw[hsz];show AE_ (CU_ _)) ⟨_,ho,rfl,n,rfl⟩ (nb ho).1 (nb ho).2 hl' hsb (λm v hv=>?_) ts.length 0 _ o_ ?_ ?_ ?_ λh' tk k3 hS3=>?_
    .have hm:m<ts.length:=by have:=(Ae_.mp hv).1;lia
     obtain⟨w',hw,rw'⟩:=rv.get (i:=m) (x:=.str ts[m]) (by rw[Ag_,Aa_ hm];rfl);rw[hv]at hw;cases hw;show⟨ts[m],Aa_ hm,rw'⟩
    .show⟨_,Ax_ _ rfl,rfl,rfl⟩
    .show m7_ (Ah_ _ hS)
    .show λb o b1 b2 e=>Ah_ _ (Ah_ _ e)
    .show Aj_ ?_;change wpAny _ _ (ret Value.none) _ _ _;show Aj_ ⟨rfl,h',tk,rfl,hS3,λb o e=>k3 b o (nb e).1 (nb e).2 e⟩
   .cases r₂ with
    |error e=>show hr₂
    |ok fl₂ =>
     cases fl₂ with
     |next=>show hr₂.elim
     |brk=>show hr₂.elim
     |cont=>show hr₂.elim
     |ret r =>
      obtain⟨rfl,h',tk,rfl,hS',hk'⟩:=hr₂
      repeat (any_goals first|assumption|wp_step)
      obtain⟨o,es,ep,t,g1,g2,g3,_,_,g6,g7,g8⟩:=hS';have fr:=I.hok.fresh (Ai_ s.heap.objs.size);show⟨.ref _,_,I.laid (a:=s.heap.objs.size) (o:=SzO s.heap.objs.size (dc ts)) (t':=tk) hk' (Ai_ _) ⟨⟨o,es,ep,t,g1,g2,g3,g7,g8,g6⟩,⟨o,g1⟩,λh1 h2 ⟨o',es',ep',t',f1,f2⟩ k=>⟨o',es',ep',t',k _ f1,f2⟩⟩,rfl,q _ fr⟩
end L2
namespace RimT
variable {S:Type}[DecidableEq S]
def GL_(z:S):Nat->List (List S)->List (S×End S)
 |_,[]=>[]
 |n,l::ls=>l.map (λw=>(w,(z,n)))++GL_ z (n+1) ls
theorem gg_(z:S):∀(ls:List (List S))(n:Nat),(GL_ z n ls).map (·.1)=ls.flatten
 |[],_=>rfl
 |l::ls,n=>by rw[GL_,Ao_,gg_ z ls,AW_,AF_];congr 1;show(Bs_ λ_ _=>rfl).trans (List.map_id _)
theorem iy_(z:S){l:List S}:∀{ls:List (List S)}{i n:Nat},ls[i]?=some l->GL_ z n (ls.take (i+1))=GL_ z n (ls.take i)++l.map (λw=>(w,(z,n+i)))
 |[],i,n,h=>by cases h
 |l'::ls,0,n,h=>by
  cases h;simp[GL_]
 |l'::ls,i+1,n,h=>by rw[Dy_,Dy_,GL_,GL_,iy_ z (ls:=ls) (i:=i) (n:=n+1) h,Bi_];congr 3;funext w;rw[show n+1+i=n+(i+1) by lia]
theorem mz_(z:S):∀(ls:List (List S))(i n:Nat),GL_ z n ls=GL_ z n (ls.take i)++GL_ z (n+i) (ls.drop i)
 |ls,0,n=>by simp[GL_]
 |[],i+1,n=>by simp[GL_]
 |l::ls,i+1,n=>by rw[Dy_,List.drop_succ_cons,GL_,GL_,mz_ z ls i (n+1),Bi_,show n+1+i=n+(i+1) by lia]
def nums(n:Nat)(ls:List (List S))(w:S):List Nat:=((GL_ w n ls).filter λx=>x.1=w).map λx=>x.2.2
theorem pJ_{n:Nat}{w:S}:nums n [] w=[]:=rfl
theorem eQ_{n:Nat}{l:List S}{ls:List (List S)}{w:S}:nums n (l::ls) w=List.replicate (l.count w) n++nums (n+1) ls w:=by
 unfold nums;rw[GL_,BY_,Ao_];congr 1
 induction l with
 |nil=>rfl
 |cons x l ih =>
  rw[Ay_];by_cases h:x=w
  .rw[Eu_ (by simpa using h),Ay_,ih,h,List.count_cons_self,Fg_]
  .rw[Et_ (by simpa using h),ih,List.count_cons_of_ne h]
theorem oC_{z:S}:∀{ls:List (List S)}{n:Nat}{w:S},((GL_ z n ls).filter λx=>x.1=w).map (λx=>x.2.2)=nums n ls w
 |[],n,w=>rfl
 |l::ls,n,w=>by unfold nums;rw[GL_,GL_,BY_,Ao_,BY_,Ao_,oC_ (ls:=ls),oC_ (z:=w) (ls:=ls)];congr 1;rw[C3_,C3_,AW_,AW_];rfl
theorem iz_:∀{ls:List (List S)}{n:Nat}{w:S},(nums n ls w).length=ls.flatten.count w
 |[],_,_=>rfl
 |l::ls,n,w=>by rw[eQ_,Af_,Dh_,iz_,AF_,Bw_]
theorem lI_:∀{ls:List (List S)}{n m:Nat}{w:S},m∈nums n ls w->n<=m
 |[],_,_,_,h=>by cases h
 |l::ls,n,m,w,h=>by
  rw[eQ_]at h
  rcases Aq_.mp h with h|h
  .rw[(DQ_.mp h).2];show Ai_ _
  .have:=lI_ h;lia
theorem iA_:∀{ls:List (List S)}{n:Nat}{w:S},(nums n ls w).Pairwise (· <= ·)
 |[],_,_=>List.Pairwise.nil
 |l::ls,n,w=>by rw[eQ_,List.pairwise_append];show⟨List.pairwise_replicate.mpr (.inr (Ai_ _)),iA_,λa ha b hb=>?_⟩;rw[(DQ_.mp ha).2];have:=lI_ hb;lia
theorem jm_:∀{ls:List (List S)}{n m:Nat}{w:S},(nums n ls w).count (n+m)=(ls.getD m []).count w
 |[],n,m,w=>by simp[pJ_]
 |l::ls,n,0,w=>by
  have e:(nums (n+1) ls w).count n=0:=Cz_.mpr λh=>by have:=lI_ h;lia
  rw[eQ_,Bw_,Nat.add_zero,List.count_replicate_self,e];rfl
 |l::ls,n,m+1,w=>by
  have e:(List.replicate (l.count w) n).count (n+(m+1))=0:=Cz_.mpr λh=>by have:=(DQ_.mp h).2;lia
  rw[eQ_,Bw_,e,CL_,show n+(m+1)=n+1+m by lia,jm_ (ls:=ls)];rfl
theorem ed_{ls:List (List S)}{m:Nat}{w:S}:(nums 0 ls w).count m=(ls.getD m []).count w:=by
 have:=jm_ (ls:=ls) (n:=0) (m:=m) (w:=w)
 rwa[CL_]at this
theorem jV_{ls:List (List S)}{w:S}(h:ls.flatten.count w=2):∃a b,nums 0 ls w=[a,b]/\a<=b/\b<ls.length:=by
 have hl:=iz_ (ls:=ls) (n:=0) (w:=w);have hs:=iA_ (ls:=ls) (n:=0) (w:=w);have hc:=λm=>ed_ (ls:=ls) (m:=m) (w:=w);rw[h]at hl
 match hn:nums 0 ls w,hl with
 |[a,b],_ =>rw[hn]at hs hc;show⟨a,b,rfl,by simpa using hs,?_⟩;have:=hc b;show B8_.mp λz=>?_;rw[Ad_,Ba_ o_]at this;have h0:(0:Nat)<List.count b [a,b]:=A7_.mpr s_;have h1:List.count b [a,b]=0:=this;lia
def J3_(ls:List (List S)):Prop:=(∃(k:Nat)(l:List S),ls[k]?=some l/\¬ l.Nodup)\/∃(i j:Nat)(a b:List S),i<j/\ls[i]?=some a/\ls[j]?=some b/\1<(a.filter (· ∈ b)).length
theorem fB_{ls:List (List S)}{i:Nat}{l:List S}(h:ls[i]?=some l):ls.getD i []=l:=by rw[Ad_,h];rfl
theorem qO_{ls:List (List S)}{w:S}{a:Nat}(h:nums 0 ls w=[a,a])(hl:a<ls.length):J3_ ls/\(ls.getD a []).count w=2:=by
 have hc:=ed_ (ls:=ls) (m:=a) (w:=w);rw[h]at hc;have h2:(ls.getD a []).count w=2:=by rw[<-hc];simp
 show⟨.inl ⟨a,_,Aa_ hl,λnd=>?_⟩,h2⟩;rw[fB_ (Aa_ hl)]at h2;have:=E6_.mp nd w;lia
theorem jW_{ls:List (List S)}{w:S}{a b:Nat}(h:nums 0 ls w=[a,b])(ne:a≠b):w∈ls.getD a []/\w∈ls.getD b []:=by
 have h1:=ed_ (ls:=ls) (m:=a) (w:=w);have h2:=ed_ (ls:=ls) (m:=b) (w:=w);rw[h]at h1 h2;show⟨A7_.mp ?_,A7_.mp ?_⟩
 .rw[<-h1];show A7_.mpr s_
 .rw[<-h2];show A7_.mpr s_
theorem rQ_{l:List S}{v w:S}(ne:v≠w)(hv:v∈l)(hw:w∈l):1<l.length:=by
 match l with
 |[]=>cases hv
 |[x]=>show absurd ((Ak_.mp hv).trans (Ak_.mp hw).symm) ne
 |_::_::_=>simp
theorem qP_{ls:List (List S)}{v w:S}{a b:Nat}(hv:nums 0 ls v=[a,b])(hw:nums 0 ls w=[a,b])(ne:v≠w)(lt:a<b)(hb:b<ls.length):J3_ ls:=by have h1:=jW_ hv o_;have h2:=jW_ hw o_;have ga:=fB_ (ls:=ls) (i:=a) (Aa_ o_);have gb:=fB_ (ls:=ls) (i:=b) (Aa_ hb);rw[ga,gb]at h1 h2;show .inr ⟨a,b,_,_,lt,Aa_ o_,Aa_ hb,rQ_ ne (Be_.mpr ⟨h1.1,by simpa using h1.2⟩) (Be_.mpr ⟨h2.1,by simpa using h2.2⟩)⟩
theorem rR_{l:List S}(nd:l.Nodup)(h:1<l.length):∃v w,v∈l/\w∈l/\v≠w:=by
 match l,nd,h with
 |x::y::l,nd,_=>show⟨x,y,Ar_,An_ _ Ar_,λe=>(AV_.mp nd).1 (e▸Ar_)⟩
theorem qQ_{ls:List (List S)}(h2:∀w∈ls.flatten,ls.flatten.count w=2)(h:∀v∈ls.flatten,∀w∈ls.flatten,∀a b,nums 0 ls v=[a,b]->a≠b/\(nums 0 ls w=[a,b]->v=w)):¬ J3_ ls:=by
 have mem:∀{i:Nat}{l:List S}{w:S},ls[i]?=some l->w∈l->w∈ls.flatten:=λhi hw=>BL_.mpr ⟨_,Am_ hi,hw⟩;have no:∀{k:Nat}{l:List S},ls[k]?=some l->l.Nodup:=λ{k l} hk=>E6_.mpr λw=>by show B8_.mp λz=>?_;have hw:w∈l:=A7_.mp o_;obtain⟨a,b,hn,_,_⟩:=jV_ (h2 w (mem hk hw));have hc:=ed_ (ls:=ls) (m:=k) (w:=w);rw[hn,fB_ hk]at hc;have:=(h w (mem hk hw) w (mem hk hw) a b hn).1;simp only[B2_,List.count_nil,E2_]at hc;split at hc <;> split at hc <;> lia
 rintro(⟨k,l,hk,nd⟩|⟨i,j,a,b,lt,hi,hj,h1⟩)
 .show nd (no hk)
 .obtain⟨v,w,hv,hw,ne⟩:=rR_ ((no hi).sublist Fd_) h1
  have key:∀{v:S},v∈a.filter (· ∈ b)->nums 0 ls v=[i,j]:=λ{v} hv=>by
   obtain⟨va,vb⟩:=Be_.mp hv;have vb:=Bj_ vb;obtain⟨x,y,hn,xy,_⟩:=jV_ (h2 v (mem hi va));have c1:=ed_ (ls:=ls) (m:=i) (w:=v);have c2:=ed_ (ls:=ls) (m:=j) (w:=v);rw[hn,fB_ hi]at c1;rw[hn,fB_ hj]at c2;have p1:=A7_.mpr va;have p2:=A7_.mpr vb;rw[<-c1]at p1;rw[<-c2]at p2;have m1:=A7_.mp p1;have m2:=A7_.mp p2;simp at m1 m2;rw[hn];have:i=x/\j=y:=o_
   rw[this.1,this.2]
  show ne ((h v (mem hi (Be_.mp hv).1) w (mem hi (Be_.mp hw).1) i j (key hv)).2 (key hw))
end RimT
namespace L2
open PySem PySem.Spec PyProof.Rows
def It4(n:Nat):It:=⟨λi _=>i<n,λi H x H'=>H'=H/\x=.int (4*i),λi _=>n<=i⟩
theorem lJ_{P:Program}{w:World}{K:PySem.W.Frag}{tg:Expr}(it:Addr)(n:Nat):JU_ P w K tg (It4 n) [it] it (λi h=>IsRangeIter h it (0+(i:Nat)*4) ((n:Int)-(i:Nat)) 4) where
 mem:=s_
 obj:=λi h st b hb=>by
  have e:b=it:=by simpa using hb
  subst e;show⟨_,st,λv z=>by have z':Data.fields _=Data.cell v:=z;cases z'⟩
 keep:=λi h h' st k=>k it s_ _ st
 item:=by intro X hP hw hK hc i pins s σ H E I hf st hg;subst hP hw hK;obtain⟨f0,f1,f2,f3,f4,f5⟩:=hf it s_;have W:=Walks.range (prog:=X.prog) (w:=X.w) (I.ok.hd hc) it 0 4 n;show W.item i s _ _ hg st λv h' tk hv st' kk=>?_;obtain⟨t,rfl⟩:=hv;have I1:Inv X pins σ H {s with heap:=h',toks:=tk}:=I.turned (λb o hb e=>kk b o (by simpa using hb) e) f0 f1 f3 f4 f5;show⟨_,rfl,Jf_ (s:={s with heap:=h',toks:=tk}) (n := "range_iterator") st' rfl rfl d_ ⟨.int (4*i),H,I1,⟨t,?_⟩,⟨rfl,rfl⟩,st',λb hb=>(hf b hb).1⟩⟩;rw[B5_,Int.mul_comm]
 done:=by intro X hP hw hK hc i pins s σ H E I hf st hg;subst hP hw hK;obtain⟨f0,f1,f2,f3,f4,f5⟩:=hf it s_;show EC_ (I.ok.hd hc) st (by have:n<=i:=hg;lia) λh' eb=>⟨rfl,I.turned (t':=s.toks) (λb o hb e=>eb b o hb e) f0 f1 f3 f4 f5⟩
 self:=λ_ _ _ _ _ st h=>ED_ st h
def KQ_(ta:TA):TI:=λσ H R=>ta σ H λvs H1=>∃j:Int,vs=[.int 0,.int j,.int 4]/\(0<j/\j<1000)/\R (It4 ((j+3)/4).toNat) H1
theorem K6_{j:Int}(h:0<j):Builtin.Range.rangeSize 0 j 4=(j+3)/4:=by unfold Builtin.Range.rangeSize;rw[if_pos d_,if_pos h];lia
theorem La_{j:Int}(h0:0<j)(h1:j<1000):Builtin.Range.small 0 j 4=true:=by unfold Builtin.Range.small;rw[K6_ h0];simp only[Builtin.Range.rangeFitsLong,BM_,Bool.or_eq_true,DV_,E2_,show(4:Int) > 0 by decide,if_true];lia
theorem oD_{X:Cx}{tg a b c:Expr}{ta:TA}{p pos:Pos}(hg:Gl X "range") (hm:X.mg "range"=none) (ha:PA X [a,b,c] ta) (hs:FL_ [a,b,c]=true:=by rfl):
  PI X tg (.Call (.Name "range" p) [a,b,c] [] pos) (KQ_ ta):=by
 have h':Gu_ a=true/\FL_ [b,c]=true:=by simpa[FL_]using hs
 intro pins s σ H R I h;show Call_ (dP_ I hg hm EY_ (Bd_ (thn (ha pos pins s σ H _ I h) λus s1 ⟨vs,H1,I1,r1,q1⟩=>?_) (ap_ h'.1) (bT_ h'.2)));obtain⟨j,e,⟨q1,q2⟩,q⟩:=q1;subst e;cases r1 with
 |cons r rr =>
  cases rr with
  |cons r' rr =>
   cases rr with
   |cons r'' rr =>
    cases rr;obtain⟨t,rfl⟩:=r;obtain⟨t',rfl⟩:=r';obtain⟨t'',rfl⟩:=r'';show call_range_3 d_ ?_ (Or.inl (D9_ r_));show wpAny_pyIter_range (Fx_ ..) (La_ q1 q2) ?_;have I2:Inv X pins σ H1 {s1 with heap:=s1.heap.push {cls:=.type "range",data:=.fields #[.int 0 t,.int j t',.int 4 t'']},toks:=s1.toks}:=I1.kept λb o e=>Ah_ _ e
    show⟨(s1.heap.push {cls:=.type "range",data:=.fields #[.int 0 t,.int j t',.int 4 t'']}).objs.size,[(s1.heap.push {cls:=.type "range",data:=.fields #[.int 0 t,.int j t',.int 4 t'']}).objs.size],_,_,H1,rfl,
     I2.kept (t':=s1.toks) λb o e=>Ah_ _ e,lJ_ _ ((j+3)/4).toNat,?_,λb hb=>?_,q⟩
    .have e2:((((j+3)/4).toNat:Nat):Int)-((0:Nat):Int)=Builtin.Range.rangeSize 0 j 4:=by rw[K6_ q1];lia
     change IsRangeIter _ _ (0+((0:Nat):Int)*4) (((((j+3)/4).toNat:Nat):Int)-((0:Nat):Int)) 4;rw[e2];show Ax_ _ rfl
    .have e:b=(s1.heap.push {cls:=.type "range",data:=.fields #[.int 0 t,.int j t',.int 4 t'']}).objs.size:=by simpa using hb
     subst e;show I2.fpOk (Ai_ _) (I2.hok.fresh (Ai_ _))
theorem qR_{n:Nat}{g:TG}{tb:TS}{D:H4_}{σ:St}{H:Hp}(Pv:Nat->St->Hp->Prop)(h0:Pv 0 σ H)
  (hs:∀i σ H,i<n->Pv i σ H->g (.int (4*i)) σ H λσ2 H2=>tb {D with nx:=Pv (i+1),ct:=Pv (i+1),bk:=D.nx} σ2 H2) (hd:∀σ H,Pv n σ H->D.nx σ H):G6_ (It4 n) g tb D σ H:=by
 show⟨λi m σ H=>i<=n/\m=n-i/\Pv i σ H,⟨n,Az_ _,o_,h0⟩,?_⟩;rintro i m σ H ⟨h1,rfl,p⟩;by_cases e:i=n
 .subst e;show .inl ⟨Ai_ _,hd _ _ p⟩
 .show .inr ⟨show i<n by lia,Pv (i+1),λσ' H' q=>⟨n-(i+1),o_,o_,rfl,q⟩,?_⟩;rintro x H' ⟨rfl,rfl⟩;show hs i σ _ o_ p
theorem pK_{n:Nat}{g:TG}{tb:TS}{nx bk ct:SHP}{rt:VK}{σ:St}{H:Hp}(Pv:Nat->St->Hp->Prop)(h0:Pv 0 σ H)
  (hs:∀(i:Nat) σ H,i<n->∀(kk kb:SHP),(∀σ' H',Pv (i+1) σ' H'->kk σ' H')->(∀σ' H',nx σ' H'->kb σ' H')->∀G:Prop,((g (.int (4*i)) σ H λσ2 H2=>tb ⟨kk,rt,kb,kk⟩ σ2 H2)->G)->Pv i σ H->G) (hd:∀σ H,Pv n σ H->nx σ H):G6_ (It4 n) g tb ⟨nx,rt,bk,ct⟩ σ H :=
 qR_ Pv h0 (λi σ H hi p=>hs i σ H hi _ _ (λ_ _ q=>q) (λ_ _ q=>q) _ id p) hd
end L2
namespace Rim27
open PySem PySem.Spec PyProof.Rows L2 RimM
variable{p:List Value->Prop}
theorem byL1(h:∀a,p [a])(us:List Value)(e:us.length=1):p us:=by obtain⟨a,rfl⟩:=CH_.mp e;show h a
theorem byLc{n:Nat}(h:∀a,∀us:List Value,us.length=n->p (a::us))(us:List Value)(e:us.length=n+1):p us:=by
 cases us with
 |nil=>cases e
 |cons a us=>show h a us (Nat.succ.inj e)
theorem byL2(h:∀a b,p [a,b]):∀us:List Value,us.length=2->p us:=byLc λa=>byL1 (h a)
theorem byL3(h:∀a b c,p [a,b,c]):∀us:List Value,us.length=3->p us:=byLc λa=>byL2 (h a)
theorem byL4(h:∀a b c d,p [a,b,c,d]):∀us:List Value,us.length=4->p us:=byLc λa=>byL3 (h a)
theorem m8_:Is_ "int"=True:=eq_true (.inl rfl)
theorem kS_:Is_ "tuple"=True:=eq_true (.inr (.inr (.inl rfl)))
theorem lK_:Is_ "list"=True:=eq_true (.inr (.inr (.inr (.inl rfl))))
variable{v:V}
theorem Le_{Q:V->Prop}:onV (some (some v)) Q=Q v:=rfl
theorem Ll_{i:Int}{Q:Int->Prop}:onI (.int i) Q=Q i:=rfl
theorem Lf_{i:Bool}{Q:Bool->Prop}:onB (.bl i) Q=Q i:=rfl
theorem Ld_{i:Addr}{Q:Addr->Prop}:onR (.ref i) Q=Q i:=rfl
theorem Lb_{x:V}{Q:V->Prop}:on1 [x] Q=Q x:=rfl
theorem Lh_{x y:V}{Q:V->V->Prop}:on2 [x,y] Q=Q x y:=rfl
local macro_rules | `(tactic|walk_at "s2")=>`(tactic|simp only[Le_,Ll_,Lf_,Ld_,Lb_,Lh_,rh_,ri_,rj_,rk_,rl_,rm_,scal,tyV,List.map_cons,List.map_nil,List.length_cons,List.length_nil,List.replicate,List.cons_append,List.nil_append,List.append_nil,List.set_cons_zero,List.set_cons_succ,List.getElem?_cons_zero,List.getElem?_cons_succ,Option.some.injEq,List.cons.injEq,V.int.injEq,V.bl.injEq,V.str.injEq,V.ref.injEq,V.ty.injEq,HO.tup.injEq,HO.lst.injEq,exists_eq_left,exists_eq_left',exists_and_left,and_assoc,and_true,true_and,aa_,Gv_,GD_,G7_,Nat.zero_add,Nat.reduceAdd,Nat.reduceSub,decide_eq_true_eq,Bool.not_eq_true',decide_eq_false_iff_not,reduceCtorEq,false_or,or_false,true_or,or_true,m8_,kS_,lK_,Bool.false_eq_true,if_false,if_true,Bool.not_false,Bool.not_true,Bool.not_not,List.map,Option.bind,qz_,rB_])
local macro_rules | `(tactic|walk_at "s0")=>`(tactic|dsimp only[Le_,Ll_,Lf_,Ld_,Lb_,Lh_,L4_,Kv_,Hu_,Lr_,Me_,I7_,Ly_,Jx_,tC,tCB,tOp,rI,rI0,Ke_,Mh_,KM_,Mc_,Kf_,tB,L1_,tOr,Mf_,Ky_,KB_,rU,tUn,tBM,Jv_,L2.start,I0_,KW_,KV_,rEq,Lp_,Kx_,Mn_,List.map_cons,List.map_nil,List.length_cons,List.length_nil,List.replicate,List.cons_append,List.nil_append,List.set_cons_zero,List.set_cons_succ,List.getElem?_cons_zero,List.getElem?_cons_succ,Mm_,K1_,L8_,KX_,LV_,Ki_,Jw_,pick,KJ_,Lw_,KC_,L7_,J4_,List.map,KS_,tSl,Mo_,KO_,I8_,KT_,LY_,IX_,K3_,K0_,KH_,Mi_,KK_,iDT,tIf,I6_,JP_,J9_,Kw_,JR_,JT_,IS_,L0_,Im_,I4_,KD_,L3_,Ma_,IY_,JX_,Jb_,KA_,iDV,rIn,IW_,KI_,KR_,LX_,Lu_,Mj_,Md_,LZ_,J0_,Ml_,JQ_,IV_])
local macro_rules | `(tactic|walk_at "s3")=>`(tactic|(walk_at "s2";try (walk_at "s0";try walk_at "s2")))
local macro_rules | `(tactic|walk_at "s1")=>`(tactic|first|(walk_at "s0";try walk_at "s3")|walk_at "s3")
local macro_rules | `(tactic|walk_at "bx")=>`(tactic|first|(show qD_ ?_;intro _ _)|show rK_ (by assumption) ?_|show LK_ (by assumption) ?_)
local macro_rules | `(tactic|walk_at "rd")=>`(tactic|((first|walk_at "s1" | (walk_at "bx";try walk_at "s1"));repeat (walk_at "bx";try walk_at "s1")))
local macro_rules | `(tactic|nofun)=>`(tactic|walk_at "rd")
structure Txt(K:PySem.W.Frag)(mg:Str->Option Value):Prop where
 n_abs:mg "abs"=none
 n_max:mg "max"=none
 n_min:mg "min"=none
 n_ValueError:mg "ValueError"=none
 n_dict:mg "dict"=none
 n_len:mg "len"=none
 n_range:mg "range"=none
 n_list:mg "list"=none
 n_isinstance:mg "isinstance"=none
 n_int:mg "int"=none
 n_bool:mg "bool"=none
 n_tuple:mg "tuple"=none
 n_str:mg "str"=none
 n_enumerate:mg "enumerate"=none
 n_sorted:mg "sorted"=none
 n_set:mg "set"=none
 n_reversed:mg "reversed"=none
variable {P:Program}{w:World}{K:PySem.W.Frag}{mg:Str->Option Value}{base:Heap}
structure ZL(N P:List Str)(sc:Scope):Prop extends FG_ N P sc where
 loc:∀x∈N,sc.names.lookup x=some .local
structure ZM(N P:List Str)(sc:Scope):Prop extends FG_ N P sc where
 loc:∀x∈N,sc.names.lookup x=some .local\/sc.names.lookup x=some .cell
variable{X:Cx}{x:Str}{pos:Pos}{p0:List Str}
theorem zv(i:Nat)(h:ZL X.N p0 X.env.scope)(hN:X.N[i]?=some x:=by rfl)(hd:(x == ("__debug__" : Str))=false:=by decide)(hcd:(x == ("__classdict__" : Str))=false:=by decide):PE X (.Name x pos) (Jx_ i):=nE_ hN (.inl (h.loc x (List.mem_of_getElem? hN))) hd hcd
theorem zw(i:Nat)(h:ZM X.N p0 X.env.scope)(hN:X.N[i]?=some x:=by rfl)(hd:(x == ("__debug__" : Str))=false:=by decide)(hcd:(x == ("__classdict__" : Str))=false:=by decide):PE X (.Name x pos) (Jx_ i):=nE_ hN ((h.loc x (List.mem_of_getElem? hN)).elim .inl λz=>.inr (.inl z)) hd hcd
theorem zh(i:Nat)(h:ZL X.N p0 X.env.scope)(hi:X.N[i]?=some x:=by rfl):PG X (.Name x pos) (Hu_ i):=ah_ h.nd hi (h.loc x (List.mem_of_getElem? hi))
theorem zas{e:Expr}{te:TE}(i:Nat){pos':Pos}(h:ZL X.N p0 X.env.scope)(he:PE X e te)(hi:X.N[i]?=some x:=by rfl)(hs:IU_ e=false:=by rfl):PS X (.Assign [.Name x pos'] e pos) (Kv_ te (Hu_ i)):=ai_ h.nd hi (h.loc x (List.mem_of_getElem? hi)) he hs
theorem zL{N P:List Str}{sc:Scope}(a:sc.kind=.function:=by rfl)(b:sc.isCoroutine=false:=by rfl)(c:sc.isGenerator=false:=by rfl)(d:N.Nodup:=by rfl')(e:N.take P.length=P:=by rfl)(f:∀x∈P,sc.names.lookup x=some .local\/sc.names.lookup x=some .cell:=by rfl')(g:∀y∈sc.names,y.2≠.free:=by rfl')(l:∀x∈N,sc.names.lookup x=some .local:=by rfl'):ZL N P sc:=⟨⟨a,b,c,d,e,f,g⟩,l⟩
theorem zM{N P:List Str}{sc:Scope}(a:sc.kind=.function:=by rfl)(b:sc.isCoroutine=false:=by rfl)(c:sc.isGenerator=false:=by rfl)(d:N.Nodup:=by rfl')(e:N.take P.length=P:=by rfl)(f:∀x∈P,sc.names.lookup x=some .local\/sc.names.lookup x=some .cell:=by rfl')(g:∀y∈sc.names,y.2≠.free:=by rfl')(l:∀x∈N,sc.names.lookup x=some .local\/sc.names.lookup x=some .cell:=by rfl'):ZM N P sc:=⟨⟨a,b,c,d,e,f,g⟩,l⟩
abbrev LK(s:Stmt)(x:Str)(k:NameKind):Prop:=(FC_ s).names.lookup x=some k
abbrev stN(i:Nat):Stmt:=PySem.Challenge.pw_rimread_k27_lenses.main.body.getD i (.Pass ⟨0,0,0,0⟩)
abbrev Gz_:Stmt:=stN 18
theorem lL_:ZL ["_law_script","_law_k"] ["_law_script","_law_k"] (FC_ Gz_):=zL
theorem iB_:LK Gz_ "len" .globalImplicit:=r_
def IZ_(K:PySem.W.Frag):Sp:=λvs H Q _=>∃(a:Addr)(ns:List Int)(i:Int),vs=[.ref a,.int i]/\SqL K H a (ns.map V.int)/\0<=i/\∀z,Q (.int z) H
theorem lM_(T:Txt K mg)(F:Fn0 K mg "_law_cell_at" Gz_):Cal P w K mg base "_law_cell_at" ["_law_script","_law_k"] 1 (IZ_ K):=by
  show aQ_ F lL_.1 λf cdv A outer s H vs Q E hr h=>?_;obtain⟨a,ns,i,rfl,hS,h0,k⟩:=h;refine'⟨_,?D,?R⟩
  case D =>
   refine' aj_ ?a (ag_ (au_ ad_))
   case' a=>refine' Gj_ (aw_ Hy_ (zv 1 lL_) (al_ eM_ iB_ T.n_len aG_ (pa_c (zv 0 lL_) ab_)) (FW_ _)) (ag_ (au_ (FF_ (pq_ (K:=K) rfl) (zv 0 lL_) (zv 1 lL_)))) aD_
  case R =>
   nofun;show⟨_,.inl hS,?_⟩;rw[Ab_];show ite2 (λhl=>?_) (λhl=>?_)
   .show⟨a,_,i,V.int (ns.getD i.toNat 0),rfl,rfl,hS,c5_ h0 ?_,k _⟩;have:i.toNat<ns.length:=o_
    simp[Ag_,this,List.getD]
   .show k 0
abbrev GJ_:Stmt:=stN 19
theorem eR_:ZL ["_law_script","_law_at","_law_by","_law_prime","_law_cell","_law_big_here","_law_k","_law_one"] ["_law_script","_law_at"] (FC_ GJ_):=zL
theorem eE_:LK GJ_ "_law_cell_at" .globalImplicit:=r_
theorem jX_:LK GJ_ "range" .globalImplicit:=r_
def JY_(K:PySem.W.Frag):Sp:=λvs H Q _=>∃(a:Addr)(ns:List Int)(j:Int),vs=[.ref a,.int j]/\0<=j/\SqL K H a (ns.map V.int)/\∀z H',FA_ H H'->Q (.int z) H'
theorem K8_{a0 a1 a2 a3 a4 a5 a6 a7:Int}(i:Int)(h0:0<=i)(h1:i<8)(P:Int->Prop)(p0:P a0)(p1:P a1)(p2:P a2)(p3:P a3)(p4:P a4)(p5:P a5)(p6:P a6)(p7:P a7):
  ∃v,atI [V.int a0,.int a1,.int a2,.int a3,.int a4,.int a5,.int a6,.int a7] i=some (.int v)/\P v:=by
 have:i=0\/i=1\/i=2\/i=3\/i=4\/i=5\/i=6\/i=7:=o_
 rcases this with rfl|rfl|rfl|rfl|rfl|rfl|rfl|rfl
 .show⟨_,rfl,p0⟩
 .show⟨_,rfl,p1⟩
 .show⟨_,rfl,p2⟩
 .show⟨_,rfl,p3⟩
 .show⟨_,rfl,p4⟩
 .show⟨_,rfl,p5⟩
 .show⟨_,rfl,p6⟩
 .show⟨_,rfl,p7⟩
theorem qS_(T:Txt K mg)(F:Fn0 K mg "_law_big" GJ_) (Hs_:Cal P w K mg base "_law_cell_at" ["_law_script","_law_k"] 1 (IZ_ K)):Cal P w K mg base "_law_big" ["_law_script","_law_at"] 2 (JY_ K):=by
  show aQ_ F eR_.1 λf cdv A outer s H vs Q E hr h=>?_;obtain⟨a,ns,j,rfl,hj,hS,k⟩:=h;refine'⟨_,?D,?R⟩
  case D =>
   refine' aj_ (zas 2 eR_ (ar_ ?a)) ?b
   case' a=>refine' pa_c ad_ (pa_c ad_ (pa_c ad_ (pa_c ad_ (pa_c ad_ (pa_c ad_ (pa_c ad_ (pa_c ad_ ab_)))))))
   case' b=>refine' aj_ (zas 3 eR_ (ar_ ?c)) (aj_ (zas 4 eR_ (am_ Hs_ (hr.mono d_) eE_ (pa_c (zv 0 eR_) (pa_c (zv 1 eR_) ab_)))) ?d)
   case' c=>refine' pa_c ad_ (pa_c ad_ (pa_c ad_ (pa_c ad_ (pa_c ad_ (pa_c ad_ (pa_c ad_ (pa_c ad_ ab_)))))))
   case' d=>refine' aj_ (Gj_ (aw_ K4_ (zv 4 eR_) (FD_ p1_ ad_ ad_) (FW_ _)) (ag_ (au_ (zv 4 eR_))) aD_) ?e
   case' e=>refine' aj_ (zas 5 eR_ ad_) (aj_ (aP_ AA_ rfl (aE_ jX_ T.n_range (pa_c ad_ ab_)) ?f ?g) (ag_ (au_ (zv 5 eR_))))
   case f=>show zh 6 eR_
   case' g=>refine' aj_ (zas 7 eR_ (FD_ aN_ ?h (FD_ f5_ (zv 6 eR_) (zv 6 eR_)))) (ag_ (zas 5 eR_ (FD_ aN_ (FD_ f5_ (zv 5 eR_) ad_) ?i)))
   case' h=>refine' FD_ aN_ (FD_ aI_ (am_ Hs_ (hr.mono d_) eE_ (pa_c (zv 0 eR_) (pa_c (FD_ aN_ (zv 1 eR_) (FD_ aI_ (zv 6 eR_) ad_)) ab_))) (FD_ p1_ ad_ ad_)) ad_
   case' i=>refine' FD_ aI_ (FD_ aI_ (FD_ f5_ (zv 7 eR_) (FF_ ao_ (zv 2 eR_) (FD_ aI_ (zv 6 eR_) ad_))) (FF_ ao_ (zv 3 eR_) (FD_ aI_ (zv 6 eR_) ad_))) ad_
  case R =>
   nofun;show⟨d_,λp hp=>⟨d_,λq hq=>?_⟩⟩;generalize e1:upd H p (HO.tup _)=H1 at hq⊢;have s1:FA_ H H1:=e1▸FA_.new hp;have p1:H1 p=some (.tup _):=e1▸aa_;generalize e2:upd H1 q (HO.tup _)=H2;have s2:FA_ H1 H2:=e2▸FA_.new hq;have q2:H2 q=some (.tup _):=e2▸aa_;have p2:=s2 _ _ p1;have sS:FA_ H H2:=s1.trans s2;clear e1 e2;show⟨a,ns,j,rfl,sS.seq hS,hj,λz=>?_⟩;nofun;show⟨d_,d_,d_,?_⟩;show ite2 (λ_=>k _ _ sS) (λ_=>⟨d_,d_,?_⟩);show jB_ (λi σ H'=>H'=H2/\∃(b:Int)(v6 v7:Option V),σ=[some (V.ref a),some (V.int j),some (V.ref p),some (V.ref q),some (V.int z),some (V.int b),v6,v7]) ⟨rfl,0,none,none,rfl⟩ ?_ ?_
   .rintro i σ H' hi ⟨rfl,b,v6,v7,rfl⟩;have hi':i<60:=hi;nofun;have m9:=A2_ (0+(i:Int)) (show(9:Int)≠0 by decide);show⟨d_,a,ns,_,rfl,sS.seq hS,o_,λy=>?_⟩;nofun;show⟨d_,d_,d_,d_,.inl ⟨o_,o_⟩,.inr ⟨d_,d_⟩,d_,?_⟩;have m8:=A2_ (0+(i:Int)) (show(8:Int)≠0 by decide);have l8:=AX_ (0+(i:Int)) (show(0:Int)<8 by decide);obtain⟨v,hv,v0,v1⟩:=K8_ (a0:=48271) (a1:=69621) (a2:=16807) (a3:=39373) (a4:=21401) (a5:=60493) (a6:=87721) (a7:=31337) ((0+(i:Int))%8) m8 l8 (λv=>0<v/\v<100000) d_ d_ d_ d_ d_ d_ d_ d_;obtain⟨u,hu,u0,u1⟩:=K8_ (a0:=99991) (a1:=99989) (a2:=99971) (a3:=99961) (a4:=99929) (a5:=99923) (a6:=99907) (a7:=99901) ((0+(i:Int))%8) m8 l8 (λv=>0<v/\v<100000) d_ d_ d_ d_ d_ d_ d_ d_;simp only[p2,q2,Option.some.injEq,HO.tup.injEq,exists_eq_left'];simp only[hv,hu];nofun;show⟨.inr ⟨o_,o_⟩,d_,u0,d_,_,rfl⟩
   .rintro σ H' ⟨rfl,b,v6,v7,rfl⟩;nofun;show k _ _ sS
def dF(p:Int×Int):Dt:=.tup [.int p.1,.int p.2]
variable{H:Hp}
theorem rS_{p:Int×Int}(h:Rep H v (dF p)):∃q,v=.ref q/\H q=some (.tup [.int p.1,.int p.2]):=by obtain⟨q,xs,e,hq,x,r,e1,hx,y,r',e2,hy,e3⟩:=h;cases hx;cases hy;subst e1 e2 e3;show⟨q,e,hq⟩
abbrev G4_:Stmt:=stN 20
theorem lN_:ZL ["_law_top","_law_bottom","_law_one","_law_other"] ["_law_top","_law_bottom"] (FC_ G4_):=zL
theorem eS_:LK G4_ "_law_one" .local:=r_
theorem eT_:LK G4_ "_law_other" .local:=r_
theorem lO_:LK G4_ "abs" .globalImplicit:=r_
def J7_:Sp:=λvs H Q _=>∃t b:Int,vs=[.int t,.int b]/\(0<t/\t<=1000)/\(0<b/\b<=1000)/\∀p (f:Int×Int) H',FA_ H H'->Rep (HE_ H H') (.ref p) (dF f)->Q (.ref p) H'
theorem qT_(T:Txt K mg)(F:Fn0 K mg "_law_low" G4_):Cal P w K mg base "_law_low" ["_law_top","_law_bottom"] 1 J7_:=by
  show aQ_ F lN_.1 λf cdv A outer s H vs Q E hr h=>?_;obtain⟨a,b,rfl,ha,hb,k⟩:=h;refine'⟨_,?D,?R⟩
  case D =>
   refine' aj_ (p0_ (i:=2) (j:=3) rfl lN_.nd rfl rfl d_ eS_ eT_ (pa_c (al_ pi_ lO_ T.n_abs rC_ (pa_c (zv 0 lN_) ab_)) (pa_c (zv 1 lN_) ab_)) rfl) ?a
   case' a=>refine' aj_ (e9_ AA_ (aw_ Kp_ (zv 3 lN_) ad_ (FW_ _)) (ag_ (p0_ (i:=2) (j:=3) rfl lN_.nd rfl rfl d_ eS_ eT_ (pa_c (zv 3 lN_) (pa_c (FD_ aI_ (zv 2 lN_) (zv 3 lN_)) ab_)) rfl))) ?b
   case' b=>refine' ag_ (au_ (ar_ (pa_c (FD_ av_ (zv 0 lN_) (zv 2 lN_)) (pa_c (FD_ av_ (zv 1 lN_) (zv 2 lN_)) ab_))))
  case R =>
   nofun
   show lt_ (λσ H1=>∃(x y:Int),σ=[some (.int a),some (.int b),some (.int x),some (.int y)]/\H1=H/\(0<x/\x<=1000)/\0<=y/\y<=1000)
    (λσ _=>match σ with | [_,_,_,some (.int y)]=>y.toNat|_=>0) ?_ ?_
   .show⟨_,_,rfl,rfl,?_,o_,o_⟩;split <;> lia
   .rintro σ H1 ⟨x,y,rfl,rfl,hx,hy⟩;nofun;show ite2 (λhne=>?_) (λhe=>?_)
    .show⟨_,N_ok,?_⟩;nofun;have h1:=A2_ x (show y≠0 by lia);have h2:=AX_ x hne;show⟨hne,hne,o_,o_,o_,o_⟩
    .have hl:x.natAbs.log2<9000:=by
      have:x.natAbs<2 ^ 10:=o_
      have:=(DH_ (n:=x.natAbs) (k:=10) o_).mpr this;lia
     show⟨hx.1,hl,hx.1,hl,d_,λp hp=>k p (a/x,b/x) _ (FA_.new hp) ⟨p,_,rfl,by rw[ea_ hp,aa_],_,_,rfl,rfl,_,_,rfl,rfl,rfl⟩⟩
abbrev Gm_:Stmt:=stN 21
theorem bi_:ZL ["_law_big_here","_law_bottom","_law_top"] ["_law_big_here"] (FC_ Gm_):=zL
theorem gT_:LK Gm_ "_law_low" .globalImplicit:=r_
def Io_:Sp:=λvs H Q _=>∃z:Int,vs=[.int z]/\∀(p q:Addr) H' (f:Int×Int) (y:Int),FA_ H H'->H p=none->H q=none->H' p=some (.tup [.ref q,.int y])->H' q=some (.tup [.int f.1,.int f.2])->Q (.ref p) H'
theorem k0_(T:Txt K mg)(F:Fn0 K mg "_law_worth_of" Gm_) (Lm_:Cal P w K mg base "_law_low" ["_law_top","_law_bottom"] 1 J7_):Cal P w K mg base "_law_worth_of" ["_law_big_here"] 2 Io_:=by
  show aQ_ F bi_.1 λf cdv A outer s H vs Q E hr h=>?_;obtain⟨z,rfl,k⟩:=h;refine'⟨_,?D,?R⟩
  case D =>
   refine' aj_ (zas 1 bi_ (FD_ aN_ ad_ (FD_ aI_ (zv 0 bi_) ad_))) ?a
   case' a=>refine' aj_ (ih_ (Gj_ (aw_ GW_ (FD_ aI_ (FD_ av_ (zv 0 bi_) ad_) ad_) ad_ (FW_ _)) ?b aD_)) ?c
   case' b=>refine' ag_ (zas 1 bi_ (FD_ aN_ ad_ (FD_ aI_ (FD_ av_ (zv 0 bi_) ad_) ad_)))
   case' c=>refine' aj_ (ih_ (Gj_ (aw_ GW_ (FD_ aI_ (FD_ av_ (zv 0 bi_) ad_) ad_) ad_ (FW_ _)) ?d aD_)) ?e
   case' d=>refine' ag_ (zas 1 bi_ (FD_ aN_ ad_ (FD_ aI_ (FD_ av_ (zv 0 bi_) ad_) ad_)))
   case' e=>refine' aj_ (zas 0 bi_ (FD_ av_ (zv 0 bi_) ad_)) (aj_ (zas 2 bi_ (FD_ aN_ ad_ (FD_ aI_ (zv 0 bi_) ad_))) ?f)
   case' f=>refine' aj_ (ih_ (Gj_ (aw_ GW_ (FD_ aI_ (FD_ av_ (zv 0 bi_) ad_) ad_) ad_ (FW_ _)) ?g aD_)) ?h
   case' g=>refine' ag_ (zas 2 bi_ (FD_ aN_ ad_ (FD_ aI_ (FD_ av_ (zv 0 bi_) ad_) ad_)))
   case' h=>refine' aj_ (ih_ (Gj_ (aw_ GW_ (FD_ aI_ (FD_ av_ (zv 0 bi_) ad_) ad_) ad_ (FW_ _)) ?i aD_)) (ag_ ?j)
   case' i=>refine' ag_ (zas 2 bi_ (FD_ aN_ ad_ (FD_ aI_ (FD_ av_ (zv 0 bi_) ad_) ad_)))
   case' j=>refine' au_ (ar_ (pa_c (am_ Lm_ (hr.mono d_) gT_ (pa_c (zv 2 bi_) (pa_c (zv 1 bi_) ab_))) (pa_c (FD_ av_ (zv 0 bi_) ad_) ab_)))
  case R =>
   nofun;show⟨d_,λσ H1=>∃b:Int,σ=[some (.int z),some (.int b),none]/\H=H1/\0<b/\b<=1000,?_,?_⟩
   .nofun;show⟨d_,d_,d_,ite2 (λ_=>?_) (λ_=>?_)⟩
    .have:=A2_ (z/12) (show(12:Int)≠0 by decide);have:=AX_ (z/12) (show(0:Int)<12 by decide);show⟨d_,d_,d_,o_,o_⟩
    .have:=A2_ z (show(3:Int)≠0 by decide);have:=AX_ z (show(0:Int)<3 by decide);lia
   rintro σ H1 ⟨b,rfl,rfl,b0,b1⟩;nofun;show⟨λσ H1=>∃b:Int,σ=[some (.int z),some (.int b),none]/\H=H1/\0<b/\b<=1000,?_,?_⟩
   .nofun;show⟨d_,d_,d_,ite2 (λ_=>?_) (λ_=>⟨b0,b1⟩)⟩;have:=A2_ (z/48) (show(1000:Int)≠0 by decide);have:=AX_ (z/48) (show(0:Int)<1000 by decide);show⟨d_,d_,d_,o_,o_⟩
   clear b0 b1 b;rintro σ H1 ⟨b,rfl,rfl,b0,b1⟩;nofun;show⟨d_,d_,d_,?_⟩;generalize z/48000=y;show⟨λσ H1=>∃t:Int,σ=[some (.int y),some (.int b),some (.int t)]/\H=H1/\0<t/\t<=1000,?_,?_⟩
   .nofun;show⟨d_,d_,d_,ite2 (λ_=>?_) (λ_=>?_)⟩
    .have:=A2_ (y/20) (show(12:Int)≠0 by decide);have:=AX_ (y/20) (show(0:Int)<12 by decide);show⟨d_,d_,d_,o_,o_⟩
    .have:=A2_ y (show(5:Int)≠0 by decide);have:=AX_ y (show(0:Int)<5 by decide);lia
   rintro σ H1 ⟨t,rfl,rfl,t0,t1⟩;nofun;show⟨λσ H1=>∃t:Int,σ=[some (.int y),some (.int b),some (.int t)]/\H=H1/\0<t/\t<=1000,?_,?_⟩
   .nofun;show⟨d_,d_,d_,ite2 (λ_=>?_) (λ_=>⟨t0,t1⟩)⟩;have:=A2_ (y/80) (show(1000:Int)≠0 by decide);have:=AX_ (y/80) (show(0:Int)<1000 by decide);show⟨d_,d_,d_,o_,o_⟩
   clear t0 t1 t;rintro σ H1 ⟨t,rfl,rfl,t0,t1⟩;nofun;show⟨t,b,rfl,⟨t0,t1⟩,⟨b0,b1⟩,λq f H1 s1 r1=>?_⟩;nofun;obtain⟨q',eq,hq⟩:=rS_ r1;cases eq;obtain⟨q0,q1⟩:=bw_ hq;show⟨d_,d_,d_,λp hp=>k p q _ f (y/80000) (s1.trans (FA_.new hp)) (s1.free hp) q0 aa_ (FA_.new hp _ _ q1)⟩
open RimT
theorem un1{n c:Nat}(h:n+64<c):n+1<c:=o_
structure Tg{α:Type}(lab:α->V)(H:Hp)(l:Addr)(as_:List Addr)(T:List (List α)):Prop where
 top:H l=some (.lst (as_.map V.ref))
 len:as_.length=T.length
 row:∀p a,as_[p]?=some a->H a=some (.lst ((T.getD p []).map lab))
variable{l:Addr}{as_:List Addr}
theorem Tg.mono{α:Type}{lab:α->V}{H':Hp}{T:List (List α)}(h:Tg lab H l as_ T)(s:FA_ H H'):Tg lab H' l as_ T:=⟨s _ _ h.top,h.len,λp a e=>s _ _ (h.row p a e)⟩
theorem Tg.at_{α:Type}{lab:α->V}{T:List (List α)}(h:Tg lab H l as_ T){p:Nat}(hp:p<T.length):∃a,as_[p]?=some a/\atI (as_.map V.ref) (p:Int)=some (.ref a)/\H a=some (.lst ((T.getD p []).map lab)):=by have e:as_[p]?=some (as_[p]'(by rw[h.len];show hp)):=Aa_ _;show⟨_,e,?_,h.row p _ e⟩;rw[c5_ o_ (by rw[AC_,Ag_,e];rfl)]
abbrev Tn:=Tg (λn:Nat=>V.int n)
def cV(c:Nat×Nat):HO:=.tup [.int c.1,.int c.2]
def cK(c:Nat×Nat):List Key:=[.inl c.1,.inl c.2]
def GH_{α:Type}(H:Hp)(m:Addr)(T:List (List α)):Prop:=∃kvs,H m=some (.dT kvs)/\∀a b,Hk_ T a b->∃q,Gi_ kvs (cK a)=some (.ref q)/\H q=some (cV b)
theorem GH_.mono{α:Type}{H':Hp}{m:Addr}{T:List (List α)}(h:GH_ H m T)(s:FA_ H H'):GH_ H' m T:=by obtain⟨kvs,e,k⟩:=h;show⟨kvs,s _ _ e,λa b hab=>(k a b hab).elim λq hq=>⟨q,hq.1,s _ _ hq.2⟩⟩
abbrev FJ_:Stmt:=stN 24
theorem bb_:ZL ["_law_turns_here","_law_posts","_law_mates_here","_law_corner","_law_p","_law_k","_law_q","_law_j"] ["_law_turns_here","_law_posts","_law_mates_here","_law_corner"] (FC_ FJ_):=zL
theorem cx_:LK FJ_ "len" .globalImplicit:=r_
def HS_:Sp:=λvs H Q _=>∃(α:Type)(_:DecidableEq α)(lab:α->V)(l m c:Addr)(as_:List Addr)(T:List (List α))(P:Nat)(e:Nat×Nat),vs=[.ref l,.int P,.ref m,.ref c]/\Tg lab H l as_ T/\GH_ H m T/\Tw T/\0<P/\H c=some (cV e)/\IsC T P e /\
 ∀q H' d,FA_ H H'->H q=none->H' q=some (cV d)->Nx T P e d->Q (.ref q) H'
theorem gU_(T:Txt K mg)(F:Fn0 K mg "_law_corner_behind" FJ_):Cal P w K mg base "_law_corner_behind" ["_law_turns_here","_law_posts","_law_mates_here","_law_corner"] 1 HS_:=by
  show aQ_ F bb_.1 λf cdv A outer s H vs Q E hr h=>?_;obtain⟨α,dec,lab,l,m,c,as_,Tt,Pp,e,rfl,hT,hm,tw,P0,hc,ic,k⟩:=h;refine'⟨_,?D,?R⟩
  case D =>
   refine' aj_ (eL_ (zv 3 bb_) (aU_ (K:=K) (n:=2) rfl rfl (ak_ ?a (ak_ ?b aT_)))) ?c
   case a=>show zh 4 bb_
   case b=>show zh 5 bb_
   case' c=>refine' aj_ ?d (aj_ ?e (aj_ ?f (ag_ (au_ ?g))))
   case' d=>refine' Gj_ (aw_ GW_ (zv 5 bb_) (al_ an_ cx_ T.n_len aG_ (pa_c (FF_ aq_ (zv 0 bb_) (zv 4 bb_)) ab_)) (FW_ _)) ?h aD_
   case' h=>refine' ag_ (au_ (ar_ (pa_c (FD_ aI_ (FD_ ja_ (zv 4 bb_) ad_) (zv 1 bb_)) (pa_c ad_ ab_))))
   case' e=>refine' eL_ (ce_ (un1 hr.units) (zv 2 bb_) (ar_ (pa_c (zv 4 bb_) (pa_c (zv 5 bb_) ab_)))) (aU_ (K:=K) (n:=2) rfl rfl (ak_ ?i (ak_ ?j aT_)))
   case i=>show zh 6 bb_
   case j=>show zh 7 bb_
   case' f=>refine' Gj_ (aw_ Hy_ (zv 6 bb_) (zv 1 bb_) (FW_ _)) (ag_ (au_ (ar_ (pa_c (zv 6 bb_) (pa_c (FD_ aN_ (zv 7 bb_) ad_) ab_))))) aD_
   case' g=>refine' ar_ (pa_c (zv 6 bb_) (pa_c (FD_ aI_ (FD_ aN_ (zv 7 bb_) ad_) (al_ an_ cx_ T.n_len aG_ (pa_c (FF_ aq_ (zv 0 bb_) (zv 6 bb_)) ab_))) ab_))
  case R =>
   nofun;obtain⟨a,ea,at0,ra⟩:=hT.at_ ic.1;show⟨_,SqT.of hc,rfl,_,_,rfl,_,_,rfl,rfl,_,_,rfl,hT.top,_,at0,_,rfl,_,.inl ra,?_⟩;nofun;rw[Ab_];show ite2 (λhe=>?_) (λhe=>?_)
   .have hz:((e.1:Int)-1)%(Pp:Int)=(((e.1+Pp-1)%Pp:Nat):Int):=by rw[Int.natCast_emod,show((e.1+Pp-1:Nat):Int)=(e.1:Int)-1+Pp by lia];simp
    have he':e.2=rl Tt e.1:=by unfold rl;lia
    show⟨o_,d_,λp hp=>k p _ ((e.1+Pp-1)%Pp,0) (FA_.new hp) hp ?_ (.inl ⟨he',rfl⟩)⟩;rw[aa_,hz];rfl
   .have hlt:e.2<rl Tt e.1:=by have:=ic.2;unfold rl at this⊢;split at this <;> lia
    obtain⟨ww,hw⟩:=cO_ hlt;obtain⟨b,hb⟩:=jt_ tw hw;obtain⟨kvs,hkv,hall⟩:=hm;obtain⟨q,vq,hq⟩:=hall e b hb;show⟨d_,λp hp=>?_⟩;have s1:FA_ H (upd H p (.tup [.int e.1,.int e.2])):=FA_.new hp;generalize e1:upd H p (.tup [.int e.1,.int e.2])=H1 at s1⊢;have hp1:H1 p=some (cV e):=e1▸aa_;have g:GT_ H1 m (.ref p) (some (.ref q)):=vq▸GT_.t (k:=cK e) (s1 _ _ hkv) hp1;have hT1:=hT.mono s1;have hbl:=F8_ hb.2.choose_spec.2;show⟨_,g,_,rfl,_,SqT.of (s1 _ _ hq),rfl,_,_,rfl,_,_,rfl,rfl,_,rfl,?_⟩;show ite2 (λhlp=>?_) (λhlp=>?_)
    .show⟨_,rfl,d_,λr hr=>k r _ (b.1,b.2+1) (s1.trans (FA_.new hr)) (s1.free hr) ?_ (.inr ⟨hlt,b,hb,?_⟩)⟩
     .rw[aa_];rfl
     .rw[if_pos o_]
    .obtain⟨a2,ea2,at2,ra2⟩:=hT1.at_ hbl.2;have hl2:(0:Int)<(rl Tt b.1:Nat):=o_
     show⟨_,rfl,_,_,rfl,hT1.top,_,at2,_,rfl,_,.inl ra2,?_⟩;rw[Ab_];show⟨hl2,d_,λr hr=>k r _ (b.1,(b.2+1)%rl Tt b.1) (s1.trans (FA_.new hr)) (s1.free hr) ?_ (.inr ⟨hlt,b,hb,?_⟩)⟩
     .rw[aa_];change some (HO.tup [V.int b.1,V.int (((b.2:Int)+1)%(rl Tt b.1:Nat))])=some (HO.tup [V.int b.1,V.int (((b.2+1)%rl Tt b.1:Nat):Int)]);rw[Int.natCast_emod,Int.natCast_add];rfl
     .rw[if_neg o_]
def Cs(H:Hp):List Addr->List (Nat×Nat)->Prop
 |[],[]=>True
 |x::xs,c::cs=>H x=some (cV c)/\Cs H xs cs
 |_,_=>False
theorem Cs.mono{H H':Hp}(s:FA_ H H'):∀{xs:List Addr}{cs:List (Nat×Nat)},Cs H xs cs->Cs H' xs cs
 |[],[],_=>trivial
 |x::xs,c::cs,h=>⟨s _ _ h.1,Cs.mono s h.2⟩
theorem Cs.len{H:Hp}:∀{xs:List Addr}{cs:List (Nat×Nat)},Cs H xs cs->xs.length=cs.length
 |[],[],_=>rfl
 |x::xs,c::cs,h=>by rw[A4_,A4_,Cs.len h.2]
theorem Cs.snoc{H:Hp}{y:Addr}{d:Nat×Nat}(hy:H y=some (cV d)):∀{xs:List Addr}{cs:List (Nat×Nat)},Cs H xs cs->Cs H (xs++[y]) (cs++[d])
 |[],[],_=>⟨hy,trivial⟩
 |x::xs,c::cs,h=>⟨h.1,Cs.snoc hy h.2⟩
theorem Cs.get{H:Hp}:∀{xs:List Addr}{cs:List (Nat×Nat)}{i:Nat}{d:Nat×Nat},Cs H xs cs->cs[i]?=some d->∃x,xs[i]?=some x/\H x=some (cV d)
 |[],[],i,d,h,e=>by cases e
 |[],_::_,_,_,h,_=>h.elim
 |_::_,[],_,_,h,_=>h.elim
 |x::xs,c::cs,0,d,h,e=>by cases e;show⟨x,rfl,h.1⟩
 |x::xs,c::cs,i+1,d,h,e=>Cs.get (i:=i) h.2 e
def dC(c:Nat×Nat):Dt:=.tup [.int c.1,.int c.2]
theorem oE_{x:Addr}{c:Nat×Nat}(h:H x=some (cV c)):Rep H (.ref x) (dC c):=⟨x,_,rfl,h,_,_,rfl,rfl,_,_,rfl,rfl,rfl⟩
theorem rT_(a b:Nat×Nat):deq (dC a) (dC b)=some (decide (a=b)):=by
 by_cases h1:(a.1:Int)=b.1 <;> by_cases h2:(a.2:Int)=b.2
 .have e:a=b:=Bb_ o_ o_;subst e;simp[dC,deq,deqs]
 .have e:a≠b:=λz=>h2 (by rw[z]);simp[dC,deq,deqs,h1,h2,e]
 .have e:a≠b:=λz=>h1 (by rw[z]);simp[dC,deq,deqs,h1,h2,e]
 .have e:a≠b:=λz=>h1 (by rw[z]);simp[dC,deq,deqs,h1,h2,e]
abbrev Gk_:Stmt:=stN 25
theorem ff_:ZL ["_law_turns_here","_law_posts","_law_mates_here","_law_corner","_law_found","_law_here"] ["_law_turns_here","_law_posts","_law_mates_here","_law_corner"] (FC_ Gk_):=zL
theorem bG_:LK Gk_ "_law_corner_behind" .globalImplicit:=r_
def HJ_:Sp:=λvs H Q _=>∃(α:Type)(_:DecidableEq α)(lab:α->V)(l m c:Addr)(as_:List Addr)(T:List (List α))(P:Nat)(e:Nat×Nat),vs=[.ref l,.int P,.ref m,.ref c]/\Tg lab H l as_ T/\GH_ H m T/\Tw T/\0<P/\P<=T.length/\H c=some (cV e)/\IsC T P e/\(corners T P).length<=900 /\
 ∀R H' xs cs,FA_ H H'->H R=none->H' R=some (.lst (xs.map V.ref))->Cs H' xs cs->cs≠[]->cs.length<=(corners T P).length->(∀d∈cs,IsC T P d)->Way T P cs e->cs.head?=some e->cs.Nodup->Q (.ref R) H'
theorem m9_(T:Txt K mg)(F:Fn0 K mg "_law_region" Gk_) (GN_:Cal P w K mg base "_law_corner_behind" ["_law_turns_here","_law_posts","_law_mates_here","_law_corner"] 1 HS_):Cal P w K mg base "_law_region" ["_law_turns_here","_law_posts","_law_mates_here","_law_corner"] 2 HJ_:=by
  show aQ_ F ff_.1 λf cdv A outer s H vs Q E hr h=>?_;obtain⟨α,dec,lab,l,m,c,as_,Tt,Pp,e,rfl,hT,hm,tw,P0,PT,hc,ic,c9,k⟩:=h;refine'⟨_,?D,?R⟩
  case D =>
   refine' aj_ (zas 4 ff_ (bh_ (pa_c (zv 3 ff_) ab_))) (aj_ ?a (aj_ ?b (ag_ (au_ (zv 4 ff_)))))
   case' a=>refine' zas 5 ff_ (am_ GN_ (hr.mono d_) bG_ (pa_c (zv 0 ff_) (pa_c (zv 1 ff_) (pa_c (zv 2 ff_) (pa_c (zv 3 ff_) ab_)))))
   case' b=>refine' e9_ AA_ (aw_ (mo_ (hr.units)) (zv 5 ff_) (zv 3 ff_) (FW_ _)) (aj_ (aH_ (Gq_ AB_ AI_ AJ_ aF_ (zv 4 ff_) (pa_c (zv 5 ff_) ab_))) ?c)
   case' c=>refine' ag_ (zas 5 ff_ (am_ GN_ (hr.mono d_) bG_ (pa_c (zv 0 ff_) (pa_c (zv 1 ff_) (pa_c (zv 2 ff_) (pa_c (zv 5 ff_) ab_))))))
  case R =>
   nofun;show⟨d_,λR hR=>?_⟩;have s0:FA_ H (upd H R (.lst [.ref c])):=FA_.new hR;show⟨_,_,_,l,m,c,as_,Tt,Pp,e,rfl,hT.mono s0,hm.mono s0,tw,P0,s0 _ _ hc,ic,λq H1 d s1 hq hd nx=>?_⟩;nofun
   show lt_ (λσ H'=>∃(S:Hp)(xs:List Addr)(cs:List (Nat×Nat))(h:Addr)(d:Nat×Nat),σ=[some (.ref l),some (.int Pp),some (.ref m),some (.ref c),some (.ref R),some (.ref h)]/\FA_ H S/\S R=none/\FA_ S H'/\H' R=some (.lst (xs.map V.ref))/\Cs S xs cs/\S h=some (cV d)/\Way Tt Pp cs d/\cs.head?=some e/\cs.Nodup)
    (λσ H'=>match H' R with|some (.lst xs)=>(corners Tt Pp).length+1-xs.length|_=>0) ?_ ?_
   .have h0R:upd H R (.lst [.ref c]) R=some (.lst [.ref c]):=aa_;show⟨grow H (upd H R (.lst [.ref c])) H1,[c],[e],q,d,rfl,cQ_ s0,by rw[fc_ h0R];show hR,jK_ s0 s1,s1 _ _ h0R,⟨cQ_ s0 _ _ hc,trivial⟩,by rw[jJ_ hq];show hd,.one nx,rfl,s_⟩
   .rintro σ H' ⟨S,xs,cs,h,d,rfl,hS,SR,SH,hxs,hcs,hh,wy,hd0,nd⟩;nofun;have wl:=ql_ tw P0 PT wy hd0 ic nd;have wa:=ju_ tw P0 PT wy hd0 ic;have xl:=hcs.len;show⟨_,oE_ (SH _ _ hh),_,oE_ (SH _ _ (hS _ _ hc)),_,rT_ d e,by simp[dC,dep,deps],?_⟩;by_cases hde:d=e
    .rw[if_neg (by simp[hde])];show k R H' xs cs (hS.trans SH) hR hxs (hcs.mono SH) (l8_ wy) wl wa.2.1 (hde▸wy) hd0 nd
    .rw[if_pos (by simp[hde])];show⟨_,N_ok,?_⟩;nofun;have sz:(xs.map V.ref).length<sizeLine:=by have:=FB_ (show xs.length+1<=1000 by lia);rw[Ab_];lia
     have dn:=qk_ tw P0 PT wy hd0 ic nd hde;show⟨.inl ⟨_,SqL.of hxs⟩,_,hxs,sz,?_⟩;have SH2:FA_ S (upd H' R (.lst (xs.map V.ref++[.ref h]))):=aX_ SH SR;have e2:upd H' R (.lst (xs.map V.ref++[.ref h])) R=some (.lst (xs.map V.ref++[.ref h])):=aa_;generalize upd H' R (.lst (xs.map V.ref++[.ref h]))=H2 at SH2 e2⊢;show⟨_,_,_,l,m,h,as_,Tt,Pp,d,rfl,(hT.mono hS).mono SH2,(hm.mono hS).mono SH2,tw,P0,SH2 _ _ hh,wa.1,λq2 H3 d2 s3 hq2 hd2 nx2=>⟨⟨grow S H2 H3,xs++[h],cs++[d],q2,rfl,hS.trans (cQ_ SH2),?_,jK_ SH2 s3,?_,?_,d2,?_,.more wy nx2,?_,?_⟩,?_⟩⟩
     .rw[fc_ e2];show SR
     .rw[Ao_];show s3 _ _ e2
     .show Cs.snoc (cQ_ SH2 _ _ hh) (hcs.mono (cQ_ SH2))
     .rw[jJ_ hq2];show hd2
     .cases cs with
      |nil=>show absurd rfl (l8_ wy)
      |cons a b=>show hd0
     .rw[AM_];show⟨nd,s_,λa ha b hb ab=>?_⟩;rw[Ak_.mp hb]at ab;show dn (ab▸ha)
     .rw[s3 _ _ e2,hxs];simp only[Af_,Ab_,AS_];lia
def GB_(T:List (List Nat))(P n:Nat):List (Nat×Nat):=(List.range n).flatMap λp=>(List.range (rl T p+(if p<P then 1 else 0))).map λk=>(p,k)
theorem dq_(T:List (List Nat))(P n:Nat):GB_ T P (n+1)=GB_ T P n++(List.range (rl T n+(if n<P then 1 else 0))).map λk=>(n,k):=by unfold GB_;rw[CA_,Fh_];simp
theorem hj_(T:List (List Nat))(P:Nat){n:Nat}:∀{m:Nat},n<=m->(GB_ T P n).length<=(GB_ T P m).length
 |0,h=>by rw[Nat.le_zero.mp h];show Ai_ _
 |m+1,h=>by
  by_cases e:n=m+1
  .rw[e];show Ai_ _
  .have:=hj_ T P (n:=n) (m:=m) o_;rw[dq_,Af_];lia
theorem qe_{H:Hp}:∀{vs:List V}{cs:List (Nat×Nat)},Gd_ H vs (cs.map dC)->∃xs:List Addr,vs=xs.map V.ref/\Cs H xs cs
 |[],[],_=>⟨[],rfl,trivial⟩
 |v::vs,c::cs,h=>by
  obtain⟨x,r,e,hx,hr⟩:=h;cases e;obtain⟨q,ys,e1,hq,a,b,e2,ha,a2,b2,e3,ha2,e4⟩:=hx;cases ha;cases ha2;subst e1 e2 e3 e4;obtain⟨xs,e5,hc⟩:=qe_ hr;show⟨q::xs,by rw[e5];rfl,hq,hc⟩
 |[],_::_,h=>by obtain⟨x,r,e,_⟩:=h;cases e
 |_::_,[],h=>by cases h
abbrev F7_:Stmt:=stN 23
theorem ee_:ZM ["_law_turns_here","_law_posts","_law_found","_law_p"] ["_law_turns_here","_law_posts"] (FC_ F7_):=zM
theorem cK_:LK F7_ "_law_found" .local:=r_
theorem ef_:LK F7_ "_law_p" .cell:=r_
theorem iD_:LK F7_ "int" .globalImplicit:=r_
theorem eW_:LK F7_ "len" .globalImplicit:=r_
theorem dT_:LK F7_ "range" .globalImplicit:=r_
def Hr_:Sp:=λvs H Q _=>∃(l:Addr)(as_:List Addr)(T:List (List Nat))(P:Nat),vs=[.ref l,.int P]/\Tn H l as_ T/\T.length<=16/\(corners T P).length<=900 /\
 ∀R H',FA_ H H'->Rep (HE_ H H') (.ref R) (.lst ((corners T P).map dC))->Q (.ref R) H'
theorem lP_(T:Txt K mg)(F:Fn0 K mg "_law_corners" F7_):Cal P w K mg base "_law_corners" ["_law_turns_here","_law_posts"] 1 Hr_:=by
  show aQ_ F ee_.1 λf cdv A outer s H vs Q E hr h=>?_;obtain⟨l,as_,Tt,Pp,rfl,hT,t16,c9,k⟩:=h;refine'⟨_,?D,?R⟩
  case D =>
   refine' aj_ (ai_ (i:=2) ee_.nd rfl cK_ (bh_ ab_)) ?a
   case' a=>refine' aj_ (aP_ AA_ rfl (aE_ dT_ T.n_range (pa_c (al_ an_ eW_ T.n_len aG_ (pa_c (zw 0 ee_) ab_)) ab_)) ?b ?c) (ag_ (au_ (zw 2 ee_)))
   case b=>show d9_ (i:=3) ee_.nd rfl ef_ rfl
   case' c=>refine' ag_ (ai_ (i:=2) ee_.nd rfl cK_ (FD_ f7_ (zw 2 ee_) (cc_ (N':=["_law_k","_law_p"]) (ix:=[none,some 3]) rfl rfl (cw_ ?d) (aE_ dT_ T.n_range ?e) (λ_ _ _=>?f) (λ_ _ _=>?g) (λ_ _ _=>(ar_ (pa_c (pvc 1 rfl rfl) (pa_c (pv1 0 rfl rfl) ab_)))))))
   case d=>show(by change Hv_ (FC_ F7_) ["_law_turns_here","_law_posts","_law_found","_law_p"] _ _ _=true;decide +kernel)
   case' e=>refine' pa_c (FD_ aN_ (al_ an_ eW_ T.n_len aG_ (pa_c (FF_ aq_ (zw 0 ee_) (zw 3 ee_)) ab_)) (cl_ kh_ iD_ T.n_int mm_ (pa_c (gP_ Hy_ (zw 3 ee_) (zw 1 ee_) (FW_ _)) ab_))) ab_
   case f=>show ah_ (i:=0) (by change List.Nodup (["_law_k","_law_p"]:List Str);decide +kernel) rfl rfl
   case g=>show eC_
  case R =>
   nofun;show⟨d_,λR hR=>?_⟩;have s0:FA_ H (upd H R (.lst [])):=FA_.new hR;show⟨_,.inl (s0 _ _ hT.top),?_⟩;rw[Ab_,hT.len];show⟨o_,o_,?_⟩;rw[AC_];show jB_ (λi σ H'=>∃(R:Addr)(e:Option V),σ=[some (.ref l),some (.int Pp),some (.ref R),e]/\FA_ H H'/\Rep (HE_ H H') (.ref R) (.lst ((GB_ Tt Pp i).map dC))) ?_ ?_ ?_
   .show⟨R,none,rfl,s0,R,[],rfl,?_,rfl⟩;rw[ea_ hR,aa_]
   .rintro i σ H' hi ⟨R,e,rfl,sH,rep⟩;nofun;have hT':=hT.mono sH;obtain⟨a,ea,at0,ra⟩:=hT'.at_ hi;rw[B5_];show⟨_,hT'.top,_,at0,_,rfl,_,.inl ra,?_⟩;right
    have eN:(((Tt.getD i []).map λn:Nat=>V.int n).length:Int)+(if(i:Int)<(Pp:Int)then 1 else 0)=((rl Tt i+(if i<Pp then 1 else 0):Nat):Int):=by
     rw[Ab_];unfold rl;by_cases z:i<Pp
     .rw[if_pos o_,if_pos z];lia
     .rw[if_neg o_,if_neg z];lia
    rw[eN];have c1:=hj_ Tt Pp (n:=i+1) (m:=Tt.length) hi;have c2:(GB_ Tt Pp Tt.length).length<=900:=c9;rw[dq_,Af_,Ab_,Bn_]at c1;clear eN;generalize hN:rl Tt i+(if i<Pp then 1 else 0)=N at c1⊢;show⟨o_,o_,?_⟩;obtain⟨R',vs,eR,hR',reps⟩:=rep;cases eR;obtain⟨nR,hR1⟩:=bw_ hR';have lv:=reps.length;rw[Ab_]at lv;show ec_ (n:=N) (B:=H) (Pσ:=λσ=>∃e,σ=[e,some (.int i)]) (ds:=((List.range N).map λk=>(i,k)).map dC) sH ⟨none,rfl⟩ s_ o_ (λj H2 hj s2=>by change j<Int.toNat _;lia) (λH2 s2=>by change Int.toNat _<=_;lia) ?_ ?_
    .rintro D j z d σ' H2 H2' hD hDo hs2 hj hdj ⟨rfl,rfl⟩ ⟨e2,rfl⟩ R2 kR;nofun;show⟨d_,λp hp=>kR _ _ _ ⟨_,rfl⟩ (FA_.new hp) ?_⟩;have:d=dC (i,j):=by rw[AW_,Ag_,Ca_ hj]at hdj;show(Au_ hdj).symm
     rw[this];show oE_ ?_;obtain⟨oD,hoD⟩:=hDo;rw[eb_ (λz=>by rw[z,hoD]at hp;cases hp) ((sH.trans hs2).free hp),aa_];change some (HO.tup [V.int i,V.int (0+(j:Int))])=some (HO.tup [V.int i,V.int j]);rw[B5_]
    .intro D H2 hD s2 rep2;obtain⟨D',ws,eD,hD',reps2⟩:=rep2;cases eD;obtain⟨nD,hD1⟩:=bw_ hD';have lw:=reps2.length;rw[Ab_,Ab_,Bn_]at lw;show⟨_,rfl,_,s2 _ _ hR1,_,hD1,AH_ (FB_ (show vs.length+ws.length<=1000 by rw[lv,lw];lia)),λp hp=>⟨(sH.trans s2).trans (FA_.new hp),p,vs++ws,rfl,?_,?_⟩⟩
     .rw[ea_ ((sH.trans s2).free hp),aa_]
     .rw[dq_,hN,Ao_];show(Gd_.mono (kz_ (s2.trans (FA_.new hp))) _ reps).append (Gd_.mono (kz_ (FA_.new hp)) _ reps2)
   .rintro σ H' ⟨R,e,rfl,sH,rep⟩;nofun;show k R H' sH rep
def Dn(p k:Nat)(e:Nat×Nat):Prop:=e.1<p\/(e.1=p/\e.2<k)
theorem oF_{a b:Nat×Nat}(h:cK a=cK b):a=b:=by
 unfold cK at h;injection h with h1 h2
 injection h2 with h2 _
 injection h1 with h1
 injection h2 with h2
 show Bb_ o_ o_
structure Mi{α:Type}(ky:α->Key)(T:List (List α))(S:Hp)(D:Nat×Nat->Prop)(k1:List (Key×V))(k2:List (List Key×V)):Prop where
 fi:∀w:α,(∃c q,D c/\wi T c=some w/\Gi_ k1 (ky w)=some (.ref q)/\S q=some (cV c))\/((∀c,D c->wi T c≠some w)/\Gi_ k1 (ky w)=none)
 ma:∀a b,Hk_ T a b->D a->D b->∃q,Gi_ k2 (cK a)=some (.ref q)/\S q=some (cV b)
variable{S:Hp}{k1:List (Key×V)}{k2:List (List Key×V)}
theorem Mi.mono{α:Type}{ky:α->Key}{T:List (List α)}{S':Hp}{D:Nat×Nat->Prop}(h:Mi ky T S D k1 k2)(s:FA_ S S'):Mi ky T S' D k1 k2 :=
 ⟨λw=>(h.fi w).imp (λ⟨c,q,a,b,d,e⟩=>⟨c,q,a,b,d,s _ _ e⟩) id,λa b m x y=>(h.ma a b m x y).elim λq z=>⟨q,z.1,s _ _ z.2⟩⟩
theorem Mi.imp{α:Type}{ky:α->Key}{T:List (List α)}{D D':Nat×Nat->Prop}(h:Mi ky T S D k1 k2)(i:∀c w,wi T c=some w->(D c↔D' c)):Mi ky T S D' k1 k2 :=
 ⟨λw=>(h.fi w).imp (λ⟨c,q,a,b,d,e⟩=>⟨c,q,(i c _ b).mp a,b,d,e⟩) (λ⟨a,b⟩=>⟨λc x y=>a c ((i c _ y).mpr x) y,b⟩),λa b m x y=>by obtain⟨_,w,wa,wb⟩:=id m;show h.ma a b m ((i a _ wa).mpr x) ((i b _ wb).mpr y)⟩
theorem Mi.new{α:Type}[DecidableEq α]{ky:α->Key}{T:List (List α)}{D:Nat×Nat->Prop}(h:Mi ky T S D k1 k2){c0:Nat×Nat}{w:α}{q0:Addr}(inj:∀a b,ky a=ky b->a=b)(hw:wi T c0=some w)(hn:Gi_ k1 (ky w)=none)(h0:S q0=some (cV c0)):
  Mi ky T S (λc=>D c\/c=c0) (Gn_ k1 (ky w) (.ref q0)) k2:=by
 have no:∀c,D c->wi T c≠some w:=by
  rcases h.fi w with⟨c,q,_,_,e,_⟩|⟨a,_⟩
  .rw[hn]at e;cases e
  .show a
 show⟨λw'=>?_,λa b m x y=>?_⟩
 .rw[aA_];by_cases e:w'=w
  .subst e;show .inl ⟨c0,q0,.inr rfl,hw,by rw[if_pos rfl],h0⟩
  .rw[if_neg (λz=>e (inj _ _ z))]
   rcases h.fi w' with⟨c,q,a,b,d,f⟩|⟨a,b⟩
   .show .inl ⟨c,q,.inl a,b,d,f⟩
   .show .inr ⟨λc hc hcw=>?_,b⟩
    rcases hc with hc|hc
    .show a c hc hcw
    .rw[hc,hw]at hcw;cases hcw;show e rfl
 .obtain⟨ne,w',wa,wb⟩:=id m
  rcases x with x|x <;> rcases y with y|y
  .show h.ma a b m x y
  .rw[y,hw]at wb;cases wb;show absurd wa (no a x)
  .rw[x,hw]at wa;cases wa;show absurd wb (no b y)
  .show absurd (x.trans y.symm) ne
variable{q:Addr}
theorem Mi.old{α:Type}[DecidableEq α]{ky:α->Key}{T:List (List α)}{D:Nat×Nat->Prop}(tw:Tw T)(h:Mi ky T S D k1 k2){c0 c:Nat×Nat}{w:α}{q0:Addr}(hw:wi T c0=some w)(hD:¬ D c0)(hc:D c)(hcw:wi T c=some w)(hq:S q=some (cV c))(h0:S q0=some (cV c0)):
  Mi ky T S (λc=>D c\/c=c0) k1 (Gn_ (Gn_ k2 (cK c0) (.ref q)) (cK c) (.ref q0)):=by
 have ne:c≠c0:=λz=>hD (z▸hc);have m0:Hk_ T c c0:=⟨ne,w,hcw,hw⟩;show⟨λw'=>?_,λa b m x y=>?_⟩
 .rcases h.fi w' with⟨c,q,a,b,d,f⟩|⟨a,b⟩
  .show .inl ⟨c,q,.inl a,b,d,f⟩
  .show .inr ⟨λc' hc' hcw'=>?_,b⟩
   rcases hc' with hc'|hc'
   .show a c' hc' hcw'
   .rw[hc',hw]at hcw';cases hcw';show a c hc hcw
 .rw[aA_,aA_];by_cases e1:a=c
  .subst e1;rw[if_pos rfl,d3_ tw m m0];show⟨q0,rfl,h0⟩
  .rw[if_neg (λz=>e1 (oF_ z))];by_cases e2:a=c0
   .subst e2;rw[if_pos rfl,d3_ tw m m0.symm];show⟨q,rfl,hq⟩
   .rw[if_neg (λz=>e2 (oF_ z))];have da:=x.resolve_right e2
    rcases y with y|y
    .show h.ma a b m da y
    .rw[y]at m;show absurd (d3_ tw m.symm m0.symm) e1
structure MS(H S H':Hp)(F M:Addr)(k1:List (Key×V))(k2:List (List Key×V)):Prop where
 hS:FA_ H S
 sF:S F=none
 sM:S M=none
 sH:FA_ S H'
 f:H' F=some (.dK k1)
 m:H' M=some (.dT k2)
variable{H':Hp}{F M:Addr}{o:HO}
theorem MS.new{p:Addr}(h:MS H S H' F M k1 k2)(hp:H' p=none):MS H (upd S p o) (upd H' p o) F M k1 k2:=by
 have nF:F≠p:=λz=>by rw[<-z,h.f]at hp;cases hp
 have nM:M≠p:=λz=>by rw[<-z,h.m]at hp;cases hp
 show⟨h.hS.trans (a4_ h.sH hp),by rw[af_ nF];show h.sF,by rw[af_ nM];show h.sM,gb_ h.sH hp,by rw[af_ nF];show h.f,by rw[af_ nM];show h.m⟩
theorem MS.ne(h:MS H S H' F M k1 k2):F≠M:=λz=>by have:=h.f;rw[z,h.m]at this;cases this
theorem MS.putF(h:MS H S H' F M k1 k2)(k1':List (Key×V)):MS H S (upd H' F (.dK k1')) F M k1' k2 :=
 ⟨h.hS,h.sF,h.sM,aX_ h.sH h.sF,aa_,by rw[af_ h.ne.symm];show h.m⟩
theorem MS.putM(h:MS H S H' F M k1 k2)(k2':List (List Key×V)):MS H S (upd H' M (.dT k2')) F M k1 k2' :=
 ⟨h.hS,h.sF,h.sM,aX_ h.sH h.sM,by rw[af_ h.ne];show h.f,aa_⟩
abbrev Gp_:Stmt:=stN 22
theorem dU_:ZL ["_law_turns_here","_law_first","_law_mates_here","_law_p","_law_k","_law_wire"] ["_law_turns_here"] (FC_ Gp_):=zL
theorem gl_:LK Gp_ "len" .globalImplicit:=r_
theorem eX_:LK Gp_ "range" .globalImplicit:=r_
def Ht_:Sp:=λvs H Q _=>∃(α:Type)(_:DecidableEq α)(lab:α->V)(ky:α->Key)(l:Addr)(as_:List Addr)(T:List (List α)),vs=[.ref l]/\(∀w,lab w=kV (ky w))/\(∀a b,ky a=ky b->a=b)/\Tg lab H l as_ T/\Tw T/\T.length<=16/\(∀p,rl T p<=30)/\∀m H',FA_ H H'->H m=none->GH_ H' m T->Q (.ref m) H'
theorem oG_(T:Txt K mg)(F:Fn0 K mg "_law_mates" Gp_):Cal P w K mg base "_law_mates" ["_law_turns_here"] 1 Ht_:=by
  show aQ_ F dU_.1 λf cdv A outer s H vs Q E hr h=>?_;obtain⟨α,dec,lab,ky,l,as_,Tt,rfl,hlab,inj,hT,tw,t16,r30,k⟩:=h;refine'⟨_,?D,?R⟩
  case D =>
   refine' aj_ ?a (aj_ ?b ?c)
   case a=>show zas 1 dU_ hT_
   case b=>show zas 2 dU_ fd_
   case' c=>refine' aj_ (aP_ AA_ rfl (aE_ eX_ T.n_range (pa_c (al_ an_ gl_ T.n_len aG_ (pa_c (zv 0 dU_) ab_)) ab_)) ?d ?e) (ag_ (au_ (zv 2 dU_)))
   case d=>show zh 3 dU_
   case' e=>refine' ag_ (aP_ AA_ rfl ?f ?g (ac_ (zas 5 dU_ (FF_ aq_ (FF_ aq_ (zv 0 dU_) (zv 3 dU_)) (zv 4 dU_))) ?h))
   case' f=>refine' aE_ eX_ T.n_range (pa_c (al_ an_ gl_ T.n_len aG_ (pa_c (FF_ aq_ (zv 0 dU_) (zv 3 dU_)) ab_)) ab_)
   case g=>show zh 4 dU_
   case' h=>refine' ag_ (Gj_ (f2_ (p6_ (un1 hr.units) (zv 5 dU_) (zv 1 dU_))) ?i (ag_ (cR_ (un1 hr.units) (zv 1 dU_) (zv 5 dU_) (ar_ (pa_c (zv 3 dU_) (pa_c (zv 4 dU_) ab_))) rfl)))
   case' i=>refine' ac_ (cR_ (un1 hr.units) (zv 2 dU_) (ar_ (pa_c (zv 3 dU_) (pa_c (zv 4 dU_) ab_))) (ce_ (un1 hr.units) (zv 1 dU_) (zv 5 dU_)) rfl) ?j
   case' j=>refine' ag_ (cR_ (un1 hr.units) (zv 2 dU_) (ce_ (un1 hr.units) (zv 1 dU_) (zv 5 dU_)) (ar_ (pa_c (zv 3 dU_) (pa_c (zv 4 dU_) ab_))) rfl)
  case R =>
   nofun;intro Fd hFd Md hMd;have s0:FA_ H (upd (upd H Fd (HO.dK [])) Md (HO.dT [])):=(FA_.new hFd).trans (FA_.new hMd);have nF:Fd≠Md:=λz=>by rw[<-z,aa_]at hMd;cases hMd
   have hM0:H Md=none:=(FA_.new hFd).free hMd;have ms0:MS H H (upd (upd H Fd (HO.dK [])) Md (HO.dT [])) Fd Md [] []:=⟨FA_.refl _,hFd,hM0,s0,by rw[af_ nF];show aa_,aa_⟩;generalize upd (upd H Fd (HO.dK [])) Md (HO.dT [])=H0 at s0 ms0⊢;show⟨_,.inl (s0 _ _ hT.top),?_⟩;rw[Ab_,hT.len];show⟨o_,o_,?_⟩;rw[AC_];show a5_ (λi σ H'=>∃(S:Hp)(k1:List (Key×V))(k2:List (List Key×V))(e3 e4 e5:Option V),σ=[some (.ref l),some (.ref Fd),some (.ref Md),e3,e4,e5]/\MS H S H' Fd Md k1 k2/\Mi ky Tt S (Dn i 0) k1 k2/\k1.length<=30*i/\k2.length<=60*i) ?_ ?_ ?_
   .show⟨H,[],[],_,_,_,rfl,ms0,⟨λw=>.inr ⟨λc hc=>?_,rfl⟩,λa b m x y=>?_⟩,Ai_ _,Ai_ _⟩
    .rcases hc with z|z <;> lia
    .rcases x with z|z <;> lia
   .rintro i σ H' hi kc kb hkc hkb G hG ⟨S,k1,k2,e3,e4,e5,rfl,ms,mi,l1,l2⟩;show hG ?_;have hT1:=(hT.mono ms.hS).mono ms.sH;obtain⟨a,ea,at0,ra⟩:=hT1.at_ hi;nofun;rw[B5_];show⟨_,hT1.top,_,at0,_,rfl,_,.inl ra,?_⟩;rw[Ab_];have r3:=r30 i;unfold rl at r3;show⟨o_,o_,?_⟩;rw[AC_];show a5_ (λj σ H'=>∃(S:Hp)(k1:List (Key×V))(k2:List (List Key×V))(e4 e5:Option V),σ=[some (.ref l),some (.ref Fd),some (.ref Md),some (.int i),e4,e5]/\MS H S H' Fd Md k1 k2/\Mi ky Tt S (Dn i j) k1 k2/\k1.length<=30*i+j/\k2.length<=60*i+2*j) ?_ ?_ ?_
    .show⟨S,k1,k2,_,_,rfl,ms,mi,o_,o_⟩
    .clear ms mi l1 l2 hT1 ra ea at0 a k1 k2 S;rintro j σ H' hj kc2 kb2 hkc2 hkb2 G2 hG2 ⟨S,k1,k2,e4,e5,rfl,ms,mi,l1,l2⟩;show hG2 ?_;have hT1:=(hT.mono ms.hS).mono ms.sH;obtain⟨a,ea,at0,ra⟩:=hT1.at_ hi;nofun;simp only[B5_];obtain⟨w,hw⟩:∃w,(Tt.getD i [])[j]?=some w:=⟨_,Aa_ hj⟩;have hwi:wi Tt (i,j)=some w:=hw;have i16:i<16:=o_
     have nD:¬ Dn i j (i,j):=by unfold Dn;lia
     have eD:∀c w',wi Tt c=some w'->((Dn i j c\/c=(i,j))↔Dn i (j+1) c):=λc w' _=>by
      unfold Dn;constructor
      .rintro((z|⟨z,z2⟩)|z)
       .show .inl z
       .show .inr ⟨z,o_⟩
       .rw[z];show .inr ⟨rfl,CU_ _⟩
      .rintro(z|⟨z,z2⟩)
       .show .inl (.inl z)
       .by_cases y:c.2=j
        .show .inr (Bb_ z y)
        .show .inl (.inr ⟨z,o_⟩)
     show⟨_,hT1.top,_,at0,_,rfl,_,ra,kV (ky w),?_,?_⟩
     .show c5_ o_ (by rw[AC_,Ag_,hw,CB_,hlab])
     nofun;show⟨_,GT_.k (k:=ky w) ms.f,?_⟩
     rcases mi.fi w with⟨c,q,dc,wc,hv,hq⟩|⟨no,hv⟩
     .rw[if_pos (by rw[hv];rfl)];nofun;show⟨.ref q,hv▸GT_.k (k:=ky w) ms.f,d_,λp hp=>?_⟩;have ms1:=ms.new (o:=cV (i,j)) hp;have ms2:=ms1.putM (Gn_ k2 (cK (i,j)) (.ref q));have z1:=aJ_ k2 (cK (i,j)) (.ref q);show⟨_,HF_.t (k:=cK (i,j)) ms1.m aa_ (FB_ o_),?_⟩;nofun;show⟨d_,λq0 hq0=>?_⟩;have ms3:=ms2.new (o:=cV (i,j)) hq0;have mi3:=(mi.mono (a4_ (o:=cV (i,j)) ms.sH hp)).mono (a4_ (o:=cV (i,j)) ms2.sH hq0);have hqS:=a4_ (o:=cV (i,j)) ms2.sH hq0 _ _ (a4_ (o:=cV (i,j)) ms.sH hp _ _ hq);have z2:=aJ_ (Gn_ k2 (cK (i,j)) (.ref q)) (cK c) (.ref q0);show⟨.ref q,hv▸GT_.k (k:=ky w) ms3.f,_,HF_.t (k:=cK c) ms3.m (ms3.sH _ _ hqS) (FB_ o_),?_⟩;show hkc2 _ _ ⟨_,_,_,_,_,rfl,ms3.putM _,(Mi.old tw mi3 hwi nD dc wc hqS aa_).imp eD,o_,o_⟩
     .rw[if_neg (by rw[hv];decide)];show⟨d_,λq0 hq0=>?_⟩;have ms1:=ms.new (o:=cV (i,j)) hq0;have z1:=aJ_ k1 (ky w) (.ref q0);show⟨_,HF_.k (k:=ky w) ms1.f (FB_ o_),?_⟩;show hkc2 _ _ ⟨_,_,_,_,_,rfl,ms1.putF _,((mi.mono (a4_ ms.sH hq0)).new inj hwi hv aa_).imp eD,o_,o_⟩
    .rintro σ H' ⟨S,k1,k2,e4,e5,rfl,ms,mi,l1,l2⟩;show hkc _ _ ⟨S,k1,k2,_,_,_,rfl,ms,mi.imp λc w hw=>?_,o_,o_⟩;have:=(F8_ hw).1;unfold rl at this;unfold Dn;constructor
     .rintro(z|⟨z,z2⟩)
      .show .inl o_
      .show .inl o_
     .rintro(z|⟨z,z2⟩)
      .by_cases y:c.1=i
       .rw[y]at this;show .inr ⟨y,this⟩
       .show .inl o_
      .lia
   .rintro σ H' ⟨S,k1,k2,e3,e4,e5,rfl,ms,mi,l1,l2⟩;nofun;show k Md H' (ms.hS.trans ms.sH) hM0 ⟨k2,ms.m,λa b m=>?_⟩;obtain⟨ne,w,wa,wb⟩:=id m;obtain⟨q,h1,h2⟩:=mi.ma a b m (.inl (F8_ wa).2) (.inl (F8_ wb).2);show⟨q,h1,ms.sH _ _ h2⟩
structure To(B H:Hp)(l:Addr)(as_:List Addr)(T:List (List Nat)):Prop where
 tn:Tn H l as_ T
 nd:as_.Nodup
 nl:l∉as_
 fl:B l=none
 fa:∀a∈as_,B a=none
variable{B:Hp}{T:List (List Nat)}
theorem To.mono(h:To B H l as_ T)(s:FA_ H H'):To B H' l as_ T:=⟨h.tn.mono s,h.nd,h.nl,h.fl,h.fa⟩
theorem lQ_(n p:Nat):(List.replicate n ([]:List Nat)).getD p []=[]:=by rw[Ad_,Eo_];split <;> rfl
theorem Jz_(T:List (List Nat))(p:Nat):rl T p<=T.flatten.length:=by
 unfold rl;rw[Ad_];cases e:T[p]? with
 |none=>show Az_ _
 |some l =>
  obtain⟨hp,e1⟩:=Ae_.mp e;have h2:T.flatten.length=(T.take p).flatten.length+(T.drop p).flatten.length:=by rw[<-Af_,<-AT_,BF_]
  rw[B0_ hp,e1,AF_,Af_]at h2;change l.length<=_;lia
theorem both{c1:Prop}[Decidable c1]{α:Type}{C:α->Prop}{c2:α->Prop}[∀x,Decidable (c2 x)]{X:α->Prop}{Y:Prop}(a:α)(ha:C a)(hX:c1->c2 a->X a)(hY:Y):if c1 then ∃x,C x/\(if c2 x then X x else Y)else Y:=by
 by_cases h1:c1
 .rw[if_pos h1];show⟨a,ha,?_⟩;by_cases h2:c2 a
  .rw[if_pos h2];show hX h1 h2
  .rw[if_neg h2];show hY
 .rw[if_neg h1];show hY
theorem lR_(l:List Nat)(k wire:Nat):(l.map λn:Nat=>V.int n).take k++V.int (0+(wire:Nat))::(l.map λn:Nat=>V.int n).drop k=(RimT.ins l k wire).map λn:Nat=>V.int n:=by unfold RimT.ins;rw[Ao_,Ay_,C0_,Df_,B5_]
theorem To.ins(h:To B H l as_ T){c:Nat×Nat}{a:Addr}(ha:as_[c.1]?=some a)(wire:Nat):To B (upd H a (.lst ((RimT.ins (T.getD c.1 []) c.2 wire).map λn:Nat=>V.int n))) l as_ (Gx_ T c wire):=by
 have la:l≠a:=λe=>h.nl (by rw[e];show Am_ ha);have cl:c.1<as_.length:=(Ae_.mp ha).1;show⟨⟨by rw[af_ la];show h.tn.top,by rw[aK_];show h.tn.len,λp b hb=>?_⟩,h.nd,h.nl,h.fl,h.fa⟩;by_cases e:c.1=p
 .subst e;rw[ha]at hb;cases hb;rw[aa_];unfold Gx_;rw[Ad_ (l:=T.set _ _),BT_,if_pos rfl,if_pos (by rw[<-h.tn.len];show cl)];rfl
 .have ba:b≠a:=λz=>by rw[z]at hb;show e ((A1_ cl h.nd).mp (ha.trans hb.symm))
  rw[af_ ba,h.tn.row p b hb];unfold Gx_;rw[Ad_ (l:=T.set _ _),BT_,if_neg e,<-Ad_]
theorem To.more(h:To B H l as_ T)(sB:FA_ B H){a:Addr}(na:H a=none)(r:List Nat):To B (upd (upd H a (.lst (r.map λn:Nat=>V.int n))) l (.lst ((as_++[a]).map V.ref))) l (as_++[a]) (T++[r]):=by
 have la:l≠a:=ae_ h.tn.top na;have an:a∉as_:=λz=>by obtain⟨p,hp,e⟩:=AD_.mp z;have:=h.tn.row p a (by rw[Aa_ hp,e]);rw[na]at this;cases this
 show⟨⟨aa_,by simp[h.tn.len],λp b hb=>?_⟩,AM_.mpr ⟨h.nd,s_,λx hx y hy e=>an (by rw[<-Ak_.mp hy,<-e];show hx)⟩,λz=>?_,h.fl,λb hb=>?_⟩
 .have bl:b≠l:=λe=>by
   rw[e]at hb
   rcases Aq_.mp (Am_ hb)with z|z
   .show h.nl z
   .show la (Ak_.mp z)
  rw[af_ bl];by_cases hp:p<as_.length
  .rw[Al_ hp]at hb;have e:=h.tn.row p b hb;rw[af_ (λz=>by rw[z,na]at e;cases e),e,Ad_,Ad_,Al_ (by rw[<-h.tn.len];show hp)]
  .rw[Ap_ o_]at hb;have e:=Ak_.mp (Am_ hb);have hz:p=as_.length:=by have:=(Ae_.mp hb).1;simp at this;lia
   rw[e,aa_,hz,h.tn.len,Ad_,Ap_ (Ai_ _)];simp
 .rcases Aq_.mp z with z|z
  .show h.nl z
  .show la (Ak_.mp z)
 .rcases Aq_.mp hb with z|z
  .show h.fa b z
  .rw[Ak_.mp z];show sB.free na
abbrev FV_:Stmt:=stN 26
theorem bc_:ZL ["_law_big_here","_law_posts","_law_many","_law_within","_law_turns_here","_law_wire","_law_corners_here","_law_one","_law_way","_law_region_here","_law_other","_law_p","_law_k"] ["_law_big_here","_law_posts","_law_many","_law_within"] (FC_ FV_):=zL
theorem bm_:LK FV_ "_law_turns_here" .local:=r_
theorem gm_:LK FV_ "_law_corners" .globalImplicit:=r_
theorem hB_:LK FV_ "_law_mates" .globalImplicit:=r_
theorem gV_:LK FV_ "_law_region" .globalImplicit:=r_
theorem b3_:LK FV_ "len" .globalImplicit:=r_
theorem eY_:LK FV_ "range" .globalImplicit:=r_
theorem hC_:LK FV_ "sorted" .globalImplicit:=r_
def Iq_:Sp:=λvs H Q _=>∃(z:Int)(P W:Nat),vs=[.int z,.int P,.int W,.int 10]/\1<=P/\P<=6/\W<=15 /\
 ∀(p l:Addr)(as_:List Addr)(T:List (List Nat))(y:Int) H',FA_ H H'->H' p=some (.tup [.ref l,.int y])->To H H' l as_ T->Gr P W T->Q (.ref p) H'
theorem oH_(T:Txt K mg)(F:Fn0 K mg "_law_grown" FV_) (II_:Cal P w K mg base "_law_corners" ["_law_turns_here","_law_posts"] 1 Hr_) (Hz_:Cal P w K mg base "_law_mates" ["_law_turns_here"] 1 Ht_) (Ji_:Cal P w K mg base "_law_region" ["_law_turns_here","_law_posts","_law_mates_here","_law_corner"] 2 HJ_):Cal P w K mg base "_law_grown" ["_law_big_here","_law_posts","_law_many","_law_within"] 3 Iq_:=by
  show aQ_ F bc_.1 λf cdv A outer s H vs Q E hr h=>?_;obtain⟨z,Pp,W,rfl,P1,P6,W15,k⟩:=h;refine'⟨_,?D,?R⟩
  case D =>
   refine' ac_ (jF_ (i:=4) (N':=["_law_p"]) (ix:=[none]) rfl rfl bc_.nd rfl bm_ rfl (cw_ ?a) (aE_ eY_ T.n_range (pa_c (zv 1 bc_) ab_)) (λ_ _ _=>?b) (λ_ _ _=>?c) (λ_ _ _=>(bh_ ab_))) ?d
   case a=>show(by change Hv_ (FC_ FV_) ["_law_big_here","_law_posts","_law_many","_law_within","_law_turns_here","_law_wire","_law_corners_here","_law_one","_law_way","_law_region_here","_law_other","_law_p","_law_k"] _ _ _=true;decide +kernel)
   case b=>show ah_ (i:=0) (by change List.Nodup (["_law_p"]:List Str);decide +kernel) rfl rfl
   case c=>show eC_
   case' d=>refine' aj_ ?e (ag_ (au_ (ar_ (pa_c (zv 4 bc_) (pa_c (zv 0 bc_) ab_)))))
   case' e=>refine' aP_ AA_ rfl (aE_ eY_ T.n_range (pa_c (zv 2 bc_) ab_)) ?f (ac_ (zas 6 bc_ (am_ II_ (hr.mono d_) gm_ (pa_c (zv 4 bc_) (pa_c (zv 1 bc_) ab_)))) ?g)
   case f=>show zh 5 bc_
   case' g=>refine' ac_ (zas 7 bc_ (FF_ aq_ (zv 6 bc_) (FD_ aI_ (zv 0 bc_) (al_ an_ b3_ T.n_len aG_ (pa_c (zv 6 bc_) ab_))))) ?h
   case' h=>refine' ac_ (zas 0 bc_ (FD_ av_ (zv 0 bc_) (al_ an_ b3_ T.n_len aG_ (pa_c (zv 6 bc_) ab_)))) ?i
   case' i=>refine' ac_ (zas 8 bc_ (FD_ aI_ (zv 0 bc_) ad_)) (ac_ (zas 0 bc_ (FD_ av_ (zv 0 bc_) ad_)) (ag_ ?j))
   case' j=>refine' Gj_ ?k (ac_ ?l (ag_ (aH_ (Gq_ AB_ AI_ AJ_ aF_ (zv 4 bc_) (pa_c (bh_ (pa_c (zv 5 bc_) ab_)) ab_))))) ?m
   case' k=>refine' PW.pt (mi_ (aw_ GW_ (zv 8 bc_) ad_ (FW_ _)) (jz_ (aw_ Hy_ (al_ an_ b3_ T.n_len aG_ (pa_c (zv 4 bc_) ab_)) (FD_ aN_ (zv 1 bc_) (zv 3 bc_)) (FW_ _))))
   case' l=>refine' aH_ (Gq_ AB_ Eh_ Ei_ kH_ (FF_ aq_ (zv 4 bc_) (FF_ ao_ (zv 7 bc_) ad_)) (pa_c (FF_ ao_ (zv 7 bc_) ad_) (pa_c (zv 5 bc_) ab_)))
   case' m=>refine' ac_ ?n (ac_ (zas 10 bc_ (FF_ aq_ (zv 9 bc_) (FD_ aI_ (zv 0 bc_) (al_ an_ b3_ T.n_len aG_ (pa_c (zv 9 bc_) ab_))))) ?o)
   case' n=>refine' zas 9 bc_ (am_ Ji_ (hr.mono d_) gV_ (pa_c (zv 4 bc_) (pa_c (zv 1 bc_) (pa_c (am_ Hz_ (hr.mono d_) hB_ (pa_c (zv 4 bc_) ab_)) (pa_c (zv 7 bc_) ab_)))))
   case' o=>refine' ac_ (zas 0 bc_ (FD_ av_ (zv 0 bc_) (al_ an_ b3_ T.n_len aG_ (pa_c (zv 9 bc_) ab_)))) ?p
   case' p=>refine' ag_ (aP_ AA_ rfl ?q (aU_ (K:=K) (n:=2) rfl rfl (ak_ ?r (ak_ ?s aT_))) ?t)
   case' q=>refine' aL_ (K:=K) rfl (mZ_ hr.units hC_ T.n_sorted (pa_c (bh_ (pa_c (zv 7 bc_) (pa_c (zv 10 bc_) ab_))) ab_))
   case r=>show zh 11 bc_
   case s=>show zh 12 bc_
   case' t=>refine' ag_ (aH_ (Gq_ AB_ Eh_ Ei_ kH_ (FF_ aq_ (zv 4 bc_) (zv 11 bc_)) (pa_c (zv 12 bc_) (pa_c (zv 5 bc_) ab_))))
  case R =>
   nofun;show⟨o_,o_,?_⟩;rw[show Int.toNat (Pp:Int)=Pp by lia];intro D hD;show⟨λi m σ H'=>m=Pp-i/\i<=Pp/\(∃e,σ=[e])/\FA_ H H'/\∃as_:List Addr,as_.length=i/\To H H' D as_ (List.replicate i []),⟨Pp,s_,Az_ _,⟨_,rfl⟩,FA_.new hD,[],rfl,⟨⟨aa_,rfl,λp a h=>(by cases h)⟩,A8_,λh=>(by cases h),hD,λa h=>(by cases h)⟩⟩,?_⟩;rintro i m σ H' ⟨rfl,hi,⟨e,rfl⟩,s1,as_,al,hT⟩;by_cases hlt:i<Pp
   .show .inr ⟨hlt,λσ2 H2=>(∃e,σ2=[e])/\FA_ H H2/\∃as_:List Addr,as_.length=i+1/\To H H2 D as_ (List.replicate (i+1) []),λσ2 H2 ⟨a,b,c⟩=>⟨Pp-(i+1),o_,rfl,hlt,a,b,c⟩,?_⟩;rintro x H'' ⟨rfl,rfl⟩;nofun;show⟨Az_ _,λa na=>?_⟩;have fa:H a=none:=s1.free na;have Da:D≠a:=ae_ hT.tn.top na;show⟨as_.map V.ref,by rw[af_ Da];show hT.tn.top,FB_ (by rw[Ab_];lia),⟨_,rfl⟩,λb o hb=>?_,as_++[a],by simp[al],?_⟩
    .rw[af_ (ae_ hb hD),af_ (ae_ hb fa)];show s1 _ _ hb
    .have an:a∉as_:=λh=>by obtain⟨p,hp,e⟩:=AD_.mp h;have:=hT.tn.row p a (by rw[Aa_ hp,e]);rw[na]at this;cases this
     show⟨⟨by rw[aa_,Ao_];rfl,by simp[al],λp b hb=>?_⟩,?_,?_,hD,λb hb=>?_⟩
     .have hbD:b≠D:=λe=>by
       rw[e]at hb
       rcases Aq_.mp (Am_ hb)with h|h
       .show hT.nl h
       .show Da (Ak_.mp h)
      rw[af_ hbD];by_cases hp:p<as_.length
      .rw[Al_ hp]at hb;have e:=hT.tn.row p b hb;rw[af_ (λz=>by rw[z,na]at e;cases e),e,lQ_,show([]:List Nat)::List.replicate i []=List.replicate (i+1) []from rfl,lQ_]
      .have e:b=a:=by rw[Ap_ o_]at hb;have:=Am_ hb;show Ak_.mp this
       rw[e,aa_,show([]:List Nat)::List.replicate i []=List.replicate (i+1) []from rfl,lQ_];rfl
     .show AM_.mpr ⟨hT.nd,s_,λx hx y hy e=>an (by rw[<-Ak_.mp hy,<-e];show hx)⟩
     .intro h
      rcases Aq_.mp h with h|h
      .show hT.nl h
      .show Da (Ak_.mp h)
     .rcases Aq_.mp hb with h|h
      .show hT.fa b h
      .rw[Ak_.mp h];show fa
   .have e:i=Pp:=o_
    subst e;show .inl ⟨Ai_ _,?_⟩;nofun;show⟨o_,o_,?_⟩;rw[show Int.toNat (W:Int)=W by lia];show a5_ (λv σ H2=>∃(z:Int)(e5 e6 e7 e8 e9 e10 e11 e12:Option V)(as_:List Addr)(T:List (List Nat)),σ=[some (.int z),some (.int i),some (.int W),some (.int 10),some (.ref D),e5,e6,e7,e8,e9,e10,e11,e12]/\FA_ H H2/\To H H2 D as_ T/\Gr i v T) ⟨z,none,none,none,none,none,none,none,none,as_,_,rfl,s1,hT,o9_ i⟩ ?_ ?_
    .rintro v σ H2 hv kc kb hkc hkb G hG ⟨z,e5,e6,e7,e8,e9,e10,e11,e12,as_,T,rfl,s2,hT,gr⟩;show hG ?_;have hv':v<W:=hv;have gc:=gr.corners;have gl:=gr.len;have gm:=gr.most;nofun;show⟨D,as_,T,i,rfl,hT.tn,o_,o_,λR H3 s3 repR=>?_⟩;obtain⟨_,vs,e0,hR',hvs⟩:=id repR;cases e0;obtain⟨nR,hR⟩:=bw_ hR';have hvl:vs.length=(corners T i).length:=by rw[hvs.length,Ab_]
     have c0:0<(corners T i).length:=by have:(0,0)∈corners T i:=bv_.mpr ⟨by change 0<T.length;lia,by change 0<_+(if 0<i then 1 else 0);rw[if_pos o_];lia⟩;show Ey_ this
     obtain⟨j,hj,jl⟩:∃j:Nat,z%(vs.length:Int)=j/\j<vs.length:=⟨(z%(vs.length:Int)).toNat,by have:=A2_ z (show(vs.length:Int)≠0 by lia);lia,by have:=A2_ z (show(vs.length:Int)≠0 by lia);have:=AX_ z (show(0:Int)<(vs.length:Int) by lia);lia⟩;obtain⟨xs,ex,hcs⟩:=qe_ (Gd_.mono f9_ _ hvs);have ec:(corners T i)[j]?=some ((corners T i)[j]'o_):=Aa_ _;obtain⟨q,hxq,hq⟩:=hcs.get ec;have ic:IsC T i ((corners T i)[j]'o_):=bv_.mp (Bg_ _);generalize(corners T i)[j]'o_=c at*
     have lg:((vs.length:Int)).natAbs.log2<9000:=by
      have:((vs.length:Int)).natAbs<=1000:=o_
      by_cases h0:((vs.length:Int)).natAbs=0
      .rw[h0];decide
      .rw[DH_ h0];show BN_ this r_
     nofun;show⟨vs,.inl hR,o_,vs,hR,.ref q,?_,?_⟩
     .rw[hj];show c5_ o_ ?_;rw[AC_,ex,Ag_,hxq];rfl
     nofun;show⟨vs,.inl hR,o_,lg,?_⟩;nofun;show⟨d_,?_⟩;nofun;show⟨d_,r_,?_⟩;nofun;have hT3:=hT.mono s3;have s23:=s2.trans s3;have cb:c.2<=rl T c.1:=by have:=ic.2;split at this <;> lia
     show both (as_.map V.ref) (.inl hT3.tn.top) (λh1 h2=>?_) ?_
     .obtain⟨a,ea,at0,ra⟩:=hT3.tn.at_ ic.1;have rw30:rl T c.1<=30:=by have:=Jz_ T c.1;rw[gr.tot]at this;lia
      have rln:(T.getD c.1 []).length=rl T c.1:=rfl;have Da:D≠a:=λe=>hT3.nl (by rw[e];show Am_ ea);have fa:=hT3.fa a (Am_ ea);nofun;show⟨_,hq,_,Gv_,_,_,rfl,hT3.tn.top,.ref a,at0,.inl ⟨_,.inl (.inl ra)⟩,_,hq,_,GD_,a,rfl,_,_,rfl,ra,o_,by rw[Ab_,rln];lia,by rw[Ab_,rln];lia,?_⟩;rw[AC_,lR_];have hT4:=hT3.ins ea v;have s4:FA_ H (upd H3 a (.lst ((RimT.ins (T.getD c.1 []) c.2 v).map λn:Nat=>V.int n))):=λb o hb=>by rw[af_ (ae_ hb fa)];show s23 _ _ hb
      generalize upd H3 a (.lst ((RimT.ins (T.getD c.1 []) c.2 v).map λn:Nat=>V.int n))=H4 at*;nofun;show⟨.inl ⟨_,.inl (.inl hT4.tn.top)⟩,d_,λp np=>?_⟩;have Dp:D≠p:=ae_ hT4.tn.top np;have hT5:=hT4.more s4 np [v];show⟨as_.map V.ref,by rw[af_ Dp];show hT4.tn.top,FB_ (by rw[Ab_];have:=hT4.tn.len;rw[aK_]at this;lia),?_⟩;have e1:as_.map V.ref++[V.ref p]=(as_++[p]).map V.ref:=s_
      have e2:[V.int (0+(v:Nat))]=[v].map λn:Nat=>V.int n:=s_
      rw[e1,e2];show hkc _ _ ⟨_,_,_,_,_,_,_,_,_,_,_,rfl,λb o hb=>?_,hT5,qm_ gr ic.1 (by rw[Ab_]at h2;have:=hT3.tn.len;lia)⟩;rw[af_ (ae_ hb hT.fl),af_ (ae_ hb (s4.free np))];show s4 _ _ hb
     .have rl30:∀p,rl T p<=30:=λp=>by have:=Jz_ T p;rw[gr.tot]at this;lia
      nofun;show⟨Nat,_,_,λn:Nat=>.inl (n:Int),D,as_,T,rfl,λ_=>rfl,λa b h=>Int.ofNat.inj (Fw_ h),hT3.tn,gr.tw,o_,rl30,λM H4 s4 nM hM=>?_⟩;show⟨_,_,_,D,M,q,as_,T,i,c,rfl,hT3.tn.mono s4,hM,gr.tw,o_,gl,s4 _ _ hq,ic,o_,λR2 H5 xs2 cs2 s5 nR2 hR2 hcs2 ne2 len2 all2 _ _ _=>?_⟩;have x2l:xs2.length=cs2.length:=hcs2.len;have l2:0<cs2.length:=BB_.mpr ne2
      have lg2:(((xs2.map V.ref).length:Int)).natAbs.log2<9000:=by
       rw[Ab_];by_cases h0:((xs2.length:Int)).natAbs=0
       .rw[h0];decide
       .rw[DH_ h0];show BN_ (show((xs2.length:Int)).natAbs<=1000 by lia) r_
      generalize hy:z/(vs.length:Int)/3=y;obtain⟨j2,hj2,jl2⟩:∃j:Nat,y%((xs2.map V.ref).length:Int)=j/\j<xs2.length:=by rw[Ab_];have a1:=A2_ y (show(xs2.length:Int)≠0 by lia);have a2:=AX_ y (show(0:Int)<(xs2.length:Int) by lia);show⟨(y%(xs2.length:Int)).toNat,o_,o_⟩
      have ec2:cs2[j2]?=some (cs2[j2]'o_):=Aa_ _;obtain⟨q2,hxq2,hq2⟩:=hcs2.get ec2;have ic2:IsC T i (cs2[j2]'o_):=all2 _ (Bg_ _);generalize cs2[j2]'o_=d at*;have hq5:=s5 _ _ (s4 _ _ hq);nofun;show⟨_,.inl hR2,by rw[Ab_];lia,_,hR2,.ref q2,?_,?_⟩
      .rw[hj2];show c5_ o_ ?_;rw[AC_,Ag_,hxq2];rfl
      nofun;show⟨_,.inl hR2,by rw[Ab_];lia,lg2,?_⟩;nofun;show⟨d_,λp np=>⟨(c.1,c.2),(FA_.new np) _ _ hq5,(d.1,d.2),(FA_.new np) _ _ hq2,λl zs nl hzs=>⟨⟨_,.inl (.inl aa_)⟩,?_⟩⟩⟩
      obtain⟨r1,r2,a1,a2,ez,g1,g2,i1,i2⟩:∃(r1 r2:Addr)(a1 a2:Nat×Nat),zs=[V.ref r1,V.ref r2]/\H5 r1=some (cV a1)/\H5 r2=some (cV a2)/\IsC T i a1/\IsC T i a2:=by
       rcases hzs with e|e
       .show⟨q,q2,c,d,e,hq5,hq2,ic,ic2⟩
       .show⟨q2,q,d,c,e,hq2,hq5,ic2,ic⟩
      have S6:FA_ H5 (upd (upd H5 p (HO.lst [V.ref q,V.ref q2])) l (HO.lst zs)):=(FA_.new np).trans (FA_.new nl);have hT6:=((hT3.mono s4).mono s5).mono S6;have s6:FA_ H (upd (upd H5 p (HO.lst [V.ref q,V.ref q2])) l (HO.lst zs)):=s23.trans (s4.trans (s5.trans S6));have hl6:=aa_ (H:=upd H5 p (HO.lst [V.ref q,V.ref q2])) (a:=l) (o:=HO.lst zs);have h61:=S6 _ _ g1;have h62:=S6 _ _ g2;have lT:l∉as_:=λz=>by obtain⟨p',hp',e⟩:=AD_.mp z;have e2:=((hT3.mono s4).mono s5).tn.row p' l (by rw[Aa_ hp',e]);have e3:=(FA_.new np (o:=HO.lst [V.ref q,V.ref q2])) _ _ e2;rw[nl]at e3;cases e3
      generalize upd (upd H5 p (HO.lst [V.ref q,V.ref q2])) l (HO.lst zs)=H6 at*;have notT:∀r a,H6 r=some (cV a)->r∉as_:=λr a hr z=>by obtain⟨p',hp',e⟩:=AD_.mp z;have e2:=hT6.tn.row p' r (by rw[Aa_ hp',e]);rw[hr]at e2;cases e2
      subst ez
      have step:∀(T':List (List Nat))(a:Nat×Nat)(H7:Hp),T'.length=T.length->(∀p,rl T p<=rl T' p)->(∀p,rl T' p<=40)->IsC T i a->To H H7 D as_ T'->FA_ H H7->∃ad,atI (as_.map V.ref) (a.1:Int)=some (.ref ad)/\H7 ad=some (.lst ((T'.getD a.1 []).map λn:Nat=>V.int n))/\(a.2:Nat)<=(T'.getD a.1 []).length/\(T'.getD a.1 []).length<1000/\ad∈as_/\To H (upd H7 ad (.lst ((RimT.ins (T'.getD a.1 []) a.2 v).map λn:Nat=>V.int n))) D as_ (Gx_ T' a v)/\FA_ H (upd H7 ad (.lst ((RimT.ins (T'.getD a.1 []) a.2 v).map λn:Nat=>V.int n))):=λT' a H7 hl hm h40 ia hT7 s7=>by
       obtain⟨ad,ea,at0,ra⟩:=hT7.tn.at_ (p:=a.1) (by rw[hl];show ia.1);have:=ia.2;have m1:=hm a.1;have m2:=h40 a.1;have ab:a.2<=rl T a.1:=by split at this <;> lia
       show⟨ad,at0,ra,by unfold rl at*;lia,by unfold rl at*;lia,Am_ ea,hT7.ins ea v,λb o hb=>?_⟩;rw[af_ (ae_ hb (hT7.fa ad (Am_ ea)))];show s7 _ _ hb
      have lenS:∀(T':List (List Nat))(a:Nat×Nat)(p:Nat),rl (Gx_ T' a v) p<=rl T' p+1:=λT' a p=>by
       unfold Gx_ rl;rw[Ad_,Ad_,BT_];by_cases h:a.1=p
       .subst h;by_cases h2:a.1<T'.length
        .simp only[if_true,h2,Option.getD_some,gK_];rw[Ad_];show Ai_ _
        .simp[h2,Ba_ (Cg_.mp h2)]
       .simp[h]
      show c9_ (xs:=[V.ref r1,V.ref r2]) (λt σ H7=>∃(e11 e12:Option V),σ=[some (.int (y/((xs2.map V.ref).length:Int))),some (.int i),some (.int W),some (.int 10),some (.ref D),some (.int (0+(v:Nat))),some (.ref R),some (.ref q),some (.int (z/(vs.length:Int)%3)),some (.ref R2),some (.ref q2),e11,e12]/\FA_ H H7/\(∀b o,b∉as_->H6 b=some o->H7 b=some o)/\To H H7 D as_ (if t=0 then T else if t=1 then Gx_ T a1 v else Gx_ (Gx_ T a1 v) a2 v)) ⟨e11,e12,rfl,s6,λb o _ h=>h,hT6⟩ ?_ ?_ ?_
      .rintro t σ H7 ht ⟨e11,e12,rfl,s7,k7,hT7⟩;show .inl (.inl (k7 _ _ lT hl6))
      .rintro t x σ H7 hx kc2 kb2 hkc2 hkb2 G2 hG2 ⟨e11,e12,rfl,s7,k7,hT7⟩;show hG2 ?_
       match t,hx with
       |0,hx =>
        cases hx;have hr1:=k7 _ _ (notT _ _ h61) h61;obtain⟨ad,at0,ra,ab,a1000,ain,hT8,s8⟩:=step T a1 H7 rfl (λ_=>Ai_ _) (λp=>by have:=rl30 p;lia) i1 hT7 s7;nofun;show⟨_,SqT.of hr1,rfl,_,_,rfl,_,_,rfl,rfl,_,_,rfl,hT7.tn.top,.ref ad,at0,.inl ⟨_,.inl (.inl ra)⟩,ad,rfl,_,_,rfl,ra,o_,by rw[Ab_,AC_];show ab,by rw[Ab_];show a1000,?_⟩;rw[AC_,lR_];show hkc2 _ _ ⟨_,_,rfl,s8,λb o hb h=>by rw[af_ (λe=>hb (by rw[e];show ain))];show k7 b o hb h,hT8⟩
       |1,hx =>
        cases hx;have hr2:=k7 _ _ (notT _ _ h62) h62;obtain⟨ad,at0,ra,ab,a1000,ain,hT8,s8⟩:=step (Gx_ T a1 v) a2 H7 (aK_ ..) (λp=>hN_ v p) (λp=>by have:=rl30 p;have:=lenS T a1 p;lia) i2 hT7 s7;nofun;show⟨_,SqT.of hr2,rfl,_,_,rfl,_,_,rfl,rfl,_,_,rfl,hT7.tn.top,.ref ad,at0,.inl ⟨_,.inl (.inl ra)⟩,ad,rfl,_,_,rfl,ra,o_,by rw[Ab_,AC_];show ab,by rw[Ab_];show a1000,?_⟩;rw[AC_,lR_];show hkc2 _ _ ⟨_,_,rfl,s8,λb o hb h=>by rw[af_ (λe=>hb (by rw[e];show ain))];show k7 b o hb h,hT8⟩
      .rintro σ H7 ⟨e11,e12,rfl,s7,k7,hT7⟩;show hkc _ _ ⟨_,_,_,_,_,_,_,_,_,as_,_,rfl,s7,hT7,q7_ gr i1.1 i2.1⟩
    .rintro σ H2 ⟨z,e5,e6,e7,e8,e9,e10,e11,e12,as_,T,rfl,s2,hT,gr⟩;nofun;show⟨d_,λp np=>k p D as_ T z _ (s2.trans (FA_.new np)) aa_ (hT.mono (FA_.new np)) gr⟩
def sgs:List Nat:=(Str.ofString "abcdefghijklmnopqrstuvwxyz0123456789").cps.toList
theorem oI_:sgs.length=36:=r_
theorem rU_:sgs.Nodup:=r_
def sg(i:Nat):Nat:=sgs.getD i 0
variable{i:Nat}
theorem Kq_(h:i<36):sgs[i]?=some (sg i):=by unfold sg;rw[Ad_,Aa_ (by rw[oI_];show h)];rfl
theorem oJ_{j:Nat}(hi:i<36)(hj:j<36)(h:sg i=sg j):i=j:=(A1_ (by rw[oI_];show hi) rU_).mp (by rw[Kq_ hi,Kq_ hj,h])
theorem mA_{z:Int}(h0:0<=z)(h1:z<36):atI sgs z=some (sg z.toNat):=c5_ h0 (Kq_ o_)
def one(c:Nat):Str:=⟨#[c]⟩
def nmA(hd tl:Str)(fi k:Nat):Str:=hd++one (sg ((fi+7*k)%36))++tl
theorem pL_(a b:Str):(a++b).cps.toList=a.cps.toList++b.cps.toList:=by change(a.cps++b.cps).toList=_;simp
theorem qU_{hd tl:Str}{fi a b:Nat}(ha:a<16)(hb:b<16)(h:nmA hd tl fi a=nmA hd tl fi b):a=b:=by have e:=congrArg (λs:Str=>s.cps.toList) h;simp only[nmA,pL_]at e;have e2:=List.append_cancel_right e;have e3:=List.append_cancel_left e2;have e4:sg ((fi+7*a)%36)=sg ((fi+7*b)%36):=(DR_ e3).1;have:=oJ_ (Cf_ _ d_) (Cf_ _ d_) e4;lia
def nmB(fi k:Nat):Str:=⟨(List.replicate (1+k%7) (sg fi)++if 6<k then[sg ((fi+1+k/7)%36)]else[]).toArray⟩
theorem qV_{fi a b:Nat}(hf:fi<36)(ha:a<16)(hb:b<16)(h:nmB fi a=nmB fi b):a=b:=by
 have e0:=congrArg (λs:Str=>s.cps.toList) h;have e:List.replicate (1+a%7) (sg fi)++(if 6<a then[sg ((fi+1+a/7)%36)]else[])=List.replicate (1+b%7) (sg fi)++(if 6<b then[sg ((fi+1+b/7)%36)]else[]):=by simpa[nmB]using e0
 have ne:∀c,6<c->c<16->sg ((fi+1+c/7)%36)≠sg fi:=λc h1 h2 z=>by have:=oJ_ (Cf_ _ d_) hf z;lia
 have len:=congrArg List.length e;simp only[Af_,Dh_]at len;have last:=congrArg List.getLast? e;by_cases h1:6<a <;> by_cases h2:6<b
 .rw[if_pos h1,if_pos h2]at last len;rw[B7_,B7_]at last;have e4:sg ((fi+1+a/7)%36)=sg ((fi+1+b/7)%36):=by simpa using last
  have:=oJ_ (Cf_ _ d_) (Cf_ _ d_) e4;simp at len;lia
 .rw[if_pos h1,if_neg h2]at last;rw[B7_,By_,Fv_ 1 (b%7),E7_,B7_]at last;show absurd (by simpa using last) (ne a h1 ha)
 .rw[if_neg h1,if_pos h2]at last;rw[By_,Fv_ 1 (a%7),E7_,B7_,B7_]at last;show absurd (by simpa using last.symm) (ne b h2 hb)
 .rw[if_neg h1,if_neg h2]at len;simp at len;lia
theorem mB_{f:Nat->Str}{n:Nat}(h:∀a b,a<n->b<n->f a=f b->a=b):((List.range n).map f).Nodup:=by unfold List.Nodup;rw[BD_];show D6_ (λ{a b} ha hb ne e=>ne (h a b (A3_.mp ha) (A3_.mp hb) e)) List.nodup_range
theorem mul_one{c:Nat}:∀m:Nat,1<=m->m<=7->MulOk (one c) (m:Int)/\Txt.mul (one c) (m:Int)=⟨(List.replicate m c).toArray⟩
 |0,h,_=>absurd h d_
 |1,_,_=>⟨⟨d_,λ_ h=>absurd h s_,λ_ h=>absurd h s_⟩,rfl⟩
 |2,_,_=>⟨⟨d_,λ_ _=>(by change ¬ ((1:Int) > _);decide),λ_ _=>(by change Builtin.Str.tooLong 2=false;decide +kernel)⟩,rfl⟩
 |3,_,_=>⟨⟨d_,λ_ _=>(by change ¬ ((1:Int) > _);decide),λ_ _=>(by change Builtin.Str.tooLong 3=false;decide +kernel)⟩,rfl⟩
 |4,_,_=>⟨⟨d_,λ_ _=>(by change ¬ ((1:Int) > _);decide),λ_ _=>(by change Builtin.Str.tooLong 4=false;decide +kernel)⟩,rfl⟩
 |5,_,_=>⟨⟨d_,λ_ _=>(by change ¬ ((1:Int) > _);decide),λ_ _=>(by change Builtin.Str.tooLong 5=false;decide +kernel)⟩,rfl⟩
 |6,_,_=>⟨⟨d_,λ_ _=>(by change ¬ ((1:Int) > _);decide),λ_ _=>(by change Builtin.Str.tooLong 6=false;decide +kernel)⟩,rfl⟩
 |7,_,_=>⟨⟨d_,λ_ _=>(by change ¬ ((1:Int) > _);decide),λ_ _=>(by change Builtin.Str.tooLong 7=false;decide +kernel)⟩,rfl⟩
 |m+8,_,h=>absurd h o_
def opt(x:Str)(b:Bool):Str:=if b then x else Str.empty
theorem qW_(x:Str)(p:Prop)[Decidable p]:MulOk x (if p then 1 else 0)/\Txt.mul x (if p then 1 else 0)=opt x (decide p):=by
 by_cases h:p
 .rw[if_pos h,show decide p=true from AZ_ h];show⟨⟨d_,λ_ h=>absurd h s_,λ_ h=>absurd h s_⟩,rfl⟩
 .rw[if_neg h,show decide p=false from AP_ h];show⟨⟨d_,λh=>absurd d_ h,λh=>absurd d_ h⟩,rfl⟩
theorem rV_(fi k:Nat):(⟨(List.replicate (1+k%7) (sg fi)).toArray⟩:Str)++opt (one (sg ((fi+1+k/7)%36))) (decide (6<k))=nmB fi k:=by
 unfold nmB opt;by_cases h:6<k
 .rw[if_pos (AZ_ h),if_pos h];change(⟨(List.replicate (1+k%7) (sg fi)).toArray++[sg ((fi+1+k/7)%36)].toArray⟩:Str)=_;rw[List.append_toArray]
 .rw[if_neg (by simp[h]),if_neg h];change(⟨_ ++ #[]⟩:Str)=_;simp
theorem b4_{H:Hp}:∀(ts:List Str),Gd_ H (ts.map V.str) (ts.map Dt.str)
 |[]=>rfl
 |t::ts=>⟨_,_,rfl,rfl,b4_ ts⟩
theorem fg_{H:Hp}:∀{us:List V}{ts:List Str},Gd_ H us (ts.map Dt.str)->us=ts.map V.str
 |us,[],h=>h
 |us,n::ns,⟨x,r,e,hx,hr⟩=>by
  cases hx;rw[e,fg_ hr];rfl
theorem mC_{D:Addr}{ts:List Str}(hB:B D=none)(h:H D=some (.lst (ts.map V.str))):Rep (HE_ B H) (.ref D) (.lst (ts.map Dt.str)):=⟨D,_,rfl,by rw[ea_ hB];show h,b4_ ts⟩
abbrev FZ_:Stmt:=stN 27
theorem aW_:ZM ["_law_big_here","_law_many","_law_signs","_law_size","_law_spot","_law_word","_law_rest","_law_k","_law_first","_law_head","_law_tail","_law_names_here","_law_more"] ["_law_big_here","_law_many"] (FC_ FZ_):=zM
theorem el_:LK FZ_ "_law_signs" .cell:=r_
theorem fG_:LK FZ_ "_law_size" .local:=r_
theorem fH_:LK FZ_ "_law_spot" .local:=r_
theorem cY_:LK FZ_ "_law_word" .local:=r_
theorem cg_:LK FZ_ "_law_rest" .local:=r_
theorem cZ_:LK FZ_ "_law_k" .local:=r_
theorem fI_:LK FZ_ "_law_first" .cell:=r_
theorem lU_:LK FZ_ "_law_head" .cell:=r_
theorem k1_:LK FZ_ "_law_tail" .cell:=r_
theorem da_:LK FZ_ "_law_names_here" .local:=r_
theorem hn_:LK FZ_ "_law_more" .local:=r_
theorem jZ_:LK FZ_ "int" .globalImplicit:=r_
theorem c0_:LK FZ_ "range" .globalImplicit:=r_
def Ix_:Sp:=λvs H Q _=>∃(z:Int)(n:Nat),vs=[.int z,.int n]/\n<=16/\∀D (nms:List Str) H',FA_ H H'->Rep (HE_ H H') (.ref D) (.lst (nms.map Dt.str))->nms.length=n->nms.Nodup->Q (.ref D) H'
theorem oK_(T:Txt K mg)(F:Fn0 K mg "_law_names" FZ_):Cal P w K mg base "_law_names" ["_law_big_here","_law_many"] 1 Ix_:=by
  show aQ_ F aW_.1 λf cdv A outer s H vs Q E hr h=>?_;obtain⟨z,n,rfl,n16,k⟩:=h;refine'⟨_,?D,?R⟩
  case D =>
   refine' aj_ (jG_ (i:=2) aW_.nd rfl el_ rfl pX_ rfl) (aj_ (ai_ (i:=3) aW_.nd rfl fG_ (FD_ aN_ ad_ (FD_ aI_ (zw 0 aW_) ad_))) ?a)
   case' a=>refine' aj_ (ai_ (i:=4) aW_.nd rfl fH_ (FD_ aI_ (FD_ av_ (zw 0 aW_) ad_) (zw 3 aW_))) (aj_ (ai_ (i:=5) aW_.nd rfl cY_ pX_) ?b)
   case' b=>refine' aj_ (ai_ (i:=6) aW_.nd rfl cg_ (FD_ av_ (zw 0 aW_) ad_)) (ac_ (aP_ AA_ rfl (aE_ c0_ T.n_range (pa_c (zw 3 aW_) ab_)) ?c ?d) ?e)
   case c=>show ah_ (i:=7) aW_.nd rfl cZ_
   case' d=>refine' aj_ (ai_ (i:=5) aW_.nd rfl cY_ (FD_ fb_ (zw 5 aW_) (FF_ ml_ (zw 2 aW_) (FD_ aI_ (zw 6 aW_) ad_)))) (ag_ (ai_ (i:=6) aW_.nd rfl cg_ (FD_ av_ (zw 6 aW_) ad_)))
   case' e=>refine' aj_ (jG_ (i:=8) aW_.nd rfl fI_ rfl (FD_ aI_ (zw 6 aW_) ad_) rfl) (ac_ (eL_ ?f (aU_ (K:=K) (n:=2) rfl rfl (ak_ ?g (ak_ ?h aT_)))) ?i)
   case' f=>refine' ar_ (pa_c (bu_ qd_ (zw 5 aW_) ?j (bO_ (zw 4 aW_))) (pa_c (bu_ qd_ (zw 5 aW_) (bO_ (FD_ aN_ (zw 4 aW_) ad_)) ?k) ab_))
   case j=>show b1_
   case k=>show b1_
   case g=>show d9_ (i:=9) aW_.nd rfl lU_ rfl
   case h=>show d9_ (i:=10) aW_.nd rfl k1_ rfl
   case' i=>refine' ac_ (jF_ (i:=11) (N':=["_law_k","_law_head","_law_signs","_law_first","_law_tail"]) (ix:=[none,some 9,some 2,some 8,some 10]) rfl rfl aW_.nd rfl da_ rfl (cw_ ?l) (aE_ c0_ T.n_range (pa_c (zw 1 aW_) ab_)) (λ_ _ _=>?m) (λ_ _ _=>?n) (λ_ _ _=>?o)) ?p
   case l=>show(by change Hv_ (FC_ FZ_) ["_law_big_here","_law_many","_law_signs","_law_size","_law_spot","_law_word","_law_rest","_law_k","_law_first","_law_head","_law_tail","_law_names_here","_law_more"] _ _ _=true;decide +kernel)
   case m=>show ah_ (i:=0) (by change List.Nodup (["_law_k","_law_head","_law_signs","_law_first","_law_tail"]:List Str);decide +kernel) rfl rfl
   case n=>show eC_
   case' o=>refine' FD_ fb_ (FD_ fb_ (pvc 1 rfl rfl) (FF_ ml_ (pvc 2 rfl rfl) (FD_ aI_ (FD_ aN_ (pvc 3 rfl rfl) (FD_ f5_ ad_ (pv1 0 rfl rfl))) ad_))) (pvc 4 rfl rfl)
   case' p=>refine' aj_ (Gj_ (aw_ GW_ (FD_ aI_ (FD_ av_ (zw 6 aW_) ad_) ad_) ad_ (FW_ _)) ?q aD_) (ag_ (au_ (zw 11 aW_)))
   case' q=>refine' aj_ (ai_ (i:=11) aW_.nd rfl da_ (bh_ ab_)) (ag_ (aP_ AA_ rfl (aE_ c0_ T.n_range (pa_c (zw 1 aW_) ab_)) ?r ?s))
   case r=>show ah_ (i:=7) aW_.nd rfl cZ_
   case' s=>refine' ac_ (ai_ (i:=12) aW_.nd rfl hn_ (FF_ ml_ (zw 2 aW_) (FD_ aI_ (FD_ aN_ (FD_ aN_ (zw 8 aW_) ad_) (FD_ av_ (zw 7 aW_) ad_)) ad_))) (ag_ ?t)
   case' t=>refine' aH_ (Gq_ AB_ AI_ AJ_ aF_ (zw 11 aW_) (pa_c (FD_ fb_ (FD_ jf_ (FF_ ml_ (zw 2 aW_) (zw 8 aW_)) (FD_ aN_ ad_ (FD_ aI_ (zw 7 aW_) ad_))) ?u) ab_))
   case' u=>refine' FD_ jf_ (zw 12 aW_) (cl_ kh_ jZ_ T.n_int mm_ (pa_c (gP_ Kp_ (zw 7 aW_) ad_ (FW_ _)) ab_))
  case R =>
   nofun;have m8:=A2_ z (show(8:Int)≠0 by decide);have l8:=AX_ z (show(0:Int)<8 by decide);show⟨d_,d_,r_,o_,d_,r_,?_⟩;nofun;show⟨o_,o_,?_⟩;have sz:100000<=sizeLine:=by rw[Ch_];decide
   have sl:(Str.ofString "abcdefghijklmnopqrstuvwxyz0123456789").length<=sizeLine:=AG_ r_ sz;have e1:∀c,(one c).length=1:=λ_=>rfl;generalize z/8%(1+z%8)=spot;obtain⟨size,hsize,s8⟩:∃m:Nat,(1+z%8).toNat=m/\m<=8:=⟨_,rfl,o_⟩;rw[hsize];generalize hz8:1+z%8=z8;generalize z/64=r0;show a5_ (λi σ H'=>∃(word:Str)(rest:Int)(e7:Option V),σ=[some (.int z),some (.int n),some (.str (Str.ofString "abcdefghijklmnopqrstuvwxyz0123456789")),some (.int z8),some (.int spot),some (.str word),some (.int rest),e7,none,none,none,none,none]/\H'=H/\word.length<=i) ⟨_,r0,none,rfl,rfl,r_⟩ ?_ ?_
   .rintro i σ H' hi kc kb hkc hkb G hG ⟨word,rest,e7,rfl,rfl,wl⟩;show hG ?_;have hi':i<size:=hi;nofun;have m36:=A2_ rest (show(36:Int)≠0 by decide);have l36:=AX_ rest (show(0:Int)<36 by decide);show⟨d_,sl,_,mA_ m36 l36,?_⟩;have e2:(⟨#[sg (rest%36).toNat]⟩:Str).length=1:=rfl;show⟨o_,d_,r_,hkc _ _ ⟨_,_,_,rfl,rfl,by rw[og_];lia⟩⟩
   .rintro σ H' ⟨word,rest,e7,rfl,rfl,wl⟩;nofun;show⟨d_,?_⟩;nofun;show⟨o_,λhd hl _=>⟨o_,λtl tl' _=>⟨d_,λp np=>⟨_,SqT.of aa_,rfl,_,_,rfl,_,_,rfl,rfl,?_⟩⟩⟩⟩;nofun;show⟨o_,o_,?_⟩;have S1:FA_ H' (upd H' p (HO.tup [V.str hd,V.str tl])):=FA_.new np;generalize upd H' p (HO.tup [V.str hd,V.str tl])=H1 at*;obtain⟨fi,hfi,fi36⟩:∃fi:Nat,rest%36=fi/\fi<36:=by have a1:=A2_ rest (show(36:Int)≠0 by decide);have a2:=AX_ rest (show(0:Int)<36 by decide);show⟨(rest%36).toNat,o_,o_⟩
    rw[hfi,show Int.toNat (n:Int)=n by lia];show ec_ (n:=n) (B:=λ_=>none) (Pσ:=λσ=>∃e,σ=[e,some (.str hd),some (.str (Str.ofString "abcdefghijklmnopqrstuvwxyz0123456789")),some (.int fi),some (.str tl)]) (ds:=((List.range n).map (nmA hd tl fi)).map Dt.str) (λb o e=>by cases e) ⟨_,rfl⟩ s_ o_ (λj H2 hj s2=>hj) (λH2 s2=>Ai_ _) ?_ ?_
    .rintro D i x d σ' H2 H2' hD hDo hs2 hi hdi ⟨rfl,rfl⟩ ⟨e,rfl⟩ R kR;nofun;have hi':i<n:=hi;have hd2:d=Dt.str (nmA hd tl fi i):=by rw[Ag_,Ag_,Ca_ hi']at hdi;show(Au_ hdi).symm
     have eI:((fi:Int)+7*(0+(i:Nat)))%36=(((fi+7*i)%36:Nat):Int):=o_
     have lt36:(fi+7*i)%36<36:=Cf_ _ d_;rw[eI];show⟨.inl ⟨d_,d_⟩,d_,sl,_,mA_ o_ o_,?_⟩;rw[AC_];have e2:(⟨#[sg ((fi+7*i)%36)]⟩:Str).length=1:=rfl;show⟨o_,by rw[og_];lia,?_⟩;show kR _ _ _ ⟨_,rfl⟩ (FA_.refl _) ?_;rw[hd2];show rfl
    .intro D H2 hD s2 rep2;nofun;show⟨d_,r_,d_,ite2 (λ_=>?_) (λ_=>?_)⟩
     .show⟨Az_ _,λl nl=>⟨o_,o_,?_⟩⟩;have nl':H' l=none:=(S1.trans s2).free nl;show a5_ (λi σ H3=>∃(e7 e12:Option V),σ=[some (.int z),some (.int n),some (.str (Str.ofString "abcdefghijklmnopqrstuvwxyz0123456789")),some (.int z8),some (.int spot),some (.str word),some (.int rest),e7,some (.int fi),some (.str hd),some (.str tl),some (.ref l),e12]/\FA_ H' H3/\H3 l=some (.lst (((List.range i).map (nmB fi)).map V.str))) ⟨_,_,rfl,(S1.trans s2).upd nl',aa_⟩ ?_ ?_
      .rintro i σ H3 hi kc kb hkc hkb G hG ⟨e7,e12,rfl,s3,hl3⟩;show hG ?_;have hi':i<n:=hi;nofun;have eI:((fi:Int)+1+(0+(i:Nat))/7)%36=(((fi+1+i/7)%36:Nat):Int):=o_
       have lt36:(fi+1+i/7)%36<36:=Cf_ _ d_;have eM:(1:Int)+(0+(i:Nat))%7=((1+i%7:Nat):Int):=o_
       rw[eI];obtain⟨mo,me⟩:=mul_one (c:=sg fi) (1+i%7) o_ o_;show⟨d_,r_,d_,sl,_,mA_ o_ o_,?_⟩;nofun;show⟨.inl ⟨_,.inl (.inl hl3)⟩,sl,_,mA_ o_ o_,d_,?_⟩;rw[eM,AC_,AC_];change MulOk (one (sg fi)) _/\_;show⟨mo,.inr ?_⟩;change MulOk (one (sg ((fi+1+i/7)%36))) _/\((Txt.mul (one (sg fi)) _).length+(Txt.mul (one (sg ((fi+1+i/7)%36))) _).length<=sizeLine)/\∃x,_/\_/\kc _ (upd H3 l (HO.lst (x++[V.str (Txt.mul (one (sg fi)) _++Txt.mul (one (sg ((fi+1+i/7)%36))) _)])));obtain⟨p1,p2⟩:=qW_ (one (sg ((fi+1+i/7)%36))) (6<0+(i:Int));have ln:(⟨(List.replicate (1+i%7) (sg fi)).toArray⟩:Str).length<=7:=by change((List.replicate (1+i%7) (sg fi)).toArray).size<=7;simp;lia
       have lo:(opt (one (sg ((fi+1+i/7)%36))) (decide (6<0+(i:Int)))).length<=1:=by
        unfold opt;split
        .show Ai_ _
        .show Az_ _
       rw[me,p2];have eD:decide (6<0+(i:Int))=decide (6<i):=by apply Ej_.mpr;lia
       show⟨p1,o_,_,hl3,FB_ (by simp;lia),hkc _ _ ⟨_,_,rfl,λb o hb=>?_,?_⟩⟩
       .rw[af_ (ae_ hb nl')];show s3 _ _ hb
       .rw[aa_,eD,rV_,CA_,Ao_,Ao_];rfl
      .rintro σ H3 ⟨e7,e12,rfl,s3,hl3⟩;nofun;show k l _ H3 s3 (mC_ nl' hl3) s_ (mB_ λa b ha hb e=>qV_ fi36 o_ o_ e)
     .obtain⟨_,us,e0,hD2,hus⟩:=id rep2;cases e0;rw[fg_ hus]at hD2;show k D _ H2 (S1.trans s2) (mC_ (S1.free hD) (bw_ hD2).2) s_ (mB_ λa b ha hb e=>qU_ o_ o_ e)
def rot(l:List Nat)(t:Nat):List Nat:=l.drop t++l.take t
theorem oL_(l:List Nat)(t:Nat):(rot l t).length=l.length:=by unfold rot;rw[Af_,BG_,Bf_];lia
theorem oM_(l:List Nat)(t x:Nat):(rot l t).count x=l.count x:=by unfold rot;rw[Bw_,Fv_,<-Bw_,BF_]
theorem rW_{P W p t:Nat}(g:Gr P W T)(hp:p<T.length):Gr P W (T.set p (rot (T.getD p []) t)):=by
 have fc:∀x,(T.set p (rot (T.getD p []) t)).flatten.count x=T.flatten.count x:=λx=>by have:=h3_ x (rot (T.getD p []) t) T p hp;rw[oM_]at this;lia
 show⟨by rw[BU_];show g.len,by rw[BU_];show g.most,λw hw=>by rw[fc];show g.two w hw,λw hw=>?_,λq h1 h2=>?_,?_⟩
 .have:=A7_.mpr hw;rw[fc]at this;show g.lt w (A7_.mp this)
 .rw[BU_]at h2;have:=g.ne q h1 h2;unfold rl at this⊢;rw[Ad_,BT_];by_cases e:p=q
  .subst e;rw[if_pos rfl,if_pos hp];change 0<(rot (T.getD p []) t).length;rw[oL_];show this
  .rw[if_neg e,<-Ad_];show this
 .have:=lj_ (rot (T.getD p []) t) T p hp;rw[oL_,g.tot]at this;lia
theorem k2_{a:Addr}:∀{l:List Addr}{p:Nat},a∉l->l.Nodup->(l.set p a).Nodup
 |[],_,_,_=>A8_
 |x::l,0,ha,h=>by
  rw[DI_];show AV_.mpr ⟨λz=>ha (An_ _ z),(AV_.mp h).2⟩
 |x::l,p+1,ha,h=>by
  rw[DJ_];show AV_.mpr ⟨λz=>?_,k2_ (λz=>ha (An_ _ z)) (AV_.mp h).2⟩
  rcases D4_ z with z|z
  .show(AV_.mp h).1 z
  .show ha (by rw[z];show Ar_)
theorem To.put(h:To B H l as_ T)(sB:FA_ B H){a:Addr}{p:Nat}(hp:p<T.length)(na:H a=none)(r:List Nat):To B (upd (upd H a (.lst (r.map λn:Nat=>V.int n))) l (.lst ((as_.set p a).map V.ref))) l (as_.set p a) (T.set p r):=by
 have la:l≠a:=ae_ h.tn.top na;have an:a∉as_:=λz=>by obtain⟨p,hp,e⟩:=AD_.mp z;have:=h.tn.row p a (by rw[Aa_ hp,e]);rw[na]at this;cases this
 have mem:∀b,b∈as_.set p a->b=a\/b∈as_:=λb hb=>D4_ hb |>.symm;have pl:p<as_.length:=by rw[h.tn.len];show hp
 show⟨⟨aa_,by rw[BU_,BU_];show h.tn.len,λq b hb=>?_⟩,?_,λz=>?_,h.fl,λb hb=>?_⟩
 .have bl:b≠l:=λe=>by
   rcases mem b (Am_ hb)with z|z
   .show la (e.symm.trans z)
   .show h.nl (by rw[<-e];show z)
  rw[af_ bl,Ad_,BT_];rw[BT_]at hb;by_cases e:p=q
  .rw[if_pos e,if_pos hp];rw[if_pos e,if_pos pl]at hb;cases hb;rw[aa_];rfl
  .rw[if_neg e]at hb⊢;have e2:=h.tn.row q b hb;rw[af_ (λz=>by rw[z,na]at e2;cases e2),e2,Ad_]
 .show k2_ an h.nd
 .rcases mem l z with z|z
  .show la z
  .show h.nl z
 .rcases mem b hb with z|z
  .rw[z];show sB.free na
  .show h.fa b z
abbrev Gw_:Stmt:=stN 28
theorem gn_:ZL ["_law_turns_here","_law_posts","_law_big_here","_law_p","_law_turn"] ["_law_turns_here","_law_posts","_law_big_here"] (FC_ Gw_):=zL
theorem em_:LK Gw_ "len" .globalImplicit:=r_
theorem iG_:LK Gw_ "range" .globalImplicit:=r_
def Ip_:Sp:=λvs H Q _=>∃(B:Hp)(l:Addr)(as_:List Addr)(T:List (List Nat))(P W:Nat)(z:Int),vs=[.ref l,.int P,.int z]/\FA_ B H/\To B H l as_ T/\Gr P W T/\P<=6/\W<=15 /\
 ∀bs T' H',FA_ B H'->(∀b o,b≠l->H b=some o->H' b=some o)->To B H' l bs T'->Gr P W T'->T'.length=T.length->Q (.ref l) H'
theorem oN_(T:Txt K mg)(F:Fn0 K mg "_law_begun" Gw_):Cal P w K mg base "_law_begun" ["_law_turns_here","_law_posts","_law_big_here"] 1 Ip_:=by
  show aQ_ F gn_.1 λf cdv A outer s H vs Q E hr h=>?_;obtain⟨B,l,as_,Tt,Pp,W,z,rfl,sB,hT,gr,P6,W15,k⟩:=h;have gl:=gr.len;have gm:=gr.most;refine'⟨_,?D,?R⟩
  case D =>
   refine' aj_ ?a (ag_ (au_ (zv 0 gn_)))
   case' a=>refine' aP_ AA_ rfl (nI_ iG_ T.n_range (pa_c (zv 1 gn_) (pa_c (al_ an_ em_ T.n_len aG_ (pa_c (zv 0 gn_) ab_)) ab_))) ?b ?c
   case b=>show zh 3 gn_
   case' c=>refine' ac_ (zas 4 gn_ (FD_ aI_ (zv 2 gn_) (al_ an_ em_ T.n_len aG_ (pa_c (FF_ aq_ (zv 0 gn_) (zv 3 gn_)) ab_)))) ?d
   case' d=>refine' ac_ (zas 2 gn_ (FD_ av_ (zv 2 gn_) (al_ an_ em_ T.n_len aG_ (pa_c (FF_ aq_ (zv 0 gn_) (zv 3 gn_)) ab_)))) (ag_ ?e)
   case' e=>refine' eL_ (FD_ f7_ (bu_ cm_ (FF_ aq_ (zv 0 gn_) (zv 3 gn_)) (bO_ (zv 4 gn_)) ?f) (bu_ cm_ (FF_ aq_ (zv 0 gn_) (zv 3 gn_)) ?g (bO_ (zv 4 gn_)))) (rs_ (zv 0 gn_) (zv 3 gn_) pl_)
   case f=>show b1_
   case g=>show b1_
  case R =>
   nofun;have al:=hT.tn.len;show⟨_,.inl hT.tn.top,o_,o_,by rw[Ab_];lia,by rw[Ab_];lia,?_⟩;rw[Ab_,show Int.toNat ((as_.length:Nat)-(Pp:Nat):Int)=Tt.length-Pp by lia];show a5_ (λi σ H'=>∃(z:Int)(e3 e4:Option V)(bs:List Addr)(T':List (List Nat)),σ=[some (.ref l),some (.int Pp),some (.int z),e3,e4]/\FA_ B H'/\(∀b o,b≠l->H b=some o->H' b=some o)/\To B H' l bs T'/\Gr Pp W T'/\T'.length=Tt.length) ⟨z,none,none,as_,Tt,rfl,sB,λb o _ h=>h,hT,gr,rfl⟩ ?_ ?_
   .rintro i σ H' hi kc kb hkc hkb G hG ⟨z,e3,e4,bs,T',rfl,sB',kp,hT',gr',hl⟩;show hG ?_;have hi':i<Tt.length-Pp:=hi;obtain⟨a,ea,at0,ra⟩:=hT'.tn.at_ (p:=Pp+i) o_;have r0:=gr'.ne (Pp+i) o_ o_;have rt:rl T' (Pp+i)<=30:=by have:=Jz_ T' (Pp+i);rw[gr'.tot]at this;lia
    have rle:(T'.getD (Pp+i) []).length=rl T' (Pp+i):=rfl;have eP:(Pp:Int)+(i:Nat)=((Pp+i:Nat):Int):=o_
    nofun;rw[eP];have rdef:T'.getD (Pp+i) []=T'.getD (Pp+i) []:=rfl;generalize hr0:T'.getD (Pp+i) []=r at*;obtain⟨t,ht,tl⟩:∃t:Nat,z%(((r.map λn:Nat=>V.int n).length:Nat):Int)=t/\t<r.length:=by rw[Ab_];have a1:=A2_ z (show(r.length:Int)≠0 by lia);have a2:=AX_ z (show(0:Int)<(r.length:Int) by lia);show⟨(z%(r.length:Int)).toNat,o_,o_⟩
    have lg:(((r.map λn:Nat=>V.int n).length:Int)).natAbs.log2<9000:=by
     rw[Ab_];by_cases h0:((r.length:Int)).natAbs=0
     .rw[h0];decide
     .rw[DH_ h0];show BN_ (show((r.length:Int)).natAbs<=1000 by lia) r_
    have c1:Hx_ (r.map λn:Nat=>V.int n) (some (t:Int)) none=(r.drop t).map λn:Nat=>V.int n:=by rw[ga_ _ _ (by simp;lia),Df_]
    have c2:Hx_ (r.map λn:Nat=>V.int n) none (some (t:Int))=(r.take t).map λn:Nat=>V.int n:=by rw[kA_ _ _ (by simp;lia),C0_]
    have top:=hT'.tn.top;show⟨_,top,_,at0,a,rfl,_,.inl ra,by rw[Ab_];lia,?_⟩;nofun;show⟨_,top,_,at0,a,rfl,_,.inl ra,by rw[Ab_];lia,lg,?_⟩;nofun;show⟨_,top,_,at0,a,rfl,_,ra,λp1 n1=>⟨_,(FA_.new n1) _ _ top,_,at0,a,rfl,_,(FA_.new n1) _ _ ra,λp2 n2=>?_⟩⟩;rw[ht,c1]at n2⊢;rw[c2];have S2:FA_ H' (upd (upd H' p1 (HO.lst ((r.drop t).map λn:Nat=>V.int n))) p2 (HO.lst ((r.take t).map λn:Nat=>V.int n))):=(FA_.new n1).trans (FA_.new n2);have h1:=(FA_.new n2 (o:=HO.lst ((r.take t).map λn:Nat=>V.int n))) _ _ (aa_ (H:=H') (a:=p1) (o:=HO.lst ((r.drop t).map λn:Nat=>V.int n)));generalize upd (upd H' p1 (HO.lst ((r.drop t).map λn:Nat=>V.int n))) p2 (HO.lst ((r.take t).map λn:Nat=>V.int n))=H2 at*;show⟨_,h1,by rw[Ab_,Ab_];show AG_ (show _<=1000 by rw[BG_,Bf_];lia) (by rw[Ch_];decide),λp3 n3=>?_⟩;have e3:((r.drop t).map λn:Nat=>V.int n)++((r.take t).map λn:Nat=>V.int n)=(rot r t).map λn:Nat=>V.int n:=by rw[<-Ao_];rfl
    rw[e3];have hT2:=(hT'.mono S2).put (sB'.trans S2) (p:=Pp+i) o_ n3 (rot r t);rw[List.map_set]at hT2;have lp:l≠p3:=ae_ (S2 _ _ top) n3;show⟨_,by rw[af_ lp];show S2 _ _ top,Pp+i,?_,hkc _ _ ⟨_,_,_,bs.set (Pp+i) p3,T'.set (Pp+i) (rot r t),rfl,λb o hb=>?_,λb o hb h=>?_,hT2,?_,by rw[BU_];show hl⟩⟩
    .have bl:=hT'.tn.len;unfold ixN;rw[Ab_];rw[if_pos o_,if_pos o_,AC_]
    .rw[af_ (ae_ hb hT.fl),af_ (ae_ hb ((sB'.trans S2).free n3))];show S2 _ _ (sB' _ _ hb)
    .have e4:=kp b o hb h;rw[af_ hb,af_ (ae_ (S2 _ _ e4) n3)];show S2 _ _ e4
    .have g2:=rW_ (t:=t) gr' (p:=Pp+i) o_;rw[hr0]at g2;show g2
   .rintro σ H' ⟨z,e3,e4,bs,T',rfl,sB',kp,hT',gr',hl⟩;nofun;show k bs T' H' sB' kp hT' gr' hl
def dS(x:Str):Dt:=.str x
def dRw(r:Str×List Str):Dt:=.tup [.str r.1,.lst (r.2.map dS)]
def dWo(r:Str×(Int×Int)):Dt:=.tup [.str r.1,.tup [.int r.2.1,.int r.2.2]]
def HG_(N:Net Str):Dt:=.tup [.lst (N.posts.map dS),.lst (N.rows.map dRw),.lst (N.worths.map dWo)]
theorem c1_{xs:List Str}(h:i<xs.length):(xs.map V.str)[i]?=some (.str (xs.getD i Str.empty)):=by rw[Ag_,Aa_ h,Ad_,Aa_ h];rfl
theorem j0_{xs:List Str}(h:xs.Nodup){a b:Nat}(ha:a<xs.length)(hb:b<xs.length)(e:xs.getD a Str.empty=xs.getD b Str.empty):a=b:=by show(A1_ ha h).mp ?_;rw[Ad_,Ad_,Aa_ ha,Aa_ hb]at e;rw[Aa_ ha,Aa_ hb];show congrArg some e
theorem k3_{α β:Type}(f:α->β):∀(l:List α)(t:Nat),(l.map f).eraseIdx t=(l.eraseIdx t).map f
 |[],_=>rfl
 |_::_,0=>rfl
 |x::l,t+1=>by change f x::(l.map f).eraseIdx t=f x::(l.eraseIdx t).map f;rw[k3_ f l t]
theorem jn_:∀{l:List Nat}{t:Nat}(h:t<l.length),(l[t]::l.eraseIdx t).Perm l
 |x::l,0,_=>.refl _
 |x::l,t+1,h=>by have ih:=jn_ (l:=l) (t:=t) (by simpa using h);change(l[t]'(by simpa using h)::x::l.eraseIdx t).Perm (x::l);show(List.Perm.swap _ _ _).trans (ih.cons x)
theorem lW_:∀{us:List V}{ts:List Str},Gd_ H us (ts.map dS)->us=ts.map V.str:=λh=>fg_ h
theorem oO_{α:Type}(f:α->Dt){zs ws:List V}(h:zs.Perm ws):∀{wl:List α},Gd_ H ws (wl.map f)->∃wl':List α,wl'.Perm wl/\Gd_ H zs (wl'.map f):=by
 induction h with
 |nil=>show λ{wl} r=>⟨wl,.refl _,r⟩
 |cons x _ ih =>
  intro wl r;cases wl with
  |nil=>cases r
  |cons d wl =>
   obtain⟨_,_,e,hx,hr⟩:=r;cases e;obtain⟨wl',p,r'⟩:=ih hr;show⟨d::wl',p.cons d,_,_,rfl,hx,r'⟩
 |swap x y l =>
  intro wl r;cases wl with
  |nil=>cases r
  |cons d wl =>
   obtain⟨_,_,e,hx,hr⟩:=r;cases e;cases wl with
   |nil=>cases hr
   |cons d2 wl =>
    obtain⟨_,_,e,hy,hr⟩:=hr;cases e;show⟨d2::d::wl,.swap _ _ _,_,_,rfl,hy,_,_,rfl,hx,hr⟩
 |trans _ _ h1 h2 =>intro wl r;obtain⟨w1,p1,r1⟩:=h2 r;obtain⟨w2,p2,r2⟩:=h1 r1;show⟨w2,p2.trans p1,r2⟩
def Ls_(H6:Hp)(k0:Int)(a l D1 D2 O R:Addr)(Pp W n:Nat)(nms wns:List Str)(T':List (List Nat))(σ:L2.St)(H':Hp):Prop :=
 ∃(z:Int)(e11:Option V)(S:Hp)(rem dn:List Nat)(ys:List V),σ=[some (.ref a),some (.int k0),some (.int 8),some (.int z),some (.int Pp),some (.int W),some (.ref l),some (.ref D1),some (.ref D2),some (.ref O),some (.ref R),e11,none,none,none]/\FA_ H6 S/\FA_ S H'/\S O=none/\S R=none/\H' O=some (.lst (rem.map λn:Nat=>V.int n))/\H' R=some (.lst ys)/\Gd_ S ys ((Gy_ (λp=>nms.getD p Str.empty) (λv=>wns.getD v Str.empty) T' dn).map dRw)/\(dn++rem).Perm (List.range n)
def Mb_(O:Addr)(H:Hp):Nat:=match H O with|some (.lst xs)=>xs.length|_=>0
abbrev FI_:Stmt:=stN 29
theorem ay_:ZM ["_law_script","_law_at","_law_most","_law_big_here","_law_posts","_law_many","_law_turns_here","_law_names_here","_law_wires","_law_order","_law_rows","_law_p","_law_worths","_law_wire","_law_worth"] ["_law_script","_law_at","_law_most"] (FC_ FI_):=zM
theorem aB_:LK FI_ "_law_big_here" .local:=r_
theorem de_:LK FI_ "_law_posts" .local:=r_
theorem cz_:LK FI_ "_law_many" .local:=r_
theorem bU_:LK FI_ "_law_turns_here" .local:=r_
theorem eZ_:LK FI_ "_law_names_here" .local:=r_
theorem ho_:LK FI_ "_law_wires" .cell:=r_
theorem cA_:LK FI_ "_law_order" .local:=r_
theorem en_:LK FI_ "_law_rows" .local:=r_
theorem eo_:LK FI_ "_law_p" .local:=r_
theorem ep_:LK FI_ "_law_worths" .local:=r_
theorem go_:LK FI_ "_law_wire" .local:=r_
theorem gp_:LK FI_ "_law_worth" .local:=r_
theorem gW_:LK FI_ "_law_begun" .globalImplicit:=r_
theorem b5_:LK FI_ "_law_big" .globalImplicit:=r_
theorem gX_:LK FI_ "_law_grown" .globalImplicit:=r_
theorem dV_:LK FI_ "_law_names" .globalImplicit:=r_
theorem fk_:LK FI_ "_law_worth_of" .globalImplicit:=r_
theorem cp_:LK FI_ "len" .globalImplicit:=r_
theorem iH_:LK FI_ "list" .globalImplicit:=r_
theorem eF_:LK FI_ "range" .globalImplicit:=r_
theorem gY_:LK FI_ "sorted" .globalImplicit:=r_
def J6_(K:PySem.W.Frag):Sp:=λvs H Q _=>∃(a:Addr)(ns:List Int)(k0:Int),vs=[.ref a,.int k0,.int 8]/\0<=k0/\SqL K H a (ns.map V.int)/\∀v (N:Net Str) H',FA_ H H'->Rep H' v (HG_ N)->FY_ N->FK_ N->Q v H'
theorem na_(T:Txt K mg)(F:Fn0 K mg "_law_net_by" FI_) (Iz_:Cal P w K mg base "_law_big" ["_law_script","_law_at"] 2 (JY_ K)) (JD_:Cal P w K mg base "_law_grown" ["_law_big_here","_law_posts","_law_many","_law_within"] 3 Iq_) (IA_:Cal P w K mg base "_law_names" ["_law_big_here","_law_many"] 1 Ix_) (JE_:Cal P w K mg base "_law_begun" ["_law_turns_here","_law_posts","_law_big_here"] 1 Ip_) (Ib_:Cal P w K mg base "_law_worth_of" ["_law_big_here"] 2 Io_):Cal P w K mg base "_law_net_by" ["_law_script","_law_at","_law_most"] 4 (J6_ K):=by
  show aQ_ F ay_.1 λf cdv A outer s H vs Q E hr h=>?_;obtain⟨a,ns,k0,rfl,k00,hS,k⟩:=h;refine'⟨_,?D,?R⟩
  case D =>
   refine' ac_ (ai_ (i:=3) ay_.nd rfl aB_ (am_ Iz_ (hr.mono d_) b5_ (pa_c (zw 0 ay_) (pa_c (zw 1 ay_) ab_)))) ?a
   case' a=>refine' ac_ (ai_ (i:=4) ay_.nd rfl de_ (FD_ aN_ ad_ (FD_ aI_ (zw 3 ay_) ad_))) ?b
   case' b=>refine' ac_ (ai_ (i:=5) ay_.nd rfl cz_ (FD_ aI_ (FD_ av_ (zw 3 ay_) ad_) (FD_ aN_ (zw 2 ay_) ad_))) ?c
   case' c=>refine' aj_ (ih_ (Gj_ (aw_ GW_ (FD_ aI_ (FD_ av_ (FD_ av_ (zw 3 ay_) ad_) (FD_ aN_ (zw 2 ay_) ad_)) ad_) ad_ (FW_ _)) ?d aD_)) ?e
   case' d=>refine' ag_ (ai_ (i:=5) ay_.nd rfl cz_ (FD_ aI_ (FD_ av_ (FD_ av_ (zw 3 ay_) ad_) (FD_ aN_ (zw 2 ay_) ad_)) ad_))
   case' e=>refine' ac_ (eL_ ?f (aU_ (K:=K) (n:=2) rfl rfl (ak_ ?g (ak_ ?h aT_)))) (ac_ (ai_ (i:=7) ay_.nd rfl eZ_ (am_ IA_ (hr.mono d_) dV_ ?i)) ?j)
   case' f=>refine' am_ JD_ (hr.mono d_) gX_ (pa_c (FD_ av_ (FD_ av_ (zw 3 ay_) ad_) (FD_ aN_ (zw 2 ay_) ad_)) (pa_c (zw 4 ay_) (pa_c (zw 5 ay_) (pa_c ad_ ab_))))
   case g=>show ah_ (i:=6) ay_.nd rfl bU_
   case h=>show ah_ (i:=3) ay_.nd rfl aB_
   case' i=>refine' pa_c (am_ Iz_ (hr.mono d_) b5_ (pa_c (zw 0 ay_) (pa_c (FD_ aN_ (zw 1 ay_) ad_) ab_))) (pa_c (al_ an_ cp_ T.n_len aG_ (pa_c (zw 6 ay_) ab_)) ab_)
   case' j=>refine' ac_ ?k (ac_ (ai_ (i:=6) ay_.nd rfl bU_ (am_ JE_ (hr.mono d_) gW_ (pa_c (zw 6 ay_) (pa_c (zw 4 ay_) (pa_c (zw 3 ay_) ab_))))) ?l)
   case' k=>refine' jG_ (i:=8) ay_.nd rfl ho_ rfl (am_ IA_ (hr.mono d_) dV_ (pa_c (am_ Iz_ (hr.mono d_) b5_ (pa_c (zw 0 ay_) (pa_c (FD_ aN_ (zw 1 ay_) ad_) ab_))) (pa_c (zw 5 ay_) ab_))) rfl
   case' l=>refine' ac_ ?m (ac_ ?n (ac_ (ai_ (i:=10) ay_.nd rfl en_ (bh_ ab_)) ?o))
   case' m=>refine' ai_ (i:=9) ay_.nd rfl cA_ (kE_ rfl iH_ T.n_list eF_ T.n_range (pa_c (al_ an_ cp_ T.n_len aG_ (pa_c (zw 6 ay_) ab_)) ab_))
   case' n=>refine' ai_ (i:=3) ay_.nd rfl aB_ (am_ Iz_ (hr.mono d_) b5_ (pa_c (zw 0 ay_) (pa_c (FD_ aN_ (zw 1 ay_) ad_) ab_)))
   case' o=>refine' aj_ (e9_ AA_ (aw_ (mo_ (hr.units)) (zw 9 ay_) (bh_ ab_) (FW_ _)) ?p) (ac_ (ai_ (i:=12) ay_.nd rfl ep_ (bh_ ab_)) ?q)
   case' p=>refine' ac_ ?r (ac_ ?s (ag_ (aH_ (Gq_ AB_ AI_ AJ_ aF_ (zw 10 ay_) (pa_c ?t ab_)))))
   case' r=>refine' ai_ (i:=11) ay_.nd rfl eo_ (Gq_ AB_ PySem.F.slot_list_pop PySem.F.type_list_pop pm_ (zw 9 ay_) (pa_c (FD_ aI_ (zw 3 ay_) (al_ an_ cp_ T.n_len aG_ (pa_c (zw 9 ay_) ab_))) ab_))
   case' s=>refine' ai_ (i:=3) ay_.nd rfl aB_ (FD_ av_ (zw 3 ay_) (FD_ aN_ (al_ an_ cp_ T.n_len aG_ (pa_c (zw 9 ay_) ab_)) ad_))
   case' t=>refine' ar_ (pa_c (FF_ aq_ (zw 7 ay_) (zw 11 ay_)) (pa_c (cc_ (N':=["_law_wire","_law_wires"]) (ix:=[none,some 8]) rfl rfl (cw_ ?u) (aL_ (K:=K) rfl (FF_ aq_ (zw 6 ay_) (zw 11 ay_))) (λ_ _ _=>?v) (λ_ _ _=>?w) (λ_ _ _=>(FF_ aq_ (pvc 1 rfl rfl) (pv1 0 rfl rfl)))) ab_))
   case u=>show(by change Hv_ (FC_ FI_) ["_law_script","_law_at","_law_most","_law_big_here","_law_posts","_law_many","_law_turns_here","_law_names_here","_law_wires","_law_order","_law_rows","_law_p","_law_worths","_law_wire","_law_worth"] _ _ _=true;decide +kernel)
   case v=>show ah_ (i:=0) (by change List.Nodup (["_law_wire","_law_wires"]:List Str);decide +kernel) rfl rfl
   case w=>show eC_
   case' q=>refine' aj_ (aP_ AA_ rfl (aE_ eF_ T.n_range (pa_c (zw 5 ay_) ab_)) ?x ?y) (ag_ (au_ ?z))
   case x=>show ah_ (i:=13) ay_.nd rfl go_
   case' y=>refine' ac_ (eL_ (am_ Ib_ (hr.mono d_) fk_ (pa_c (zw 3 ay_) ab_)) (aU_ (K:=K) (n:=2) rfl rfl (ak_ ?aa (ak_ ?ab aT_)))) ?ac
   case aa=>show ah_ (i:=14) ay_.nd rfl gp_
   case ab=>show ah_ (i:=3) ay_.nd rfl aB_
   case' ac=>refine' ag_ (aH_ (Gq_ AB_ AI_ AJ_ aF_ (zw 12 ay_) (pa_c (ar_ (pa_c (FF_ aq_ (zw 8 ay_) (zw 13 ay_)) (pa_c (zw 14 ay_) ab_))) ab_)))
   case' z=>refine' ar_ (pa_c (bu_ cm_ (zw 7 ay_) ?ad (bO_ (zw 4 ay_))) (pa_c (zw 10 ay_) (pa_c (al_ (m0_ hr.units) gY_ T.n_sorted eN_ (pa_c (zw 12 ay_) ab_)) ab_)))
   case ad=>show b1_
  case R =>
   nofun;show⟨a,ns,k0,rfl,k00,hS,λz0 H0 s0=>?_⟩;nofun;obtain⟨Pp,hP,P1,P6⟩:∃m:Nat,(1+z0%6:Int)=m/\1<=m/\m<=6:=by have a1:=A2_ z0 (show(6:Int)≠0 by decide);have a2:=AX_ z0 (show(0:Int)<6 by decide);show⟨(1+z0%6).toNat,o_,o_,o_⟩
   rw[hP];show⟨d_,?_⟩;nofun;show⟨d_,r_,d_,?_⟩;nofun;show⟨λσ Hx=>∃W:Nat,σ=[some (.ref a),some (.int k0),some (.int 8),some (.int z0),some (.int Pp),some (.int W),none,none,none,none,none,none,none,none,none]/\Hx=H0/\W<=15,?_,?_⟩
   .nofun;have a1:=A2_ (z0/6) (show(8+1:Int)≠0 by decide);have a2:=AX_ (z0/6) (show(0:Int)<8+1 by decide);have a3:=A2_ (z0/48/(8+1)) (show(16:Int)≠0 by decide);have a4:=AX_ (z0/48/(8+1)) (show(0:Int)<16 by decide);show⟨d_,r_,d_,r_,d_,ite2 (λ_=>?_) (λ_=>?_)⟩
    .show⟨d_,r_,d_,r_,d_,(z0/48/(8+1)%16).toNat,o_,o_⟩
    .show⟨(z0/6%(8+1)).toNat,o_,o_⟩
   rintro σ Hx ⟨W,rfl,rfl,W15⟩;have hS0:=s0.seq hS;nofun;show⟨d_,r_,d_,r_,?_⟩;show⟨_,Pp,W,rfl,P1,P6,W15,λpg l as_ T y H1 s1 hpg hT gr=>?_⟩;have gl:=gr.len;have gm:=gr.most;show⟨pg,rfl,_,SqT.of hpg,rfl,_,_,rfl,_,_,rfl,rfl,?_⟩;nofun;show⟨a,ns,_,rfl,o_,(s1.seq hS0),λz1 H2 s2=>?_⟩;have hT2:=hT.mono s2;have al:=hT2.tn.len;show⟨_,.inl hT2.tn.top,?_⟩;rw[Ab_];show⟨z1,as_.length,rfl,o_,λD1 nms H3 s3 rep1 nl1 nd1=>?_⟩;have s03:=s1.trans (s2.trans s3);nofun;show⟨a,ns,_,rfl,o_,s03.seq hS0,λz2 H4 s4=>⟨z2,W,rfl,o_,λD2 wns H5 s5 rep2 nl2 nd2=>?_⟩⟩;have s05:=s03.trans (s4.trans s5);have hT5:=hT2.mono (s3.trans (s4.trans s5));nofun;show⟨Hx,l,as_,T,Pp,W,y,rfl,s05,hT5,gr,P6,W15,λbs T' H6 s6 kp hT6 gr' hl6=>?_⟩;obtain⟨_,us1,e1,hD1',hus1⟩:=id rep1;cases e1;rw[fg_ hus1]at hD1';obtain⟨_,us2,e2,hD2',hus2⟩:=id rep2;cases e2;rw[fg_ hus2]at hD2';have D1l:D1≠l:=(ae_ hT2.tn.top (bw_ hD1').1).symm;have D2l:D2≠l:=(ae_ ((hT2.mono (s3.trans s4)).tn.top) (bw_ hD2').1).symm;have hD1:H6 D1=some (.lst (nms.map V.str)):=kp _ _ D1l ((s4.trans s5) _ _ (bw_ hD1').2);have hD2:H6 D2=some (.lst (wns.map V.str)):=kp _ _ D2l (bw_ hD2').2;clear hD1' hD2' hus1 hus2 rep1 rep2;have hS6:=s6.seq hS0;have bl:=hT6.tn.len;have gl6:=gr'.len;have gm6:=gr'.most;clear hT hT2 hT5 s1 s2 s3 s4 s5 s03 s05 kp hpg;nofun;show⟨_,.inl hT6.tn.top,bs.length,by rw[Ab_],o_,λO nO=>?_⟩;have S7:FA_ H6 (upd H6 O (HO.lst (Hl_ bs.length))):=FA_.new nO;have hO:=aa_ (H:=H6) (a:=O) (o:=HO.lst (Hl_ bs.length));generalize upd H6 O (HO.lst (Hl_ bs.length))=H7 at*;nofun;show⟨a,ns,_,rfl,o_,S7.seq hS6,λz3 H8 s8=>?_⟩;nofun;show⟨Az_ _,λR nR=>?_⟩;nofun;have R6:H6 R=none:=(S7.trans s8).free nR;have RO:R≠O:=(ae_ (s8 _ _ hO) nR).symm;have eN:Hl_ bs.length=(List.range bs.length).map λn:Nat=>V.int n:=rfl
   show hW_ (Ls_ H6 k0 a l D1 D2 O R Pp W bs.length nms wns T')
    (λ_ H'=>Mb_ O H') ⟨z3,none,H6,List.range bs.length,[],[],rfl,FA_.refl _,(S7.trans s8).upd R6,nO,R6,by rw[af_ RO.symm];show s8 _ _ hO,aa_,rfl,.refl _⟩ ?_
   rintro σ H' kb hkb G hG ⟨z,e11,S,rem,dn,ys,rfl,sS,sH,SO,SR,hO',hR',repS,pm⟩;show hG ?_;nofun;show⟨Az_ _,λp np=>?_⟩;have Sp:FA_ H' (upd H' p (HO.lst [])):=FA_.new np
   have repO:Rep (upd H' p (HO.lst [])) (.ref O) (.lst (rem.map λn:Nat=>Dt.int n)):=⟨O,_,rfl,Sp _ _ hO',by
    clear hO' pm
    induction rem with
    |nil=>show rfl
    |cons x r ih=>show⟨_,_,rfl,rfl,ih⟩⟩
   have repp:Rep (upd H' p (HO.lst [])) (.ref p) (.lst []):=⟨p,[],rfl,aa_,rfl⟩;have pO:p≠O:=(ae_ hO' np).symm;have pR:p≠R:=(ae_ hR' np).symm
   have dle:dep (.lst (rem.map λn:Nat=>Dt.int n))<=60:=by
    have:deps (rem.map λn:Nat=>Dt.int n)=0:=by
     clear hO' pm repO
     induction rem with
     |nil=>rfl
     |cons x r ih=>change max 0 (deps (r.map λn:Nat=>Dt.int n))=0;rw[ih];rfl
    change deps _+1<=60;lia
   have sH2:FA_ S (upd H' p (HO.lst [])):=sH.trans Sp;generalize upd H' p (HO.lst [])=Hq at*;have hOq:=Sp _ _ hO';have hRq:=Sp _ _ hR'
   show⟨_,repO,_,repp,decide (rem=[]),by
    cases rem with
    |nil=>rfl
    |cons x r=>simp[deq,deqs],dle,?_⟩
   show ite2 (λhne=>?_) (λhemp=>?_)
   .have rne:rem≠[]:=Cj_ hne;have rl0:0<rem.length:=BB_.mpr rne;show⟨_,N_ok,?_⟩;obtain⟨t,ht,tl⟩:∃t:Nat,z%(((rem.map λn:Nat=>V.int n).length:Nat):Int)=t/\t<rem.length:=by rw[Ab_];have a1:=A2_ z (show(rem.length:Int)≠0 by lia);have a2:=AX_ z (show(0:Int)<(rem.length:Int) by lia);show⟨(z%(rem.length:Int)).toNat,o_,o_⟩
    have rl16:rem.length<=16:=by have:=pm.length_eq;rw[Af_,Bn_]at this;lia
    have er:((rem.map λn:Nat=>V.int n).eraseIdx t)=(rem.eraseIdx t).map λn:Nat=>V.int n:=k3_ _ _ _;have el:(rem.eraseIdx t).length=rem.length-1:=List.length_eraseIdx_of_lt tl
    have lg:((((rem.map λn:Nat=>V.int n).eraseIdx t).length:Int)+1).natAbs.log2<9000:=by
     rw[er,Ab_];by_cases h0:(((rem.eraseIdx t).length:Int)+1).natAbs=0
     .rw[h0];decide
     .rw[DH_ h0];show BN_ (show(((rem.eraseIdx t).length:Int)+1).natAbs<=1000 by lia) r_
    have hp0:rem[t]?=some (rem[t]):=Aa_ tl;have pn:rem[t]<bs.length:=A3_.mp (pm.mem_iff.mp (AO_ _ (Bg_ tl)));have pm2:(dn++[rem[t]]++rem.eraseIdx t).Perm (List.range bs.length):=by show List.Perm.trans ?_ pm;rw[Bi_];show(jn_ tl).append_left dn
    generalize rem[t]=pt at*;nofun;show⟨.inl ⟨_,.inl (.inl hOq)⟩,_,.inl hOq,by rw[Ab_];lia,_,hOq,by rw[ht];lia,by rw[ht];lia,t,?_,.int pt,by rw[Ag_,hp0];rfl,?_⟩
    .rw[ht,Ab_];rw[EE_ o_ o_,AC_]
    nofun;show⟨o_,lg,?_⟩;rw[er];nofun;have OR:O≠R:=RO.symm;have sH3:FA_ S (upd Hq O (HO.lst ((rem.eraseIdx t).map λn:Nat=>V.int n))):=aX_ sH2 SO;have hR3:upd Hq O (HO.lst ((rem.eraseIdx t).map λn:Nat=>V.int n)) R=some (.lst ys):=by rw[af_ RO];show hRq
    have hO3:=aa_ (H:=Hq) (a:=O) (o:=HO.lst ((rem.eraseIdx t).map λn:Nat=>V.int n));generalize upd Hq O (HO.lst ((rem.eraseIdx t).map λn:Nat=>V.int n))=H3 at*;have s63:FA_ H6 H3:=sS.trans sH3;obtain⟨a1,ea1,at1,ra1⟩:=hT6.tn.at_ (p:=pt) o_;have ra3:=s63 _ _ ra1
    have lt:∀v∈T'.getD pt [],v<wns.length:=λv hv=>by
     rw[nl2];show gr'.lt v ?_;have hm:T'.getD pt []∈T':=by rw[Ad_,Aa_ (show pt<T'.length by lia)];show Bg_ _
     show BL_.mpr ⟨_,hm,hv⟩
    have rl30:(T'.getD pt []).length<=30:=by have:=Jz_ T' pt;rw[gr'.tot]at this;unfold rl at this;lia
    have atn:atI (nms.map V.str) ((pt:Nat):Int)=some (.str (nms.getD pt Str.empty)):=c5_ o_ (by rw[AC_];show c1_ o_);show⟨.inl ⟨_,.inl (.inl hR3)⟩,_,s63 _ _ hD1,_,atn,_,s63 _ _ hT6.tn.top,_,at1,a1,rfl,⟨_,.inl (.inl ra3)⟩,?_⟩;generalize hrow:T'.getD pt []=row at*;have hD2':=s63 _ _ hD2;show ec_ (n:=row.length) (B:=λ_=>none) (Pσ:=λσ=>∃e,σ=[e,some (.ref D2)]) (ds:=(row.map λv=>wns.getD v Str.empty).map dS) (λb o e=>by cases e) ⟨_,rfl⟩ s_ o_ (λj Hj hj sj=>⟨_,.int (row[j]:Nat),.inl (.inl (sj _ _ ra3)),by simp[hj]⟩) (λHj sj=>⟨_,.inl (.inl (sj _ _ ra3)),s_⟩) ?_ ?_
    .rintro D j x d σ' Hj Hj' hD hDo hsj hj hdj ⟨rfl,hy⟩ ⟨e,rfl⟩ R0 kR;have hx:=hy _ (.inl (.inl (hsj _ _ ra3)));rw[Ag_,Aa_ hj]at hx;cases hx;have hd:d=dS (wns.getD row[j] Str.empty):=by rw[Ag_,Ag_,Aa_ hj]at hdj;show(Au_ hdj).symm
     nofun;show⟨_,hsj _ _ hD2',_,c5_ o_ (by rw[AC_];show c1_ (lt _ (Bg_ hj))),kR _ _ _ ⟨_,rfl⟩ (FA_.refl _) ?_⟩;rw[hd];show rfl
    .intro D H4 hD s4 rep4;show⟨d_,λq nq=>?_⟩;have hD3:H3 D=none:=hD;obtain⟨_,us,e4,hD4',hus⟩:=id rep4;cases e4;have hD4:=(bw_ hD4').2;rw[lW_ hus]at hD4;have qR:q≠R:=(ae_ (s4 _ _ hR3) nq).symm;have qO:q≠O:=(ae_ (s4 _ _ hO3) nq).symm;have g1:FA_ S (grow S H3 H4):=cQ_ sH3;have g2:FA_ (grow S H3 H4) H4:=jK_ sH3 s4;have gO:grow S H3 H4 O=none:=by rw[fc_ hO3];show SO
     have gR:grow S H3 H4 R=none:=by rw[fc_ hR3];show SR
     have gD:grow S H3 H4 D=some (.lst ((row.map λv=>wns.getD v Str.empty).map V.str)):=by rw[jJ_ hD3];show hD4
     have g3:FA_ (grow S H3 H4) (upd (grow S H3 H4) q (.tup [.str (nms.getD pt Str.empty),.ref D])):=a4_ g2 nq;have g4:FA_ (upd (grow S H3 H4) q (.tup [.str (nms.getD pt Str.empty),.ref D])) (upd H4 q (.tup [.str (nms.getD pt Str.empty),.ref D])):=gb_ g2 nq;have gO2:upd (grow S H3 H4) q (.tup [.str (nms.getD pt Str.empty),.ref D]) O=none:=by rw[af_ qO.symm];show gO
     have gR2:upd (grow S H3 H4) q (.tup [.str (nms.getD pt Str.empty),.ref D]) R=none:=by rw[af_ qR.symm];show gR
     have yl:ys.length=dn.length:=by rw[repS.length,Ab_];unfold Gy_;rw[Ab_]
     have dl:dn.length<=16:=by have:=pm.length_eq;rw[Af_,Bn_]at this;lia
     show⟨ys,by rw[af_ qR.symm];show s4 _ _ hR3,FB_ o_,⟨_,_,upd (grow S H3 H4) q (.tup [.str (nms.getD pt Str.empty),.ref D]),rem.eraseIdx t,dn++[pt],ys++[.ref q],rfl,sS.trans (g1.trans g3),aX_ g4 gR2,gO2,gR2,?_,aa_,?_,pm2⟩,?_⟩
     .rw[af_ OR,af_ qO.symm];show s4 _ _ hO3
     .have er2:Gy_ (λp=>nms.getD p Str.empty) (λv=>wns.getD v Str.empty) T' (dn++[pt])=Gy_ (λp=>nms.getD p Str.empty) (λv=>wns.getD v Str.empty) T' dn++[(nms.getD pt Str.empty,row.map λv=>wns.getD v Str.empty)]:=by unfold Gy_;rw[Ao_,Ay_,CO_,hrow]
      rw[er2,Ao_];show Gd_.append (Gd_.mono (g1.trans g3) _ repS) ⟨_,_,rfl,⟨q,_,rfl,aa_,_,_,rfl,rfl,_,_,rfl,⟨D,_,rfl,g3 _ _ gD,b4_ _⟩,rfl⟩,rfl⟩
     .unfold Mb_;rw[af_ OR,af_ qO.symm,s4 _ _ hO3,hO'];change((rem.eraseIdx t).map _).length<(rem.map _).length;rw[Ab_,Ab_];lia
   .have re:rem=[]:=by
     by_cases h:rem=[]
     .show h
     .show absurd (AP_ h) hemp
    subst re;rw[By_]at pm;show hkb _ _ ?_;nofun;show⟨Az_ _,λL nL=>?_⟩;nofun;show⟨o_,o_,?_⟩;rw[show Int.toNat (W:Int)=W by lia];have s6q:FA_ H6 Hq:=sS.trans sH2;have hD2q:=s6q _ _ hD2;have hD1q:=s6q _ _ hD1;show a5_ (λi σ H'=>∃(z:Int)(e13 e14:Option V)(S':Hp)(vs:List V)(wl:List (Str×(Int×Int))),σ=[some (.ref a),some (.int k0),some (.int 8),some (.int z),some (.int Pp),some (.int W),some (.ref l),some (.ref D1),some (.ref D2),some (.ref O),some (.ref R),e11,some (.ref L),e13,e14]/\FA_ Hq S'/\FA_ S' H'/\S' L=none/\H' L=some (.lst vs)/\Gd_ S' vs (wl.map dWo)/\wl.map (·.1)=wns.take i) ⟨z,none,none,Hq,[],[],rfl,FA_.refl _,FA_.new nL,nL,aa_,rfl,rfl⟩ ?_ ?_
    .rintro i σ H5 hi kc kb hkc hkb G hG ⟨z,e13,e14,S',vs,wl,rfl,sq,sS5,SL,hL,repW,wnm⟩;show hG ?_;have hi':i<W:=hi;have iw:i<wns.length:=o_
     nofun;show⟨z,rfl,λpw qw H7 f0 y0 s7 npw nqw hpw hqw=>?_⟩;have s57:=sS5.trans s7;have wll:wl.length=i:=by have:=congrArg List.length wnm;rw[Ab_,Bf_]at this;lia
     have vl:vs.length=i:=by rw[repW.length,Ab_];show wll
     show⟨pw,rfl,_,SqT.of hpw,rfl,_,_,rfl,_,_,rfl,rfl,?_⟩;nofun;show⟨.inl ⟨_,.inl (.inl (s7 _ _ hL))⟩,_,(sq.trans s57) _ _ hD2q,_,c5_ o_ (by rw[show Int.toNat (0+(i:Nat):Int)=i by lia];show c1_ iw),d_,λq nq=>?_⟩;have g1:FA_ S' (grow S' H5 H7):=cQ_ sS5;have g2:FA_ (grow S' H5 H7) H7:=jK_ sS5 s7;have gL:grow S' H5 H7 L=none:=by rw[fc_ hL];show SL
     have gq:grow S' H5 H7 qw=some (.tup [.int f0.1,.int f0.2]):=by rw[jJ_ nqw];show hqw
     have qL:q≠L:=(ae_ (s7 _ _ hL) nq).symm;have g3:FA_ (grow S' H5 H7) (upd (grow S' H5 H7) q (.tup [.str (wns.getD i Str.empty),.ref qw])):=a4_ g2 nq;have g4:FA_ (upd (grow S' H5 H7) q (.tup [.str (wns.getD i Str.empty),.ref qw])) (upd H7 q (.tup [.str (wns.getD i Str.empty),.ref qw])):=gb_ g2 nq;have gL2:upd (grow S' H5 H7) q (.tup [.str (wns.getD i Str.empty),.ref qw]) L=none:=by rw[af_ qL.symm];show gL
     show⟨vs,by rw[af_ qL.symm];show s7 _ _ hL,FB_ o_,hkc _ _ ⟨y0,_,_,upd (grow S' H5 H7) q (.tup [.str (wns.getD i Str.empty),.ref qw]),_,wl++[(wns.getD i Str.empty,f0)],rfl,sq.trans (g1.trans g3),aX_ g4 gL2,gL2,aa_,?_,?_⟩⟩
     .rw[Ao_];show Gd_.append (Gd_.mono (g1.trans g3) _ repW) ⟨_,_,rfl,⟨q,_,rfl,aa_,_,_,rfl,rfl,_,_,rfl,⟨qw,_,rfl,g3 _ _ gq,_,_,rfl,rfl,_,_,rfl,rfl,rfl⟩,rfl⟩,rfl⟩
     .rw[Ao_,wnm,BJ_,Aa_ iw,Ad_,Aa_ iw];rfl
    .rintro σ H5 ⟨z,e13,e14,S',vs,wl,rfl,sq,sS5,SL,hL,repW,wnm⟩;rw[Bp_ o_]at wnm;nofun;have wll:wl.length=W:=by rw[<-nl2,<-wnm,Ab_]
     have vl:vs.length=wl.length:=by rw[repW.length,Ab_]
     have sq5:=sq.trans sS5;have c1:Hx_ (nms.map V.str) none (some ((Pp:Nat):Int))=(nms.take Pp).map V.str:=by rw[kA_ _ _ (by rw[Ab_];lia),C0_]
     show⟨_,sq5 _ _ hD1q,λq nq=>?_⟩;rw[c1];have Sq:FA_ H5 (upd H5 q (HO.lst ((nms.take Pp).map V.str))):=FA_.new nq;have hq:=aa_ (H:=H5) (a:=q) (o:=HO.lst ((nms.take Pp).map V.str));generalize upd H5 q (HO.lst ((nms.take Pp).map V.str))=H6' at*;show⟨vs,Sq _ _ hL,o_,λi=>wns.getD i Str.empty,λi hi=>?_,λi j hi hj e=>j0_ nd2 o_ o_ e,λl' zs nl' hpm=>?_⟩
     .obtain⟨d,hd,hr⟩:=repW.of_get (i:=i) (x:=vs[i]) (Aa_ hi);rw[Ag_,Aa_ o_]at hd;rw[<-Au_ hd]at hr;obtain⟨aa,_,ea,haa,_,_,e1,hx1,_,_,e2,hx2,e3⟩:=hr;obtain⟨ww,_,ew,hww,_,_,e4,hy1,_,_,e5,hy2,e6⟩:=hx2;subst e6 e5 e4 e3 e2 e1;cases hx1;cases hy1;cases hy2;subst ew;have en:(wl[i]'o_).1=wns.getD i Str.empty:=by rw[<-wnm,Ad_,Ag_,Aa_ o_];rfl
      rw[en]at haa;show⟨aa,by rw[Aa_ hi,ea],ww,Sq _ _ (sS5 _ _ haa),_,Sq _ _ (sS5 _ _ hww)⟩
     .show⟨d_,λpe npe=>?_⟩;obtain⟨wl',pw,repW'⟩:=oO_ dWo hpm repW;have Sl:FA_ H6' (upd H6' l' (HO.lst zs)):=FA_.new nl';have hl':=aa_ (H:=H6') (a:=l') (o:=HO.lst zs);generalize upd H6' l' (HO.lst zs)=H7' at*;have Se:FA_ H7' (upd H7' pe (HO.tup [V.ref q,V.ref R,V.ref l'])):=FA_.new npe;have he:=aa_ (H:=H7') (a:=pe) (o:=HO.tup [V.ref q,V.ref R,V.ref l']);generalize upd H7' pe (HO.tup [V.ref q,V.ref R,V.ref l'])=H8' at*;have tot:FA_ H5 H8':=Sq.trans (Sl.trans Se);show k (.ref pe) ⟨nms.take Pp,Gy_ (λp=>nms.getD p Str.empty) (λv=>wns.getD v Str.empty) T' dn,wl'⟩ H8' (s0.trans (s6.trans (s6q.trans (sq5.trans tot)))) ⟨pe,_,rfl,he,_,_,rfl,⟨q,_,rfl,(Sl.trans Se) _ _ hq,b4_ _⟩,_,_,rfl,⟨R,ys,rfl,tot _ _ (sq5 _ _ hRq),Gd_.mono (sH2.trans (sq5.trans tot)) _ repS⟩,_,_,rfl,⟨l',zs,rfl,Se _ _ hl',Gd_.mono (sS5.trans tot) _ repW'⟩,rfl⟩ ?_ ?_
      .show q8_ gr' (by rw[<-bl];show pm) P6 W15 (λx y hx hy e=>j0_ nd1 o_ o_ e) (λx y hx hy e=>j0_ nd2 o_ o_ e) (by rw[Bf_];lia) (by rw[pw.length_eq];lia)
      .have nl1':nms.length=T'.length:=o_
       show⟨List.Nodup.sublist (List.take_sublist _ _) nd1,λx hx=>?_,by rw[Bf_];lia⟩;obtain⟨j,hj,ej⟩:=AD_.mp hx;have hj2:j<nms.length:=by rw[Bf_]at hj;lia
       show As_.mpr ⟨_,As_.mpr ⟨j,pm.mem_iff.mpr (A3_.mpr o_),rfl⟩,?_⟩;change nms.getD j Str.empty=x;rw[Ad_,Aa_ hj2];rw[List.getElem_take]at ej;show ej
def dE(e:End Str):Dt:=.tup [.str e.1,.int e.2]
def GE_(acc:List (Str×List (End Str)))(ls:List Addr):List (Key×V):=List.zipWith (λkv l=>(Sum.inr kv.1,V.ref l)) acc ls
structure DE(en:End Str->Dt)(S H:Hp)(d:Addr)(ls:List Addr)(acc:List (Str×List (End Str))):Prop where
 sH:FA_ S H
 dict:H d=some (.dK (GE_ acc ls))
 len:ls.length=acc.length
 nd:ls.Nodup
 dn:d∉ls
 lst:∀(i:Nat)(l:Addr)(kv:Str×List (End Str)),ls[i]?=some l->acc[i]?=some kv->∃vs,H l=some (.lst vs)/\Gd_ S vs (kv.2.map en)
 fd:S d=none
 fl:∀l∈ls,S l=none
variable{en:End Str->Dt}{d:Addr}{ls:List Addr}{acc:List (Str×List (End Str))}
theorem DE.mono(h:DE en S H d ls acc)(s:FA_ H H'):DE en S H' d ls acc :=
 ⟨h.sH.trans s,s _ _ h.dict,h.len,h.nd,h.dn,λi l kv h1 h2=>(h.lst i l kv h1 h2).elim λvs z=>⟨vs,s _ _ z.1,z.2⟩,h.fd,h.fl⟩
theorem DE.stay(h:DE en S H d ls acc)(nq:H q=none)(o:HO):DE en (upd S q o) (upd H q o) d ls acc:=by
 have qd:q≠d:=(ae_ h.dict nq).symm;have ql:∀l∈ls,q≠l:=λl hl e=>by obtain⟨i,hi,ei⟩:=AD_.mp hl;obtain⟨vs,z,_⟩:=h.lst i l (acc[i]'(by rw[<-h.len];show hi)) (by rw[Aa_ hi,ei]) (Aa_ _);rw[<-e,nq]at z;cases z
 show⟨gb_ h.sH nq,by rw[af_ qd.symm];show h.dict,h.len,h.nd,h.dn,λi l kv h1 h2=>(h.lst i l kv h1 h2).elim λvs z=>⟨vs,by rw[af_ (ql l (Am_ h1)).symm];show z.1,Gd_.mono (a4_ h.sH nq) _ z.2⟩,by rw[af_ qd.symm];show h.fd,λl hl=>by rw[af_ (ql l hl).symm];show h.fl l hl⟩
theorem lX_(h:ls.length=acc.length):(GE_ acc ls).length=acc.length:=by unfold GE_;rw[List.length_zipWith];lia
theorem fh_{w:Str}:∀{acc:List (Str×List (End Str))}{ls:List Addr}{i:Nat}{es:List (End Str)},ls.length=acc.length->acc[i]?=some (w,es)->(∀j kv,j<i->acc[j]?=some kv->kv.1≠w)->∃l,ls[i]?=some l/\Gi_ (GE_ acc ls) (.inr w)=some (.ref l)
 |[],_,_,_,_,h,_=>by cases h
 |kv::acc,[],_,_,h,_,_=>by cases h
 |kv::acc,l::ls,0,es,_,h,_=>by
  cases h;show⟨l,rfl,bk_ rfl⟩
 |kv::acc,l::ls,i+1,es,hl,h,hn=>by obtain⟨l',h1,h2⟩:=fh_ (w:=w) (acc:=acc) (ls:=ls) (i:=i) (by simpa using hl) h λj kv hj hkv=>hn (j+1) kv o_ hkv;show⟨l',h1,?_⟩;change Gi_ ((Sum.inr kv.1,V.ref l)::GE_ acc ls) (.inr w)=_;rw[a9_ (λz=>hn 0 kv o_ rfl (CE_ z))];show h2
theorem hX_{w:Str}:∀{acc:List (Str×List (End Str))}{ls:List Addr},(∀kv∈acc,kv.1≠w)->Gi_ (GE_ acc ls) (.inr w)=none
 |[],_,_=>by unfold GE_;rw[List.zipWith_nil_left];rfl
 |kv::acc,[],_=>rfl
 |kv::acc,l::ls,h=>by change Gi_ ((Sum.inr kv.1,V.ref l)::GE_ acc ls) (.inr w)=_;rw[a9_ (λz=>h kv Ar_ (CE_ z))];show hX_ λkv hkv=>h kv (An_ _ hkv)
variable{e:End Str}
theorem pM_{w:Str}(hl:ls.length=acc.length)(h:∀kv∈acc,kv.1≠w):Gn_ (GE_ acc ls) (.inr w) (.ref q)=GE_ (acc++[(w,[e])]) (ls++[q]):=by have hv:=hX_ (ls:=ls) h;unfold Gn_;rw[if_neg (by rw[c8_,hv];decide)];unfold GE_;rw[List.zipWith_append hl.symm];rfl
variable{es:List (End Str)}{vs:List V}
theorem DE.old(h:DE en S H d ls acc){w:Str}{t:V}(hi:acc[i]?=some (w,es))(hl:ls[i]?=some l)(hv:H l=some (.lst vs))(hr:Gd_ S vs (es.map en))(ht:Rep S t (en e)):
  DE en S (upd H l (.lst (vs++[t]))) d ls (acc.set i (w,es++[e])):=by
 have dl:d≠l:=λz=>h.dn (by rw[z];show Am_ hl);have il:i<ls.length:=(Ae_.mp hl).1;have ia:i<acc.length:=by rw[<-h.len];show il
 show⟨aX_ h.sH (h.fl l (Am_ hl)),?_,by rw[BU_];show h.len,h.nd,h.dn,λj l' kv h1 h2=>?_,h.fd,h.fl⟩
 .rw[af_ dl,h.dict];congr 2;unfold GE_;apply Cu_
  .simp
  .intro j g1 g2;rw[E8_,E8_];by_cases z:i=j
   .subst z;rw[EL_];rw[Aa_ ia]at hi;rw[Au_ hi]
   .rw[Fi_ z]
 .rw[BT_]at h2;by_cases z:i=j
  .subst z;rw[if_pos rfl,if_pos ia]at h2;cases h2;rw[hl]at h1;cases h1;show⟨_,aa_,?_⟩;rw[Ao_];show Gd_.append hr ⟨_,_,rfl,ht,rfl⟩
  .rw[if_neg z]at h2;obtain⟨vs',g1,g2⟩:=h.lst j l' kv h1 h2;have ll:l'≠l:=λy=>by rw[y]at h1;show z ((A1_ il h.nd).mp (hl.trans h1.symm))
   show⟨vs',by rw[af_ ll];show g1,g2⟩
theorem DE.new(h:DE en S H d ls acc){w:Str}{t:V}(hn:∀kv∈acc,kv.1≠w)(hq:H q=some (.lst []))(qd:q≠d)(ql:q∉ls)(Sq:S q=none)(ht:Rep S t (en e)):
  DE en S (upd (upd H d (.dK (Gn_ (GE_ acc ls) (.inr w) (.ref q)))) q (.lst [t])) d (ls++[q]) (acc++[(w,[e])]):=by
 show⟨aX_ (aX_ h.sH h.fd) Sq,?_,by simp[h.len],?_,?_,λj l' kv h1 h2=>?_,h.fd,λl hl=>?_⟩
 .rw[af_ qd.symm,aa_,pM_ h.len hn]
 .show AM_.mpr ⟨h.nd,s_,λx hx y hy z=>ql (by rw[<-Ak_.mp hy,<-z];show hx)⟩
 .intro z
  rcases Aq_.mp z with z|z
  .show h.dn z
  .show qd (Ak_.mp z).symm
 .by_cases hj:j<ls.length
  .rw[Al_ hj]at h1;rw[Al_ (by rw[<-h.len];show hj)]at h2;obtain⟨vs',g1,g2⟩:=h.lst j l' kv h1 h2;have e1:l'≠q:=λz=>ql (by rw[<-z];show Am_ h1);have e2:l'≠d:=λz=>h.dn (by rw[<-z];show Am_ h1);show⟨vs',by rw[af_ e1,af_ e2];show g1,g2⟩
  .rw[Ap_ o_]at h1;rw[Ap_ (by rw[<-h.len];lia)]at h2;have e1:=Ak_.mp (Am_ h1);have e2:=Ak_.mp (Am_ h2);subst e1 e2;show⟨_,aa_,_,_,rfl,ht,rfl⟩
 .rcases Aq_.mp hl with z|z
  .show h.fl l z
  .rw[Ak_.mp z];show Sq
variable{N:Net Str}
theorem dr_(h:Rep H v (HG_ N)):∃(pn p0 p1 p2:Addr)(rs ws:List V),v=.ref pn/\H pn=some (.tup [.ref p0,.ref p1,.ref p2])/\H p0=some (.lst (N.posts.map V.str))/\H p1=some (.lst rs)/\Gd_ H rs (N.rows.map dRw)/\H p2=some (.lst ws)/\Gd_ H ws (N.worths.map dWo):=by obtain⟨pn,_,rfl,hn,_,_,rfl,⟨p0,ps,rfl,h0,r0⟩,_,_,rfl,⟨p1,rs,rfl,h1,r1⟩,_,_,rfl,⟨p2,ws,rfl,h2,r2⟩,rfl⟩:=h;rw[lW_ r0]at h0;show⟨pn,p0,p1,p2,rs,ws,rfl,hn,h0,h1,r1,h2,r2⟩
variable{r:Str×List Str}
theorem oP_(h:Rep H v (dRw r)):∃q l,v=.ref q/\H q=some (.tup [.str r.1,.ref l])/\H l=some (.lst (r.2.map V.str)):=by obtain⟨q,_,rfl,hq,x,_,rfl,hx,_,_,rfl,⟨l,us,rfl,hl,rl⟩,rfl⟩:=h;rw[lW_ rl]at hl;cases hx;show⟨q,l,rfl,hq,hl⟩
theorem fi_{rs:List V}{rows:List (Str×List Str)}{x:V}(h:Gd_ H rs (rows.map dRw))(e:rs[i]?=some x):∃r q l,rows[i]?=some r/\x=.ref q/\H q=some (.tup [.str r.1,.ref l])/\H l=some (.lst (r.2.map V.str)):=by
 obtain⟨d,hd,hr⟩:=h.of_get e;rw[Ag_]at hd;cases e2:rows[i]? with
 |none=>rw[e2]at hd;cases hd
 |some r =>rw[e2]at hd;rw[<-Au_ hd]at hr;obtain⟨q,l,h1,h2,h3⟩:=oP_ hr;show⟨r,q,l,rfl,h1,h2,h3⟩
theorem jo_(p:Str):∀(ws:List Str)(k j:Nat),(Gh_ p k ws)[j]?=(ws[j]?).map λx=>(x,(p,k+j))
 |[],_,_=>by simp[Gh_]
 |w::ws,k,0=>rfl
 |w::ws,k,j+1=>by change(Gh_ p (k+1) ws)[j]?=(ws[j]?).map λx=>(x,(p,k+(j+1)));rw[jo_ p ws (k+1) j,show k+1+j=k+(j+1) by lia]
theorem nb_(p:Str)(ws:List Str)(k:Nat):(Gh_ p k ws).length=ws.length:=by
 have:=congrArg List.length (gL_ p ws k)
 rwa[Ab_]at this
theorem mD_{rows:List (Str×List Str)}(h:rows[i]?=some r):occ (rows.take (i+1))=occ (rows.take i)++Gh_ r.1 0 r.2:=by unfold occ;rw[BJ_,h,Ao_,AT_];simp
theorem mE_(ok:FY_ N)(l m:List (Str×End Str))(h:l++m=occ N.rows):(F3_ l).length<=30:=by
 have e:∀l:List (Str×End Str),(F3_ l).length<=l.length:=λl=>by
  have key:∀n (l:List (Str×End Str)),l.length=n->(F3_ l).length<=n:=λn=>by
   induction n with
   |zero=>intro l h;rw[AY_ h];show Ai_ _
   |succ n ih =>
    intro l h;obtain⟨m,x,rfl⟩:∃m x,l=m++[x]:=⟨l.dropLast,l.getLast (λe=>by rw[e]at h;cases h),(BQ_ _).symm⟩;rw[dN_];have h2:=ih m (by simpa using h);have h3:=congrArg List.length (dO_ (w:=x.1) (e:=x.2) (a:=F3_ m));rw[Ab_]at h3;split at h3
    .rw[Ab_]at h3;lia
    .rw[Af_,Ab_]at h3;simp at h3;lia
  show key _ l rfl
 have h1:=e l;have h2:=congrArg List.length h;have h3:=congrArg List.length (jw_ N.rows);rw[Ab_]at h3;have h4:=ok.tot;unfold Net.all at h4;rw[Af_]at h2;lia
theorem nc_(ok:FY_ N)(l m:List (Str×End Str))(h:l++m=occ N.rows):∀kv∈F3_ l,kv.2.length<=30:=λkv hkv=>by
 have h0:=(bq_ _ l rfl).2.1 kv hkv;have h1:kv.2.length<=l.length:=by rw[h0,Ab_];show Co_ _ _
 have h2:=congrArg List.length h;have h3:=congrArg List.length (jw_ N.rows);rw[Ab_]at h3;have h4:=ok.tot;unfold Net.all at h4;rw[Af_]at h2;lia
theorem pN_{a b:Addr}{x y:HO}(h:a≠b):upd (upd H a x) b y=upd (upd H b y) a x:=by
 funext c;by_cases h1:c=a
 .subst h1;rw[af_ h,aa_,aa_]
 .by_cases h2:c=b
  .subst h2;rw[aa_,af_ h1,aa_]
  .rw[af_ h2,af_ h1,af_ h1,af_ h2]
abbrev FT_:Stmt:=stN 1
theorem bd_:ZL ["net","ends","point","wires","place","wire"] ["net"] (FC_ FT_):=zL
theorem ds_:LK FT_ "enumerate" .globalImplicit:=r_
def I9_:Sp:=λvs H Q _=>∃(v:V)(N:Net Str),vs=[v]/\Rep H v (HG_ N)/\FY_ N/\∀d S ls H',FA_ H S->DE dE S H' d ls (Gt_ N)->H d=none->Q (.ref d) H'
theorem iI_(T:Txt K mg)(F:Fn0 K mg "ends_by_wire" FT_):Cal P w K mg base "ends_by_wire" ["net"] 1 I9_:=by
  show aQ_ F bd_.1 λf cdv A outer s H vs Q E hr h=>?_;obtain⟨v,N,rfl,hv,ok,k⟩:=h;refine'⟨_,?D,?R⟩
  case D =>
   refine' aj_ ?a (aj_ ?b (ag_ (au_ (zv 1 bd_))))
   case a=>show zas 1 bd_ hT_
   case' b=>refine' aP_ AA_ rfl (aL_ (K:=K) rfl (FF_ ao_ (zv 0 bd_) ad_)) (aU_ (K:=K) (n:=2) rfl rfl (ak_ ?c (ak_ ?d aT_))) ?e
   case c=>show zh 2 bd_
   case d=>show zh 3 bd_
   case' e=>refine' ag_ (aP_ AA_ rfl (lA_ (K:=K) rfl ds_ T.n_enumerate (pa_c (zv 3 bd_) ab_)) (aU_ (K:=K) (n:=2) rfl rfl (ak_ ?f (ak_ ?g aT_))) ?h)
   case f=>show zh 4 bd_
   case g=>show zh 5 bd_
   case' h=>refine' ag_ (aH_ (Gq_ AB_ AI_ AJ_ aF_ (Gq_ BS_ CQ_ DD_ gc_ (zv 1 bd_) (pa_c (zv 5 bd_) (pa_c (bh_ ab_) ab_))) ?i))
   case' i=>refine' pa_c (ar_ (pa_c (zv 2 bd_) (pa_c (zv 4 bd_) ab_))) ab_
  case R =>
   nofun;obtain⟨pn,p0,p1,p2,rs,ws,rfl,hn,h0,h1,r1,h2,r2⟩:=dr_ hv;have rl:rs.length=N.rows.length:=by rw[r1.length,Ab_]
   intro d nd;have Sd:FA_ H (upd H d (HO.dK [])):=FA_.new nd;show⟨pn,rfl,_,Sd _ _ hn,_,GD_,p1,rfl,⟨_,.inl (.inl (Sd _ _ h1))⟩,?_⟩;have D0:DE dE H (upd H d (HO.dK [])) d [] (F3_ (occ (N.rows.take 0))):=⟨Sd,aa_,rfl,A8_,λz=>(by cases z),λi l kv z=>(by cases z),nd,λl z=>(by cases z)⟩;show jC_ (xs:=rs) (λi σ H'=>∃(e2 e3 e4 e5:Option V)(S:Hp)(ls:List Addr),σ=[some (.ref pn),some (.ref d),e2,e3,e4,e5]/\FA_ H S/\DE dE S H' d ls (F3_ (occ (N.rows.take i)))) ⟨none,none,none,none,H,[],rfl,FA_.refl _,D0⟩ ?_ ?_ ?_
   .rintro i σ H' hi ⟨e2,e3,e4,e5,S,ls,rfl,sS,de⟩;show .inl (.inl (de.sH _ _ (sS _ _ h1)))
   .rintro i x σ H' hx ⟨e2,e3,e4,e5,S,ls,rfl,sS,de⟩;obtain⟨r,q,l,hr1,rfl,hq,hl⟩:=fi_ r1 hx;have s1:=sS.trans de.sH;rw[mD_ hr1];have occle:∀j,∃m,(occ (N.rows.take i)++(Gh_ r.1 0 r.2).take j)++m=occ N.rows:=λj=>by show⟨(Gh_ r.1 0 r.2).drop j++occ (N.rows.drop (i+1)),?_⟩;rw[Bi_,<-Bi_ (List.take j _),BF_,<-Bi_,<-mD_ hr1];unfold occ;rw[<-AT_,<-Ao_,BF_]
    nofun;show⟨_,SqT.of (s1 _ _ hq),rfl,_,_,rfl,_,_,rfl,rfl,l,rfl,⟨_,.inl (.inl (s1 _ _ hl))⟩,?_⟩;show oj_ (xs:=r.2.map V.str) (λj σ H'=>∃(e4 e5:Option V)(S:Hp)(ls:List Addr),σ=[some (.ref pn),some (.ref d),some (.str r.1),some (.ref l),e4,e5]/\FA_ H S/\DE dE S H' d ls (F3_ (occ (N.rows.take i)++(Gh_ r.1 0 r.2).take j))) ⟨e4,e5,S,ls,rfl,sS,by rw[List.take_zero,By_];show de⟩ ?_ ?_ ?_
    .rintro j σ H2 hj ⟨e4,e5,S,ls,rfl,sS,de⟩;show .inl (.inl ((sS.trans de.sH) _ _ hl))
    .rintro j x T0 σ H2 hx ⟨e4,e5,S,ls,rfl,sS,de⟩ nT;rw[Ag_]at hx
     obtain⟨wr,hw,rfl⟩:∃wr,r.2[j]?=some wr/\x=.str wr:=by
      cases e:r.2[j]? with
      |none=>rw[e]at hx;cases hx
      |some wr=>rw[e]at hx;cases hx;show⟨wr,rfl,rfl⟩
     have tk:(Gh_ r.1 0 r.2).take (j+1)=(Gh_ r.1 0 r.2).take j++[(wr,(r.1,j))]:=by rw[BJ_,jo_,hw];simp
     obtain⟨m,hm⟩:=occle j;have few:=mE_ ok _ _ hm;have short:=nc_ ok _ _ hm;rw[tk,<-Bi_,dN_];generalize F3_ (occ (N.rows.take i)++(Gh_ r.1 0 r.2).take j)=acc at*;have de2:=de.mono (FA_.new nT (o:=HO.tup [V.int j,V.str wr]));have hT:=aa_ (H:=H2) (a:=T0) (o:=HO.tup [V.int j,V.str wr]);generalize upd H2 T0 (HO.tup [V.int j,V.str wr])=H3 at*;nofun;show⟨_,SqT.of hT,rfl,_,_,rfl,_,_,rfl,rfl,.inr (.inr (.inl (.inl ⟨_,de2.dict⟩))),Az_ _,λq nq=>?_⟩;have qd:q≠d:=(ae_ de2.dict nq).symm;have ql:q∉ls:=λz=>by obtain⟨i0,hi0,ei⟩:=AD_.mp z;obtain⟨vs,z2,_⟩:=de2.lst i0 q (acc[i0]'(by rw[<-de2.len];show hi0)) (by rw[Aa_ hi0,ei]) (Aa_ _);rw[nq]at z2;cases z2
     have Sq:S q=none:=de2.sH.free nq;have de3:=de2.mono (FA_.new nq (o:=HO.lst []));have hq4:=aa_ (H:=H3) (a:=q) (o:=HO.lst []);generalize upd H3 q (HO.lst [])=H4 at*;show⟨_,.inr wr,rfl,de3.dict,by rw[lX_ de3.len];lia,λv2 hv2=>?_,λhnone=>?_⟩
     .have hex:∃kv∈acc,kv.1=wr:=by
       by_cases hc:∃kv∈acc,kv.1=wr
       .show hc
       .rw[hX_ (λkv hkv z=>hc ⟨kv,hkv,z⟩)]at hv2;cases hv2
      obtain⟨i0,es,g1,g2,g3⟩:=dM_ (e:=(r.1,j)) hex;obtain⟨lw,l1,l2⟩:=fh_ de3.len g1 g2;rw[l2]at hv2;cases hv2;obtain⟨vs,hvs,hrep⟩:=de3.lst i0 lw _ l1 g1;have vle:vs.length<=30:=by rw[hrep.length,Ab_];show short _ (Am_ g1)
      show⟨.inl ⟨_,.inl (.inl hvs)⟩,d_,λt nt=>⟨lw,rfl,vs,(FA_.new nt) _ _ hvs,FB_ o_,?_⟩⟩;have de5:=de3.stay nt (.tup [.str r.1,.int j]);have de6:=de5.old g1 l1 ((FA_.new nt) _ _ hvs) (Gd_.mono (a4_ de3.sH nt) _ hrep) (e:=(r.1,j)) ⟨t,_,rfl,aa_,_,_,rfl,rfl,_,_,rfl,rfl,rfl⟩;rw[g3];show⟨_,sS.trans (a4_ de3.sH nt),ls,de6⟩
     .have hno:∀kv∈acc,kv.1≠wr:=λkv hkv z=>by obtain⟨i0,es,g1,g2,g3⟩:=dM_ (e:=(r.1,j)) ⟨kv,hkv,z⟩;obtain⟨lw,l1,l2⟩:=fh_ de3.len g1 g2;rw[l2]at hnone;cases hnone
      have hqd:upd H4 d (HO.dK (Gn_ (GE_ acc ls) (Sum.inr wr) (V.ref q))) q=some (.lst []):=by rw[af_ qd];show hq4
      show⟨.inl ⟨_,.inl (.inl hqd)⟩,d_,λt nt=>?_⟩;have td:t≠d:=λz=>by rw[z,aa_]at nt;cases nt
      have nt4:H4 t=none:=by rw[af_ td]at nt;show nt
      have tq:t≠q:=(ae_ hq4 nt4).symm;have de5:=de3.stay nt4 (.tup [.str r.1,.int j]);have de6:=de5.new (e:=(r.1,j)) (q:=q) hno (by rw[af_ tq.symm];show hq4) qd ql (by rw[af_ tq.symm];show Sq) ⟨t,_,rfl,aa_,_,_,rfl,rfl,_,_,rfl,rfl,rfl⟩;show⟨[],by rw[af_ tq.symm];show hqd,FB_ d_,upd S t (.tup [.str r.1,.int j]),sS.trans (a4_ de3.sH nt4),ls++[q],?_⟩;rw[h6_ hno,pN_ td.symm];show de6
    .rintro σ H2 ⟨e4,e5,S,ls,rfl,sS,de⟩;rw[Bp_ (l:=Gh_ r.1 0 r.2) (by rw[nb_,Ab_];show Ai_ _)]at de;show⟨_,_,_,_,rfl,S,sS,ls,de⟩
   .rintro σ H' ⟨e2,e3,e4,e5,S,ls,rfl,sS,de⟩;rw[Bp_ o_]at de;nofun;show k d S ls H' sS de nd
mutual
theorem mF_:∀d:Dt,deq d d=some true
 | .non=>rfl
 | .bl a=>by simp[deq]
 | .int a=>by simp[deq]
 | .str a=>by simp[deq]
 | .tup xs=>iJ_ xs
 | .lst xs=>by rw[deq,if_pos rfl];show iJ_ xs
theorem iJ_:∀ds:List Dt,deqs ds ds=some true
 |[]=>rfl
 |d::ds=>by rw[deqs,mF_ d,iJ_ ds];rfl
end
theorem fL_{α:Type}{f:α->Dt}{n:Nat}(h:∀a,dep (f a)<=n):∀l:List α,deps (l.map f)<=n
 |[]=>Az_ _
 |a::l=>Nat.max_le.mpr ⟨h a,fL_ h l⟩
theorem qX_(N:Net Str):dep (HG_ N)<=60:=by
 have h1:dep (.lst (N.posts.map dS))<=5:=AG_ (BX_ (fL_ (f:=dS) (n:=1) (λa=>by simp[dS,dep]) _)) d_;have h2:dep (.lst (N.rows.map dRw))<=5:=AG_ (BX_ (fL_ (f:=dRw) (n:=3) (λr=>by have:dep (.lst (r.2.map dS))<=2:=BX_ (fL_ (f:=dS) (n:=1) (λa=>by simp[dS,dep]) _);change max 0 (max (dep (.lst (r.2.map dS))) 0)+1<=3;lia) _)) d_;have h3:dep (.lst (N.worths.map dWo))<=5:=AG_ (BX_ (fL_ (f:=dWo) (n:=3) (λr=>by simp[dWo,dep,deps]) _)) d_;change max (dep (.lst (N.posts.map dS))) (max (dep (.lst (N.rows.map dRw))) (max (dep (.lst (N.worths.map dWo))) 0))+1<=60;lia
abbrev G2_:Stmt:=stN 30
theorem pO_:ZL ["_law_net"] ["_law_net"] (FC_ G2_):=zL
theorem gq_:LK G2_ "list" .globalImplicit:=r_
def IP_:Sp:=λvs H Q _=>∃(v:V)(N:Net Str),vs=[v]/\Rep H v (HG_ N)/\FY_ N/\∀v' H',FA_ H H'->Rep H' v' (HG_ N)->Q v' H'
theorem pP_(T:Txt K mg)(F:Fn0 K mg "_law_copy" G2_):Cal P w K mg base "_law_copy" ["_law_net"] 1 IP_:=by
  show aQ_ F pO_.1 λf cdv A outer s H vs Q E hr h=>?_;obtain⟨v,N,rfl,hv,ok,k⟩:=h;obtain⟨pn,p0,p1,p2,rs,ws,rfl,hn,h0,h1,r1,h2,r2⟩:=dr_ hv;have rl:rs.length=N.rows.length:=by rw[r1.length,Ab_]
  have few:=ok.few;refine'⟨_,?D,?R⟩
  case D =>
   refine' ag_ (au_ (ar_ (pa_c (cl_ dQ_ gq_ T.n_list fz_ (pa_c (FF_ ao_ (zv 0 pO_) ad_) ab_)) ?a)))
   case' a=>refine' pa_c ?b (pa_c (cl_ dQ_ gq_ T.n_list fz_ (pa_c (FF_ ao_ (zv 0 pO_) ad_) ab_)) ab_)
   case' b=>refine' cc_ (N':=["_law_point","_law_wires"]) (ix:=[none,none]) rfl rfl (cw_ ?c) (aL_ (K:=K) rfl (FF_ ao_ (zv 0 pO_) ad_)) (λ_ _ _=>(aU_ (K:=K) (n:=2) rfl rfl (ak_ ?d (ak_ ?e aT_)))) (λ_ _ _=>?f) (λ_ _ _=>?g)
   case c=>show(by change Hv_ (FC_ G2_) ["_law_net"] _ _ _=true;decide +kernel)
   case d=>show ah_ (i:=0) (by change List.Nodup (["_law_point","_law_wires"]:List Str);decide +kernel) rfl rfl
   case e=>show ah_ (i:=1) (by change List.Nodup (["_law_point","_law_wires"]:List Str);decide +kernel) rfl rfl
   case f=>show eC_
   case' g=>refine' ar_ (pa_c (pv1 0 rfl rfl) (pa_c (cl_ dQ_ rfl T.n_list fz_ (pa_c (pv1 1 rfl rfl) ab_)) ab_))
  case R =>
   nofun;show⟨_,hn,_,Gv_,p0,rfl,_,.inl h0,λc0 n0=>?_⟩;have S1:FA_ H (upd H c0 (HO.lst (N.posts.map V.str))):=FA_.new n0;have hc0:=aa_ (H:=H) (a:=c0) (o:=HO.lst (N.posts.map V.str));generalize upd H c0 (HO.lst (N.posts.map V.str))=H1 at*;show⟨_,S1 _ _ hn,_,GD_,p1,rfl,⟨_,.inl (.inl (S1 _ _ h1))⟩,?_⟩;have h11:=S1 _ _ h1;show ec_ (n:=N.rows.length) (B:=λ_=>none) (Pσ:=λσ=>∃e e',σ=[e,e']) (ds:=N.rows.map dRw) (λb o e=>by cases e) ⟨_,_,rfl⟩ s_ o_ (λi H' hi s'=>⟨rs,rs[i]'o_,.inl (.inl (s' _ _ h11)),Aa_ _⟩) (λH' s'=>⟨rs,.inl (.inl (s' _ _ h11)),o_⟩) ?_ ?_
   .rintro D i x d σ' H2 H2' hD hDo hs2 hi hdi ⟨rfl,hy⟩ ⟨e,e',rfl⟩ R kR;obtain⟨od,hDo⟩:=hDo;have hx:=hy _ (.inl (.inl (hs2 _ _ h11)));obtain⟨r,q,l,hr1,rfl,hq,hl⟩:=fi_ r1 hx;have s12:=S1.trans hs2;have hd:d=dRw r:=by rw[Ag_,hr1]at hdi;show(Au_ hdi).symm
    nofun;show⟨_,SqT.of (s12 _ _ hq),rfl,_,_,rfl,_,_,rfl,rfl,l,rfl,_,.inl (s12 _ _ hl),λc1 n1=>⟨d_,λc2 n2=>?_⟩⟩;have c1D:c1≠D:=(ae_ hDo n1).symm;have c2D:c2≠D:=(ae_ ((FA_.new n1 (o:=HO.lst (r.2.map V.str))) _ _ hDo) n2).symm;show kR _ _ _ ⟨_,_,rfl⟩ ((FA_.new n1).trans (FA_.new n2)) ?_;rw[hd];show⟨c2,_,rfl,by rw[eb_ c2D rfl];show aa_,_,_,rfl,rfl,_,_,rfl,⟨c1,_,rfl,by rw[eb_ c1D rfl];show(FA_.new n2) _ _ aa_,b4_ _⟩,rfl⟩
   .intro D H2 hD s2 rep2;have s02:=S1.trans s2;show⟨_,s02 _ _ hn,_,G7_,p2,rfl,_,.inl (s02 _ _ h2),λc2 n2=>⟨d_,λpe ne=>?_⟩⟩;have S3:=FA_.new n2 (o:=HO.lst ws);have S4:=FA_.new ne (o:=HO.tup [V.ref c0,V.ref D,V.ref c2]);show k _ _ (s02.trans (S3.trans S4)) ⟨pe,_,rfl,aa_,_,_,rfl,⟨c0,_,rfl,(s2.trans (S3.trans S4)) _ _ hc0,b4_ _⟩,_,_,rfl,Rep.mono (f9_.trans (S3.trans S4)) _ rep2,_,_,rfl,⟨c2,ws,rfl,S4 _ _ aa_,Gd_.mono (s02.trans (S3.trans S4)) _ r2⟩,rfl⟩
def eV(e:End Str):HO:=.tup [.str e.1,.int e.2]
def eK(e:End Str):List Key:=[.inr e.1,.inl (e.2:Int)]
theorem e0_{a b:End Str}(h:eK a=eK b):a=b:=by
 unfold eK at h;injection h with h1 h2
 injection h2 with h3 h4
 show Bb_ (CE_ h1) (by have:=Fw_ h3;lia)
def MO(S:Hp)(acc:List (Str×List (End Str)))(i:Nat)(k2:List (List Key×V)):Prop :=
 ∀(j:Nat)(x:Str)(a b:End Str),j<i->acc[j]?=some (x,[a,b])->(∃q,Gi_ k2 (eK a)=some (.ref q)/\S q=some (eV b))/\∃q,Gi_ k2 (eK b)=some (.ref q)/\S q=some (eV a)
theorem MO.step(ok:FY_ N)(h:MO S (Gt_ N) i k2){a b:End Str}{qa qb:Addr}(hi:(Gt_ N)[i]?=some (x,[a,b]))(ha:S qa=some (eV a))(hb:S qb=some (eV b)):
  MO S (Gt_ N) (i+1) (Gn_ (Gn_ k2 (eK a) (.ref qb)) (eK b) (.ref qa)):=by
 have hm:=Am_ hi;have ne:=np_ ok hm rfl;intro j y c d hj hjs
 have nk:∀e,j≠i->e∈[c,d]->e≠a/\e≠b:=λe ji he=>by
  have hmj:=Am_ hjs
  have key:∀f,f∈[a,b]->e≠f:=λf hf z=>by
   subst z;have:=mN_ ok hmj hm he hf;have k1:((Gt_ N).map (·.1))[j]?=((Gt_ N).map (·.1))[i]?:=by rw[Ag_,Ag_,hjs,hi];show congrArg some this
   show ji ((A1_ (by rw[Ab_];show(Ae_.mp hjs).1) (qn_ N)).mp k1)
  show⟨key a s_,key b s_⟩
 by_cases ji:j=i
 .subst ji;rw[hi]at hjs;cases hjs;constructor
  .show⟨qb,?_,hb⟩;rw[aA_,if_neg (λz=>ne (e0_ z)),aA_,if_pos rfl]
  .show⟨qa,?_,ha⟩;rw[aA_,if_pos rfl]
 .obtain⟨g1,g2⟩:=h j y c d o_ hjs;obtain⟨n1,n2⟩:=nk c ji s_;obtain⟨n3,n4⟩:=nk d ji s_;rw[aA_,if_neg (λz=>n2 (e0_ z)),aA_,if_neg (λz=>n1 (e0_ z)),aA_,if_neg (λz=>n4 (e0_ z)),aA_,if_neg (λz=>n3 (e0_ z))];show⟨g1,g2⟩
theorem oQ_{κ:Type}[DecidableEq κ](kvs:List (κ×V))(k:κ)(v:V):(Gn_ kvs k v).length<=kvs.length+1:=aJ_ kvs k v
theorem qY_{k:Key}{x:V}(h:(GE_ acc ls)[i]?=some (k,x)):∃kv l,acc[i]?=some kv/\ls[i]?=some l/\k=.inr kv.1/\x=.ref l:=by
 unfold GE_ at h;rw[List.getElem?_zipWith]at h;cases e1:acc[i]? with
 |none=>rw[e1]at h;cases h
 |some kv =>
  cases e2:ls[i]? with
  |none=>rw[e1,e2]at h;cases h
  |some l =>rw[e1,e2]at h;cases h;show⟨kv,l,rfl,rfl,rfl,rfl⟩
theorem pQ_{a b:End Str}(h:Gd_ S vs ([a,b].map dE)):∃qa qb,vs=[.ref qa,.ref qb]/\S qa=some (eV a)/\S qb=some (eV b):=by obtain⟨_,_,rfl,⟨qa,_,rfl,ha,_,_,rfl,hx,_,_,rfl,hy,rfl⟩,_,_,rfl,⟨qb,_,rfl,hb,_,_,rfl,hz,_,_,rfl,hu,rfl⟩,rfl⟩:=h;cases hx;cases hy;cases hz;cases hu;show⟨qa,qb,rfl,ha,hb⟩
theorem k4_{κ:Type}[DecidableEq κ](kvs:List (κ×V))(k:κ)(v:V):(Gn_ kvs k v).map (·.1)=if k∈kvs.map (·.1)then kvs.map (·.1)else kvs.map (·.1)++[k]:=by
 have e:(kvs.any λkv=>decide (kv.1=k))=decide (k∈kvs.map (·.1)):=by rw[CC_,CW_,C4_,As_];show⟨λ⟨x,hx,ex⟩=>⟨x,hx,Bj_ ex⟩,λ⟨x,hx,ex⟩=>⟨x,hx,AZ_ ex⟩⟩
 unfold Gn_;rw[e];by_cases h:k∈kvs.map (·.1)
 .rw[if_pos (AZ_ h),if_pos h,AW_];show Bs_ λx _=>?_;change(if x.1=k then(x.1,v)else x).1=x.1;split <;> rfl
 .rw[if_neg (by rw[AP_ h];decide),if_neg h,Ao_];rfl
def KyO(k2:List (List Key×V)):Prop:=(k2.map (·.1)).Nodup/\∀k∈k2.map (·.1),∃a:End Str,k=eK a
theorem KyO.put(h:KyO k2)(a:End Str)(v:V):KyO (Gn_ k2 (eK a) v):=by
 unfold KyO;rw[k4_];split
 .show h
 .rename_i c;show⟨AM_.mpr ⟨h.1,AV_.mpr ⟨s_,A8_⟩,λx hx y hy z=>c ?_⟩,λk hk=>?_⟩
  .rw[<-Ak_.mp hy,<-z];show hx
  .rcases Aq_.mp hk with hk|hk
   .show h.2 k hk
   .show⟨a,Ak_.mp hk⟩
theorem jp_{κ:Type}[DecidableEq κ]:∀{kvs:List (κ×V)}{k:κ}{v:V},(kvs.map (·.1)).Nodup->(k,v)∈kvs->Gi_ kvs k=some v
 |q::kvs,k,v,hn,hm=>by
  have h':=AV_.mp hn
  rcases Av_.mp hm with e|e
  .rw[<-e];show bk_ rfl
  .rw[a9_ (show ¬ q.1=k from λz=>h'.1 (As_.mpr ⟨_,e,z.symm⟩))];show jp_ h'.2 e
abbrev Gf_:Stmt:=stN 2
theorem eq_:ZL ["net","others","pair"] ["net"] (FC_ Gf_):=zL
theorem c2_:LK Gf_ "ends_by_wire" .globalImplicit:=r_
def HI_:Sp:=λvs H Q _=>∃(v:V)(N:Net Str),vs=[v]/\Rep H v (HG_ N)/\FY_ N/\∀d k2 H',FA_ H H'->H' d=some (.dT k2)->MO H' (Gt_ N) (Gt_ N).length k2->(∀e,(∀kv∈Gt_ N,e∉kv.2)->Gi_ k2 (eK e)=none)->KyO k2->k2.length<=60->H d=none->Q (.ref d) H'
theorem j1_(T:Txt K mg)(F:Fn0 K mg "other_ends" Gf_) (Hn_:Cal P w K mg base "ends_by_wire" ["net"] 1 I9_):Cal P w K mg base "other_ends" ["net"] 2 HI_:=by
  show aQ_ F eq_.1 λf cdv A outer s H vs Q E hr h=>?_;obtain⟨v,N,rfl,hv,ok,k⟩:=h;refine'⟨_,?D,?R⟩
  case D =>
   refine' aj_ ?a (aj_ (aP_ AA_ rfl (pz_ (am_ Hn_ (hr.mono d_) c2_ (pa_c (zv 0 eq_) ab_))) ?b ?c) (ag_ (au_ (zv 1 eq_))))
   case a=>show zas 1 eq_ fd_
   case b=>show zh 2 eq_
   case' c=>refine' aj_ (cR_ (un1 hr.units) (zv 1 eq_) (FF_ aq_ (zv 2 eq_) ad_) (FF_ aq_ (zv 2 eq_) ad_) rfl) (ag_ (cR_ (un1 hr.units) (zv 1 eq_) (FF_ aq_ (zv 2 eq_) ad_) (FF_ aq_ (zv 2 eq_) ad_) rfl))
  case R =>
   nofun;intro O nO;have SO:FA_ H (upd H O (HO.dT [])):=FA_.new nO;have hO:=aa_ (H:=H) (a:=O) (o:=HO.dT []);generalize upd H O (HO.dT [])=H1 at*;show⟨v,N,rfl,Rep.mono SO _ hv,ok,λd S ls H2 sS de nd=>?_⟩;have SO2:=sS _ _ hO;have dO:d≠O:=(ae_ hO nd).symm;have lO:∀l∈ls,l≠O:=λl hl z=>by have:=de.fl l hl;rw[z,SO2]at this;cases this
   let S':Hp:=λb=>if b=O then none else S b
   have S'O:S' O=none:=if_pos rfl;have S'ne:∀b,b≠O->S' b=S b:=λb hb=>if_neg hb
   have S'S:∀b o,S' b=some o->S b=some o:=λb o hb=>by
    by_cases z:b=O
    .rw[z,S'O]at hb;cases hb
    .rw[S'ne b z]at hb;show hb
   have tupO:∀q e,S q=some (eV e)->S' q=some (eV e):=λq e hq=>by rw[S'ne q (λz=>by rw[z,SO2]at hq;cases hq)];show hq
   have hHS:FA_ H S':=λb o hb=>by rw[S'ne b (ae_ hb nO)];show sS _ _ (SO _ _ hb)
   show⟨d,rfl,_,de.dict,λob=>?_⟩;have el:(GE_ (Gt_ N) ls).length=(Gt_ N).length:=lX_ de.len;have few:(Gt_ N).length<=30:=mE_ ok _ [] (by rw[By_]);show LR_ (λi σ H'=>∃(e2:Option V)(k2:List (List Key×V)),σ=[some v,some (.ref O),e2]/\FA_ S' H'/\H' d=some (.frz ob (.dK (GE_ (Gt_ N) ls)))/\(∀l∈ls,H' l=H2 l)/\H' O=some (.dT k2)/\MO S' (Gt_ N) i k2/\(∀e,(∀kv∈Gt_ N,e∉kv.2)->Gi_ k2 (eK e)=none)/\k2.length<=2*i/\KyO k2) ⟨none,[],rfl,aX_ (λb o hb=>de.sH _ _ (S'S b o hb)) (by rw[S'ne d dO];show de.fd),aa_,λl hl=>af_ (λz=>de.dn (by rw[<-z];show hl)),by rw[af_ dO.symm];show de.sH _ _ SO2,λj x a b hj=>absurd hj o_,λ_ _=>rfl,s_,A8_,λk hk=>(by cases hk)⟩ ?_ ?_ ?_
   .rintro i σ H' hi ⟨e2,k2,rfl,sS',hd',hls,hO',mo,no,kl,ky⟩;show hd'
   .rintro i key x σ H' hx ⟨e2,k2,rfl,sS',hd',hls,hO',mo,no,kl,ky⟩;obtain⟨kv,l,h1,h2,rfl,rfl⟩:=qY_ hx;have ii:i<(Gt_ N).length:=(Ae_.mp h1).1;obtain⟨a,b,eab⟩:=jx_ ok (Am_ h1);obtain⟨vs,hvs,hrep⟩:=de.lst i l kv h2 h1;rw[eab]at hrep;obtain⟨qa,qb,rfl,ha,hb⟩:=pQ_ hrep;have ha':=tupO _ _ ha;have hb':=tupO _ _ hb;have hl':H' l=some (.lst [.ref qa,.ref qb]):=by rw[hls l (Am_ h2)];show hvs
    have h1':(Gt_ N)[i]?=some (kv.1,[a,b]):=by rw[h1,<-eab]
    have mo2:=mo.step ok h1' ha' hb';have lO':=lO l (Am_ h2);nofun;have p1:=oQ_ k2 (eK a) (.ref qb);have p2:=oQ_ (Gn_ k2 (eK a) (.ref qb)) (eK b) (.ref qa);have qaO:qb≠O:=λz=>by rw[z,S'O]at hb';cases hb'
    show⟨_,hl',_,GD_,_,hl',_,Gv_,_,HF_.t (k:=eK a) hO' (sS' _ _ ha') (FB_ o_),_,by rw[af_ lO'];show hl',_,Gv_,_,by rw[af_ lO'];show hl',_,GD_,_,HF_.t (k:=eK b) aa_ (by rw[af_ qaO];show sS' _ _ hb') (FB_ o_),aX_ (aX_ sS' S'O) S'O,by rw[af_ dO,af_ dO];show hd',λl2 hl2=>by rw[af_ (lO l2 hl2),af_ (lO l2 hl2)];show hls l2 hl2,_,aa_,mo2,λe he=>?_,o_,(ky.put a _).put b _⟩;have hm:=he kv (Am_ h1);rw[eab]at hm;simp only[Av_,AL_,Dz_,not_or]at hm;rw[aA_,if_neg (λz=>hm.2 (e0_ z)),aA_,if_neg (λz=>hm.1 (e0_ z))];show no e he
   .rintro σ H' ⟨e2,k2,rfl,sS',hd',hls,hO',mo,no,kl,ky⟩;rw[el]at mo;nofun;show k O k2 H' (hHS.trans sS') hO' (λj x a b hj hjs=>?_) no ky o_ nO;obtain⟨⟨q1,g1,g2⟩,q2,g3,g4⟩:=mo j x a b hj hjs;show⟨⟨q1,g1,sS' _ _ g2⟩,q2,g3,sS' _ _ g4⟩
theorem gr_(hK:X.K=K):OpR X (compareOp .NotIn) (rIn K true):=by subst hK;show ko_
theorem qf_(hK:X.K=K):OpR X (compareOp .In) (rIn K false):=by subst hK;show nV_
theorem iL_(x:Str):∀(r:List Str),inV (.str x) (r.map V.str)=decide (x∈r)
 |[]=>rfl
 |y::r=>by
  have:=iL_ x r;simp only[inV,Ay_,Cx_,eqV]at this⊢;rw[this];by_cases h:y=x
  .subst h;simp
  .have h2:x≠y:=λz=>h z.symm;simp[h,h2]
theorem gs_:∀(r:List Str),(r.map V.str).all Hc_=true
 |[]=>rfl
 |y::r=>by simp[Hc_]
def Gl_(N:Net Str):List (End Str):=(N.rows.map λr=>(List.range (r.2.length+if r.1∈N.posts then 1 else 0)).map λk=>(r.1,k)).flatten
def F1_(N:Net Str)(r:Str×List Str):List (End Str):=(List.range (r.2.length+if r.1∈N.posts then 1 else 0)).map λk=>(r.1,k)
theorem er_(ok:FY_ N):(Gl_ N).length<=100/\∀r∈N.rows,r.2.length<=30:=by
 have key:∀(l:List (Str×List Str)),((l.map (F1_ N)).flatten).length<=((l.map (·.2)).flatten).length+l.length:=λl=>by
  induction l with
  |nil=>show Ai_ _
  |cons r l ih =>
   rw[Ay_,AF_,Af_,Ay_,AF_,Af_,A4_];have:(F1_ N r).length<=r.2.length+1:=by unfold F1_;rw[Ab_,Bn_];split <;> lia
   lia
 have h1:=key N.rows;have h2:=ok.tot;have h3:=ok.few;unfold Net.all at h2;show⟨?_,λr hr=>?_⟩
 .change((N.rows.map (F1_ N)).flatten).length<=100;lia
 .obtain⟨i,hi,rfl⟩:=AD_.mp hr;have e:(N.rows.map (·.2)).flatten.length=((N.rows.map (·.2)).take i).flatten.length+((N.rows.map (·.2)).drop i).flatten.length:=by rw[<-Af_,<-AT_,BF_]
  rw[B0_ (by rw[Ab_];show hi),AF_,Af_,List.getElem_map]at e;lia
abbrev FH_:Stmt:=stN 3
theorem aM_:ZM ["net","corners","point","wires","count"] ["net"] (FC_ FH_):=zM
theorem bz_:LK FH_ "corners" .local:=r_
theorem cC_:LK FH_ "point" .cell:=r_
theorem cD_:LK FH_ "wires" .local:=r_
theorem a6_:LK FH_ "count" .local:=r_
theorem es_:LK FH_ "len" .globalImplicit:=r_
theorem dt_:LK FH_ "range" .globalImplicit:=r_
def I2_:Sp:=λvs H Q _=>∃(v:V)(N:Net Str),vs=[v]/\Rep H v (HG_ N)/\FY_ N/\∀D H',FA_ H H'->Rep (HE_ H H') (.ref D) (.lst ((Gl_ N).map dE))->Q (.ref D) H'
theorem fM_(T:Txt K mg)(F:Fn0 K mg "corners_in_order" FH_):Cal P w K mg base "corners_in_order" ["net"] 1 I2_:=by
  show aQ_ F aM_.1 λf cdv A outer s H vs Q E hr h=>?_;obtain⟨v,N,rfl,hv,ok,k⟩:=h;obtain⟨few,rfew⟩:=er_ ok;obtain⟨pn,p0,p1,p2,rs,ws,rfl,hn,h0,h1,r1,h2,r2⟩:=dr_ hv;have rl:rs.length=N.rows.length:=by rw[r1.length,Ab_]
  refine'⟨_,?D,?R⟩
  case D =>
   refine' aj_ (ai_ (i:=1) aM_.nd rfl bz_ (bh_ ab_)) (aj_ ?a (ag_ (au_ (zw 1 aM_))))
   case' a=>refine' aP_ AA_ rfl (aL_ (K:=K) rfl (FF_ ao_ (zw 0 aM_) ad_)) (aU_ (K:=K) (n:=2) rfl rfl (ak_ ?b (ak_ ?c aT_))) ?d
   case b=>show d9_ (i:=2) aM_.nd rfl cC_ rfl
   case c=>show ah_ (i:=3) aM_.nd rfl cD_
   case' d=>refine' aj_ (ai_ (i:=4) aM_.nd rfl a6_ (al_ an_ es_ T.n_len aG_ (pa_c (zw 3 aM_) ab_))) (aj_ ?e (ag_ (aH_ ?f)))
   case' e=>refine' ih_ (Gj_ (aw_ (qf_ (K:=K) rfl) (zw 2 aM_) (FF_ ao_ (zw 0 aM_) ad_) (by with_unfolding_all rfl)) (ag_ (ai_ (i:=4) aM_.nd rfl a6_ (FD_ aN_ (zw 4 aM_) ad_))) aD_)
   case' f=>refine' Gq_ AB_ PySem.F.slot_list_extend PySem.F.type_list_extend nW_ (zw 1 aM_) (pa_c (cc_ (N':=["place","point"]) (ix:=[none,some 2]) rfl rfl (cw_ ?g) (aE_ dt_ T.n_range (pa_c (zw 4 aM_) ab_)) (λ_ _ _=>?h) (λ_ _ _=>?i) (λ_ _ _=>(ar_ (pa_c (pvc 1 rfl rfl) (pa_c (pv1 0 rfl rfl) ab_))))) ab_)
   case g=>show(by change Hv_ (FC_ FH_) ["net","corners","point","wires","count"] _ _ _=true;decide +kernel)
   case h=>show ah_ (i:=0) (by change List.Nodup (["place","point"]:List Str);decide +kernel) rfl rfl
   case i=>show eC_
  case R =>
   nofun;show⟨Az_ _,λD nD=>?_⟩;have SD:FA_ H (upd H D (HO.lst [])):=FA_.new nD;show⟨_,SD _ _ hn,_,GD_,p1,rfl,⟨_,.inl (.inl (SD _ _ h1))⟩,?_⟩;show jC_ (xs:=rs) (λi σ H'=>∃(e2 e3 e4:Option V)(ys:List V),σ=[some (.ref pn),some (.ref D),e2,e3,e4]/\FA_ H H'/\H' D=some (.lst ys)/\Gd_ (Iw_ H D H') ys ((((N.rows.take i).map (F1_ N)).flatten).map dE)) ⟨none,none,none,[],rfl,SD,aa_,rfl⟩ ?_ ?_ ?_
   .rintro i σ H' hi ⟨e2,e3,e4,ys,rfl,s1,hD,reps⟩;show .inl (.inl (s1 _ _ h1))
   .rintro i x σ H' hx ⟨e2,e3,e4,ys,rfl,s1,hD,reps⟩;obtain⟨r,q,l,hr1,rfl,hq,hl⟩:=fi_ r1 hx;have rm:=Am_ hr1;have r30:=rfew r rm;have tk:(N.rows.take (i+1)).map (F1_ N)=(N.rows.take i).map (F1_ N)++[F1_ N r]:=by rw[BJ_,hr1,Ao_];rfl
    have fl2:[F1_ N r].flatten=F1_ N r:=s_
    have tkl:(((N.rows.take i).map (F1_ N)).flatten).length+(F1_ N r).length<=100:=by
     have e:(N.rows.map (F1_ N)).flatten.length=((N.rows.map (F1_ N)).take (i+1)).flatten.length+((N.rows.map (F1_ N)).drop (i+1)).flatten.length:=by rw[<-Af_,<-AT_,BF_]
     rw[<-C0_,tk,AT_,fl2,Af_]at e;have:(Gl_ N).length=(N.rows.map (F1_ N)).flatten.length:=rfl;lia
    rw[tk,AT_,fl2,Ao_];have yl:ys.length=(((N.rows.take i).map (F1_ N)).flatten).length:=by rw[reps.length,Ab_]
    nofun;show⟨_,SqT.of (s1 _ _ hq),rfl,_,_,rfl,_,_,rfl,rfl,l,rfl,_,.inl (s1 _ _ hl),?_⟩;show⟨λσ Hx=>σ=[some (.ref pn),some (.ref D),some (.str r.1),some (.ref l),some (.int ((r.2.length+if r.1∈N.posts then 1 else 0:Nat):Int))]/\Hx=H',?_,?_⟩
    .nofun;show⟨_,s1 _ _ hn,_,Gv_,p0,rfl,_,.inl (.inl (.inl (s1 _ _ h0))),rfl,gs_ _,?_⟩;rw[iL_,Ab_];by_cases hc:r.1∈N.posts
     .rw[if_pos (AZ_ hc),if_pos hc];rfl
     .rw[if_neg (by rw[AP_ hc];decide),if_neg hc];rfl
    rintro σ Hx ⟨rfl,rfl⟩;have cl:(F1_ N r).length=r.2.length+if r.1∈N.posts then 1 else 0:=by unfold F1_;rw[Ab_,Bn_]
    obtain⟨n,hn'⟩:∃n:Nat,n=r.2.length+if r.1∈N.posts then 1 else 0:=⟨_,rfl⟩;have cr:F1_ N r=(List.range n).map λk=>(r.1,k):=by unfold F1_;rw[hn']
    rw[<-hn']at cl⊢;have n31:n<=31:=by rw[hn'];split <;> lia
    nofun;show⟨.inl ⟨_,.inl (.inl hD)⟩,o_,o_,?_⟩;rw[show Int.toNat (n:Int)=n by lia];show ec_ (n:=n) (B:=Hx) (Pσ:=λσ=>∃e,σ=[e,some (.str r.1)]) (ds:=(F1_ N r).map dE) (FA_.refl _) ⟨_,rfl⟩ (by rw[Ab_,cl]) o_ (λj H2 hj s2=>hj) (λH2 s2=>Ai_ _) ?_ ?_
    .rintro D2 j x d σ' H2 H2' hD2 hDo hs2 hj hdj ⟨rfl,rfl⟩ ⟨e,rfl⟩ R kR;obtain⟨od,hDo⟩:=hDo;have hd:d=dE (r.1,j):=by rw[cr,Ag_,Ag_,Ca_ hj]at hdj;show(Au_ hdj).symm
     nofun;show⟨d_,λp np=>kR _ _ _ ⟨_,rfl⟩ (FA_.new np) ?_⟩;rw[hd];have pD:p≠D2:=(ae_ hDo np).symm;show⟨p,_,rfl,by rw[eb_ pD (hs2.free np)];show aa_,_,_,rfl,rfl,_,_,rfl,by rw[B5_];rfl,rfl⟩
    .intro D2 H2 hD2 s2 rep2;obtain⟨_,us,e0,hu',hus⟩:=id rep2;cases e0;obtain⟨nu,hu⟩:=bw_ hu';have ul:us.length=(F1_ N r).length:=by rw[hus.length,Ab_]
     have D2D:D2≠D:=(ae_ hD hD2).symm;show⟨D2,rfl,ys,s2 _ _ hD,us,hu,AH_ (FB_ o_),?_⟩;show⟨λb o hb=>by rw[af_ (ae_ hb nD)];show s2 _ _ (s1 _ _ hb),?_⟩;rw[mq_];show Gd_.append (Gd_.mono (ky_ s2) _ reps) (Gd_.mono (λb o hb=>?_) _ hus);obtain⟨b1,b2⟩:=bw_ hb;rw[eb_ (ae_ hD b1).symm (s1.free b1)];show b2
   .rintro σ H' ⟨e2,e3,e4,ys,rfl,s1,hD,reps⟩;rw[Bp_ o_]at reps;nofun;show k D H' s1 ⟨D,ys,rfl,by rw[ea_ nD];show hD,Gd_.mono mp_ _ reps⟩
theorem oR_:bootBuiltins "dict"=some (.type "dict"):=r_
abbrev ph(N:Net Str):=phi Str.empty N
abbrev Pn(N:Net Str):=N.posts.length
theorem fj_(k:List Key):∀(more kvs:List (List Key×V)),(Gi_ (Gs_ kvs more) k).isSome=((Gi_ kvs k).isSome ||more.any λq=>decide (q.1=k))
 |[],kvs=>by simp[Gs_]
 |p::more,kvs=>by
  change(Gi_ (Gs_ (Gn_ kvs p.1 p.2) more) k).isSome=_;rw[fj_ k more,aA_,Cx_];by_cases e:k=p.1
  .subst e;simp
  .have e':¬ p.1=k:=λz=>e z.symm;simp[e,e']
theorem fN_(po:FK_ N):Gl_ N=(H5_ N).map (ph N):=(pb_ po).symm
theorem pR_{us:List V}(h:Gd_ H us (es.map dE))(hi:i<es.length):∃q,us[i]?=some (.ref q)/\H q=some (eV es[i]):=by
 have hl:us.length=es.length:=by rw[h.length,Ab_]
 obtain⟨dd,hdd,hrep⟩:=h.of_get (i:=i) (x:=us[i]) (Aa_ o_);rw[Ag_,Aa_ hi]at hdd;rw[<-Au_ hdd]at hrep;obtain⟨q,_,e,hq,_,_,rfl,hx1,_,_,rfl,hx2,rfl⟩:=hrep;cases hx1;cases hx2;show⟨q,by rw[Aa_ o_,e],hq⟩
def dKn(e:End Str):Dt:=.tup [dE e,.bl true]
def kvK(es:List (End Str)):List (List Key×V):=es.map λe=>(eK e,.bl true)
theorem nd_{p:Addr}(h:Rep H (.ref p) (.lst (es.map dKn))):Jc_ H p (kvK es):=by
 obtain⟨_,ys,e0,hp,hys⟩:=h;cases e0;have yl:ys.length=es.length:=by rw[hys.length,Ab_]
 show⟨ys,hp,by rw[yl];unfold kvK;rw[Ab_],λi q hq=>?_⟩
 have hi:i<es.length:=by
  have:=(Ae_.mp hq).1;unfold kvK at this
  rwa[Ab_]at this
 unfold kvK at hq;rw[Ag_,Aa_ hi]at hq;cases hq;obtain⟨dd,hdd,hrep⟩:=hys.of_get (i:=i) (x:=ys[i]) (Aa_ o_);rw[Ag_,Aa_ hi]at hdd;rw[<-Au_ hdd]at hrep;obtain⟨a,_,e,ha,x1,_,rfl,hx1,x2,_,rfl,hx2,rfl⟩:=hrep;obtain⟨b,_,rfl,hb,_,_,rfl,hy1,_,_,rfl,hy2,rfl⟩:=hx1;cases hx2;cases hy1;cases hy2;show⟨a,b,by rw[Aa_ o_,e],ha,hb⟩
theorem oS_(es:List (End Str))(e:End Str):(Gi_ (Gs_ [] (kvK es)) (eK e)).isSome=decide (e∈es):=by
 rw[fj_];change(false ||_)=_;rw[Bool.false_or];unfold kvK;rw[List.any_map];by_cases h:e∈es
 .rw[AZ_ h];show CW_.mpr ⟨e,h,AZ_ rfl⟩
 .rw[AP_ h];show Bool.eq_false_iff.mpr λz=>?_;obtain⟨x,hx,ex⟩:=CW_.mp z;show h (e0_ (Bj_ ex)▸hx)
theorem j2_:∀(kvs D:List (Key×V)),((D++kvs).map (·.1)).Nodup->G5_ D kvs=D++kvs
 |[],D,_=>by rw[By_];rfl
 |kv::kvs,D,h=>by
  have hn:Gi_ D kv.1=none:=by
   cases e:Gi_ D kv.1 with
   |none=>rfl
   |some v =>have h1:=n8_ e;rw[Ao_,AM_]at h;show absurd rfl (h.2.2 _ h1 kv.1 s_)
  change G5_ (Gn_ D kv.1 kv.2) kvs=_;rw[pr_ _ hn,j2_ kvs (D++[kv]) (by rw[Bi_];show h),Bi_];rfl
theorem lY_:∀{kvs:List (Key×V)}{k:Key}{v:V},(kvs.map (·.1)).Nodup->(k,v)∈kvs->Gi_ kvs k=some v
 |kv::kvs,k,v,h,hm=>by
  rcases Av_.mp hm with e|e
  .rw[<-e];show bk_ rfl
  .have h':=AV_.mp h;rw[a9_ (λc=>h'.1 (As_.mpr ⟨_,e,(show kv.1=k from c).symm⟩))];show lY_ h'.2 e
theorem j3_{H:Hp}:∀{rs:List V}{rows:List (Str×List Str)},Gd_ H rs (rows.map dRw)->∃kvs:List (Key×V),kvs.map (·.1)=rows.map (λr=>Sum.inr r.1)/\rs.length=kvs.length/\(∀(i:Nat)(q:Key×V),kvs[i]?=some q->∃a,rs[i]?=some (.ref a)/\H a=some (.tup [kV q.1,q.2]))/\∀r∈rows,∃l,(Sum.inr r.1,V.ref l)∈kvs/\H l=some (.lst (r.2.map V.str))
 |_,[],h=>by
  cases h;show⟨[],rfl,rfl,λi q e=>(nomatch e),λr hr=>(nomatch hr)⟩
 |_,r::rows,⟨x,l,e,hx,hl⟩=>by
  subst e;obtain⟨kvs,k1,k2,k3,k4⟩:=j3_ hl;obtain⟨q,l',e1,hq,hl'⟩:=oP_ hx;subst e1;show⟨(.inr r.1,.ref l')::kvs,by rw[Ay_,Ay_,k1],by rw[A4_,A4_,k2],λi z e=>?_,λr' hr=>?_⟩
  .cases i with
   |zero=>cases e;show⟨q,rfl,hq⟩
   |succ i=>show k3 i z e
  .rcases Av_.mp hr with rfl|hr
   .show⟨l',Ar_,hl'⟩
   .obtain⟨v,hv1,hv2⟩:=k4 r' hr;show⟨v,An_ _ hv1,hv2⟩
abbrev Ha_:Stmt:=stN 5
theorem oT_:ZL ["standing"] ["standing"] (FC_ Ha_):=zL
def HK_:Sp:=λvs H Q _=>∃(q:Addr)(k:Sk),vs=[.ref q]/\GM_ H q k/\∀q' H',FA_ H H'->GM_ H' q' (k.1,!k.2)->Q (.ref q') H'
theorem oU_(T:Txt K mg)(F:Fn0 K mg "turned" Ha_):Cal P w K mg base "turned" ["standing"] 1 HK_:=by
  show aQ_ F oT_.1 λf cdv A outer s H vs Q E hr h=>?_;obtain⟨q,k,rfl,⟨p,h1,h2⟩,kk⟩:=h;refine'⟨_,?D,?R⟩
  case D =>refine' ag_ (au_ (ar_ (pa_c (FF_ ao_ (zv 0 oT_) ad_) (pa_c (rq_ (FF_ ao_ (zv 0 oT_) ad_)) ab_))))
  case R =>nofun;show⟨_,h1,_,Gv_,_,h1,_,GD_,_,rfl,d_,λq' nq=>kk q' _ (FA_.new nq) ⟨p,aa_,(FA_.new nq) _ _ h2⟩⟩
theorem K7_(ok:FY_ N)(h:r∈N.rows):r.2.length<=30:=by
 have h1:r.2.length<=N.all.length:=by unfold Net.all;show(CS_ (As_.mpr ⟨r,h,rfl⟩)).length_le
 have:=ok.tot;lia
abbrev FE_:Stmt:=stN 6
theorem aC_:ZL ["net","behind","point","wires","place","last"] ["net"] (FC_ FE_):=zL
theorem bE_:LK FE_ "len" .globalImplicit:=r_
theorem cL_:LK FE_ "range" .globalImplicit:=r_
def bhN(N:Net Str)(e:End Str)(n:Nat):End Str:=if e.1∉N.posts/\e.2+1=n then(e.1,0)else(e.1,e.2+1)
def Lq_(H:Hp)(N:Net Str)(kb:List (List Key×V))(rows:List (Str×List Str)):Prop:=∀r∈rows,∀k,k<r.2.length->∃q,Gi_ kb (eK (r.1,k))=some (.ref q)/\H q=some (eV (bhN N (r.1,k) r.2.length))
def BhI(H:Hp)(N:Net Str)(kb:List (List Key×V))(i j:Nat):Prop:=∀i0 r k,N.rows[i0]?=some r->k<r.2.length->(i0<i\/(i0=i/\k<j))->∃q,Gi_ kb (eK (r.1,k))=some (.ref q)/\H q=some (eV (bhN N (r.1,k) r.2.length))
variable{kb:List (List Key×V)}
theorem BhI.all(h:BhI H N kb N.rows.length 0):Lq_ H N kb N.rows:=λr hr k hk=>by obtain⟨i,hi,rfl⟩:=AD_.mp hr;show h i _ k (Aa_ hi) hk (.inl hi)
theorem BhI.row(hr:N.rows[i]?=some r)(h:BhI H N kb i r.2.length):BhI H N kb (i+1) 0:=λi0 r0 k h1 h2 h3=>by
 show h i0 r0 k h1 h2 ?_
 rcases h3 with h3|h3
 .by_cases e:i0=i
  .subst e;rw[hr]at h1;cases h1;show .inr ⟨rfl,h2⟩
  .show .inl o_
 .show absurd h3.2 (Bh_ _)
theorem BhI.put(ok:FY_ N){j:Nat}(hr:N.rows[i]?=some r)(h:BhI H N kb i j)(s:∀b ys,H b=some (.tup ys)->H' b=some (.tup ys))(hq:H' q=some (eV (bhN N (r.1,j) r.2.length))):BhI H' N (Gn_ kb (eK (r.1,j)) (.ref q)) i (j+1):=λi0 r0 k h1 h2 h3=>by
 by_cases e:eK (r0.1,k)=eK (r.1,j)
 .have e':=e0_ e;have en:r0.1=r.1:=(Ez_ e').1;have ek:k=j:=(Ez_ e').2;have er:r0=r:=by obtain⟨l1,rfl⟩:=Ae_.mp h1;obtain⟨l2,rfl⟩:=Ae_.mp hr;have:=(A1_ (l:=N.rows.map (·.1)) (i:=i0) (j:=i) (by rw[Ab_];show l1) ok.nd).mp (by rw[Ag_,Ag_,h1,hr];show congrArg some en);subst this;rfl
  subst er ek;show⟨q,by rw[aA_,if_pos rfl],hq⟩
 .obtain⟨q0,z1,z2⟩:=h i0 r0 k h1 h2 (by
   rcases h3 with h3|⟨h3,h4⟩
   .show .inl h3
   .show .inr ⟨h3,?_⟩;subst h3;rw[hr]at h1;cases h1;have:k≠j:=λz=>e (by rw[z]);lia)
  show⟨q0,by rw[aA_,if_neg e];show z1,s _ _ z2⟩
def J5_:Sp:=λvs H Q _=>∃(v:V)(N:Net Str),vs=[v]/\Rep H v (HG_ N)/\FY_ N/\∀d kb H',FA_ H H'->H d=none->H' d=some (.dT kb)->Lq_ H' N kb N.rows->Q (.ref d) H'
theorem eG_(T:Txt K mg)(F:Fn0 K mg "corners_behind_ends" FE_):Cal P w K mg base "corners_behind_ends" ["net"] 1 J5_:=by
  show aQ_ F aC_.1 λf cdv A outer s H vs Q E hr h=>?_;obtain⟨v,N,rfl,hv,ok,kk⟩:=h;obtain⟨pn,p0,p1,p2,rs,ws,rfl,hn,h0,h1,r1,h2,r2⟩:=dr_ hv;have rl:rs.length=N.rows.length:=by rw[r1.length,Ab_]
  refine'⟨_,?D,?R⟩
  case D =>
   refine' aj_ ?a (aj_ ?b (ag_ (au_ (zv 1 aC_))))
   case a=>show zas 1 aC_ fd_
   case' b=>refine' aP_ AA_ rfl (aL_ (K:=K) rfl (FF_ ao_ (zv 0 aC_) ad_)) (aU_ (K:=K) (n:=2) rfl rfl (ak_ ?c (ak_ ?d aT_))) ?e
   case c=>show zh 2 aC_
   case d=>show zh 3 aC_
   case' e=>refine' ag_ (aP_ AA_ rfl (aE_ cL_ T.n_range (pa_c (al_ an_ bE_ T.n_len aG_ (pa_c (zv 3 aC_) ab_)) ab_)) ?f ?g)
   case f=>show zh 4 aC_
   case' g=>refine' ac_ (zas 5 aC_ ?h) (ag_ (cR_ (un1 hr.units) (zv 1 aC_) (ar_ (pa_c (zv 2 aC_) (pa_c (zv 4 aC_) ab_))) ?i rfl))
   case' h=>refine' rp_ (gP_ GW_ (FD_ aN_ (zv 4 aC_) ad_) (al_ an_ bE_ T.n_len aG_ (pa_c (zv 3 aC_) ab_)) (FW_ _)) (ro_ (gP_ (gr_ (K:=K) rfl) (zv 2 aC_) (FF_ ao_ (zv 0 aC_) ad_) (by with_unfolding_all rfl)))
   case' i=>refine' ar_ (pa_c (zv 2 aC_) (pa_c (pe_ (f3_ (zv 5 aC_)) ad_ (FD_ aN_ (zv 4 aC_) ad_)) ab_))
  case R =>
   nofun;intro d nd;have S1:=FA_.new nd (o:=HO.dT []);have hd1:=aa_ (H:=H) (a:=d) (o:=HO.dT []);generalize upd H d (HO.dT [])=H1 at*;show⟨_,S1 _ _ hn,_,GD_,p1,rfl,⟨_,.inl (.inl (S1 _ _ h1))⟩,?_⟩;show c9_ (xs:=rs) (λi σ Hy=>∃(e2 e3 e4 e5:Option V)(kb:List (List Key×V)),σ=[some (.ref pn),some (.ref d),e2,e3,e4,e5]/\FA_ H Hy/\Hy d=some (.dT kb)/\kb.length<=31*i/\BhI Hy N kb i 0) ⟨_,_,_,_,[],rfl,S1,hd1,Az_ _,λi0 r k _ _ h=>(by rcases h with h|h;show absurd h (Bh_ _);show absurd h.2 (Bh_ _))⟩ ?_ ?_ ?_
   .rintro i σ Hy hi ⟨e2,e3,e4,e5,kb,rfl,sy,hd,kl,bh⟩;show .inl (.inl (sy _ _ h1))
   .rintro i y σ Hy hy kc kbk hk hb G hG ⟨e2,e3,e4,e5,kb,rfl,sy,hd,kl,bh⟩;show hG ?_;obtain⟨r,q,l,hr1,rfl,hq,hl⟩:=fi_ r1 hy;have il:=(Ae_.mp hr1).1;have few:=ok.few;have r30:=K7_ ok (Am_ hr1);nofun;show⟨_,SqT.of (sy _ _ hq),rfl,_,_,rfl,_,_,rfl,rfl,l,rfl,_,.inl (sy _ _ hl),o_,by rw[Ab_];lia,?_⟩;rw[Ab_,AC_];show a5_ (λj σ Hz=>∃(e4 e5:Option V)(kb:List (List Key×V)),σ=[some (.ref pn),some (.ref d),some (.str r.1),some (.ref l),e4,e5]/\FA_ H Hz/\Hz d=some (.dT kb)/\kb.length<=31*i+j/\BhI Hz N kb i j) ⟨_,_,kb,rfl,sy,hd,o_,bh⟩ ?_ ?_
    .rintro j σ Hz hj kk2 kb2 hk2 hb2 G2 hG2 ⟨e4,e5,kb,rfl,sz,hd,kl,bh⟩;show hG2 ?_;rw[B5_];have hlz:=sz _ _ hl;have hnz:=sz _ _ hn;have h0z:=sz _ _ h0
     have fin:∀(b:Bool)(n:Int),n=(bhN N (r.1,j) r.2.length).2->(2<=sizeLine/\∀q1:Addr,Hz q1=none->2<=sizeLine/\∀q2:Addr,upd Hz q1 (.tup [.str r.1,.int n]) q2=none->∃x,HF_ (upd (upd Hz q1 (.tup [.str r.1,.int n])) q2 (.tup [.str r.1,.int j])) d (.ref q2) (.ref q1) x/\kk2 [some (.ref pn),some (.ref d),some (.str r.1),some (.ref l),some (.int j),some (.bl b)] x):=by
      rintro b n rfl;show⟨d_,λq1 n1=>⟨d_,λq2 n2=>?_⟩⟩;have t1:=FA_.new n1 (o:=HO.tup [.str r.1,.int ((bhN N (r.1,j) r.2.length).2:Nat)]);have hq1:=aa_ (H:=Hz) (a:=q1) (o:=HO.tup [.str r.1,.int ((bhN N (r.1,j) r.2.length).2:Nat)]);generalize upd Hz q1 (HO.tup [.str r.1,.int ((bhN N (r.1,j) r.2.length).2:Nat)])=Z1 at*;have t2:=FA_.new n2 (o:=HO.tup [.str r.1,.int j]);have hq2:=aa_ (H:=Z1) (a:=q2) (o:=HO.tup [.str r.1,.int j]);have hq1':=t2 _ _ hq1;have t12:=t1.trans t2;generalize upd Z1 q2 (HO.tup [.str r.1,.int j])=Z2 at*;have hd2:=t12 _ _ hd;show⟨_,HF_.t (k:=eK (r.1,j)) hd2 hq2 (FB_ o_),hk2 _ _ ⟨_,_,_,rfl,(sz.trans t12).upd nd,aa_,by have:=aJ_ kb (eK (r.1,j)) (.ref q1);lia,?_⟩⟩;have old:∀b ys,Hz b=some (.tup ys)->upd Z2 d (.dT (Gn_ kb (eK (r.1,j)) (.ref q1))) b=some (.tup ys):=λb ys e=>by rw[af_ (HV_ (t12 _ _ e) hd2 (λz=>nomatch z))];show t12 _ _ e
      show BhI.put ok hr1 bh old ?_;rw[af_ (HV_ hq1' hd2 (λz=>nomatch z)),hq1'];unfold eV bhN;split <;> rfl
     nofun;show⟨_,.inl hlz,?_⟩;rw[Ab_];show ite2 (λc=>?_) (λc=>?_)
     .show⟨_,hnz,_,Gv_,p0,rfl,_,.inl (.inl (.inl h0z)),rfl,by simp[Hc_],?_⟩;rw[iL_];nofun;show ite2 (λc2=>fin _ _ ?_) (λc2=>fin _ _ ?_)
      .unfold bhN;rw[if_pos ⟨c2,by dsimp only;lia⟩];rfl
      .unfold bhN;rw[if_neg (λz=>c2 z.1)];rfl
     .nofun;show fin _ _ ?_;unfold bhN;rw[if_neg (λz=>c (by have:=z.2;dsimp only at this;lia))];rfl
    .rintro σ Hz ⟨e4,e5,kb,rfl,sz,hd,kl,bh⟩;show hk _ _ ⟨_,_,_,_,kb,rfl,sz,hd,o_,bh.row hr1⟩
   .rintro σ Hy ⟨e2,e3,e4,e5,kb,rfl,sy,hd,kl,bh⟩;rw[rl]at bh;nofun;show kk d kb Hy sy nd hd bh.all
theorem un2{n c:Nat}(h:n+64<c):n+2<c:=o_
def skN(N:Net Str)(s:Sd):Sk:=(eK (ph N s.1),s.2)
theorem j4_(ok:FY_ N)(po:FK_ N){a b:Sd}(ha:a.1.1<(pts N).length)(hb:b.1.1<(pts N).length)(h:skN N a=skN N b):a=b:=by unfold skN at h;obtain⟨h1,h2⟩:=Ez_ h;show Bb_ (h8_ ok po ha hb (e0_ h1)) h2
theorem rX_{p:Nat}(h:p<(pts N).length):(pts N)[p]?=some ((pts N).getD p Str.empty):=by rw[Ad_,Aa_ h];rfl
theorem qg_(ok:FY_ N)(po:FK_ N){p:Nat}(h:p<(pts N).length):∃r∈N.rows,r.1=(pts N).getD p Str.empty/\(trn N).getD p []=r.2/\(r.1∈N.posts↔p<Pn N):=by
 have hx:=rX_ h;have hm:(pts N).getD p Str.empty∈pts N:=Am_ hx;obtain⟨r,hr,e⟩:=As_.mp ((d5_ po).mp hm);show⟨r,hr,e,?_,?_⟩
 .rw[gM_ hx,<-e];show ck_ ok hr
 .rw[e];show f1_ ok po hx
theorem oV_(ok:FY_ N)(po:FK_ N){e:Nat×Nat}(h:wi (trn N) e=some x):e.1<(pts N).length/\∃r∈N.rows,r.1=(ph N e).1/\r.2[e.2]?=some x/\r.2.length=rl (trn N) e.1/\(r.1∈N.posts↔e.1<Pn N):=by
 have h1:=(F8_ h).2;rw[ba_]at h1;obtain⟨r,hr,g1,g2,g3⟩:=qg_ ok po h1;show⟨h1,r,hr,g1,?_,?_,g3⟩
 .have:=h;unfold wi at this;rw[g2]at this;show this
 .unfold rl;rw[g2]
theorem Lj_(ok:FY_ N)(po:FK_ N)(bh:Lq_ H N kb N.rows){e:Nat×Nat}(h:wi (trn N) e=some x):∃q,Gi_ kb (eK (ph N e))=some (.ref q)/\H q=some (eV (ph N (beh (trn N) (Pn N) e))):=by
 obtain⟨h1,r,hr,g1,g2,g3,g4⟩:=oV_ ok po h;have hk:e.2<r.2.length:=(Ae_.mp g2).1;obtain⟨q,z1,z2⟩:=bh r hr e.2 hk;have ee:((r.1,e.2):End Str)=ph N e:=Bb_ g1 rfl;rw[ee]at z1 z2;show⟨q,z1,?_⟩;rw[z2];congr 1;unfold bhN beh;rw[g3];have c:((ph N e).1∉N.posts/\(ph N e).2+1=rl (trn N) e.1)↔(Pn N<=e.1/\e.2+1=rl (trn N) e.1):=by rw[<-g1,g4];show and_congr Cg_ Iff.rfl
 by_cases c1:Pn N<=e.1/\e.2+1=rl (trn N) e.1
 .rw[if_pos (c.mpr c1),if_pos c1];rfl
 .rw[if_neg (λz=>c1 (c.mp z)),if_neg c1];rfl
theorem qh_(ok:FY_ N)(po:FK_ N){kv:Str×List (End Str)}(hkv:kv∈Gt_ N){a:End Str}(ha:a∈kv.2):∃e,wi (trn N) e=some kv.1/\ph N e=a:=by
 obtain⟨r,hr,h1,h2⟩:=nt_.mp (no_ hkv ha)
 dsimp only at h1 h2
 have hm:r.1∈pts N:=(d5_ po).mpr (As_.mpr ⟨r,hr,rfl⟩);show⟨(pid N r.1,a.2),?_,?_⟩
 .unfold wi;rw[gM_ (mc_ hm),ck_ ok hr];show h2
 .show(ns_ hm a.2).trans (Bb_ h1 rfl)
structure GoI(H:Hp)(N:Net Str)(kg:List (Sk×V))(D:Nat×Nat->Prop):Prop where
 tt:∀e f x,D e->Hk_ (trn N) e f->wi (trn N) e=some x->∃v q,Gi_ kg (skN N (e,true))=some (.ref v)/\H v=some (.tup [.str x,.ref q])/\GM_ H q (skN N (f,false))
 ff:∀e f x,D e->Hk_ (trn N) e f->wi (trn N) e=some x->∃v q,Gi_ kg (skN N (beh (trn N) (Pn N) e,false))=some (.ref v)/\H v=some (.tup [.str x,.ref q])/\GM_ H q (skN N (beh (trn N) (Pn N) f,true))
 no:∀s:Sd,IsC (trn N) (Pn N) s.1->wr (trn N) (Pn N) s=none->Gi_ kg (skN N s)=none
theorem GoI.put{N:Net Str}(ok:FY_ N)(po:FK_ N){H H':Hp}{kg:List (Sk×V)}{D:Nat×Nat->Prop}(g:GoI H N kg D){e f:Nat×Nat}{x:Str}(m:Hk_ (trn N) e f)(hx:wi (trn N) e=some x){v1 q1 v2 q2:Addr}
  (s:∀b ys,H b=some (.tup ys)->H' b=some (.tup ys)) (h1:H' v1=some (.tup [.str x,.ref q1])) (k1:GM_ H' q1 (skN N (f,false))) (h2:H' v2=some (.tup [.str x,.ref q2])) (k2:GM_ H' q2 (skN N (beh (trn N) (Pn N) f,true))):
  GoI H' N (Gn_ (Gn_ kg (skN N (e,true)) (.ref v1)) (skN N (beh (trn N) (Pn N) e,false)) (.ref v2)) (λc=>D c\/c=e):=by
 have lt:∀{c:Nat×Nat}{y:Str},wi (trn N) c=some y->c.1<(pts N).length:=λ{c y} h=>by have:=(F8_ h).2;rwa[ba_]at this
 have bl:∀{c:Nat×Nat},(beh (trn N) (Pn N) c).1=c.1:=λ{c}=>fx_ _ _ c;have tf:∀{a b:Nat×Nat},skN N (a,true)≠skN N (b,false):=λ{a b} z=>by have:=congrArg Prod.snd z;cases this
 have ft:∀{a b:Nat×Nat},skN N (a,false)≠skN N (b,true):=λ{a b} z=>tf z.symm;have one:∀c,Hk_ (trn N) e c->c=f:=λc hc=>d3_ (ha_ ok po) hc m;have kp:∀{q k},GM_ H q k->GM_ H' q k:=λ{q k} ⟨p,z1,z2⟩=>⟨p,s _ _ z1,s _ _ z2⟩;show⟨λc d y hc hm hy=>?_,λc d y hc hm hy=>?_,λt ht hn=>?_⟩
 .rw[aA_,if_neg tf,aA_];by_cases ce:c=e
  .subst ce;rw[hx]at hy;cases hy;rw[if_pos rfl,one d hm];show⟨v1,q1,rfl,h1,k1⟩
  .rw[if_neg (λz=>ce (congrArg Prod.fst (j4_ ok po (lt hy) (lt hx) z)))];obtain⟨v,q,z1,z2,z3⟩:=g.tt c d y (hc.resolve_right ce) hm hy;show⟨v,q,z1,s _ _ z2,kp z3⟩
 .rw[aA_];by_cases ce:c=e
  .subst ce;rw[hx]at hy;cases hy;rw[if_pos rfl,one d hm];show⟨v2,q2,rfl,h2,k2⟩
  .rw[if_neg (λz=>ce (gN_ (F8_ hy).1 (F8_ hx).1 (congrArg Prod.fst (j4_ ok po (by change(beh _ _ c).1<_;rw[bl];show lt hy) (by change(beh _ _ e).1<_;rw[bl];show lt hx) z)))),aA_,if_neg ft];obtain⟨v,q,z1,z2,z3⟩:=g.ff c d y (hc.resolve_right ce) hm hy;show⟨v,q,z1,s _ _ z2,kp z3⟩
 .have tl:t.1.1<(pts N).length:=by have:=ht.1;rwa[ba_]at this
  rw[aA_,if_neg,aA_,if_neg]
  .show g.no t ht hn
  .intro z;have:=j4_ ok po tl (lt hx) z;rw[this]at hn;rw[show wr (trn N) (Pn N) (e,true)=wi (trn N) e from rfl,hx]at hn;cases hn
  .intro z;have:=j4_ ok po tl (by change(beh _ _ e).1<_;rw[bl];show lt hx) z;rw[this,i7_ (F8_ hx).1,hx]at hn;cases hn
abbrev FX_:Stmt:=stN 7
theorem bA_:ZL ["net","wires_round","behind","goings","end","far","wire"] ["net"] (FC_ FX_):=zL
theorem ca_:LK FX_ "corners_behind_ends" .globalImplicit:=r_
theorem g1_:LK FX_ "dict" .globalImplicit:=r_
theorem et_:LK FX_ "other_ends" .globalImplicit:=r_
def K2_(P:Program)(w:World):Sp:=λvs H Q _=>∃(v:V)(N:Net Str),vs=[v]/\Rep H v (HG_ N)/\FY_ N/\FK_ N/\∀d kg H',FA_ H H'->DP P w H' d kg->GoI H' N kg (λ_=>True)->H d=none->Q (.ref d) H'
theorem k5_(T:Txt K mg)(F:Fn0 K mg "goings_of" FX_) (GR_:Cal P w K mg base "corners_behind_ends" ["net"] 1 J5_) (HZ_:Cal P w K mg base "other_ends" ["net"] 2 HI_):Cal P w K mg base "goings_of" ["net"] 3 (K2_ P w):=by
  show aQ_ F bA_.1 λf cdv A outer s H vs Q E hr h=>?_;obtain⟨v,N,rfl,hv,ok,po,kk⟩:=h;obtain⟨pn,p0,p1,p2,rs,ws,rfl,hn,h0,h1,r1,h2,r2⟩:=dr_ hv;have rl:rs.length=N.rows.length:=by rw[r1.length,Ab_]
  refine'⟨_,?D,?R⟩
  case D =>
   refine' ac_ (zas 1 bA_ (cl_ (jh_ rfl) g1_ T.n_dict oR_ (pa_c (FF_ ao_ (zv 0 bA_) ad_) ab_))) ?a
   case' a=>refine' ac_ (zas 2 bA_ (am_ GR_ (hr.mono d_) ca_ (pa_c (zv 0 bA_) ab_))) (ac_ ?b (aj_ ?c (ag_ (au_ (zv 3 bA_)))))
   case b=>show zas 3 bA_ (qE_ (P:=P) (w:=w) rfl rfl)
   case' c=>refine' aP_ AA_ rfl (m1_ (am_ HZ_ (hr.mono d_) et_ (pa_c (zv 0 bA_) ab_))) (aU_ (K:=K) (n:=2) rfl rfl (ak_ ?d (ak_ ?e aT_))) ?f
   case d=>show zh 4 bA_
   case e=>show zh 5 bA_
   case' f=>refine' ac_ (zas 6 bA_ (FF_ aq_ (ce_ (un1 hr.units) (zv 1 bA_) (FF_ ao_ (zv 4 bA_) ad_)) (FF_ ao_ (zv 4 bA_) ad_))) ?g
   case' g=>refine' ac_ (ol_ (P:=P) (w:=w) rfl rfl (un2 hr.units) (zv 3 bA_) (ar_ (pa_c (zv 4 bA_) (pa_c GG_ ab_))) ?h rfl) ?i
   case' h=>refine' ar_ (pa_c (zv 6 bA_) (pa_c (ar_ (pa_c (zv 5 bA_) (pa_c GG_ ab_))) ab_))
   case' i=>refine' ag_ (ol_ (P:=P) (w:=w) rfl rfl (un2 hr.units) (zv 3 bA_) (ar_ (pa_c (ce_ (un1 hr.units) (zv 2 bA_) (zv 4 bA_)) (pa_c GG_ ab_))) ?j rfl)
   case' j=>refine' ar_ (pa_c (zv 6 bA_) (pa_c (ar_ (pa_c (ce_ (un1 hr.units) (zv 2 bA_) (zv 5 bA_)) (pa_c GG_ ab_))) ab_))
  case R =>
   nofun;obtain⟨kvs,k1,k2,k3,k4⟩:=j3_ r1;have few:=ok.few;have knd:(kvs.map (·.1)).Nodup:=by rw[k1];have:=ok.nd;unfold List.Nodup at this⊢;rw[BD_]at this⊢;show this.imp λh z=>h (CE_ z)
   show⟨_,hn,_,GD_,p1,rfl,rs,h1,kvs,o_,o_,k3,λdr ndr=>?_⟩;rw[j2_ kvs [] (by rw[Dv_];show knd),Dv_];have S1:=FA_.new ndr (o:=HO.dK kvs);have hdr:=aa_ (H:=H) (a:=dr) (o:=HO.dK kvs);generalize upd H dr (HO.dK kvs)=H1 at*;nofun;show⟨_,N,rfl,Rep.mono S1 _ hv,ok,λdb kb H2 s2 ndb hdb bh=>?_⟩;nofun;intro dg ndg H3 s3 dp0 fr3;nofun;show⟨_,N,rfl,Rep.mono (S1.trans (s2.trans s3)) _ hv,ok,λdO k2' H4 s4 hdO mo no ky kl60 ndO=>?_⟩;show⟨dO,rfl,k2',hdO,λob=>?_⟩;have s03:=S1.trans (s2.trans s3);have s04:=s03.trans s4;have dgO:dg≠dO:=λz=>by obtain⟨_,xs,e,_⟩:=dp0;rw[z]at e;rw[e]at ndO;cases ndO
   have dgn:H dg=none:=(S1.trans s2).free ndg
   let Sx:Hp:=λb=>if b=dg then none else upd H4 dO (HO.frz ob (HO.dT k2')) b
   have Sxd:Sx dg=none:=if_pos rfl;have Sx4:∀b o,b≠dg->b≠dO->H4 b=some o->Sx b=some o:=λb o h1 h2 e=>by change(if b=dg then none else _)=_;rw[if_neg h1,af_ h2];show e
   have tupS:∀b ys,H4 b=some (.tup ys)->Sx b=some (.tup ys):=λb ys e=>by
    show Sx4 b _ (λz=>?_) (λz=>?_) e
    .obtain⟨_,xs,e',_⟩:=dp0.mono s4;rw[z,e']at e;cases e
    .rw[z,hdO]at e;cases e
   have hS:FA_ H Sx:=λb o e=>Sx4 b o (ae_ e dgn) (λz=>by rw[z]at e;rw[s03 _ _ e]at ndO;cases ndO) (s04 _ _ e);have frzS:Sx dO=some (.frz ob (.dT k2')):=by change(if dO=dg then none else _)=_;rw[if_neg dgO.symm,aa_]
   have hdrS:Sx dr=some (.dK kvs):=Sx4 dr _ (ae_ (s2 _ _ hdr) ndg) (λz=>by have:=(s2.trans s3) _ _ hdr;rw[z,ndO]at this;cases this) ((s2.trans (s3.trans s4)) _ _ hdr);have hdbS:Sx db=some (.dT kb):=Sx4 db _ (ae_ hdb ndg) (λz=>by have:=s3 _ _ hdb;rw[z,ndO]at this;cases this) ((s3.trans s4) _ _ hdb);have bhS:Lq_ Sx N kb N.rows:=λr hr k hk=>by obtain⟨q,z1,z2⟩:=bh r hr k hk;show⟨q,z1,tupS _ _ ((s3.trans s4) _ _ z2)⟩
   have dp4:=dp0.mono s4;have dpI:DP P w (upd H4 dO (HO.frz ob (HO.dT k2'))) dg []:=by obtain⟨z0,xs,z1,z2⟩:=dp4;show⟨z0,xs,by rw[af_ dgO];show z1,?_⟩;cases z2;show .nil
   have item:∀(i:Nat) k x,k2'[i]?=some (k,x)->∃e f a q,k=eK (ph N e)/\Hk_ (trn N) e f/\wi (trn N) e=some a/\x=.ref q/\Sx q=some (eV (ph N f)):=λi k x hk=>by
    have hm:=Am_ hk;obtain⟨a,rfl⟩:=ky.2 k (As_.mpr ⟨_,hm,rfl⟩);have hv:=jp_ ky.1 hm
    obtain⟨kv,hkv,hakv⟩:∃kv∈Gt_ N,a∈kv.2:=by
     by_cases c:∃kv∈Gt_ N,a∈kv.2
     .show c
     .rw[no a λkv hkv z=>c ⟨kv,hkv,z⟩]at hv;cases hv
    obtain⟨j,hj,ej⟩:=AD_.mp hkv;obtain⟨b,c,ebc⟩:=jx_ ok hkv;have ne:=np_ ok hkv ebc;obtain⟨⟨q1,g1,g2⟩,q2,g3,g4⟩:=mo j kv.1 b c hj (by rw[Aa_ hj,ej,<-ebc]);have mt:∀{a1 a2:End Str},a1∈kv.2->a2∈kv.2->a1≠a2->∃e f,ph N e=a1/\ph N f=a2/\Hk_ (trn N) e f/\wi (trn N) e=some kv.1:=λ{a1 a2} h1 h2 h3=>by obtain⟨e,w1,r1⟩:=qh_ ok po hkv h1;obtain⟨f,w2,r2⟩:=qh_ ok po hkv h2;show⟨e,f,r1,r2,⟨λz=>h3 (by rw[<-r1,<-r2,z]),_,w1,w2⟩,w1⟩
    rw[ebc]at hakv
    rcases Av_.mp hakv with z|z
    .subst z;obtain⟨e,f,r1,r2,m,w1⟩:=mt (a1:=a) (a2:=c) (by rw[ebc];simp) (by rw[ebc];simp) ne;rw[g1]at hv;cases hv;show⟨e,f,_,q1,by rw[r1],m,w1,rfl,by rw[r2];show tupS _ _ g2⟩
    .rw[Ak_]at z;subst z;obtain⟨e,f,r1,r2,m,w1⟩:=mt (a1:=a) (a2:=b) (by rw[ebc];simp) (by rw[ebc];simp) ne.symm;rw[g3]at hv;cases hv;show⟨e,f,_,q2,by rw[r1],m,w1,rfl,by rw[r2];show tupS _ _ g4⟩
   show qH_ (λi σ Hy=>∃(e4 e5 e6:Option V)(kg:List (Sk×V)),σ=[some (.ref pn),some (.ref dr),some (.ref db),some (.ref dg),e4,e5,e6]/\FA_ Sx Hy/\DP P w Hy dg kg/\kg.length<=2*i/\GoI Hy N kg (λe=>∃m,m<i/\(k2'[m]?).map (·.1)=some (eK (ph N e)))) ⟨_,_,_,[],rfl,?_,dpI,Az_ _,⟨λe f x h=>?_,λe f x h=>?_,λs _ _=>rfl⟩⟩ ?_ ?_ ?_
   .intro b o e;have:b≠dg:=λz=>by rw[z,Sxd]at e;cases e
    have e':(if b=dg then none else upd H4 dO (HO.frz ob (HO.dT k2')) b)=some o:=e;rw[if_neg this]at e';show e'
   .obtain⟨m,hm,_⟩:=h;show absurd hm (Bh_ _)
   .obtain⟨m,hm,_⟩:=h;show absurd hm (Bh_ _)
   .rintro i σ Hy hi ⟨e4,e5,e6,kg,rfl,sy,dp,kl,gi⟩;show sy _ _ frzS
   .rintro i k x T0 qe σ Hy hk hT0 hqe kc kbk hkk hbb G hG ⟨e4,e5,e6,kg,rfl,sy,dp,kl,gi⟩;show hG ?_;obtain⟨e,f,a,q,rfl,m,wa,rfl,hq⟩:=item i k x hk;nofun;have U0:=FA_.new hT0 (o:=HO.tup [V.ref qe,V.ref q]);have hT:=aa_ (H:=Hy) (a:=T0) (o:=HO.tup [V.ref qe,V.ref q]);generalize upd Hy T0 (HO.tup [V.ref qe,V.ref q])=Z0 at*;show⟨_,SqT.of hT,rfl,_,_,rfl,_,_,rfl,rfl,?_⟩;have sz:=sy.trans U0;have dpz:=dp.mono U0;have hqe0:=U0 _ _ hqe;have hq0:=sz _ _ hq;obtain⟨ep,er,hr,g1,g2,g3,g4⟩:=oV_ ok po wa;obtain⟨lw,kvm,hlw⟩:=k4 er hr;have vlw:=lY_ knd kvm;have hlw0:Z0 lw=some (.lst (er.2.map V.str)):=(hS.trans sz) _ _ hlw;nofun;show⟨_,hqe0,_,Gv_,.ref lw,?_,_,hqe0,_,GD_,lw,rfl,_,_,rfl,hlw0,.str a,ls_ (by rw[Ag_,show er.2[(ph N e).2]?=some a from g2];rfl),?_⟩
    .have:=GT_.k (k:=.inr er.1) (sz _ _ hdrS);rw[vlw,g1]at this;show this
    have hi60:i<60:=by have:=(Ae_.mp hk).1;lia
    nofun;show⟨d_,λt1 n1=>⟨d_,λt2 n2=>⟨d_,λt3 n3=>?_⟩⟩⟩;have A1:=FA_.new n1 (o:=HO.tup [V.ref q,V.bl false]);have h1':=aa_ (H:=Z0) (a:=t1) (o:=HO.tup [V.ref q,V.bl false]);generalize upd Z0 t1 (HO.tup [V.ref q,V.bl false])=Y1 at*;have A2:=FA_.new n2 (o:=HO.tup [V.str a,V.ref t1]);have h2':=aa_ (H:=Y1) (a:=t2) (o:=HO.tup [V.str a,V.ref t1]);generalize upd Y1 t2 (HO.tup [V.str a,V.ref t1])=Y2 at*;have A3:=FA_.new n3 (o:=HO.tup [V.ref qe,V.bl true]);have h3':=aa_ (H:=Y2) (a:=t3) (o:=HO.tup [V.ref qe,V.bl true]);generalize upd Y2 t3 (HO.tup [V.ref qe,V.bl true])=Y3 at*;have a13:=A1.trans (A2.trans A3);have dp3:=dpz.mono a13;have ky3:GM_ Y3 t3 (skN N (e,true)):=⟨qe,h3',a13 _ _ hqe0⟩;show⟨kg,dp3,_,ky3,FB_ o_,λH5 fr5 dp5=>?_⟩;have keep:∀b o,Y3 b=some o->b≠dg->H5 b=some o:=λb o hb ne=>by rw[fr5 b ne];show hb
    obtain⟨_,xs3,ex3,_⟩:=id dp3;have kt:∀b ys,Y3 b=some (.tup ys)->H5 b=some (.tup ys):=λb ys hb=>keep b _ hb (λz=>by rw[z,ex3]at hb;cases hb);have h15:=kt _ _ ((A2.trans A3) _ _ h1');have h25:=kt _ _ (A3 _ _ h2');have hqe5:=kt _ _ (a13 _ _ hqe0);have hq5:H5 q=some (eV (ph N f)):=kt _ _ (a13 _ _ hq0);have Sx5:∀b o,Sx b=some o->H5 b=some o:=λb o hb=>keep b o (a13 _ _ (sz _ _ hb)) (λz=>by rw[z,Sxd]at hb;cases hb);obtain⟨be,vb1,hb1⟩:=Lj_ ok po bhS wa;obtain⟨w2,wf1,wf2⟩:=m.2;have wf:wi (trn N) f=some a:=by rw[wa]at wf1;cases wf1;show wf2
    obtain⟨bf,vb2,hb2⟩:=Lj_ ok po bhS wf;nofun;show⟨.ref bf,by have:=GT_.t (k:=eK (ph N f)) (Sx5 _ _ hdbS) hq5;rw[vb2]at this;show this,d_,λu1 m1=>⟨d_,λu2 m2=>?_⟩⟩;have B1:=FA_.new m1 (o:=HO.tup [V.ref bf,V.bl true]);have c1:=aa_ (H:=H5) (a:=u1) (o:=HO.tup [V.ref bf,V.bl true]);generalize upd H5 u1 (HO.tup [V.ref bf,V.bl true])=X1 at*;have B2:=FA_.new m2 (o:=HO.tup [V.str a,V.ref u1]);have c2:=aa_ (H:=X1) (a:=u2) (o:=HO.tup [V.str a,V.ref u1]);generalize upd X1 u2 (HO.tup [V.str a,V.ref u1])=X2 at*;have b12:=B1.trans B2;show⟨.ref be,by have:=GT_.t (k:=eK (ph N e)) (b12 _ _ (Sx5 _ _ hdbS)) (b12 _ _ hqe5);rw[vb1]at this;show this,d_,λu3 m3=>?_⟩;have B3:=FA_.new m3 (o:=HO.tup [V.ref be,V.bl false]);have c3:=aa_ (H:=X2) (a:=u3) (o:=HO.tup [V.ref be,V.bl false]);generalize upd X2 u3 (HO.tup [V.ref be,V.bl false])=X3 at*;have b13:=b12.trans B3;have dp6:=dp5.mono b13;have ky6:GM_ X3 u3 (skN N (beh (trn N) (Pn N) e,false)):=⟨be,c3,b13 _ _ (Sx5 _ _ hb1)⟩;have pl1:=aJ_ kg (skN N (e,true)) (.ref t2);show⟨_,dp6,_,ky6,FB_ o_,λH7 fr7 dp7=>?_⟩;obtain⟨_,xs6,ex6,_⟩:=id dp6;have keep7:∀b o,X3 b=some o->b≠dg->H7 b=some o:=λb o hb ne=>by rw[fr7 b ne];show hb
    have kt7:∀b ys,X3 b=some (.tup ys)->H7 b=some (.tup ys):=λb ys hb=>keep7 b _ hb (λz=>by rw[z,ex6]at hb;cases hb);have Sx7:∀b o,Sx b=some o->H7 b=some o:=λb o hb=>keep7 b o (b13 _ _ (Sx5 _ _ hb)) (λz=>by rw[z,Sxd]at hb;cases hb);have pl2:=aJ_ (Gn_ kg (skN N (e,true)) (.ref t2)) (skN N (beh (trn N) (Pn N) e,false)) (.ref u2);have gi7:=gi.put ok po (H':=H7) m wa (v1:=t2) (q1:=t1) (v2:=u2) (q2:=u1) (λb ys hb=>kt7 _ _ (b13 _ _ (kt _ _ (a13 _ _ (U0 _ _ hb))))) (kt7 _ _ (b13 _ _ h25)) ⟨q,kt7 _ _ (b13 _ _ h15),kt7 _ _ (b13 _ _ hq5)⟩ (kt7 _ _ (B3 _ _ c2)) ⟨bf,kt7 _ _ ((B2.trans B3) _ _ c1),kt7 _ _ (b13 _ _ (Sx5 _ _ hb2))⟩;show hkk _ _ ⟨_,_,_,_,rfl,Sx7,dp7,o_,⟨λc d y hc hm hy=>gi7.tt c d y ?_ hm hy,λc d y hc hm hy=>gi7.ff c d y ?_ hm hy,gi7.no⟩⟩
    all_goals
     obtain⟨mm,hmm,hmk⟩:=hc;by_cases em:mm=i
     .subst em;rw[hk]at hmk;have hph:ph N e=ph N c:=e0_ (Au_ hmk);show .inr (h8_ ok po ((oV_ ok po hy).1) ep hph.symm)
     .show .inl ⟨mm,o_,hmk⟩
   .rintro σ Hy ⟨e4,e5,e6,kg,rfl,sy,dp,kl,gi⟩;nofun;show kk dg kg Hy (hS.trans sy) dp ⟨λe f x _ hm hx=>gi.tt e f x ?_ hm hx,λe f x _ hm hx=>gi.ff e f x ?_ hm hx,gi.no⟩ dgn
    all_goals
     obtain⟨kv,hkv,hab⟩:=nu_ (d0:=Str.empty) ok po hm;obtain⟨j,hj,ej⟩:=AD_.mp hkv
     have hvs:∃v,Gi_ k2' (eK (ph N e))=some v:=by
      rcases hab with hab|hab
      .obtain⟨⟨q1,g1,_⟩,_⟩:=mo j kv.1 _ _ hj (by rw[Aa_ hj,ej,<-hab]);show⟨_,g1⟩
      .obtain⟨_,q1,g1,_⟩:=mo j kv.1 _ _ hj (by rw[Aa_ hj,ej,<-hab]);show⟨_,g1⟩
     obtain⟨v,hv⟩:=hvs;obtain⟨mm,hmm,em⟩:=AD_.mp (n8_ hv);rw[Ab_]at hmm;show⟨mm,hmm,by rw[Aa_ hmm];rw[List.getElem_map]at em;show congrArg some em⟩
theorem qZ_(ok:FY_ N)(po:FK_ N)(h:N.posts[i]?=some x):(pts N)[i]?=some x/\i<(pts N).length/\∃r∈N.rows,r.1=x/\(trn N).getD i []=r.2:=by
 have hi:=(Ae_.mp h).1;have hp:(pts N)[i]?=some x:=by unfold pts;rw[Al_ hi];show h
 have hl:=(Ae_.mp hp).1;obtain⟨r,hr,g1,g2,_⟩:=qg_ ok po hl;show⟨hp,hl,r,hr,?_,g2⟩;rw[g1,Ad_,hp];rfl
abbrev Gc_:Stmt:=stN 8
theorem df_:ZL ["net","wires_round","starts","post"] ["net"] (FC_ Gc_):=zL
theorem g2_:LK Gc_ "dict" .globalImplicit:=r_
theorem hD_:LK Gc_ "len" .globalImplicit:=r_
def StA(H:Hp)(N:Net Str)(qs:List Addr):Prop:=∀(i:Nat) q,qs[i]?=some q->GM_ H q (skN N (stt (trn N) i))
theorem GM_.tups{k:Sk}(h:GM_ H q k)(s:∀b ys,H b=some (.tup ys)->H' b=some (.tup ys)):GM_ H' q k:=let⟨p,z1,z2⟩:=h;⟨p,s _ _ z1,s _ _ z2⟩
theorem StA.push{qs:List Addr}(h:StA H N qs)(s:∀b ys,H b=some (.tup ys)->H' b=some (.tup ys))(hq:GM_ H' q (skN N (stt (trn N) qs.length))):StA H' N (qs++[q]):=λi q' hi=>by
 by_cases c:i<qs.length
 .rw[Al_ c]at hi;show GM_.tups (h i q' hi) s
 .rw[Ap_ o_]at hi;have:i-qs.length=0:=by have:=(Ae_.mp hi).1;simp at this;lia
  rw[this]at hi;cases hi;rw[show i=qs.length by lia];show hq
def HP_:Sp:=λvs H Q _=>∃(v:V)(N:Net Str),vs=[v]/\Rep H v (HG_ N)/\FY_ N/\FK_ N/\∀D qs H',FA_ H H'->H D=none->H' D=some (.lst (qs.map V.ref))->qs.length=2*Pn N->StA H' N qs->Q (.ref D) H'
theorem k6_(T:Txt K mg)(F:Fn0 K mg "starts_of" Gc_):Cal P w K mg base "starts_of" ["net"] 1 HP_:=by
  show aQ_ F df_.1 λf cdv A outer s H vs Q E hr h=>?_;obtain⟨v,N,rfl,hv,ok,po,kk⟩:=h;obtain⟨pn,p0,p1,p2,rs,ws,rfl,hn,h0,h1,r1,h2,r2⟩:=dr_ hv;have rl:rs.length=N.rows.length:=by rw[r1.length,Ab_]
  refine'⟨_,?D,?R⟩
  case D =>
   refine' ac_ (zas 1 df_ (cl_ (jh_ rfl) g2_ T.n_dict oR_ (pa_c (FF_ ao_ (zv 0 df_) ad_) ab_))) (ac_ (zas 2 df_ (bh_ ab_)) ?a)
   case' a=>refine' aj_ (aP_ AA_ rfl (aL_ (K:=K) rfl (FF_ ao_ (zv 0 df_) ad_)) ?b ?c) (ag_ (au_ (zv 2 df_)))
   case b=>show zh 3 df_
   case' c=>refine' ac_ (aH_ (Gq_ AB_ AI_ AJ_ aF_ (zv 2 df_) (pa_c (ar_ ?d) ab_))) (ag_ (aH_ ?e))
   case' d=>refine' pa_c (ar_ (pa_c (zv 3 df_) (pa_c (al_ an_ hD_ T.n_len aG_ (pa_c (ce_ (un1 hr.units) (zv 1 df_) (zv 3 df_)) ab_)) ab_))) (pa_c GG_ ab_)
   case' e=>refine' Gq_ AB_ AI_ AJ_ aF_ (zv 2 df_) (pa_c (ar_ (pa_c (ar_ (pa_c (zv 3 df_) (pa_c ad_ ab_))) (pa_c GG_ ab_))) ab_)
  case R =>
   nofun;obtain⟨kvs,k1,k2,k3,k4⟩:=j3_ r1;have few:=ok.few;have knd:(kvs.map (·.1)).Nodup:=by rw[k1];have:=ok.nd;unfold List.Nodup at this⊢;rw[BD_]at this⊢;show this.imp λh z=>h (CE_ z)
   show⟨_,hn,_,GD_,p1,rfl,rs,h1,kvs,o_,o_,k3,λdr ndr=>?_⟩;rw[j2_ kvs [] (by rw[Dv_];show knd),Dv_];have S1:=FA_.new ndr (o:=HO.dK kvs);have hdr:=aa_ (H:=H) (a:=dr) (o:=HO.dK kvs);generalize upd H dr (HO.dK kvs)=H1 at*;nofun;show⟨Az_ _,λD nD=>?_⟩;have S2:=FA_.new nD (o:=HO.lst []);have hD:=aa_ (H:=H1) (a:=D) (o:=HO.lst []);generalize upd H1 D (HO.lst [])=H2 at*;nofun;show⟨_,(S1.trans S2) _ _ hn,_,Gv_,p0,rfl,⟨_,.inl (.inl ((S1.trans S2) _ _ h0))⟩,?_⟩;have DH:H D=none:=S1.free nD;have p6:=ok.pl;show c9_ (xs:=N.posts.map V.str) (λi σ Hy=>∃(e3:Option V)(qs:List Addr),σ=[some (.ref pn),some (.ref dr),some (.ref D),e3]/\FA_ H1 Hy/\Hy D=some (.lst (qs.map V.ref))/\qs.length=2*i/\StA Hy N qs) ⟨_,[],rfl,S2,hD,rfl,λi q z=>(by cases z)⟩ ?_ ?_ ?_
   .rintro i σ Hy hi ⟨e3,qs,rfl,sy,hDy,ql,st⟩;show .inl (.inl ((S1.trans sy) _ _ h0))
   .rintro i y σ Hy hy kc kbk hk hb G hG ⟨e3,qs,rfl,sy,hDy,ql,st⟩;show hG ?_;rw[Ag_]at hy;obtain⟨x,hx,rfl⟩:=AQ_.mp hy;obtain⟨hp,hl,r,hr,rx,rt⟩:=qZ_ ok po hx;have il:=(Ae_.mp hx).1;obtain⟨lw,kvm,hlw⟩:=k4 r hr;have vlw:=lY_ knd kvm;have r30:=K7_ ok hr;nofun;have phx:∀k,ph N (i,k)=(x,k):=λk=>by change((pts N).getD i Str.empty,k)=(x,k);rw[Ad_,hp];rfl
    have rll:RimT.rl (trn N) i=r.2.length:=by unfold RimT.rl;rw[rt]
    show⟨.inl ⟨_,.inl (.inl hDy)⟩,.ref lw,by have:=GT_.k (k:=.inr r.1) (sy _ _ hdr);rw[vlw,rx]at this;show this,lw,rfl,_,.inl ((S1.trans sy) _ _ hlw),d_,λt1 n1=>⟨d_,λt2 n2=>?_⟩⟩;rw[Ab_]at*;have A1:=FA_.new n1 (o:=HO.tup [V.str x,V.int (r.2.length:Nat)]);have c1:=aa_ (H:=Hy) (a:=t1) (o:=HO.tup [V.str x,V.int (r.2.length:Nat)]);generalize upd Hy t1 (HO.tup [V.str x,V.int (r.2.length:Nat)])=Y1 at*;have A2:=FA_.new n2 (o:=HO.tup [V.ref t1,V.bl false]);have c2:=aa_ (H:=Y1) (a:=t2) (o:=HO.tup [V.ref t1,V.bl false]);generalize upd Y1 t2 (HO.tup [V.ref t1,V.bl false])=Y2 at*;have a12:=A1.trans A2;have hD2:=a12 _ _ hDy;show⟨_,hD2,FB_ (by rw[Ab_];lia),?_⟩;have sD:FA_ H1 (upd Y2 D (.lst (qs.map V.ref++[V.ref t2]))):=(sy.trans a12).upd nD;have kt:∀b ys,Y2 b=some (.tup ys)->upd Y2 D (.lst (qs.map V.ref++[V.ref t2])) b=some (.tup ys):=λb ys e=>by rw[af_ (HV_ e hD2 (λz=>nomatch z))];show e
    have hD3:=aa_ (H:=Y2) (a:=D) (o:=HO.lst (qs.map V.ref++[V.ref t2]));generalize upd Y2 D (HO.lst (qs.map V.ref++[V.ref t2]))=Y3 at*;have st3:StA Y3 N (qs++[t2]):=st.push (λb ys e=>kt _ _ (a12 _ _ e)) ⟨t1,by rw[ql];unfold skN stt;rw[if_pos o_];show kt _ _ c2,by rw[ql];unfold skN stt;rw[if_pos o_,show 2*i/2=i by lia,rll,phx];show kt _ _ (A2 _ _ c1)⟩;nofun;show⟨.inl ⟨_,.inl (.inl hD3)⟩,d_,λu1 m1=>⟨d_,λu2 m2=>?_⟩⟩;have B1:=FA_.new m1 (o:=HO.tup [V.str x,V.int 0]);have d1:=aa_ (H:=Y3) (a:=u1) (o:=HO.tup [V.str x,V.int 0]);generalize upd Y3 u1 (HO.tup [V.str x,V.int 0])=X1 at*;have B2:=FA_.new m2 (o:=HO.tup [V.ref u1,V.bl true]);have d2:=aa_ (H:=X1) (a:=u2) (o:=HO.tup [V.ref u1,V.bl true]);generalize upd X1 u2 (HO.tup [V.ref u1,V.bl true])=X2 at*;have b12:=B1.trans B2;have hD4:=b12 _ _ hD3;show⟨_,hD4,FB_ (by rw[Af_,Ab_];simp;lia),hk _ _ ⟨_,(qs++[t2])++[u2],rfl,(sD.trans b12).upd nD,by rw[aa_,Ao_,Ao_];rfl,by rw[Af_,Af_,ql];simp;lia,?_⟩⟩;have kt2:∀b ys,X2 b=some (.tup ys)->upd X2 D (.lst (qs.map V.ref++[V.ref t2]++[V.ref u2])) b=some (.tup ys):=λb ys e=>by rw[af_ (HV_ e hD4 (λz=>nomatch z))];show e
    show st3.push (λb ys e=>kt2 _ _ (b12 _ _ e)) ⟨u1,?_,?_⟩
    .rw[Af_,ql];unfold skN stt;rw[if_neg (by simp <;> lia)];show kt2 _ _ d2
    .rw[Af_,ql];unfold skN stt;rw[if_neg (by simp <;> lia),show(2*i+[t2].length)/2=i by rw[AS_];lia,phx];show kt2 _ _ (B2 _ _ d1)
   .rintro σ Hy ⟨e3,qs,rfl,sy,hDy,ql,st⟩;nofun;show kk D qs Hy (S1.trans sy) DH hDy (by rw[ql,Ab_]) st
def Es(H:Hp)(N:Net Str):List Addr->List (Nat×Nat)->Prop
 |[],[]=>True
 |x::xs,c::cs=>H x=some (eV (ph N c))/\Es H N xs cs
 |_,_=>False
theorem Es.mono{H H':Hp}{N:Net Str}(s:FA_ H H'):∀{xs:List Addr}{cs:List (Nat×Nat)},Es H N xs cs->Es H' N xs cs
 |[],[],_=>trivial
 |x::xs,c::cs,h=>⟨s _ _ h.1,Es.mono s h.2⟩
theorem Es.len{H:Hp}{N:Net Str}:∀{xs:List Addr}{cs:List (Nat×Nat)},Es H N xs cs->xs.length=cs.length
 |[],[],_=>rfl
 |x::xs,c::cs,h=>by rw[A4_,A4_,Es.len h.2]
theorem Es.snoc{H:Hp}{N:Net Str}{y:Addr}{d:Nat×Nat}(hy:H y=some (eV (ph N d))):∀{xs:List Addr}{cs:List (Nat×Nat)},Es H N xs cs->Es H N (xs++[y]) (cs++[d])
 |[],[],_=>⟨hy,trivial⟩
 |x::xs,c::cs,h=>⟨h.1,Es.snoc hy h.2⟩
theorem Es.get{H:Hp}{N:Net Str}:∀{xs:List Addr}{cs:List (Nat×Nat)}{i:Nat}{d:Nat×Nat},Es H N xs cs->cs[i]?=some d->∃x,xs[i]?=some x/\H x=some (eV (ph N d))
 |[],[],i,d,h,e=>by cases e
 |[],_::_,_,_,h,_=>h.elim
 |_::_,[],_,_,h,_=>h.elim
 |x::xs,c::cs,0,d,h,e=>by cases e;show⟨x,rfl,h.1⟩
 |x::xs,c::cs,i+1,d,h,e=>Es.get (i:=i) h.2 e
theorem rY_{x:Addr}(h:H x=some (eV e)):Rep H (.ref x) (dE e):=⟨x,_,rfl,h,_,_,rfl,rfl,_,_,rfl,rfl,rfl⟩
theorem rZ_(a b:End Str):deq (dE a) (dE b)=some (decide (a=b)):=by
 by_cases h1:a.1=b.1 <;> by_cases h2:(a.2:Int)=b.2
 .have e:a=b:=Bb_ h1 o_;subst e;simp[dE,deq,deqs]
 .have e:a≠b:=λz=>h2 (by rw[z]);simp[dE,deq,deqs,h1,h2,e]
 .have e:a≠b:=λz=>h1 (by rw[z]);simp[dE,deq,deqs,h1,h2,e]
 .have e:a≠b:=λz=>h1 (by rw[z]);simp[dE,deq,deqs,h1,h2,e]
theorem LN_(ok:FY_ N)(po:FK_ N){kg:List (Sk×V)}(g:GoI H N kg (λ_=>True)){s:Sd}(hc:IsC (trn N) (Pn N) s.1)(h:wr (trn N) (Pn N) s=some x):∃b v q,Gg (trn N) (Pn N) s b/\Gi_ kg (skN N s)=some (.ref v)/\H v=some (.tup [.str x,.ref q])/\GM_ H q (skN N b):=by
 obtain⟨e,he,h⟩:=md_ hc h;obtain⟨f,m⟩:=jt_ (ha_ ok po) he
 rcases h with rfl|rfl
 .obtain⟨v,q,z1,z2,z3⟩:=g.tt e f x trivial m he;show⟨_,v,q,⟨e,f,m,.inl ⟨rfl,rfl⟩⟩,z1,z2,z3⟩
 .obtain⟨v,q,z1,z2,z3⟩:=g.ff e f x trivial m he;show⟨_,v,q,⟨e,f,m,.inr ⟨rfl,rfl⟩⟩,z1,z2,z3⟩
def dSd(k:Sd)(N:Net Str):Dt:=.tup [dE (ph N k.1),.bl k.2]
theorem j5_{k:Sd}(h:GM_ H q (skN N k)):Rep H (.ref q) (dSd k N):=let⟨p,h1,h2⟩:=h;⟨q,_,rfl,h1,_,_,rfl,rY_ h2,_,_,rfl,rfl,rfl⟩
theorem oW_(ok:FY_ N)(po:FK_ N){a b:Sd}(ha:a.1.1<(pts N).length)(hb:b.1.1<(pts N).length):deq (dSd a N) (dSd b N)=some (decide (a=b)):=by
 have h1:=rZ_ (ph N a.1) (ph N b.1);obtain⟨c,x⟩:=a;obtain⟨d,y⟩:=b;unfold dSd
 dsimp only at h1 ha hb⊢
 rw[deq,deqs,h1,deqs,deqs,deq];by_cases e:ph N c=ph N d
 .have:=h8_ ok po ha hb e;subst this;cases x <;> cases y <;> simp
 .have:c≠d:=λz=>e (by rw[z]);simp[e,this]
theorem pa1{G:Sd->Sd->Prop}(s:Sd):Pa G [s]:=λi a b ha hb=>by cases hb
theorem mG_{T:List (List Str)}{P:Nat}(m:List Sd)(x:Sd):wiL T P (m++[x])=wiL T P m++(wr T P x).toList:=by unfold wiL;rw[EN_];cases h:wr T P x <;> simp[h]
theorem _root_.RimT.Pa.snoc{G:Sd->Sd->Prop}{m:List Sd}{x b:Sd}(p:Pa G (m++[x]))(g:G x b):Pa G (m++[x]++[b]):=λi c d hc hd=>by
 have l1:=(Ae_.mp hd).1;simp only[Af_,AS_]at l1;by_cases e:i<m.length
 .rw[Al_ (by simp;lia)]at hc hd;show p i c d hc hd
 .have e:i=m.length:=o_
  subst e;rw[Al_ s_,Ap_ (Ai_ _)]at hc;rw[Ap_ s_]at hd;simp at hc hd;rw[<-hc,<-hd];show g
abbrev Gb_:Stmt:=stN 9
theorem bX_:ZL ["start","goings","corners","wires","standing","wire"] ["start","goings"] (FC_ Gb_):=zL
def Lx_(H:Hp)(N:Net Str)(s:Sd)(l:List Sd)(z:Addr):Prop:=∃x,l.getLast?=some x/\((wr (trn N) (Pn N) x=none/\GM_ H z (skN N x))\/(Gg (trn N) (Pn N) x s/\GM_ H z (skN N s)))
def IT_(P:Program)(w:World):Sp:=λvs H Q _=>∃(N:Net Str)(q d:Addr)(kg:List (Sk×V))(s:Sd),vs=[.ref q,.ref d]/\FY_ N/\FK_ N/\GM_ H q (skN N s)/\IsC (trn N) (Pn N) s.1/\DP P w H d kg/\GoI H N kg (λ_=>True)/\(corners (trn N) (Pn N)).length<=900 /\
 ∀t C W z H' xs l,FA_ H H'->H t=none->H C=none->H W=none->C≠W->t≠C->t≠W->H' t=some (.tup [.ref C,.ref W,.ref z])->H' C=some (.lst (xs.map V.ref))->H' W=some (.lst ((wiL (trn N) (Pn N) l).map V.str))->Es H N xs (l.map (·.1))->Pa (Gg (trn N) (Pn N)) l->l[0]?=some s->(∀j b,0<j->l[j]?=some b->b≠s)->Lx_ H N s l z->Q (.ref t) H'
theorem k7_(T:Txt K mg)(F:Fn0 K mg "gone_from" Gb_):Cal P w K mg base "gone_from" ["start","goings"] 1 (IT_ P w):=by
  show aQ_ F bX_.1 λf cdv A outer s0 H vs Q E hr h=>?_;obtain⟨N,q,d,kg,s,rfl,ok,po,hq,ic,hd,gi,c9,k⟩:=h;have tw:=ha_ ok po;refine'⟨_,?D,?R⟩
  case D =>
   refine' ac_ (zas 2 bX_ (bh_ (pa_c (FF_ ao_ (zv 0 bX_) ad_) ab_))) ?a
   case' a=>refine' ac_ (zas 3 bX_ (bh_ ab_)) (ac_ (zas 4 bX_ (zv 0 bX_)) (aj_ (e9_ AA_ (f2_ (rL_ (P:=P) (w:=w) rfl rfl (un2 hr.units) (zv 4 bX_) (zv 1 bX_))) ?b) ?c))
   case' b=>refine' ac_ (zas 5 bX_ (FF_ ao_ (ok_ (P:=P) (w:=w) rfl rfl (un2 hr.units) (zv 1 bX_) (zv 4 bX_)) ad_)) (ac_ (zas 4 bX_ (FF_ ao_ (ok_ (P:=P) (w:=w) rfl rfl (un2 hr.units) (zv 1 bX_) (zv 4 bX_)) ad_)) ?d)
   case' d=>refine' ac_ (aH_ (Gq_ AB_ AI_ AJ_ aF_ (zv 3 bX_) (pa_c (zv 5 bX_) ab_))) (aj_ (Gj_ (aw_ (n1_ (hr.units)) (zv 4 bX_) (zv 0 bX_) (FW_ _)) (ag_ ?e) aD_) ?f)
   case e=>show pf_
   case' f=>refine' ag_ (aH_ (Gq_ AB_ AI_ AJ_ aF_ (zv 2 bX_) (pa_c (FF_ ao_ (zv 4 bX_) ad_) ab_)))
   case' c=>refine' ag_ (au_ (ar_ (pa_c (zv 2 bX_) (pa_c (zv 3 bX_) (pa_c (zv 4 bX_) ab_)))))
  case R =>
   nofun;obtain⟨p0,hq0,hp0⟩:=id hq;show⟨_,hq0,_,Gv_,d_,λC nC=>?_⟩;nofun;show⟨d_,λW nW=>?_⟩;have CW:C≠W:=λz=>by rw[<-z,aa_]at nW;cases nW
   have S1:=FA_.new nC (o:=HO.lst [V.ref p0]);have nW0:=S1.free nW;have S2:=S1.trans (FA_.new nW (o:=HO.lst []));have hC2:upd (upd H C (.lst [V.ref p0])) W (.lst []) C=some (.lst [V.ref p0]):=by rw[af_ CW,aa_]
   have hW2:upd (upd H C (.lst [V.ref p0])) W (.lst []) W=some (.lst []):=aa_;generalize upd (upd H C (.lst [V.ref p0])) W (.lst [])=H2 at*;nofun
   show hW_ (λσ Hy=>∃(e5:Option V)(m:List Sd)(x:Sd)(q1:Addr)(xs:List Addr),σ=[some (.ref q),some (.ref d),some (.ref C),some (.ref W),some (.ref q1),e5]/\FA_ H Hy/\Hy C=some (.lst (xs.map V.ref))/\Hy W=some (.lst ((wiL (trn N) (Pn N) m).map V.str))/\Es H N xs ((m++[x]).map (·.1))/\Pa (Gg (trn N) (Pn N)) (m++[x])/\(m++[x])[0]?=some s/\(∀j b,0<j->(m++[x])[j]?=some b->b≠s)/\GM_ H q1 (skN N x))
    (λσ Hy=>match Hy C with|some (.lst xs)=>(corners (trn N) (Pn N)).length+1-xs.length|_=>0) ⟨_,[],s,q,[p0],rfl,S2,hC2,hW2,⟨hp0,trivial⟩,pa1 s,rfl,λj b hj hb=>?_,hq⟩ ?_
   .obtain⟨j,rfl⟩:∃k,j=k+1:=⟨j-1,o_⟩;cases hb
   rintro σ Hy kb hkb G hG ⟨e5,m,x,q1,xs,rfl,sy,hC,hW,es,pa,h0,hs,hq1⟩;show hG ?_;have nd:=pa.nodup (Gr_ tw) h0 hs;have sh:=pa.short tw h0 ic nd;have ix:=pa.allC h0 ic x s_;nofun;have fin:∀(z:Addr)(Hz:Hp),FA_ H Hz->Hz C=some (.lst (xs.map V.ref))->Hz W=some (.lst ((wiL (trn N) (Pn N) (m++[x])).map V.str))->Lx_ H N s (m++[x]) z->∀t,Hz t=none->Q (.ref t) (upd Hz t (.tup [.ref C,.ref W,.ref z])):=λz Hz sz z1 z2 ed t nt=>by have s3:=FA_.new nt (o:=HO.tup [.ref C,.ref W,.ref z]);show k t C W z _ xs (m++[x]) (sz.trans s3) (sz.free nt) nC nW0 CW (λe=>by rw[e,z1]at nt;cases nt) (λe=>by rw[e,z2]at nt;cases nt) aa_ (s3 _ _ z1) (s3 _ _ z2) es pa h0 hs ed
   show⟨_,hd.mono sy,_,hq1.mono sy,?_⟩;cases hwr:wr (trn N) (Pn N) x with
   |none =>
    rw[gi.no x ix hwr,if_neg s_];show hkb _ _ ?_;nofun;show⟨d_,λt nt=>fin q1 Hy sy hC ?_ ⟨x,s_,.inl ⟨hwr,hq1⟩⟩ t nt⟩;rw[hW,mG_,hwr,Option.toList,By_]
   |some a =>
    obtain⟨b,v,q2,gb,vb,hv,hb⟩:=LN_ ok po gi ix hwr;rw[vb,if_pos (show(some (V.ref v)).isSome=true from rfl)];show⟨_,N_ok,boxN λkn hkn=>?_⟩;nofun;show⟨_,hd.mono sy,_,hq1.mono sy,_,vb,_,rfl,_,sy _ _ hv,_,Gv_,?_⟩;nofun;show⟨_,hd.mono sy,_,hq1.mono sy,_,vb,_,rfl,_,sy _ _ hv,_,GD_,?_⟩;nofun;have ml:m.length+1<=900:=by rw[Af_]at sh;show AG_ sh c9
    have wl:(wiL (trn N) (Pn N) m).length<=m.length:=BP_ _ _;show⟨.inl ⟨_,.inl (.inl hW)⟩,_,hW,FB_ (by rw[Ab_];lia),?_⟩;have sy1:FA_ H (upd Hy W (HO.lst ((wiL (trn N) (Pn N) m).map V.str++[V.str a]))):=λb o hb=>by rw[af_ (ae_ hb nW0)];show sy _ _ hb
    have hC1:upd Hy W (HO.lst ((wiL (trn N) (Pn N) m).map V.str++[V.str a])) C=some (.lst (xs.map V.ref)):=by rw[af_ CW];show hC
    have hW1:upd Hy W (HO.lst ((wiL (trn N) (Pn N) m).map V.str++[V.str a])) W=some (.lst ((wiL (trn N) (Pn N) (m++[x])).map V.str)):=by rw[aa_,mG_,hwr,Ao_];rfl
    generalize upd Hy W (HO.lst ((wiL (trn N) (Pn N) m).map V.str++[V.str a]))=H3 at*;have ib:=gg_c gb;have slt:s.1.1<(pts N).length:=by rw[<-ba_];show ic.1
    have blt:b.1.1<(pts N).length:=by rw[<-ba_];show ib.1
    nofun;show⟨_,j5_ (hb.mono sy1),_,j5_ (hq.mono sy1),_,oW_ ok po blt slt,by simp[dSd,dE,dep,deps],?_⟩;by_cases hbs:b=s
    .subst hbs;rw[if_pos s_];nofun;show⟨d_,λt nt=>fin q2 H3 sy1 hC1 hW1 ⟨x,s_,.inr ⟨gb,hb⟩⟩ t nt⟩
    .rw[if_neg (by simp[hbs])];obtain⟨pb,hb0,hpb⟩:=id hb;have xl:xs.length=m.length+1:=by rw[es.len,Ab_,Af_];rfl
     show⟨.inl ⟨_,.inl (.inl hC1)⟩,_,sy1 _ _ hb0,_,Gv_,_,hC1,FB_ (by rw[Ab_];lia),hkn _ _ ⟨⟨_,m++[x],b,q2,rfl,λc o hc=>by rw[af_ (ae_ hc nC)];show sy1 _ _ hc,xs++[pb],by rw[aa_,Ao_];rfl,by rw[af_ CW.symm];show hW1,?_,?_,?_,?_,hb⟩,?_⟩⟩
     .rw[Ao_];show es.snoc hpb
     .show pa.snoc gb
     .rw[Al_ s_];show h0
     .intro j c hj hc;by_cases cj:j<(m++[x]).length
      .rw[Al_ cj]at hc;show hs j c hj hc
      .rw[Ap_ o_]at hc;have:j-(m++[x]).length=0:=by have:=(Ae_.mp hc).1;simp only[AS_]at this;lia
       rw[this]at hc;cases hc;show hbs
     .rw[aa_,hC];simp only[Af_,Ab_,AS_]at sh⊢;lia
theorem Kn_(ok:FY_ N)(po:FK_ N):(corners (trn N) (Pn N)).length<=900:=by
 have h:=fw_ (T:=trn N) (P:=Pn N)
 have e:(trn N).flatten.length=N.all.length:=by
  have h1:((N.rows.map (·.1)).map (Hb_ N))=N.rows.map (·.2):=by rw[AW_];show Bs_ λr hr=>ck_ ok hr
  have h2:=(dL_ ((hO_ ok po).map (Hb_ N))).length_eq;rw[h1]at h2;show h2
 have h3:=ok.tot;have h4:=ok.pl;change(corners (trn N) (Pn N)).length<=900;have h5:Pn N<=6:=h4;lia
theorem oX_{H:Hp}(f:Nat->Dt):∀(qs:List Addr)(o:Nat),(∀(i:Nat) q,qs[i]?=some q->Rep H (.ref q) (f (o+i)))->Gd_ H (qs.map V.ref) ((List.range' o qs.length).map f)
 |[],o,h=>rfl
 |q::qs,o,h=>⟨_,_,rfl,h 0 q rfl,oX_ f qs (o+1) λi q' hi=>by rw[show o+1+i=o+(i+1) by lia];show h (i+1) q' hi⟩
theorem q0_(ok:FY_ N)(po:FK_ N){pl:Nat}(hp:pl<2*Pn N){l:List Sd}{z:Addr}(pa:Pa (Gg (trn N) (Pn N)) l)(h0:l[0]?=some (stt (trn N) pl))(ed:Lx_ H N (stt (trn N) pl) l z):∃x j,l.getLast?=some x/\Ln (trn N) (Pn N) (stt (trn N) pl) l/\GM_ H z (skN N x)/\j<2*Pn N/\tn x=stt (trn N) j:=by
 have tw:=ha_ ok po;have PT:Pn N<=(trn N).length:=by rw[ba_];unfold pts;rw[Af_];show Bt_ _ _
 have ic:=IF_ (T:=trn N) PT hp;have st:=bF_ (T:=trn N) hp;obtain⟨x,hx,h⟩:=ed;have hxm:x∈l:=BR_ hx
 rcases h with⟨h1,h2⟩|⟨h1,_⟩
 .obtain⟨j,hj,ej⟩:=me_ (pa.allC h0 ic x hxm) h1;show⟨x,j,hx,⟨pa,h0,λy hy=>by rw[hx]at hy;cases hy;show h1⟩,h2,hj,ej⟩
 .show absurd ((Gr_ tw).rev h1) (fy_ st)
def H6_(N:Net Str)(i:Nat):Str×List Str:=N.rows.getD i (Str.empty,[])
theorem j6_(h:i<N.rows.length):N.rows[i]?=some (H6_ N i):=by unfold H6_;rw[Ad_,Aa_ h];rfl
theorem oY_{α β:Type}(d:α)(p:α->Bool)(f:α->β)(l:List α):((List.range l.length).filter λi=>p (l.getD i d)).map (λi=>f (l.getD i d))=(l.filter p).map f:=by
 have e:=i4_ d l
 conv=>rhs;rw[<-e]
 rw[C3_,AW_];rfl
theorem jq_{H:Hp}:∀{us:List V}{T:List (List Str)},Gd_ H us (T.map λr=>Dt.lst (r.map Dt.str))->∃as_:List Addr,us=as_.map V.ref/\as_.length=T.length/\∀(p:Nat)(a:Addr),as_[p]?=some a->H a=some (.lst ((T.getD p []).map V.str))
 |us,[],h=>⟨[],h,rfl,λp a e=>by cases e⟩
 |us,r::T,⟨x,us',e,⟨a,vs,ex,ha,hv⟩,ht⟩=>by
  obtain⟨as_,e1,e2,e3⟩:=jq_ (T:=T) ht;show⟨a::as_,by rw[e,ex,e1];rfl,by rw[A4_,A4_,e2],λp b hb=>?_⟩;cases p with
  |zero=>cases hb;rw[ha,fg_ hv];rfl
  |succ p=>show e3 p b hb
abbrev Go_:Stmt:=stN 31
theorem e1_:ZM ["_law_net","_law_points","_law_by_name","_law_point","_law_wires"] ["_law_net"] (FC_ Go_):=zM
theorem fP_:LK Go_ "_law_points" .local:=r_
theorem iN_:LK Go_ "_law_by_name" .cell:=r_
theorem iO_:LK Go_ "_law_point" .local:=r_
theorem iP_:LK Go_ "_law_wires" .local:=r_
theorem fr_:LK Go_ "list" .globalImplicit:=r_
def It_:Sp:=λvs H Q _=>∃(v:V)(N:Net Str),vs=[v]/\Rep H v (HG_ N)/\FY_ N/\FK_ N/\∀t pl tl as_ H',FA_ H H'->H' t=some (.tup [.ref pl,.ref tl])->H' pl=some (.lst ((pts N).map V.str))->Tg V.str H' tl as_ (trn N)->Q (.ref t) H'
theorem oZ_(T:Txt K mg)(F:Fn0 K mg "_law_turns" Go_):Cal P w K mg base "_law_turns" ["_law_net"] 1 It_:=by
  show aQ_ F e1_.1 λf cdv A outer s H vs Q E hr h=>?_;obtain⟨v,N,rfl,hv,ok,po,k⟩:=h;obtain⟨few,rfew⟩:=er_ ok;obtain⟨pn,p0,p1,p2,rs,ws,rfl,hn,h0,h1,r1,h2,r2⟩:=dr_ hv;have rl:rs.length=N.rows.length:=by rw[r1.length,Ab_]
  have rfw:=ok.few;refine'⟨_,?D,?R⟩
  case D =>
   refine' aj_ (ai_ (i:=1) e1_.nd rfl fP_ (FD_ f7_ (cl_ dQ_ fr_ T.n_list fz_ (pa_c (FF_ ao_ (zw 0 e1_) ad_) ab_)) ?a)) (aj_ (jG_ (i:=2) e1_.nd rfl iN_ rfl hT_ rfl) ?b)
   case' a=>refine' cc_ (N':=["_law_point","_law_wires","_law_net"]) (ix:=[none,none,some 0]) rfl rfl (cw_ ?c) (aL_ (K:=K) rfl (FF_ ao_ (zw 0 e1_) ad_)) (λ_ _ _=>(aU_ (K:=K) (n:=2) rfl rfl (ak_ ?d (ak_ ?e aT_)))) (λ_ _ _=>?f) (λ_ _ _=>(pv1 0 rfl rfl))
   case c=>show(by change Hv_ (FC_ Go_) ["_law_net","_law_points","_law_by_name","_law_point","_law_wires"] _ _ _=true;decide +kernel)
   case d=>show ah_ (i:=0) (by change List.Nodup (["_law_point","_law_wires","_law_net"]:List Str);decide +kernel) rfl rfl
   case e=>show ah_ (i:=1) (by change List.Nodup (["_law_point","_law_wires","_law_net"]:List Str);decide +kernel) rfl rfl
   case' f=>refine' kw_ (aw_ (gr_ (K:=K) rfl) (pv1 0 rfl rfl) (FF_ ao_ (pvc 2 rfl rfl) ad_) (by with_unfolding_all rfl))
   case' b=>refine' aj_ (aP_ AA_ rfl (aL_ (K:=K) rfl (FF_ ao_ (zw 0 e1_) ad_)) (aU_ (K:=K) (n:=2) rfl rfl (ak_ ?g (ak_ ?h aT_))) ?i) ?j
   case g=>show ah_ (i:=3) e1_.nd rfl iO_
   case h=>show ah_ (i:=4) e1_.nd rfl iP_
   case' i=>refine' ag_ (cR_ (un1 hr.units) (zw 2 e1_) (zw 3 e1_) (cl_ dQ_ fr_ T.n_list fz_ (pa_c (zw 4 e1_) ab_)) rfl)
   case' j=>refine' ag_ (au_ (ar_ (pa_c (zw 1 e1_) (pa_c (cc_ (N':=["_law_point","_law_by_name"]) (ix:=[none,some 2]) rfl rfl (cw_ ?k) (aL_ (K:=K) rfl (zw 1 e1_)) (λ_ _ _=>?l) (λ_ _ _=>?m) (λ_ _ _=>(ce_ (un1 hr.units) (pvc 1 rfl rfl) (pv1 0 rfl rfl)))) ab_))))
   case k=>show(by change Hv_ (FC_ Go_) ["_law_net","_law_points","_law_by_name","_law_point","_law_wires"] _ _ _=true;decide +kernel)
   case l=>show ah_ (i:=0) (by change List.Nodup (["_law_point","_law_by_name"]:List Str);decide +kernel) rfl rfl
   case m=>show eC_
  case R =>
   nofun;show⟨_,hn,_,Gv_,p0,rfl,_,.inl h0,λc0 n0=>?_⟩;have S1:FA_ H (upd H c0 (HO.lst (N.posts.map V.str))):=FA_.new n0;have hc0:=aa_ (H:=H) (a:=c0) (o:=HO.lst (N.posts.map V.str));generalize upd H c0 (HO.lst (N.posts.map V.str))=H1 at*;show⟨_,S1 _ _ hn,_,GD_,p1,rfl,⟨_,.inl (.inl (S1 _ _ h1))⟩,?_⟩;have h11:=S1 _ _ h1;show jI_ (n:=N.rows.length) (Pσ:=λσ=>∃e e',σ=[e,e',some (.ref pn)]) (bs:=λi=>decide ((H6_ N i).1∉N.posts)) (val:=λi=>V.str (H6_ N i).1) ⟨_,_,rfl⟩ o_ (λi H' hi s'=>⟨rs,rs[i]'o_,.inl (.inl (s' _ _ h11)),Aa_ _⟩) (λH' s'=>⟨rs,.inl (.inl (s' _ _ h11)),o_⟩) ?_ ?_
   .rintro D i x σ' H2 H2' hD hDo hs2 hi ⟨rfl,hy⟩ ⟨e,e',rfl⟩ Y R kY kR;have hx:=hy _ (.inl (.inl (hs2 _ _ h11)));obtain⟨r,q,l,hr1,rfl,hq,hl⟩:=fi_ r1 hx;have er:r=H6_ N i:=by rw[j6_ hi]at hr1;show(Au_ hr1).symm
    subst er;have s12:=S1.trans hs2;nofun;show⟨_,SqT.of (s12 _ _ hq),rfl,_,_,rfl,_,_,rfl,rfl,_,s12 _ _ hn,_,Gv_,p0,rfl,N.posts.map V.str,.inl (.inl (.inl (s12 _ _ h0))),rfl,gs_ _,?_⟩;rw[iL_];show ite2 (λh=>kY (AZ_ (Cj_ h)) _ _ ⟨_,_,rfl⟩ (FA_.refl _)) (λh=>kR (AP_ λz=>?_) _ _ ⟨_,_,rfl⟩ (FA_.refl _));show absurd (AP_ z) h
   .intro D H2 hD s2 hDv;have eL:((List.range N.rows.length).filter λi=>decide ((H6_ N i).1∉N.posts)).map (λi=>V.str (H6_ N i).1)=((N.rows.map (·.1)).filter λx=>decide (x∉N.posts)).map V.str:=by have:=oY_ (Str.empty,[]) (λr:Str×List Str=>decide (r.1∉N.posts)) (λr=>V.str r.1) N.rows;rw[C3_,AW_];show this
    rw[eL]at hDv;have s02:=S1.trans s2
    try nofun
    have pl16:N.posts.length+((N.rows.map (·.1)).filter λx=>decide (x∉N.posts)).length<=100:=by have h1:=ok.pl;have h2:=Co_ (λx=>decide (x∉N.posts)) (N.rows.map (·.1));rw[Ab_]at h2;lia
    show⟨_,s2 _ _ hc0,_,hDv,AH_ (FB_ (by rw[Ab_,Ab_];lia)),λpl npl=>?_⟩;rw[<-Ao_,show N.posts++((N.rows.map (·.1)).filter λx=>decide (x∉N.posts))=pts N from rfl];have s3:FA_ H2 (upd H2 pl (HO.lst ((pts N).map V.str))):=FA_.new npl;have hpl:=aa_ (H:=H2) (a:=pl) (o:=HO.lst ((pts N).map V.str));generalize upd H2 pl (HO.lst ((pts N).map V.str))=H3 at*;have s03:=s02.trans s3;intro bn nbn;have s4:FA_ H3 (upd H3 bn (HO.dK [])):=FA_.new nbn;show⟨_,s4 _ _ (s03 _ _ hn),_,GD_,p1,rfl,⟨_,.inl (.inl (s4 _ _ (s03 _ _ h1)))⟩,?_⟩;have nmat:∀j,j<N.rows.length->(N.rows.map (·.1))[j]?=some (H6_ N j).1:=λj hj=>by rw[Ag_,j6_ hj];rfl
    show jC_ (xs:=rs) (λi σ H'=>∃(e3 e4:Option V)(S:Hp)(kvs:List (Key×V)),σ=[some (.ref pn),some (.ref pl),some (.ref bn),e3,e4]/\FA_ H3 S/\FA_ S H'/\S bn=none/\H' bn=some (.dK kvs)/\kvs.length<=i/\∀j,j<i->j<N.rows.length->∃l,Gi_ kvs (.inr (H6_ N j).1)=some (.ref l)/\S l=some (.lst ((H6_ N j).2.map V.str))) ⟨none,none,H3,[],rfl,FA_.refl _,s4,nbn,aa_,Ai_ _,λj hj=>absurd hj o_⟩ ?_ ?_ ?_
    .rintro i σ H' hi ⟨e3,e4,S,kvs,rfl,sS,sH,_⟩;show .inl (.inl ((sS.trans sH) _ _ (s03 _ _ h1)))
    .rintro i x σ H' hx ⟨e3,e4,S,kvs,rfl,sS,sH,Sb,hb,kl,inv⟩;have hi:i<N.rows.length:=by have:=(Ae_.mp hx).1;lia
     obtain⟨r,q,l,hr1,rfl,hq,hl⟩:=fi_ r1 hx;have er:r=H6_ N i:=by rw[j6_ hi]at hr1;show(Au_ hr1).symm
     subst er;have s0H:=(s03.trans sS).trans sH;nofun;show⟨_,SqT.of (s0H _ _ hq),rfl,_,_,rfl,_,_,rfl,rfl,l,rfl,_,.inl (s0H _ _ hl),λc nc=>?_⟩;have bc:bn≠c:=ae_ hb nc;have hcl:=aJ_ kvs (Sum.inr (H6_ N i).1:Key) (V.ref c);show⟨_,HF_.k (k:=.inr (H6_ N i).1) (by rw[af_ bc];show hb) (FB_ o_),upd S c (HO.lst ((H6_ N i).2.map V.str)),sS.trans (a4_ sH nc),aX_ (gb_ sH nc) (by rw[af_ bc];show Sb),by rw[af_ bc];show Sb,_,aa_,o_,λj hj hjr=>?_⟩;rw[aA_];by_cases e:j=i
     .subst e;rw[if_pos rfl];show⟨c,rfl,aa_⟩
     .rw[if_neg (λz=>e ((A1_ (i:=j) (j:=i) (by rw[Ab_];show hjr) ok.nd).mp (by rw[nmat j hjr,nmat i hi,CE_ z])))];obtain⟨l',l1,l2⟩:=inv j o_ hjr;show⟨l',l1,a4_ sH nc _ _ l2⟩
    .rintro σ H' ⟨e3,e4,S,kvs,rfl,sS,sH,Sb,hb,kl,inv⟩;nofun;have hplH:=(sS.trans sH) _ _ hpl;have plen:=nq_ ok po
     have look:∀p,p<(pts N).length->∃l,Gi_ kvs (.inr ((pts N).getD p Str.empty))=some (.ref l)/\H' l=some (.lst ((Hb_ N ((pts N).getD p Str.empty)).map V.str)):=λp hp=>by
      have e:(pts N).getD p Str.empty=(pts N)[p]:=by rw[Ad_,Aa_ hp];rfl
      rw[e];obtain⟨r,hr',er⟩:=As_.mp ((d5_ po).mp (Bg_ hp));obtain⟨j,hj,ej⟩:=AD_.mp hr';have erj:H6_ N j=r:=by have:=j6_ hj;rw[Aa_ hj,ej]at this;show(Au_ this).symm
      obtain⟨l,l1,l2⟩:=inv j o_ hj;rw[erj]at l1 l2;rw[<-er,ck_ ok hr'];show⟨l,l1,sH _ _ l2⟩
     show⟨⟨_,.inl (.inl hplH)⟩,?_⟩;show ec_ (n:=(pts N).length) (B:=λ_=>none) (Pσ:=λσ=>∃e,σ=[e,some (.ref bn)]) (ds:=(trn N).map λr=>Dt.lst (r.map Dt.str)) (λb o e=>by cases e) ⟨_,rfl⟩ (by rw[Ab_,ba_]) o_ (λj Hj hj sj=>⟨_,.str ((pts N).getD j Str.empty),.inl (.inl (sj _ _ hplH)),c1_ hj⟩) (λHj sj=>⟨_,.inl (.inl (sj _ _ hplH)),s_⟩) ?_ ?_
     .rintro Dc j x dd σ' H6 H6' hDc hDo hs6 hj hdj ⟨rfl,hy⟩ ⟨e,rfl⟩ R0 kR;have hx:=hy _ (.inl (.inl (hs6 _ _ hplH)));rw[c1_ hj]at hx;cases hx;obtain⟨l,l1,l2⟩:=look j hj;have hd:dd=Dt.lst ((Hb_ N ((pts N).getD j Str.empty)).map Dt.str):=by unfold trn at hdj;rw[Ag_,Ag_,Aa_ hj]at hdj;rw[<-Au_ hdj,Ad_,Aa_ hj];rfl
      nofun;show⟨.ref l,l1▸GT_.k (k:=.inr ((pts N).getD j Str.empty)) (hs6 _ _ hb),kR _ _ _ ⟨_,rfl⟩ (FA_.refl _) ?_⟩;rw[hd];have lD:l≠Dc:=ae_ l2 hDc;show⟨l,_,rfl,by rw[eb_ lD rfl];show hs6 _ _ l2,b4_ _⟩
     .intro D4 H4 hD4 s4' rep4;obtain⟨_,us,e0,hu',hus⟩:=Rep.mono f9_ _ rep4;cases e0;obtain⟨as_,e1,e2,e3'⟩:=jq_ hus;subst e1;show⟨d_,λt nt=>?_⟩;have s5:=FA_.new nt (o:=HO.tup [V.ref pl,V.ref D4]);show k t pl D4 as_ _ ((((s03.trans sS).trans sH).trans s4').trans s5) aa_ ((s4'.trans s5) _ _ hplH) ⟨s5 _ _ hu',e2,λp a ha=>s5 _ _ (e3' p a ha)⟩
def Cr(T:List (List Str))(P:Nat)(s:Sd)(e:Nat×Nat)(sd:Nat):Prop:=(s=(e,true)/\sd=0)\/(s=(beh T P e,false)/\sd=1)
def crV(e:Nat×Nat)(sd:Nat):HO:=.tup [.int e.1,.int e.2,.int sd]
variable{sd:Nat}
theorem LM_{T:List (List Str)}{P:Nat}(tw:Tw T){s b:Sd}{e:Nat×Nat}(hx:wi T e=some x)(c:Cr T P s e sd)(g:Gg T P s b):∃f,Hk_ T e f/\((sd=0/\b=(f,false))\/(sd=1/\b=(beh T P f,true))):=by
 obtain⟨e',f,m,h⟩:=g
 rcases c with⟨rfl,rfl⟩|⟨rfl,rfl⟩
 .rcases h with⟨h1,rfl⟩|⟨h1,_⟩
  .cases h1;show⟨f,m,.inl ⟨rfl,rfl⟩⟩
  .cases h1
 .rcases h with⟨h1,_⟩|⟨h1,rfl⟩
  .cases h1
  .have:=gN_ (F8_ hx).1 m.lt.1 (congrArg Prod.fst h1);subst this;show⟨f,m,.inr ⟨rfl,rfl⟩⟩
theorem lZ_{T:List (List Str)}{P:Nat}{f:Nat×Nat}(h:f.2<rl T f.1){k:Nat}(hk:(f.2=0/\P<=f.1/\k+1=rl T f.1)\/(f.2=k+1)):Cr T P (f,false) (f.1,k) 1:=by
 show .inr ⟨Bb_ (Bb_ (fx_ T P (f.1,k)).symm ?_) rfl,rfl⟩;unfold beh
 dsimp only
 rcases hk with⟨h0,h1,h2⟩|h0
 .rw[if_pos ⟨h1,h2⟩];show h0
 .rw[if_neg (λz=>o_)];show h0
abbrev F6_:Stmt:=stN 32
theorem cj_:ZL ["_law_turns_here","_law_posts","_law_mates_here","_law_crossing","_law_p","_law_k","_law_side","_law_q","_law_j","_law_then"] ["_law_turns_here","_law_posts","_law_mates_here","_law_crossing"] (FC_ F6_):=zL
theorem fs_:LK F6_ "len" .globalImplicit:=r_
def Hd_:Sp:=λvs H Q _=>∃(l m c:Addr)(as_:List Addr)(T:List (List Str))(P:Nat)(s b:Sd)(e:Nat×Nat)(sd:Nat)(x0:Str),vs=[.ref l,.int P,.ref m,.ref c]/\Tg V.str H l as_ T/\GH_ H m T/\Tw T/\H c=some (crV e sd)/\Cr T P s e sd/\wi T e=some x0/\Gg T P s b /\
 (∀q H' e' sd' x,FA_ H H'->H' q=some (crV e' sd')->Cr T P b e' sd'->wi T e'=some x->Q (.ref q) H') /\
 (∀(pl:Nat) H',FA_ H H'->pl<2*P->wr T P b=none->tn b=stt T pl->Q (.int pl) H')
theorem ne_(T:Txt K mg)(F:Fn0 K mg "_law_beyond" F6_):Cal P w K mg base "_law_beyond" ["_law_turns_here","_law_posts","_law_mates_here","_law_crossing"] 1 Hd_:=by
  show aQ_ F cj_.1 λf cdv A outer s0 H vs Q E hr h=>?_;obtain⟨l,m,c,as_,Tt,Pp,s,b,e,sd,x0,rfl,hT,hm,tw,hc,cr,hx0,gb,k1,k2⟩:=h;obtain⟨f',mt,hfb⟩:=LM_ tw hx0 cr gb;obtain⟨kvs,hkv,hall⟩:=hm;obtain⟨q,vq,hq⟩:=hall e f' mt;refine'⟨_,?D,?R⟩
  case D =>
   refine' aj_ (eL_ (zv 3 cj_) (aU_ (K:=K) (n:=3) rfl rfl (ak_ ?a (ak_ ?b (ak_ ?c aT_))))) ?d
   case a=>show zh 4 cj_
   case b=>show zh 5 cj_
   case c=>show zh 6 cj_
   case' d=>refine' aj_ ?e (aj_ (zas 9 cj_ (FD_ ja_ (FD_ aN_ (zv 8 cj_) (FD_ f5_ ad_ (zv 6 cj_))) ad_)) ?f)
   case' e=>refine' eL_ (ce_ (un1 hr.units) (zv 2 cj_) (ar_ (pa_c (zv 4 cj_) (pa_c (zv 5 cj_) ab_)))) (aU_ (K:=K) (n:=2) rfl rfl (ak_ ?g (ak_ ?h aT_)))
   case g=>show zh 7 cj_
   case h=>show zh 8 cj_
   case' f=>refine' aj_ (Gj_ (aw_ K4_ (zv 7 cj_) (zv 1 cj_) (FW_ _)) (ag_ (au_ (ar_ ?i))) aD_) ?j
   case' i=>refine' pa_c (zv 7 cj_) (pa_c (FD_ aI_ (zv 9 cj_) (al_ an_ fs_ T.n_len aG_ (pa_c (FF_ aq_ (zv 0 cj_) (zv 7 cj_)) ab_))) (pa_c (FD_ ja_ ad_ (zv 6 cj_)) ab_))
   case' j=>refine' aj_ (Gj_ (aw_ Hy_ (zv 9 cj_) ad_ (FW_ _)) (ag_ (au_ (FD_ aN_ (FD_ f5_ ad_ (zv 7 cj_)) ad_))) aD_) ?k
   case' k=>refine' aj_ ?l (ag_ (au_ (ar_ (pa_c (zv 7 cj_) (pa_c (zv 9 cj_) (pa_c (FD_ ja_ ad_ (zv 6 cj_)) ab_))))))
   case' l=>refine' Gj_ (aw_ GW_ (zv 9 cj_) (al_ an_ fs_ T.n_len aG_ (pa_c (FF_ aq_ (zv 0 cj_) (zv 7 cj_)) ab_)) (FW_ _)) (ag_ (au_ (FD_ f5_ ad_ (zv 7 cj_)))) aD_
  case R =>
   nofun;show⟨_,SqT.of hc,rfl,_,_,rfl,_,_,rfl,_,_,rfl,rfl,d_,λp hp=>?_⟩;have s1:FA_ H (upd H p (.tup [.int e.1,.int e.2])):=FA_.new hp;generalize e1:upd H p (.tup [.int e.1,.int e.2])=H1 at s1⊢;have hp1:H1 p=some (cV e):=e1▸aa_;have g:GT_ H1 m (.ref p) (some (.ref q)):=vq▸GT_.t (k:=cK e) (s1 _ _ hkv) hp1;have hT1:=hT.mono s1;obtain⟨_,wf,_,hwf⟩:=id mt;have hfl:=F8_ hwf;obtain⟨a,ea,at0,ra⟩:=hT1.at_ hfl.2;show⟨_,g,_,rfl,_,SqT.of (s1 _ _ hq),rfl,_,_,rfl,_,_,rfl,rfl,_,rfl,.inl d_,_,rfl,_,rfl,?_⟩;have ll:((Tt.getD f'.1 []).map V.str).length=rl Tt f'.1:=Ab_ _;have hit:∀(k' sd':Nat)(z1 z2:Int),z1=k'->z2=sd'->Cr Tt Pp b (f'.1,k') sd'->k'<rl Tt f'.1->∀p,H1 p=none->Q (.ref p) (upd H1 p (.tup [.int f'.1,.int z1,.int z2])):=λk' sd' z1 z2 h1 h2 h3 h4 p np=>by subst h1 h2;obtain⟨y,hy⟩:=cO_ (T:=Tt) (e:=(f'.1,k')) h4;show k1 p _ (f'.1,k') sd' y (s1.trans (FA_.new np)) aa_ h3 hy
   have plc:∀(pl:Nat)(z:Int),z=pl->pl<2*Pp->tn b=stt Tt pl->Q (.int z) H1:=λpl z h1 h2 h3=>by
    subst h1;show k2 pl H1 s1 h2 ?_ h3;have:=bF_ (T:=Tt) h2
    rwa[<-h3,He_]at this
   have hf1:=hfl.1
   rcases hfb with⟨rfl,rfl⟩|⟨rfl,rfl⟩
   .show ite2 (λhP=>⟨_,_,rfl,hT1.top,_,at0,_,rfl,_,.inl ra,?_,_,rfl,d_,?_⟩) (λhP=>ite2 (λh0=>⟨_,rfl,.inl d_,plc (2*f'.1+1) _ o_ o_ ?_⟩) (λh0=>⟨_,_,rfl,hT1.top,_,at0,_,rfl,_,.inl ra,?_⟩))
    .rw[ll];lia
    .rw[ll];by_cases c0:f'.2=0
     .show hit (rl Tt f'.1-1) 1 _ _ ?_ rfl (lZ_ hf1 (.inl ⟨c0,o_,o_⟩)) o_;rw[c0];rw[show((0:Nat):Int)+2*((0:Nat):Int)-1 = -1 by rfl];rw[show(-1:Int)=(rl Tt f'.1-1:Nat)-(rl Tt f'.1:Int) by lia,Int.sub_emod_right,DZ_ o_ o_]
     .show hit (f'.2-1) 1 _ _ ?_ rfl (lZ_ hf1 (.inr o_)) o_;rw[DZ_ o_ o_];lia
    .have c0:f'.2=0:=o_
     unfold stt;rw[if_neg o_,show(2*f'.1+1)/2=f'.1 by lia];show Bb_ (Bb_ rfl c0) rfl
    .rw[ll,if_neg o_];show⟨_,rfl,d_,hit (f'.2-1) 1 _ _ o_ rfl (lZ_ hf1 (.inr o_)) o_⟩
   .have fw:∀{k'},beh Tt Pp f'=(f'.1,k')->Cr Tt Pp (beh Tt Pp f',true) (f'.1,k') 0:=λ{k'} z=>.inl ⟨by rw[z],rfl⟩;show ite2 (λhP=>⟨_,_,rfl,hT1.top,_,at0,_,rfl,_,.inl ra,?_,_,rfl,d_,?_⟩) (λhP=>?_)
    .rw[ll];lia
    .rw[ll];by_cases c0:f'.2+1=rl Tt f'.1
     .show hit 0 0 _ _ ?_ rfl (fw (if_pos ⟨o_,c0⟩)) o_;rw[show(f'.2:Int)+2*((1:Nat):Int)-1=(rl Tt f'.1:Int) by lia,Int.emod_self];rfl
     .show hit (f'.2+1) 0 _ _ ?_ rfl (fw (if_neg (λz=>c0 z.2))) o_;rw[DZ_ o_ o_];lia
    rw[if_neg o_];have bf:beh Tt Pp f'=(f'.1,f'.2+1):=if_neg (λz=>hP o_);show⟨_,_,rfl,hT1.top,_,at0,_,rfl,_,.inl ra,ite2 (λh1=>⟨_,rfl,.inl d_,plc (2*f'.1) _ o_ o_ ?_⟩) (λh1=>?_)⟩
    .rw[ll]at h1;rw[bf];unfold stt;rw[if_pos o_,show 2*f'.1/2=f'.1 by lia];show Bb_ (Bb_ rfl (show f'.2+1=rl Tt f'.1 by lia)) rfl
    .rw[ll]at h1;show⟨_,rfl,d_,hit (f'.2+1) 0 _ _ o_ rfl (fw bf) o_⟩
theorem o0_(l:List Str):deq (.lst (l.map Dt.str)) (.lst [])=some (decide (l.length=0)):=by
 cases l with
 |nil=>rfl
 |cons a l=>simp[deq]
def Kj_(H:Hp)(T:List (List Str))(P:Nat)(x:Sd)(v:V):Prop:=(∃c e sd y,v=.ref c/\H c=some (crV e sd)/\Cr T P x e sd/\wi T e=some y)\/(∃j:Nat,v=.int j/\j<2*P/\wr T P x=none/\tn x=stt T j)
theorem Kj_.tups{T:List (List Str)}{P:Nat}{x:Sd}(h:Kj_ H T P x v)(s:∀b ys,H b=some (.tup ys)->H' b=some (.tup ys)):Kj_ H' T P x v:=by
 rcases h with⟨c,e,sd,y,h1,h2,h3⟩|h
 .show .inl ⟨c,e,sd,y,h1,s _ _ h2,h3⟩
 .show .inr h
variable{y:Str}
theorem Cr.wr{T:List (List Str)}{P:Nat}{x:Sd}{e:Nat×Nat}(h:Cr T P x e sd)(hy:wi T e=some y):RimT.wr T P x=some y:=by
 rcases h with⟨rfl,_⟩|⟨rfl,_⟩
 .show hy
 .rw[i7_ (F8_ hy).1];show hy
abbrev FO_:Stmt:=stN 33
theorem br_:ZL ["_law_turns_here","_law_posts","_law_mates_here","_law_place","_law_post","_law_here","_law_found"] ["_law_turns_here","_law_posts","_law_mates_here","_law_place"] (FC_ FO_):=zL
theorem eH_:LK FO_ "_law_beyond" .globalImplicit:=r_
theorem gt_:LK FO_ "int" .globalImplicit:=r_
theorem dC_:LK FO_ "isinstance" .globalImplicit:=r_
theorem gu_:LK FO_ "len" .globalImplicit:=r_
def CrA(H:Hp)(T:List (List Str))(P:Nat)(xs:List Addr)(mm:List Sd):Prop:=Paired (λ(x:Addr)(s:Sd)=>∃e sd y,H x=some (crV e sd)/\Cr T P s e sd/\wi T e=some y) xs mm
theorem CrA.tups{T:List (List Str)}{P:Nat}{xs:List Addr}{mm:List Sd}(h:CrA H T P xs mm)(s:∀b ys,H b=some (.tup ys)->H' b=some (.tup ys)):CrA H' T P xs mm:=Paired.mapP h λ_ _ ⟨e,sd,y,h1,h2⟩=>⟨e,sd,y,s _ _ h1,h2⟩
def In_:Sp:=λvs H Q _=>∃(l m:Addr)(as_:List Addr)(T:List (List Str))(P pl:Nat),vs=[.ref l,.int P,.ref m,.int pl]/\Tg V.str H l as_ T/\GH_ H m T/\Tw T/\P<=T.length/\pl<2*P/\P<=6/\(corners T P).length<=900 /\
 ∀t F H' l xs x (j:Nat),FA_ H H'->H' t=some (.tup [.int j,.ref F])->H' F=some (.lst (xs.map V.ref))->CrA H' T P xs l.dropLast->Ln T P (stt T pl) l->l.getLast?=some x->j<2*P->tn x=stt T j->Q (.ref t) H'
theorem iY_(T:Txt K mg)(F:Fn0 K mg "_law_from_place" FO_) (Hf_:Cal P w K mg base "_law_beyond" ["_law_turns_here","_law_posts","_law_mates_here","_law_crossing"] 1 Hd_):Cal P w K mg base "_law_from_place" ["_law_turns_here","_law_posts","_law_mates_here","_law_place"] 2 In_:=by
  show aQ_ F br_.1 λf cdv A outer s0 H vs Q E hr h=>?_;obtain⟨l,m,as_,Tt,Pp,pl,rfl,hT,hm,tw,PT,hp,P6,c9,k⟩:=h;refine'⟨_,?D,?R⟩
  case D =>
   refine' ac_ (zas 4 br_ (FD_ av_ (zv 3 br_) ad_)) ?a
   case' a=>refine' ac_ ?b (ac_ ?c (aj_ ?d (ac_ (zas 6 br_ (bh_ ab_)) ?e)))
   case' b=>refine' Gj_ (aw_ (n1_ (hr.units)) (FF_ aq_ (zv 0 br_) (zv 4 br_)) (bh_ ab_) (FW_ _)) (ag_ (au_ ?f)) aD_
   case' f=>refine' ar_ (pa_c (FD_ ja_ (FD_ aN_ (zv 3 br_) ad_) (FD_ f5_ ad_ (FD_ aI_ (zv 3 br_) ad_))) (pa_c (bh_ ab_) ab_))
   case' c=>refine' zas 5 br_ (ar_ (pa_c (zv 4 br_) (pa_c ad_ (pa_c ad_ ab_))))
   case' d=>refine' ih_ (Gj_ (aw_ GW_ (FD_ aI_ (zv 3 br_) ad_) ad_ (FW_ _)) (ag_ (zas 5 br_ ?g)) aD_)
   case' g=>refine' ar_ (pa_c (zv 4 br_) (pa_c (FD_ ja_ (al_ an_ gu_ T.n_len aG_ (pa_c (FF_ aq_ (zv 0 br_) (zv 4 br_)) ab_)) ad_) (pa_c ad_ ab_)))
   case' e=>refine' aj_ (e9_ AA_ ?h (aj_ (aH_ (Gq_ AB_ AI_ AJ_ aF_ (zv 6 br_) (pa_c (zv 5 br_) ab_))) ?i)) ?j
   case' h=>refine' f4_ (f3_ (al_ f8_ dC_ T.n_isinstance b2_ (pa_c (zv 5 br_) (pa_c ?k ab_))))
   case k=>show ks_ gt_ T.n_int mm_
   case' i=>refine' ag_ (zas 5 br_ (am_ Hf_ (hr.mono d_) eH_ (pa_c (zv 0 br_) (pa_c (zv 1 br_) (pa_c (zv 2 br_) (pa_c (zv 5 br_) ab_))))))
   case' j=>refine' ag_ (au_ (ar_ (pa_c (zv 5 br_) (pa_c (zv 6 br_) ab_))))
  case R =>
   nofun;have pT:pl/2<Tt.length:=o_
   obtain⟨a,ea,at0,ra⟩:=hT.at_ pT;have cst:(pl:Int)/2=((pl/2:Nat):Int):=o_
   rw[cst];show⟨d_,d_,?_⟩;have ll:((Tt.getD (pl/2) []).map V.str).length=rl Tt (pl/2):=Ab_ _;have ic:=IF_ (T:=Tt) PT hp;have sf:=bF_ (T:=Tt) hp;nofun;show⟨_,hT.top,_,at0,Az_ _,λp0 n0=>?_⟩;have S0:=FA_.new n0 (o:=HO.lst []);have hp0:=aa_ (H:=H) (a:=p0) (o:=HO.lst []);generalize upd H p0 (HO.lst [])=H0 at*;have hT0:=hT.mono S0;show⟨_,rfl,.lst ((Tt.getD (pl/2) []).map Dt.str),⟨_,_,rfl,S0 _ _ ra,b4_ _⟩,.lst [],⟨_,_,rfl,hp0,rfl⟩,decide (rl Tt (pl/2)=0),o0_ _,by have:=fL_ (f:=Dt.str) (n:=0) (λ_=>Ai_ _) (Tt.getD (pl/2) []);rw[dep];lia,?_⟩;by_cases r0:rl Tt (pl/2)=0
   .rw[if_pos (AZ_ r0)];show⟨d_,.inl d_,Az_ _,λp1 n1=>⟨d_,λp2 n2=>?_⟩⟩;have S1:=FA_.new n1 (o:=HO.lst []);have hp1:=aa_ (H:=H0) (a:=p1) (o:=HO.lst []);generalize upd H0 p1 (HO.lst [])=H1 at*
    have e0:wr Tt Pp (stt Tt pl)=none:=by
     unfold stt;split
     .unfold wr;rw[if_neg s_]
      dsimp only
      rw[if_pos r0,if_neg o_]
     .show Ba_ (by change _<=0;show Fu_ r0)
    have ej:tn (stt Tt pl)=stt Tt (pl+1-2*(pl%2)):=by
     unfold stt tn;by_cases c:pl%2=0
     .rw[if_pos c,if_neg o_,show(pl+1-2*(pl%2))/2=pl/2 by lia,r0];rfl
     .rw[if_neg c,if_pos o_,show(pl+1-2*(pl%2))/2=pl/2 by lia,r0];rfl
    rw[show(pl:Int)+1-2*(pl%2)=((pl+1-2*(pl%2):Nat):Int) by lia];show k p2 p1 _ [stt Tt pl] [] (stt Tt pl) _ ((S0.trans S1).trans (FA_.new n2)) aa_ ((FA_.new n2) _ _ hp1) ?_ ⟨pa1 _,rfl,λy hy=>by cases hy;show e0⟩ rfl o_ ej;show .nil
   .rw[if_neg (by simp[r0])];nofun;show⟨d_,λp1 n1=>?_⟩;have S1:=FA_.new n1 (o:=HO.tup [V.int ((pl/2:Nat):Int),V.int 0,V.int 0]);have hp1:=aa_ (H:=H0) (a:=p1) (o:=HO.tup [V.int ((pl/2:Nat):Int),V.int 0,V.int 0]);generalize upd H0 p1 (HO.tup [V.int ((pl/2:Nat):Int),V.int 0,V.int 0])=H1 at*;have S01:=S0.trans S1;nofun;show⟨λσ Hx=>∃v,σ=[some (.ref l),some (.int Pp),some (.ref m),some (.int pl),some (.int ((pl/2:Nat):Int)),some v,none]/\FA_ H Hx/\Kj_ Hx Tt Pp (stt Tt pl) v,?_,?_⟩
    .nofun;show⟨d_,ite2 (λc=>?_) (λc=>⟨S01,?_⟩)⟩
     .show⟨_,S01 _ _ hT.top,_,at0,_,rfl,_,.inl (S01 _ _ ra),d_,λp2 n2=>?_⟩;rw[ll];show⟨S01.trans (FA_.new n2),.inl ⟨p2,(pl/2,rl Tt (pl/2)-1),1,_,rfl,?_,.inr ⟨?_,rfl⟩,(cO_ (T:=Tt) (e:=(pl/2,rl Tt (pl/2)-1)) (by dsimp only;lia)).choose_spec⟩⟩
      .rw[aa_];change some (HO.tup [V.int _,V.int ((rl Tt (pl/2):Int)-1),V.int _])=some (HO.tup [V.int _,V.int ((rl Tt (pl/2)-1:Nat):Int),V.int _]);rw[show((rl Tt (pl/2)-1:Nat):Int)=(rl Tt (pl/2):Int)-1 by lia];rfl
      .unfold stt beh;rw[if_pos o_,if_neg (by dsimp only;lia)]
       dsimp only
       rw[show rl Tt (pl/2)-1+1=rl Tt (pl/2) by lia]
     .show .inl ⟨p1,(pl/2,0),0,_,rfl,hp1,.inl ⟨?_,rfl⟩,(cO_ (T:=Tt) (e:=(pl/2,0)) (by dsimp only;lia)).choose_spec⟩;unfold stt;rw[if_neg o_]
    rintro σ Hx ⟨v,rfl,sx,hh⟩;nofun;show⟨Az_ _,λF0 nF=>?_⟩;have nF0:=sx.free nF;have SF:=FA_.new nF (o:=HO.lst []);have hF:=aa_ (H:=Hx) (a:=F0) (o:=HO.lst []);generalize upd Hx F0 (HO.lst [])=H2 at*;nofun
    show hW_ (λσ Hy=>∃(mm:List Sd)(x:Sd)(v:V)(xs:List Addr),σ=[some (.ref l),some (.int Pp),some (.ref m),some (.int pl),some (.int ((pl/2:Nat):Int)),some v,some (.ref F0)]/\FA_ H Hy/\Hy F0=some (.lst (xs.map V.ref))/\CrA Hy Tt Pp xs mm/\xs.length=mm.length/\Pa (Gg Tt Pp) (mm++[x])/\(mm++[x])[0]?=some (stt Tt pl)/\Kj_ Hy Tt Pp x v)
     (λσ Hy=>match Hy F0 with|some (.lst xs)=>(corners Tt Pp).length+1-xs.length|_=>0) ⟨[],stt Tt pl,v,[],rfl,sx.trans SF,hF,.nil,rfl,pa1 _,rfl,hh.tups λb ys e=>SF _ _ e⟩ ?_
    rintro σ Hy kb hkb G hG ⟨mm,x,v,xs,rfl,sy,hFy,cra,xl,pa,h0,hv⟩;show hG ?_;have nd:=pa.nd_first tw h0 sf;have sh:=pa.short tw h0 ic nd;rw[Af_]at sh;nofun
    rcases hv with⟨c,e,sd,y,rfl,hc,cr,hy⟩|⟨j,rfl,hj,hwr,ej⟩
    .show⟨"tuple",by change(match Hy c with|some (.lst _)=>some "list" | some (.tup _)=>some "tuple" | _=>none)=_;rw[hc];rfl,?_⟩;rw[if_pos d_];show⟨_,N_ok,.inl ⟨_,.inl (.inl hFy)⟩,_,hFy,FB_ (by rw[Ab_];simp at sh;lia),?_⟩;have hwr:=cr.wr hy;have ix:=pa.allC h0 ic x s_;obtain⟨b,gb⟩:=nv_ tw ix hwr;have keep:∀d o,d≠F0->Hy d=some o->upd Hy F0 (HO.lst (xs.map V.ref++[V.ref c])) d=some o:=λd o h1 h2=>by rw[af_ h1];show h2
     have kt:∀d ys,Hy d=some (.tup ys)->upd Hy F0 (HO.lst (xs.map V.ref++[V.ref c])) d=some (.tup ys):=λd ys h=>keep d _ (λz=>by rw[z,hFy]at h;cases h) h;have sy1:FA_ H (upd Hy F0 (HO.lst (xs.map V.ref++[V.ref c]))):=λd o h=>keep d o (ae_ h nF0) (sy _ _ h);have hF1:upd Hy F0 (HO.lst (xs.map V.ref++[V.ref c])) F0=some (.lst ((xs++[c]).map V.ref)):=by rw[aa_,Ao_];rfl
     have hc1:=kt _ _ hc;have cra1:CrA (upd Hy F0 (HO.lst (xs.map V.ref++[V.ref c]))) Tt Pp (xs++[c]) (mm++[x]):=DE_ (cra.tups kt) ⟨e,sd,y,hc1,cr,hy⟩;generalize upd Hy F0 (HO.lst (xs.map V.ref++[V.ref c]))=H3 at*;show⟨l,m,c,as_,Tt,Pp,x,b,e,sd,y,rfl,hT.mono sy1,hm.mono sy1,tw,hc1,cr,hy,gb,λq H' e' sd' x' s' hq' cr' hx'=>?_,λpl' H' s' hpl hn ht=>?_⟩
     .have hh:Kj_ H' Tt Pp b (.ref q):=.inl ⟨q,e',sd',x',rfl,hq',cr',hx'⟩;show⟨⟨mm++[x],b,_,rfl,sy1.trans s',xs++[c],s' _ _ hF1,cra1.tups λb ys z=>s' _ _ z,by rw[Af_,Af_,xl];rfl,pa.snoc gb,by rw[Al_ s_];show h0,hh⟩,?_⟩;rw[s' _ _ hF1,hFy];simp only[Ab_,Af_,AS_]at sh⊢;lia
     .have hh:Kj_ H' Tt Pp b (.int pl'):=.inr ⟨pl',rfl,hpl,hn,ht⟩;show⟨⟨mm++[x],b,_,rfl,sy1.trans s',xs++[c],s' _ _ hF1,cra1.tups λb ys z=>s' _ _ z,by rw[Af_,Af_,xl];rfl,pa.snoc gb,by rw[Al_ s_];show h0,hh⟩,?_⟩;rw[s' _ _ hF1,hFy];simp only[Ab_,Af_,AS_]at sh⊢;lia
    .show⟨"int",rfl,?_⟩;rw[if_neg d_];show hkb _ _ ?_;nofun;show⟨d_,λp np=>?_⟩;have sp:=FA_.new np (o:=HO.tup [V.int j,V.ref F0]);show k p F0 _ (mm++[x]) xs x j (sy.trans sp) aa_ (sp _ _ hFy) ?_ ⟨pa,h0,λy hy=>?_⟩ s_ hj ej
     .rw[EW_];show cra.tups λb ys z=>sp _ _ z
     .rw[EV_]at hy;cases hy;show hwr
def IB_(kt:List (List Key×V))(all:List (List Key)):Prop:=(kt.map (·.1)).Nodup/\∀k∈kt.map (·.1),k∈all
variable{kt:List (List Key×V)}
theorem IB_.len{all:List (List Key)}(h:IB_ kt all):kt.length<=all.length:=by
 have:=bS_ h.1 h.2
 rwa[Ab_]at this
theorem IB_.put{all:List (List Key)}(h:IB_ kt all){k:List Key}(hk:k∈all)(v:V):IB_ (Gn_ kt k v) all:=by
 unfold IB_;rw[k4_];split
 .show h
 .next hn =>
  show⟨AM_.mpr ⟨h.1,s_,λa ha b hb e=>?_⟩,λx hx=>?_⟩
  .rw[Ak_.mp hb]at e;show hn (e▸ha)
  .rcases Aq_.mp hx with hx|hx
   .show h.2 x hx
   .rw[Ak_.mp hx];show hk
theorem IB_.merge{all:List (List Key)}:∀{more kt:List (List Key×V)},IB_ kt all->(∀q∈more,q.1∈all)->IB_ (Gs_ kt more) all
 |[],kt,h,_=>h
 |p::more,kt,h,hm=>IB_.merge (more:=more) (kt:=Gn_ kt p.1 p.2) (h.put (hm p Ar_) _) λq hq=>hm q (An_ _ hq)
theorem q1_(es:List (End Str))(e:End Str):((kvK es).any λq=>decide (q.1=eK e))=decide (e∈es):=by have:=oS_ es e;rw[fj_]at this;show this
abbrev Tr:=Option (Nat×Nat)×List Sd
def trF(t:Tr):V:=match t.1 with|some (p,_)=>.int p|none=>.non
def trL(t:Tr):V:=match t.1 with|some (_,j)=>.int j|none=>.non
def TrA(H0 H:Hp)(N:Net Str)(D:Addr)(ts:List Addr)(L:List Tr):Prop:=Paired (λ(q:Addr)(t:Tr)=>∃C W,H q=some (.tup [trF t,trL t,.ref C,.ref W])/\H W=some (.lst ((wiL (trn N) (Pn N) t.2).map V.str))/\W≠D/\H0 W=none) ts L
def ClL(T:List (List Str))(P:Nat)(l:List Sd):Prop:=∃s x,Pa (Gg T P) l/\l[0]?=some s/\l.getLast?=some x/\Gg T P x s
def opT(O:List (Nat×Nat×List Sd)):List Tr:=O.map λt=>(some (t.1,t.2.1),t.2.2)
def clT(L:List (List Sd)):List Tr:=L.map λl=>(none,l)
theorem LO_(ok:FY_ N)(po:FK_ N){qs:List Addr}(sa:StA H N qs)(ql:qs.length=2*Pn N){q2:Addr}{j:Nat}(kj:GM_ H q2 (skN N (stt (trn N) j)))(hj:j<2*Pn N){Q:Nat->Prop}(k:Q j):∃ds,Gd_ H (qs.map V.ref) ds/\∃d,Rep H (.ref q2) d/\(qs.map V.ref).length<=1000/\(∀y,y∈qs.map V.ref->∃q,y=V.ref q)/\∃bs:Nat->Bool,(∀(m:Nat) dm,ds[m]?=some dm->deq dm d=some (bs m)/\dep dm<=60)/\∃j',j'<ds.length/\bs j'=true/\(∀m,m<j'->bs m=false)/\Q j':=by
 have PT:Pn N<=(trn N).length:=by rw[ba_];unfold pts;rw[Af_];show Bt_ _ _
 have lt:∀{m},m<2*Pn N->(stt (trn N) m).1.1<(pts N).length:=λ{m} hm=>by rw[<-ba_];show(IF_ (T:=trn N) PT hm).1
 have pl6:Pn N<=6:=ok.pl;have dl:((List.range' 0 qs.length).map λi=>dSd (stt (trn N) i) N).length=2*Pn N:=by rw[Ab_,List.length_range',ql]
 show⟨(List.range' 0 qs.length).map λi=>dSd (stt (trn N) i) N,oX_ _ qs 0 λi q hi=>?_,_,j5_ kj,by rw[Ab_];lia,λy hy=>?_,λm=>decide (stt (trn N) m=stt (trn N) j),λm dm hm=>?_,j,by rw[dl];show hj,AZ_ rfl,λm hm=>AP_ λz=>?_,k⟩
 .rw[CL_];show j5_ (sa i q hi)
 .obtain⟨q,_,e⟩:=As_.mp hy;show⟨q,e.symm⟩
 .have hl:=(Ae_.mp hm).1;rw[dl]at hl;rw[Ag_,List.getElem?_range' o_]at hm;cases hm;rw[CL_,Nat.one_mul];show⟨oW_ ok po (lt hl) (lt hj),by simp[dSd,dE,dep,deps]⟩
 .have:=jy_ z;lia
variable{O:List (Nat×Nat×List Sd)}
theorem _root_.RimT.OpL.skip2(tw:Tw (trn N))(hi:i<2*Pn N)(h:OpL (trn N) (Pn N) i O)(hn:(stt (trn N) i).1∈csO O):OpL (trn N) (Pn N) (i+1) O:=by
 obtain⟨t,ht,hc⟩:=ia_.mp hn;obtain⟨h1,h2,h3⟩:=h.in_ t ht
 rcases h3.hits tw hi hc with e|e
 .lia
 .have b:=h3.back tw o_;rw[<-e]at b;show h.skip tw hi b hn
def csT(L:List Tr):List (Nat×Nat):=(L.map λt=>cs t.2).flatten
theorem gv_(L:List Tr)(t:Tr):csT (L++[t])=csT L++cs t.2:=by unfold csT;rw[Ao_,AT_];simp
theorem o1_(O:List (Nat×Nat×List Sd)):csT (opT O)=csO O:=by unfold csT opT csO;rw[AW_];rfl
theorem o2_(O:List (Nat×Nat×List Sd))(L:List (List Sd)):csT (opT O++clT L)=csO O++(L.map cs).flatten:=by rw[<-o1_];unfold csT clT;rw[Ao_,AT_,AW_];rfl
structure TrS(N:Net Str)(H0 B Hy:Hp)(tl D:Addr)(ts:List Addr)(kt:List (List Key×V))(L:List Tr):Prop where
 same:FA_ B Hy
 hD:Hy D=some (.lst (ts.map V.ref))
 tr:TrA H0 Hy N D ts L
 ht:Hy tl=some (.dT kt)
 kto:IB_ kt ((Gl_ N).map eK)
 seen:∀c,IsC (trn N) (Pn N) c->(Gi_ kt (eK (ph N c))).isSome=decide (c∈csT L)
 nd:(csT L).Nodup
 sh:H3_ (trn N) (Pn N) (csT L)
 ic:∀c∈csT L,IsC (trn N) (Pn N) c
variable{ts:List Addr}
theorem TrS.mono{H0 Hy:Hp}{tl D:Addr}{L:List Tr}(h:TrS N H0 B Hy tl D ts kt L)(s:FA_ Hy H'):TrS N H0 B H' tl D ts kt L:=⟨h.same.trans s,s _ _ h.hD,Paired.mapP h.tr λq' t' ⟨C',W',z1,z2,z3⟩=>⟨C',W',s _ _ z1,s _ _ z2,z3⟩,s _ _ h.ht,h.kto,h.seen,h.nd,h.sh,h.ic⟩
theorem l0_{H H':Hp}{N:Net Str}:∀{xs:List Addr}{l:List (Nat×Nat)},Es H N xs l->(∀b ys,H b=some (.tup ys)->H' b=some (.tup ys))->Es H' N xs l
 |[],[],_,_=>trivial
 |x::xs,c::l,h,s=>⟨s _ _ h.1,l0_ h.2 s⟩
theorem o3_(ok:FY_ N)(po:FK_ N){l:List (Nat×Nat)}(nd:l.Nodup)(ic:∀c∈l,IsC (trn N) (Pn N) c):l.length<=100:=by
 have:=bS_ (l:=l) (m:=H5_ N) nd λx hx=>(hP_ ok po).mpr (ic x hx);have ol:(H5_ N).length=(Gl_ N).length:=by rw[fN_ po,Ab_]
 have:=(er_ ok).1;lia
theorem TrS.begun{H0 Hy:Hp}{tl D:Addr}(s:FA_ B Hy)(hD:Hy D=some (.lst []))(ht:Hy tl=some (.dT [])):TrS N H0 B Hy tl D [] [] []:=⟨s,hD,.nil,ht,⟨A8_,λk hk=>absurd hk AL_⟩,λc _=>rfl,A8_,λa b g hb=>absurd hb AL_,λc hc=>absurd hc AL_⟩
theorem GoI.mono{kg:List (Sk×V)}{E:Nat×Nat->Prop}(h:GoI H N kg E)(s:FA_ H H'):GoI H' N kg E:=⟨λe f x he m hx=>let⟨v,q,z1,z2,z3⟩:=h.tt e f x he m hx;⟨v,q,z1,s _ _ z2,z3.mono s⟩,λe f x he m hx=>let⟨v,q,z1,z2,z3⟩:=h.ff e f x he m hx;⟨v,q,z1,s _ _ z2,z3.mono s⟩,h.no⟩
theorem TrS.add{N:Net Str}(ok:FY_ N)(po:FK_ N){H0 B Hy:Hp}{tl D:Addr}{ts:List Addr}{kt:List (List Key×V)}{L:List Tr}(h:TrS N H0 B Hy tl D ts kt L){t:Tr}{q C W:Addr}{H3 H5:Hp}(bt:B tl=none)(bD:B D=none)(tD:tl≠D)(s3:FA_ Hy H3)(hq:H3 q=some (.tup [trF t,trL t,.ref C,.ref W]))(hW:H3 W=some (.lst ((wiL (trn N) (Pn N) t.2).map V.str)))(WD:W≠D)(bW:H0 W=none)(s5:FA_ (upd H3 D (.lst (ts.map V.ref++[.ref q]))) H5)
  (ap:∀c∈cs t.2,c∉csT L) (nd':(cs t.2).Nodup) (sh':H3_ (trn N) (Pn N) (cs t.2)) (ic':∀c∈cs t.2,IsC (trn N) (Pn N) c):TrS N H0 B (upd H5 tl (.dT (Gs_ kt (kvK ((cs t.2).map (ph N)))))) tl D (ts++[q]) (Gs_ kt (kvK ((cs t.2).map (ph N)))) (L++[t]):=by
 have hD3:=s3 _ _ h.hD;have ht3:=s3 _ _ h.ht;have put:∀b o,b≠D->b≠tl->H3 b=some o->upd H5 tl (.dT (Gs_ kt (kvK ((cs t.2).map (ph N))))) b=some o:=λb o h1 h2 h3=>by rw[af_ h2];show s5 _ _ ?_;rw[af_ h1];show h3
 have tp:∀b ys,H3 b=some (.tup ys)->upd H5 tl (.dT (Gs_ kt (kvK ((cs t.2).map (ph N))))) b=some (.tup ys):=λb ys e=>put b _ (λz=>by rw[z,hD3]at e;cases e) (λz=>by rw[z,ht3]at e;cases e) e;have ls:∀b ys,b≠D->H3 b=some (.lst ys)->upd H5 tl (.dT (Gs_ kt (kvK ((cs t.2).map (ph N))))) b=some (.lst ys):=λb ys n e=>put b _ n (λz=>by rw[z,ht3]at e;cases e) e;show⟨λb o e=>put b o (ae_ e bD) (ae_ e bt) (s3 _ _ (h.same _ _ e)),?_,?_,aa_,h.kto.merge λk hk=>?_,λc hc=>?_,?_,?_,λc hc=>?_⟩
 .rw[af_ tD.symm,s5 _ _ aa_,Ao_];rfl
 .show DE_ (Paired.mapP h.tr λq' t' ⟨C',W',z1,z2,z3⟩=>⟨C',W',tp _ _ (s3 _ _ z1),ls _ _ z3.1 (s3 _ _ z2),z3⟩) ⟨C,W,tp _ _ hq,ls _ _ WD hW,WD,bW⟩
 .unfold kvK at hk;obtain⟨e,he,rfl⟩:=As_.mp hk;obtain⟨c0,hc0,rfl⟩:=As_.mp he;show As_.mpr ⟨_,?_,rfl⟩;rw[fN_ po];show As_.mpr ⟨c0,(hP_ ok po).mpr (ic' c0 hc0),rfl⟩
 .rw[fj_,h.seen c hc,q1_,gv_];have dlt:c.1<(pts N).length:=by rw[<-ba_];show hc.1
  have e1:decide (ph N c∈(cs t.2).map (ph N))=decide (c∈cs t.2):=Ej_.mpr ⟨λh=>by obtain⟨c0,hc0,e0⟩:=As_.mp h;have:=h8_ ok po (by rw[<-ba_];show(ic' c0 hc0).1) dlt e0;show this▸hc0,λh=>As_.mpr ⟨c,h,rfl⟩⟩;rw[e1,<-Bool.decide_or];show Ej_.mpr s_
 .rw[gv_];show AM_.mpr ⟨h.nd,nd',λa ha b hb e=>ap b hb (e▸ha)⟩
 .rw[gv_];show h.sh.app sh'
 .rw[gv_]at hc
  rcases Aq_.mp hc with hc|hc
  .show h.ic c hc
  .show ic' c hc
theorem lb_{H7:Hp}{C:Addr}{xs:List Addr}{l:List Sd}{Q:VK}(hC:H7 C=some (.lst (xs.map V.ref)))(hes:Es H7 N xs (cs l))(c100:(cs l).length<=100)(k:∀kl H8,FA_ H7 H8->Jc_ H8 kl (kvK ((cs l).map (ph N)))->Q (.ref kl) H8):HQ_ (Itl K C) (Hu_ 0) KJ_ (Lr_ (I7_ (Jx_ 0) (I7_ (L2.tC (V.bl true)) Ly_))) [none] H7 Q:=by
 have xl:=hes.len;show ec_ (n:=xs.length) (B:=λ_=>none) (Pσ:=λσ=>∃e,σ=[e]) (ds:=((cs l).map (ph N)).map dKn) (λb o e=>by cases e) ⟨_,rfl⟩ (by simp[xl]) o_ (λj Hj hj sj=>⟨_,.ref (xs[j]),.inl (.inl (sj _ _ hC)),by simp[hj]⟩) (λHj sj=>⟨_,.inl (.inl (sj _ _ hC)),s_⟩) ?_ ?_
 .rintro Dc j x dd σ' H6 H6' hDc hDo hs6 hj hdj ⟨rfl,hy⟩ ⟨e,rfl⟩ R0 kR;obtain⟨od,hDo⟩:=hDo;have hx:=hy _ (.inl (.inl (hs6 _ _ hC)));have hjc:j<(cs l).length:=o_
  obtain⟨y,hy1,hy2⟩:=hes.get (Aa_ hjc);rw[Ag_,hy1]at hx;cases hx;have hd:dd=dKn (ph N (cs l)[j]):=by rw[Ag_,Ag_,Aa_ hjc]at hdj;show(Au_ hdj).symm
  nofun;show⟨d_,λt nt=>kR _ _ _ ⟨_,rfl⟩ (FA_.new nt) ?_⟩;rw[hd];have tD':t≠Dc:=(ae_ hDo nt).symm;have yD:y≠Dc:=ae_ hy2 hDc;have hq2:=(FA_.new nt (o:=HO.tup [V.ref y,V.bl true])) _ _ (hs6 _ _ hy2);show⟨t,_,rfl,by rw[eb_ tD' rfl];show aa_,_,_,rfl,⟨y,_,rfl,by rw[eb_ yD rfl];show hq2,_,_,rfl,rfl,_,_,rfl,rfl,rfl⟩,_,_,rfl,rfl,rfl⟩
 .intro kl H6 hkl s6 rep6;show k kl H6 s6 (nd_ (Rep.mono f9_ _ rep6))
abbrev FM_:Stmt:=stN 10
theorem aZ_:ZL ["net","goings","starts","passed","trails","place","start","gone","corner"] ["net"] (FC_ FM_):=zL
theorem cH_:LK FM_ "corners_in_order" .globalImplicit:=r_
theorem eI_:LK FM_ "enumerate" .globalImplicit:=r_
theorem eJ_:LK FM_ "goings_of" .globalImplicit:=r_
theorem cb_:LK FM_ "gone_from" .globalImplicit:=r_
theorem eK_:LK FM_ "starts_of" .globalImplicit:=r_
theorem fQ_:LK FM_ "turned" .globalImplicit:=r_
def HR_:Sp:=λvs H Q _=>∃(v:V)(N:Net Str),vs=[v]/\Rep H v (HG_ N)/\FY_ N/\FK_ N/\∀D ts H' O L,FA_ H H'->H D=none->H' D=some (.lst (ts.map V.ref))->TrA H H' N D ts (opT O++clT L)->ts.length<=200->OpL (trn N) (Pn N) (2*Pn N) O->(∀l∈L,ClL (trn N) (Pn N) l)->(csO O++(L.map cs).flatten).Nodup->(∀c,IsC (trn N) (Pn N) c↔c∈csO O++(L.map cs).flatten)->Q (.ref D) H'
theorem lc_(T:Txt K mg)(F:Fn0 K mg "trails_of" FM_) (Ic_:Cal P w K mg base "starts_of" ["net"] 1 HP_) (Id_:Cal P w K mg base "goings_of" ["net"] 3 (K2_ P w)) (Hg_:Cal P w K mg base "gone_from" ["start","goings"] 1 (IT_ P w)) (JF_:Cal P w K mg base "turned" ["standing"] 1 HK_) (G0_:Cal P w K mg base "corners_in_order" ["net"] 1 I2_):Cal P w K mg base "trails_of" ["net"] 4 HR_:=by
  show aQ_ F aZ_.1 λf cdv A outer s0 H vs Q E hr h=>?_;obtain⟨v,N,rfl,hv,ok,po,k⟩:=h;have tw:=ha_ ok po;have PT:Pn N<=(trn N).length:=by rw[ba_];unfold pts;rw[Af_];show Bt_ _ _
  have pl6:Pn N<=6:=ok.pl;refine'⟨_,?D,?R⟩
  case D =>
   refine' ac_ (zas 1 aZ_ (am_ Id_ (hr.mono d_) eJ_ (pa_c (zv 0 aZ_) ab_))) ?a
   case' a=>refine' ac_ (zas 2 aZ_ (am_ Ic_ (hr.mono d_) eK_ (pa_c (zv 0 aZ_) ab_))) (ac_ ?b (ac_ (zas 4 aZ_ (bh_ ab_)) ?c))
   case b=>show zas 3 aZ_ fd_
   case' c=>refine' ac_ (aP_ AA_ rfl (lA_ (K:=K) rfl eI_ T.n_enumerate (pa_c (zv 2 aZ_) ab_)) (aU_ (K:=K) (n:=2) rfl rfl (ak_ ?d (ak_ ?e aT_))) (ag_ ?f)) ?g
   case d=>show zh 5 aZ_
   case e=>show zh 6 aZ_
   case' f=>refine' Gj_ (f2_ (im_ (un1 hr.units) (FF_ ao_ (zv 6 aZ_) ad_) (zv 3 aZ_))) (ac_ (zas 7 aZ_ (am_ Hg_ (hr.mono d_) cb_ (pa_c (zv 6 aZ_) (pa_c (zv 1 aZ_) ab_)))) ?h) aD_
   case' h=>refine' ac_ (aH_ (Gq_ AB_ AI_ AJ_ aF_ (zv 4 aZ_) ?i)) (ag_ (aH_ ?j))
   case' i=>refine' pa_c (ar_ (pa_c (zv 5 aZ_) (pa_c ?k (pa_c (FF_ ao_ (zv 7 aZ_) ad_) (pa_c (FF_ ao_ (zv 7 aZ_) ad_) ab_))))) ab_
   case' k=>refine' Gq_ AB_ PySem.F.slot_list_index PySem.F.type_list_index (op_ (hr.units)) (zv 2 aZ_) (pa_c (am_ JF_ (hr.mono d_) fQ_ (pa_c (FF_ ao_ (zv 7 aZ_) ad_) ab_)) ab_)
   case' j=>refine' Gq_ BS_ Ek_ El_ (ji_ hr.units rfl) (zv 3 aZ_) (pa_c (cc_ (N':=["corner"]) (ix:=[none]) rfl rfl (cw_ ?l) (aL_ (K:=K) rfl (FF_ ao_ (zv 7 aZ_) ad_)) (λ_ _ _=>?m) (λ_ _ _=>?n) (λ_ _ _=>(ar_ (pa_c (pv1 0 rfl rfl) (pa_c GG_ ab_))))) ab_)
   case l=>show(by change Hv_ (FC_ FM_) ["net","goings","starts","passed","trails","place","start","gone","corner"] _ _ _=true;decide +kernel)
   case m=>show ah_ (i:=0) (by change List.Nodup (["corner"]:List Str);decide +kernel) rfl rfl
   case n=>show eC_
   case' g=>refine' aj_ (aP_ AA_ rfl (aL_ (K:=K) rfl (am_ G0_ (hr.mono d_) cH_ (pa_c (zv 0 aZ_) ab_))) ?o (ag_ ?p)) (ag_ (au_ (zv 4 aZ_)))
   case o=>show zh 8 aZ_
   case' p=>refine' Gj_ (f2_ (im_ (un1 hr.units) (zv 8 aZ_) (zv 3 aZ_))) (ac_ ?q (ac_ (aH_ (Gq_ AB_ AI_ AJ_ aF_ (zv 4 aZ_) ?r)) (ag_ (aH_ ?s)))) aD_
   case' q=>refine' zas 7 aZ_ (am_ Hg_ (hr.mono d_) cb_ (pa_c (ar_ (pa_c (zv 8 aZ_) (pa_c GG_ ab_))) (pa_c (zv 1 aZ_) ab_)))
   case' r=>refine' pa_c (ar_ (pa_c ?t (pa_c ?u (pa_c (FF_ ao_ (zv 7 aZ_) ad_) (pa_c (FF_ ao_ (zv 7 aZ_) ad_) ab_))))) ab_
   case t=>show ic_
   case u=>show ic_
   case' s=>refine' Gq_ BS_ Ek_ El_ (ji_ hr.units rfl) (zv 3 aZ_) (pa_c (cc_ (N':=["member"]) (ix:=[none]) rfl rfl (cw_ ?v) (aL_ (K:=K) rfl (FF_ ao_ (zv 7 aZ_) ad_)) (λ_ _ _=>?w) (λ_ _ _=>?x) (λ_ _ _=>(ar_ (pa_c (pv1 0 rfl rfl) (pa_c GG_ ab_))))) ab_)
   case v=>show(by change Hv_ (FC_ FM_) ["net","goings","starts","passed","trails","place","start","gone","corner"] _ _ _=true;decide +kernel)
   case w=>show ah_ (i:=0) (by change List.Nodup (["member"]:List Str);decide +kernel) rfl rfl
   case x=>show eC_
  case R =>
   nofun;show⟨_,N,rfl,hv,ok,po,λd kg H1 s1 dp gi nd=>?_⟩;nofun;show⟨_,N,rfl,Rep.mono s1 _ hv,ok,po,λSt qs H2 s2 nSt hSt ql sa=>?_⟩;nofun;intro tl ntl;nofun;show⟨Az_ _,λD nD=>?_⟩;nofun;have tD:tl≠D:=λz=>by rw[<-z,aa_]at nD;cases nD
   have nD2:=(FA_.new ntl (o:=HO.dT [])).free nD;have sB:=(FA_.new ntl (o:=HO.dT [])).trans (FA_.new nD (o:=HO.lst []));have b1:upd (upd H2 tl (HO.dT [])) D (HO.lst []) tl=some (.dT []):=by rw[af_ tD,aa_]
   have b2:upd (upd H2 tl (HO.dT [])) D (HO.lst []) D=some (.lst []):=aa_;generalize upd (upd H2 tl (HO.dT [])) D (HO.lst [])=H3 at*;show⟨⟨_,.inl (.inl (sB _ _ hSt))⟩,?_⟩;show mv_ (xs:=qs.map V.ref) (λi σ Hy=>∃(e5 e6 e7 e8:Option V)(ts:List Addr)(kt:List (List Key×V))(O:List (Nat×Nat×List Sd)),σ=[some v,some (.ref d),some (.ref St),some (.ref tl),some (.ref D),e5,e6,e7,e8]/\TrS N H H2 Hy tl D ts kt (opT O)/\OpL (trn N) (Pn N) i O/\O.length<=i/\∀p,p<i->(stt (trn N) p).1∈csO O) ⟨_,_,_,_,[],[],[],rfl,TrS.begun sB b2 b1,rfl,Ai_ _,λp hp=>absurd hp (Bh_ _)⟩ ?_ ?_ ?_
   .rintro i σ Hy hi ⟨e5,e6,e7,e8,ts,kt,O,rfl,tS,op,ol,all⟩;show .inl (.inl (tS.same _ _ hSt))
   .rintro i x T0 σ Hy hx kc kb hkc hkb G hG ⟨e5,e6,e7,e8,ts,kt,O,rfl,tS,op,ol,all⟩ nT0;show hG ?_;have hi:i<2*Pn N:=by have:=(Ae_.mp hx).1;rw[Ab_]at this;lia
    rw[Ag_]at hx;obtain⟨q,hq,rfl⟩:=AQ_.mp hx;have ic:=IF_ (T:=trn N) PT hi;nofun;have S0:=FA_.new nT0 (o:=HO.tup [V.int i,V.ref q]);have hT0:=aa_ (H:=Hy) (a:=T0) (o:=HO.tup [V.int i,V.ref q]);generalize upd Hy T0 (HO.tup [V.int i,V.ref q])=Y0 at*;show⟨_,SqT.of hT0,rfl,_,_,rfl,_,_,rfl,rfl,?_⟩;have kq:GM_ H2 q (skN N (stt (trn N) i)):=sa i q hq;have kq0:=(kq.mono tS.same).mono S0;obtain⟨pq,hq1,hq2⟩:=id kq0;nofun;show⟨_,hq1,_,Gv_,_,GT_.t (k:=eK (ph N (stt (trn N) i).1)) (S0 _ _ tS.ht) hq2,?_⟩;rw[tS.seen _ ic,o1_];by_cases hc:(stt (trn N) i).1∈csO O
    .rw[if_neg (by rw[AZ_ hc];decide)];show hkc _ _ ⟨_,_,_,_,ts,kt,O,rfl,?_,op.skip2 tw hi hc,o_,λp hp=>?_⟩
     .show tS.mono S0
     .by_cases e:p=i
      .rw[e];show hc
      .show all p o_
    .rw[if_pos (AP_ hc)];have sy0:=(s2.trans tS.same).trans S0;nofun;show⟨N,q,d,kg,stt (trn N) i,rfl,ok,po,kq0,ic,dp.mono sy0,gi.mono sy0,Kn_ ok po,λt C W z H4 xs l s4 nt nC nW CW tC tW ht hC hW es pa h0 hs ed=>?_⟩;obtain⟨x,j,hx,ln,hz,hj,ej⟩:=q0_ ok po hi pa h0 ed;have lp:LnP (trn N) (Pn N) i l j:=⟨ln,hj,x,hx,ej⟩;have sH:=tS.mono (S0.trans s4);nofun;have hSt4:=sH.same _ _ hSt;show⟨.inl ⟨_,.inl (.inl sH.hD)⟩,.inl ⟨_,.inl (.inl hSt4)⟩,_,ht,_,G7_,_,_,rfl,hz.mono s4,λq2 H5 s5 hq2'=>⟨_,s5 _ _ hSt4,LO_ ok po (j:=j) (λi' q' hi'=>(sa i' q' hi').mono (sH.same.trans s5)) ql (by rw[<-ej];show hq2') hj ⟨_,s5 _ _ ht,_,Gv_,_,s5 _ _ ht,_,GD_,d_,λp np=>?_⟩⟩⟩;have S6:=FA_.new np (o:=HO.tup [V.int i,V.int j,V.ref C,V.ref W]);have hp6:=aa_ (H:=H5) (a:=p) (o:=HO.tup [V.int i,V.int j,V.ref C,V.ref W]);generalize upd H5 p (HO.tup [V.int i,V.int j,V.ref C,V.ref W])=H6 at*;have s46:=s5.trans S6;have sH6:=sH.mono s46;have tl9:ts.length=O.length:=by rw[BE_ tS.tr];show Ab_ _
     show⟨_,sH6.hD,FB_ (by rw[Ab_];lia),?_⟩;have s7:∀b o,b≠D->H6 b=some o->upd H6 D (HO.lst (ts.map V.ref++[V.ref p])) b=some o:=λb o h1 h2=>by rw[af_ h1];show h2
     have ht7:=s7 t _ (λz=>by rw[z,(tS.mono S0).hD]at nt;cases nt) (s46 _ _ ht);have hC7:=s7 C _ (λz=>by rw[z,(tS.mono S0).hD]at nC;cases nC) (s46 _ _ hC);have htl7:=s7 tl _ tD sH6.ht;have WD:W≠D:=λz=>by rw[z,(tS.mono S0).hD]at nW;cases nW
     have es7:Es (upd H6 D (HO.lst (ts.map V.ref++[V.ref p]))) N xs (cs l):=l0_ es λb ys e=>s7 _ _ (λz=>by rw[z,(tS.mono S0).hD]at e;cases e) ((s4.trans s46) _ _ e);have add:=λH8=>TrS.add ok po (t:=(some (i,j),l)) (q:=p) (C:=C) (W:=W) (H5:=H8) tS ntl nD2 tD ((S0.trans s4).trans s46) hp6 (s46 _ _ hW) WD ((((s1.trans s2).trans tS.same).trans S0).free nW);generalize upd H6 D (HO.lst (ts.map V.ref++[V.ref p]))=H7 at*;have nd':(cs l).Nodup:=pa.corners (Gr_ tw) (pa.nd_first tw h0 (bF_ hi));have icl:∀c∈cs l,IsC (trn N) (Pn N) c:=λc hc=>let⟨x,hx,e⟩:=a3_.mp hc;e▸pa.allC h0 ic x hx;have c100:=o3_ ok po nd' icl;have ktl:=tS.kto.len;rw[Ab_]at ktl;have co:=(er_ ok).1;nofun;show⟨.inr (.inr (.inl (.inr ⟨_,htl7⟩))),_,ht7,_,Gv_,_,rfl,⟨_,.inl (.inl hC7)⟩,lb_ hC7 es7 c100 λkl H8 s8 pr=>⟨_,rfl,kt,s8 _ _ htl7,_,pr,by unfold kvK;rw[Ab_,Ab_];lia,hkc _ _ ⟨_,_,_,_,ts++[p],Gs_ kt (kvK ((cs l).map (ph N))),O++[(i,j,l)],rfl,?_,op.put tw hi lp hc,by rw[Af_];show BX_ ol,λp' hp'=>?_⟩⟩⟩
     .rw[show opT (O++[(i,j,l)])=opT O++[(some (i,j),l)] by unfold opT;rw[Ao_];rfl];show add H8 s8 (λc hc' hm=>?_) nd' (ln.shut tw (bF_ hi)) icl;obtain⟨x',hx',rfl⟩:=a3_.mp hc';obtain⟨k',hk'⟩:=AU_.mp hx';show tS.sh.apart pa h0 (by rw[o1_];show hc) k' x' hk' hm
     .unfold csO;rw[Ao_,AT_];by_cases e:p'=i
      .rw[e];show Aq_.mpr (.inr (by simpa using lp.first))
      .show Aq_.mpr (.inl (all p' o_))
   .rintro σ Hy ⟨e5,e6,e7,e8,ts,kt,O,rfl,tS,op,ol,all⟩;nofun;rw[Ab_,ql]at op all ol;have sS:=tS.same;show⟨v,N,rfl,Rep.mono ((s1.trans s2).trans sS) _ hv,ok,λD1 H3' s3' rep3=>?_⟩;have tS3:=tS.mono s3';have ol6:O.length<=12:=o_
    have tS0:=tS;clear tS;obtain⟨_,us,e0,hD1',hus⟩:=rep3;cases e0;obtain⟨nD1,hD1⟩:=bw_ hD1';have ul:us.length=(Gl_ N).length:=by rw[hus.length,Ab_]
    have ephi:=fN_ po;have oln:(H5_ N).length=(Gl_ N).length:=by rw[ephi,Ab_]
    have csn:∀b o,H3' b=some o->(Hy b=none\/b≠tl/\b≠D)->b≠tl/\b≠D:=λb o hb h=>h.elim (λz=>⟨λe=>absurd (z.symm.trans (e▸tS0.ht)) s_,λe=>absurd (z.symm.trans (e▸tS0.hD)) s_⟩) id
    let B2:Hp:=λb=>if b=tl then none else if b=D then none else H3' b
    have B2t:B2 tl=none:=if_pos rfl;have B2D:B2 D=none:=by change(if D=tl then none else if D=D then none else H3' D)=none;rw[if_neg tD.symm,if_pos rfl]
    have B2i:∀b o,b≠tl->b≠D->H3' b=some o->B2 b=some o:=λb o h1 h2 e=>by change(if b=tl then none else if b=D then none else H3' b)=_;rw[if_neg h1,if_neg h2];show e
    have B2s:FA_ B2 H3':=λb o e=>by
     have e':(if b=tl then none else if b=D then none else H3' b)=some o:=e;by_cases c1:b=tl
     .rw[if_pos c1]at e';cases e'
     .by_cases c2:b=D
      .rw[if_neg c1,if_pos c2]at e';cases e'
      .rw[if_neg c1,if_neg c2]at e';show e'
    have s2B:FA_ H2 B2:=λb o e=>B2i b o (ae_ e ntl) (ae_ e nD2) (s3' _ _ (sS _ _ e));have nB:∀b o,HE_ Hy H3' b=some o->B2 b=some o:=λb o e=>by obtain⟨n1,n2⟩:=bw_ e;have:=csn b o n2 (.inl n1);show B2i b o this.1 this.2 n2
    have D1B:B2 D1=some (.lst us):=nB _ _ hD1';have usB:Gd_ B2 us ((Gl_ N).map dE):=Gd_.mono nB _ hus;have tS4:TrS N H B2 H3' tl D ts kt (opT O++clT []):=by change TrS N H B2 H3' tl D ts kt (opT O++[]);rw[By_];show⟨B2s,tS3.hD,tS3.tr,tS3.ht,tS3.kto,tS3.seen,tS3.nd,tS3.sh,tS3.ic⟩
    clear_value B2
    show⟨D1,rfl,⟨_,.inl (.inl hD1)⟩,?_⟩;show c9_ (xs:=us) (λi σ Hy=>∃(e5 e6 e7 e8:Option V)(ts:List Addr)(kt:List (List Key×V))(L:List (List Sd)),σ=[some v,some (.ref d),some (.ref St),some (.ref tl),some (.ref D),e5,e6,e7,e8]/\TrS N H B2 Hy tl D ts kt (opT O++clT L)/\(∀l∈L,ClL (trn N) (Pn N) l)/\L.length<=i/\∀m c,m<i->(H5_ N)[m]?=some c->c∈csT (opT O++clT L)) ⟨_,_,_,_,ts,kt,[],rfl,tS4,λl hl=>absurd hl AL_,Ai_ _,λm c hm=>absurd hm (Bh_ _)⟩ ?_ ?_ ?_
    .rintro i σ Hy hi ⟨e5,e6,e7,e8,ts,kt,L,rfl,tS,cl,ll,all2⟩;show .inl (.inl (tS.same _ _ D1B))
    .rintro i x σ Hy hx kc kb hkc hkb G hG ⟨e5,e6,e7,e8,ts,kt,L,rfl,tS,cl,ll,all2⟩;show hG ?_;have hi:i<(Gl_ N).length:=by have:=(Ae_.mp hx).1;lia
     obtain⟨q,hq1,hq⟩:=pR_ usB hi;rw[hq1]at hx;cases hx;have hio:i<(H5_ N).length:=o_
     have ec:(Gl_ N)[i]=ph N (H5_ N)[i]:=by
      have:(Gl_ N)[i]?=some (ph N (H5_ N)[i]):=by rw[ephi,Ag_,Aa_ hio];rfl
      rw[Aa_ hi]at this;show Au_ this
     rw[ec]at hq;have ic:IsC (trn N) (Pn N) (H5_ N)[i]:=(hP_ ok po).mp (Bg_ hio);have hoi:(H5_ N)[i]?=some (H5_ N)[i]:=Aa_ hio;generalize(H5_ N)[i]=c at*;have hqy:=tS.same _ _ hq;nofun;show⟨_,GT_.t (k:=eK (ph N c)) tS.ht hqy,?_⟩;rw[tS.seen c ic];by_cases hc:c∈csT (opT O++clT L)
     .rw[if_neg (by rw[AZ_ hc];decide)];show hkc _ _ ⟨_,_,_,_,ts,kt,L,rfl,tS,cl,o_,λm c' hm hc'=>?_⟩;by_cases e:m=i
      .rw[e,hoi]at hc';cases hc';show hc
      .show all2 m c' o_ hc'
     .rw[if_pos (AP_ hc)];nofun;show⟨d_,λp0 np0=>?_⟩;have S0:=FA_.new np0 (o:=HO.tup [V.ref q,V.bl true]);have hp0:=aa_ (H:=Hy) (a:=p0) (o:=HO.tup [V.ref q,V.bl true]);generalize upd Hy p0 (HO.tup [V.ref q,V.bl true])=Y0 at*;have sy0:=((s2.trans s2B).trans tS.same).trans S0;show⟨N,p0,d,kg,(c,true),rfl,ok,po,⟨q,hp0,S0 _ _ hqy⟩,ic,dp.mono sy0,gi.mono sy0,Kn_ ok po,λt C W z H4 xs l s4 nt nC nW CW tC tW ht hC hW es pa h0 hs ed=>?_⟩;have apt:=tS.sh.apart pa h0 hc
      have cll:ClL (trn N) (Pn N) l:=by
       obtain⟨x,hx,h⟩:=ed
       rcases h with⟨h1,_⟩|⟨h1,_⟩
       .obtain⟨j,hj,ej⟩:=me_ (pa.allC h0 ic x (BR_ hx)) h1;obtain⟨k',hk'⟩:=AU_.mp (BR_ hx);show absurd ?_ (apt k' x hk');have:=all j hj;rw[<-ej]at this;rw[o2_];show Aq_.mpr (.inl this)
       .show⟨_,x,pa,h0,hx,h1⟩
      have sH:=tS.mono (S0.trans s4);have tl9:ts.length=O.length+L.length:=by rw[BE_ tS.tr,Af_];unfold opT clT;rw[Ab_,Ab_]
      have co:=(er_ ok).1;nofun;show⟨.inl ⟨_,.inl (.inl sH.hD)⟩,_,ht,_,Gv_,_,ht,_,GD_,d_,λp np=>?_⟩;have S6:=FA_.new np (o:=HO.tup [V.non,V.non,V.ref C,V.ref W]);have hp6:=aa_ (H:=H4) (a:=p) (o:=HO.tup [V.non,V.non,V.ref C,V.ref W]);generalize upd H4 p (HO.tup [V.non,V.non,V.ref C,V.ref W])=H6 at*;have sH6:=sH.mono S6;show⟨_,sH6.hD,FB_ (by rw[Ab_];lia),?_⟩;have s7:∀b o,b≠D->H6 b=some o->upd H6 D (HO.lst (ts.map V.ref++[V.ref p])) b=some o:=λb o h1 h2=>by rw[af_ h1];show h2
      have ht7:=s7 t _ (λz=>by rw[z,(tS.mono S0).hD]at nt;cases nt) (S6 _ _ ht);have hC7:=s7 C _ (λz=>by rw[z,(tS.mono S0).hD]at nC;cases nC) (S6 _ _ hC);have htl7:=s7 tl _ tD sH6.ht;have WD:W≠D:=λz=>by rw[z,(tS.mono S0).hD]at nW;cases nW
      have es7:Es (upd H6 D (HO.lst (ts.map V.ref++[V.ref p]))) N xs (cs l):=l0_ es λb ys e=>s7 _ _ (λz=>by rw[z,(tS.mono S0).hD]at e;cases e) ((s4.trans S6) _ _ e);have add:=λH8=>TrS.add ok po (t:=(none,l)) (q:=p) (C:=C) (W:=W) (H5:=H8) tS B2t B2D tD ((S0.trans s4).trans S6) hp6 (S6 _ _ hW) WD ((s1.trans sy0).free nW);generalize upd H6 D (HO.lst (ts.map V.ref++[V.ref p]))=H7 at*;have nd':(cs l).Nodup:=pa.corners (Gr_ tw) (pa.nodup (Gr_ tw) h0 hs);have icl:∀c∈cs l,IsC (trn N) (Pn N) c:=λc hc=>let⟨x,hx,e⟩:=a3_.mp hc;e▸pa.allC h0 ic x hx;have c100:=o3_ ok po nd' icl;have ktl:=tS.kto.len;rw[Ab_]at ktl;have eO:opT O++clT (L++[l])=(opT O++clT L)++[(none,l)]:=by unfold clT;rw[Ao_,Bi_];rfl
      nofun;show⟨.inr (.inr (.inl (.inr ⟨_,htl7⟩))),_,ht7,_,Gv_,_,rfl,⟨_,.inl (.inl hC7)⟩,lb_ hC7 es7 c100 λkl H8 s8 pr=>⟨_,rfl,kt,s8 _ _ htl7,_,pr,by unfold kvK;rw[Ab_,Ab_];lia,hkc _ _ ⟨_,_,_,_,ts++[p],Gs_ kt (kvK ((cs l).map (ph N))),L++[l],rfl,?_,λl' hl'=>?_,by rw[Af_];show BX_ ll,λm c' hm hc'=>?_⟩⟩⟩
      .rw[eO];show add H8 s8 (λc hc' hm=>?_) nd' ?_ icl
       .obtain⟨x',hx',rfl⟩:=a3_.mp hc';obtain⟨k',hk'⟩:=AU_.mp hx';show apt k' x' hk' hm
       .obtain⟨s',x',z1,z2,z3,z4⟩:=cll;show ny_ tw z1 z2 z3 z4
      .rcases Aq_.mp hl' with h|h
       .show cl l' h
       .rw[Ak_.mp h];show cll
      .rw[eO,gv_];by_cases e:m=i
       .rw[e,hoi]at hc';cases hc';show Aq_.mpr (.inr (a3_.mpr ⟨_,Am_ h0,rfl⟩))
       .show Aq_.mpr (.inl (all2 m c' o_ hc'))
    .rintro σ Hy ⟨e5,e6,e7,e8,ts,kt,L,rfl,tS,cl,ll,all2⟩;nofun;have co:=(er_ ok).1;have tl9:ts.length=O.length+L.length:=by rw[BE_ tS.tr,Af_];unfold opT clT;rw[Ab_,Ab_]
     have sF:=(s1.trans (s2.trans s2B)).trans tS.same;show k D ts Hy O L sF ((s1.trans s2).free nD2) tS.hD tS.tr o_ op cl ?_ λc=>?_
     .rw[<-o2_];show tS.nd
     .rw[<-o2_];show⟨λh=>?_,λh=>tS.ic c h⟩;obtain⟨m,hm⟩:=AU_.mp ((hP_ ok po).mpr h);have:=(Ae_.mp hm).1;show all2 m c o_ hm
abbrev FR_:Stmt:=stN 11
theorem cu_:ZL ["wires","backwards","begun","start"] ["wires"] (FC_ FR_):=zL
theorem gw_:LK FR_ "len" .globalImplicit:=r_
theorem fR_:LK FR_ "list" .globalImplicit:=r_
theorem gx_:LK FR_ "min" .globalImplicit:=r_
theorem fl_:LK FR_ "range" .globalImplicit:=r_
theorem eu_:LK FR_ "reversed" .globalImplicit:=r_
def G9_:Sp:=λvs H Q _=>∃(W:Addr)(ws:List Str),vs=[.ref W]/\H W=some (.lst (ws.map V.str))/\ws≠[]/\ws.length<=200/\∀l (us:List Str) H',FA_ H H'->H l=none->H' l=some (.lst (us.map V.str))->Lst ws us->Q (.ref l) H'
structure LB(ws:List Str)(B H:Hp)(D:Addr)(ls:List Addr)(tss:List (List Str)):Prop where
 same:FA_ B H
 hD:H D=some (.lst (ls.map V.ref))
 la:J2_ H ls tss
 len:ls.length=tss.length
 ne:∀l∈ls,l≠D
 pm:∀t∈tss,Rd ws t
 nw:∀l∈ls,B l=none
theorem LB.push{ws:List Str}{D r:Addr}{tss:List (List Str)}{us:List Str}(h:LB ws B H D ls tss)(bD:B D=none)(s:FA_ H H')(hr:H' r=some (.lst (us.map V.str)))(nr:H r=none)(pu:Rd ws us):LB ws B (upd H' D (.lst (ls.map V.ref++[.ref r]))) D (ls++[r]) (tss++[us]):=by
 have rD:r≠D:=λz=>by rw[z,h.hD]at nr;cases nr
 show⟨λb o e=>by rw[af_ (ae_ e bD)];show s _ _ (h.same _ _ e),by rw[aa_,Ao_];rfl,λi l hl=>?_,by rw[Af_,Af_,h.len];rfl,λl hl=>?_,λt ht=>?_,λl hl=>?_⟩
 .by_cases c:i<ls.length
  .rw[Al_ c]at hl;rw[af_ (h.ne l (Am_ hl)),Ad_,Al_ (by rw[<-h.len];show c),<-Ad_];show s _ _ (h.la i l hl)
  .rw[Ap_ o_]at hl;have e:i-ls.length=0:=by have:=(Ae_.mp hl).1;simp only[AS_]at this;lia
   rw[e]at hl;cases hl;rw[af_ rD,Ad_,Ap_ (by rw[<-h.len];lia),<-h.len,e];show hr
 .rcases Aq_.mp hl with hl|hl
  .show h.ne l hl
  .rw[Ak_.mp hl];show rD
 .rcases Aq_.mp ht with ht|ht
  .show h.pm t ht
  .rw[Ak_.mp ht];show pu
 .rcases Aq_.mp hl with hl|hl
  .show h.nw l hl
  .rw[Ak_.mp hl];show h.same.free nr
theorem iZ_(T:Txt K mg)(F:Fn0 K mg "least_round" FR_):Cal P w K mg base "least_round" ["wires"] 1 G9_:=by
  show aQ_ F cu_.1 λf cdv A outer s0 H vs Q E hr h=>?_;obtain⟨W,ws,rfl,hW,ne,wl,k⟩:=h;refine'⟨_,?D,?R⟩
  case D =>
   refine' ac_ (zas 1 cu_ (iq_ rfl fR_ T.n_list eu_ T.n_reversed (pa_c (zv 0 cu_) ab_))) ?a
   case' a=>refine' ac_ (zas 2 cu_ (bh_ ab_)) (aj_ ?b (ag_ (au_ (al_ (jj_ rfl (hr.units)) gx_ T.n_min nZ_ (pa_c (zv 2 cu_) ab_)))))
   case' b=>refine' aP_ AA_ rfl (aE_ fl_ T.n_range (pa_c (al_ an_ gw_ T.n_len aG_ (pa_c (zv 0 cu_) ab_)) ab_)) ?c (ac_ ?d (ag_ ?e))
   case c=>show zh 3 cu_
   case' d=>refine' aH_ (Gq_ AB_ AI_ AJ_ aF_ (zv 2 cu_) (pa_c (FD_ f7_ (bu_ cm_ (zv 0 cu_) (bO_ (zv 3 cu_)) ?f) (bu_ cm_ (zv 0 cu_) ?g (bO_ (zv 3 cu_)))) ab_))
   case f=>show b1_
   case g=>show b1_
   case' e=>refine' aH_ (Gq_ AB_ AI_ AJ_ aF_ (zv 2 cu_) (pa_c (FD_ f7_ (bu_ cm_ (zv 1 cu_) (bO_ (zv 3 cu_)) ?h) (bu_ cm_ (zv 1 cu_) ?i (bO_ (zv 3 cu_)))) ab_))
   case h=>show b1_
   case i=>show b1_
  case R =>
   nofun;show⟨_,hW,λB nB=>?_⟩;have S1:=FA_.new nB (o:=HO.lst (ws.map V.str).reverse);have hB:=aa_ (H:=H) (a:=B) (o:=HO.lst (ws.map V.str).reverse);generalize upd H B (HO.lst (ws.map V.str).reverse)=H1 at*;rw[<-List.map_reverse]at hB;nofun;show⟨Az_ _,λD nD=>?_⟩;have S2:=FA_.new nD (o:=HO.lst []);have hD:=aa_ (H:=H1) (a:=D) (o:=HO.lst []);generalize upd H1 D (HO.lst [])=H2 at*;have s12:=S1.trans S2;nofun;have wn:(ws.map V.str).length=ws.length:=Ab_ _;show⟨_,.inl (s12 _ _ hW),by rw[wn];lia,by rw[wn];lia,?_⟩;rw[wn,AC_];show a5_ (λi σ Hy=>∃(e3:Option V)(ls:List Addr)(tss:List (List Str)),σ=[some (.ref W),some (.ref B),some (.ref D),e3]/\LB ws H1 Hy D ls tss/\ls.length=2*i/\∀j,j<i->ws.drop j++ws.take j∈tss/\ws.reverse.drop j++ws.reverse.take j∈tss) ⟨_,[],[],rfl,⟨S2,hD,(λi l h=>by cases h),rfl,λl hl=>absurd hl AL_,λt ht=>absurd ht AL_,λl hl=>absurd hl AL_⟩,rfl,λj hj=>absurd hj (Bh_ _)⟩ ?_ ?_
   .rintro i σ Hy hi kc kb hkc hkb G hG ⟨e3,ls,tss,rfl,lb,ll,al⟩;show hG ?_;rw[show(0:Int)+(i:Int)=(i:Int) by lia];have cut:∀us:List Str,us.length=ws.length->Hx_ (us.map V.str) (some (i:Int)) none=(us.drop i).map V.str/\Hx_ (us.map V.str) none (some (i:Int))=(us.take i).map V.str:=λus hu=>⟨by rw[ga_ _ _ (by rw[Ab_];lia),Df_],by rw[kA_ _ _ (by rw[Ab_];lia),C0_]⟩;obtain⟨c1,c2⟩:=cut ws rfl;have hW0:=lb.same _ _ (S1 _ _ hW);obtain⟨c3,c4⟩:=cut ws.reverse (Bl_);nofun;show⟨.inl ⟨_,.inl (.inl lb.hD)⟩,_,hW0,λp1 n1=>?_⟩;rw[c1]at*;have A1a:=FA_.new n1 (o:=HO.lst ((ws.drop i).map V.str));have g1a:=aa_ (H:=Hy) (a:=p1) (o:=HO.lst ((ws.drop i).map V.str));generalize upd Hy p1 (HO.lst ((ws.drop i).map V.str))=Y1 at*;show⟨_,A1a _ _ hW0,λp2 n2=>?_⟩;rw[c2]at*;have A2a:=FA_.new n2 (o:=HO.lst ((ws.take i).map V.str));have g2a:=A2a _ _ g1a;generalize upd Y1 p2 (HO.lst ((ws.take i).map V.str))=Y2 at*;show⟨_,g2a,by rw[Ab_,Ab_,BG_,Bf_];show AH_ (FB_ (by(try simp only[Bl_]);lia)),λp3 n3=>?_⟩;rw[<-Ao_]at*;have A3a:=FA_.new n3 (o:=HO.lst ((ws.drop i++ws.take i).map V.str));have g3a:=aa_ (H:=Y2) (a:=p3) (o:=HO.lst ((ws.drop i++ws.take i).map V.str));generalize upd Y2 p3 (HO.lst ((ws.drop i++ws.take i).map V.str))=Y3 at*;have a13a:=A1a.trans (A2a.trans A3a);show⟨_,a13a _ _ lb.hD,FB_ (by rw[Ab_];lia),?_⟩;have lb2:=lb.push nD a13a g3a ((A1a.trans A2a).free n3) (.inl (JB_ ws i));generalize upd Y3 D (HO.lst (ls.map V.ref++[V.ref p3]))=Z at*;have hB2:=lb2.same _ _ hB;have ll2:(ls++[p3]).length=2*i+1:=by rw[Af_,ll];rfl
    generalize ls++[p3]=ls2 at*;have al2:ws.drop i++ws.take i∈tss++[ws.drop i++ws.take i]/\∀t∈tss,t∈tss++[ws.drop i++ws.take i]:=⟨s_,λt ht=>AN_ _ ht⟩;generalize tss++[ws.drop i++ws.take i]=tss2 at*;nofun;show⟨.inl ⟨_,.inl (.inl lb2.hD)⟩,_,hB2,λq1 n1=>?_⟩;rw[c3]at*;have A1b:=FA_.new n1 (o:=HO.lst ((ws.reverse.drop i).map V.str));have g1b:=aa_ (H:=Z) (a:=q1) (o:=HO.lst ((ws.reverse.drop i).map V.str));generalize upd Z q1 (HO.lst ((ws.reverse.drop i).map V.str))=Y1 at*;show⟨_,A1b _ _ hB2,λq2 n2=>?_⟩;rw[c4]at*;have A2b:=FA_.new n2 (o:=HO.lst ((ws.reverse.take i).map V.str));have g2b:=A2b _ _ g1b;generalize upd Y1 q2 (HO.lst ((ws.reverse.take i).map V.str))=Y2 at*;show⟨_,g2b,by rw[Ab_,Ab_,BG_,Bf_];show AH_ (FB_ (by(try simp only[Bl_]);lia)),λq3 n3=>?_⟩;rw[<-Ao_]at*;have A3b:=FA_.new n3 (o:=HO.lst ((ws.reverse.drop i++ws.reverse.take i).map V.str));have g3b:=aa_ (H:=Y2) (a:=q3) (o:=HO.lst ((ws.reverse.drop i++ws.reverse.take i).map V.str));generalize upd Y2 q3 (HO.lst ((ws.reverse.drop i++ws.reverse.take i).map V.str))=Y6 at*;have a13b:=A1b.trans (A2b.trans A3b);show⟨_,a13b _ _ lb2.hD,FB_ (by rw[Ab_];lia),?_⟩;have lb3:=lb2.push nD a13b g3b ((A1b.trans A2b).free n3) (.inr (JB_ ws.reverse i))
    show hkc _ _ ⟨_,_,_,rfl,lb3,by rw[Af_,ll2];simp;lia,λj hj=>by
     by_cases e:j=i
     .subst e;show⟨AN_ _ al2.1,s_⟩
     .show⟨AN_ _ (al2.2 _ (al j o_).1),AN_ _ (al2.2 _ (al j o_).2)⟩⟩
   .rintro σ Hy ⟨e3,ls,tss,rfl,lb,ll,al⟩;nofun;have nz:ws.length≠0:=λz=>ne (AY_ z);show⟨ls,lb.hD,(λz=>by rw[z]at ll;simp at ll;lia),tss,lb.la,λi l hl le=>?_⟩;have hi:=(Ae_.mp hl).1;have mem:∀{j:Nat},j<ls.length->tss.getD j []∈tss:=λ{j} hj=>by rw[Ad_,Aa_ (by rw[<-lb.len];show hj)];show Bg_ _
    show k l (tss.getD i []) Hy (S1.trans lb.same) (S1.free (lb.nw l (Am_ hl))) (lb.la i l hl) (qc_ ne (mem hi) lb.pm al λt ht=>?_);obtain⟨j,hj,rfl⟩:=AD_.mp ht;have:=le j (by rw[lb.len];show hj)
    rwa[Ad_,Aa_ hj]at this
theorem b7_{α β:Type}{F:α->β->Prop}:∀{l:List α}{m:List β}{i:Nat}{a:α},Paired F l m->l[i]?=some a->∃b,m[i]?=some b/\F a b
 |_::_,_::_,0,_,.cons h _,e=>by cases e;show⟨_,rfl,h⟩
 |_::_,_::_,i+1,_,.cons _ t,e=>by obtain⟨b,h1,h2⟩:=b7_ (i:=i) t e;show⟨b,h1,h2⟩
theorem iQ_{α β:Type}{F:α->β->Prop}:∀{l:List α}{m:List β},l.length=m.length->(∀(i:Nat) a b,l[i]?=some a->m[i]?=some b->F a b)->Paired F l m
 |[],[],_,_=>.nil
 |a::l,b::m,h,k=>.cons (k 0 a b rfl rfl) (iQ_ (by simpa using h) λi x y hx hy=>k (i+1) x y hx hy)
theorem Lg_{L:List (List Sd)}{t:Tr}(h:(opT O++clT L)[i]?=some t):(i<O.length/\∃o,O[i]?=some o/\t=(some (o.1,o.2.1),o.2.2))\/(O.length<=i/\t.1=none/\L[i-O.length]?=some t.2):=by
 have ol:(opT O).length=O.length:=Ab_ _;by_cases c:i<O.length
 .rw[Al_ o_]at h;unfold opT at h;rw[Ag_,Aa_ c]at h;cases h;show .inl ⟨c,_,Aa_ c,rfl⟩
 .rw[Ap_ o_,ol]at h;unfold clT at h;rw[Ag_]at h;obtain⟨l,h1,rfl⟩:=AQ_.mp h;show .inr ⟨o_,rfl,h1⟩
theorem LQ_{H0:Hp}{D:Addr}{L:List Tr}(h:TrA H0 H N D ts L):∃Wl:List Addr,Wl.length=ts.length/\∀(i:Nat) q t,ts[i]?=some q->L[i]?=some t->∃C W,Wl[i]?=some W/\H q=some (.tup [trF t,trL t,.ref C,.ref W])/\H W=some (.lst ((wiL (trn N) (Pn N) t.2).map V.str))/\H0 W=none:=by
 unfold TrA at h
 induction h with
 |nil=>show⟨[],rfl,λi q t h=>by cases h⟩
 | @cons q t qs tts h _ ih =>
  obtain⟨C,W,h1,h2,_,h3⟩:=h;obtain⟨Wl,g1,g2⟩:=ih;show⟨W::Wl,by simp[g1],λi q' t' hq ht=>?_⟩;cases i with
  |zero=>cases hq;cases ht;show⟨C,W,rfl,h1,h2,h3⟩
  |succ i=>show g2 i q' t' hq ht
abbrev LD:=Option (Nat×Nat)×List Str
def ldF(t:LD):V:=match t.1 with|some (p,_)=>.int p|none=>.non
def ldL(t:LD):V:=match t.1 with|some (_,j)=>.int j|none=>.non
def LA(H0 H:Hp)(ts:List Addr)(ls:List LD):Prop:=Paired (λ(q:Addr)(t:LD)=>∃W,H q=some (.tup [ldF t,ldL t,.ref W])/\H W=some (.lst (t.2.map V.str))/\H0 W=none) ts ls
def opD(T:List (List Str))(P:Nat)(O:List (Nat×Nat×List Sd)):List LD:=O.map λt=>(some (t.1,t.2.1),wiL T P t.2.2)
def clD(uss:List (List Str)):List LD:=uss.map λu=>(none,u)
theorem l1_:∀{L:List (List Sd)},(∀l∈L,l≠[])->L.length<=((L.map cs).flatten).length
 |[],_=>Az_ _
 |l::L,h=>by have:=l1_ (L:=L) λm hm=>h m (An_ _ hm);have h1:=BB_.mpr (h l Ar_);rw[Ay_,AF_,Af_,A4_];have:(cs l).length=l.length:=Ab_ _;lia
theorem HX_(ok:FY_ N)(po:FK_ N):(corners (trn N) (Pn N)).length<=40:=by
 have h:=fw_ (T:=trn N) (P:=Pn N)
 have e:(trn N).flatten.length=N.all.length:=by
  have h1:((N.rows.map (·.1)).map (Hb_ N))=N.rows.map (·.2):=by rw[AW_];show Bs_ λr hr=>ck_ ok hr
  have h2:=(dL_ ((hO_ ok po).map (Hb_ N))).length_eq;rw[h1]at h2;show h2
 have h3:=ok.tot;have h5:Pn N<=6:=ok.pl;lia
def Pt(zs:List Addr)(i:Nat)(vs:List V)(H:Hp):Prop:=∃qs:List Addr,vs=qs.map V.ref/\qs.length=i/\∀(k:Nat) q,qs[k]?=some q->∃W,zs[k]?=some W/\H q=some (.tup [.non,.non,.ref W])
def Pj(O:List (Nat×Nat×List Sd))(Wl:List Addr)(i:Nat)(vs:List V)(H:Hp):Prop:=∃ts:List Addr,vs=ts.map V.ref/\ts.length=min i O.length/\∀(k:Nat) q,ts[k]?=some q->∃o W,O[k]?=some o/\Wl[k]?=some W/\H q=some (.tup [.int o.1,.int o.2.1,.ref W])
def Pc(H0:Hp)(T:List (List Str))(P:Nat)(L:List (List Sd))(n i:Nat)(vs:List V)(H:Hp):Prop:=∃(ls:List Addr)(uss:List (List Str)),vs=ls.map V.ref/\ls.length=i-n/\ls.length=uss.length/\J2_ H ls uss/\(∀l∈ls,H0 l=none)/\uss=((L.take (i-n)).map λl=>lw (wiL T P l))/\∀l∈L.take (i-n),∃u,Lst (wiL T P l) u
abbrev F5_:Stmt:=stN 12
theorem ev_:ZL ["net","trails","joining","closed"] ["net"] (FC_ F5_):=zL
theorem gy_:LK F5_ "joining" .local:=r_
theorem gz_:LK F5_ "closed" .local:=r_
theorem gA_:LK F5_ "sorted" .globalImplicit:=r_
theorem e2_:LK F5_ "trails_of" .globalImplicit:=r_
def Iu_:Sp:=λvs H Q _=>∃(v:V)(N:Net Str),vs=[v]/\Rep H v (HG_ N)/\FY_ N/\FK_ N/\∀D (ts:List Addr) (uss:List (List Str)) H' (O:List (Nat×Nat×List Sd)) (L:List (List Sd)),FA_ H H'->H D=none->H' D=some (.lst (ts.map V.ref))->LA H H' ts (opD (trn N) (Pn N) O++clD uss)->ts.length<=200->OpL (trn N) (Pn N) (2*Pn N) O->(∀l∈L,ClL (trn N) (Pn N) l)->(csO O++(L.map cs).flatten).Nodup->(∀c,IsC (trn N) (Pn N) c↔c∈csO O++(L.map cs).flatten)->(∀l∈L,∃u,Lst (wiL (trn N) (Pn N) l) u)->uss.Perm (L.map λl=>lw (wiL (trn N) (Pn N) l))->uss.Pairwise (λx y=>GK_ y x=false)->Q (.ref D) H'
theorem l2_(T:Txt K mg)(F:Fn0 K mg "lines_of" F5_) (Ie_:Cal P w K mg base "trails_of" ["net"] 4 HR_) (HA_:Cal P w K mg base "least_round" ["wires"] 1 G9_):Cal P w K mg base "lines_of" ["net"] 5 Iu_:=by
  show aQ_ F ev_.1 λf cdv A outer s0 H vs Q E hr h=>?_;obtain⟨v,N,rfl,hv,ok,po,k⟩:=h;refine'⟨_,?D,?R⟩
  case D =>
   refine' ac_ (zas 1 ev_ (am_ Ie_ (hr.mono d_) e2_ (pa_c (zv 0 ev_) ab_))) ?a
   case' a=>refine' ac_ ?b (ac_ ?c (ag_ (au_ (FD_ f7_ (zv 2 ev_) ?d))))
   case' b=>refine' jF_ (i:=2) (N':=["first","last","corners","wires"]) (ix:=[none,none,none,none]) rfl rfl ev_.nd rfl gy_ rfl (cw_ ?e) (aL_ (K:=K) rfl (zv 1 ev_)) (λ_ _ _=>?f) (λ_ _ _=>(kw_ (f2_ (nF_ (pv1 0 rfl rfl))))) (λ_ _ _=>(ar_ (pa_c (pv1 0 rfl rfl) (pa_c (pv1 1 rfl rfl) (pa_c (pv1 3 rfl rfl) ab_)))))
   case e=>show(by change Hv_ (FC_ F5_) ["net","trails","joining","closed"] _ _ _=true;decide +kernel)
   case' f=>refine' aU_ (K:=K) (n:=4) rfl rfl (ak_ ?g (ak_ ?h (ak_ ?i (ak_ ?j aT_))))
   case g=>show ah_ (i:=0) (by change List.Nodup (["first","last","corners","wires"]:List Str);decide +kernel) rfl rfl
   case h=>show ah_ (i:=1) (by change List.Nodup (["first","last","corners","wires"]:List Str);decide +kernel) rfl rfl
   case i=>show ah_ (i:=2) (by change List.Nodup (["first","last","corners","wires"]:List Str);decide +kernel) rfl rfl
   case j=>show ah_ (i:=3) (by change List.Nodup (["first","last","corners","wires"]:List Str);decide +kernel) rfl rfl
   case' c=>refine' jF_ (i:=3) (N':=["first","last","corners","wires"]) (ix:=[none,none,none,none]) rfl rfl ev_.nd rfl gz_ rfl (cw_ ?k) (aL_ (K:=K) rfl (zv 1 ev_)) (λ_ _ _=>?l) (λ_ _ _=>(kw_ (f2_ (pY_ (pv1 0 rfl rfl))))) (λ_ _ _=>(am_ HA_ (hr.mono d_) rfl (pa_c (pv1 3 rfl rfl) ab_)))
   case k=>show(by change Hv_ (FC_ F5_) ["net","trails","joining","closed"] _ _ _=true;decide +kernel)
   case' l=>refine' aU_ (K:=K) (n:=4) rfl rfl (ak_ ?m (ak_ ?n (ak_ ?o (ak_ ?p aT_))))
   case m=>show ah_ (i:=0) (by change List.Nodup (["first","last","corners","wires"]:List Str);decide +kernel) rfl rfl
   case n=>show ah_ (i:=1) (by change List.Nodup (["first","last","corners","wires"]:List Str);decide +kernel) rfl rfl
   case o=>show ah_ (i:=2) (by change List.Nodup (["first","last","corners","wires"]:List Str);decide +kernel) rfl rfl
   case p=>show ah_ (i:=3) (by change List.Nodup (["first","last","corners","wires"]:List Str);decide +kernel) rfl rfl
   case' d=>refine' cc_ (N':=["wires"]) (ix:=[none]) rfl rfl (cw_ ?q) (aL_ (K:=K) rfl (al_ (m5_ (hr.units)) gA_ T.n_sorted eN_ (pa_c (zv 3 ev_) ab_))) (λ_ _ _=>?r) (λ_ _ _=>?s) (λ_ _ _=>(ar_ (pa_c ?t (pa_c ?u (pa_c (pv1 0 rfl rfl) ab_)))))
   case q=>show(by change Hv_ (FC_ F5_) ["net","trails","joining","closed"] _ _ _=true;decide +kernel)
   case r=>show ah_ (i:=0) (by change List.Nodup (["wires"]:List Str);decide +kernel) rfl rfl
   case s=>show eC_
   case t=>show ic_
   case u=>show ic_
  case R =>
   nofun;show⟨_,N,rfl,hv,ok,po,λD ts H1 O L s1 nD hD tra t200 op cl nd all=>?_⟩;nofun;have tl:ts.length=O.length+L.length:=by rw[BE_ tra,Af_];unfold opT clT;rw[Ab_,Ab_]
   obtain⟨Wl,wl,wh⟩:=LQ_ tra;show⟨⟨_,.inl (.inl hD)⟩,?_⟩;show eO_ (n:=ts.length) (Pσ:=λσ=>∃a b c e,σ=[a,b,c,e]) (Pj O Wl) ⟨_,_,_,_,rfl⟩ o_ ⟨[],rfl,s_,(λk q h=>by cases h)⟩ (λi vs H1 H2 s ⟨ts,z1,z2,z3⟩=>⟨ts,z1,z2,λk q hq=>let⟨o,W,y1,y2,y3⟩:=z3 k q hq;⟨o,W,y1,y2,s _ _ y3⟩⟩) (λi vs H1 ⟨ts,z1,z2,z3⟩=>by rw[z1,Ab_,z2];show Nat.min_le_left _ _) (λj Hj hj sj=>⟨_,.ref (ts[j]),.inl (.inl (sj _ _ hD)),by simp[hj]⟩) (λHj sj=>⟨_,.inl (.inl (sj _ _ hD)),s_⟩) ?_ ?_
   .rintro Dc i x σ' H2 H2' vs nDc ⟨od,hDc⟩ s2 hi ⟨rfl,hy⟩ ⟨a,b,c,e,rfl⟩ ⟨ts',rfl,tl',all'⟩ Y R kY kR;have hx:=hy _ (.inl (.inl (s2 _ _ hD)));rw[Ag_,Aa_ hi]at hx;cases hx;obtain⟨t,ht,_⟩:=b7_ tra (Aa_ hi);obtain⟨C,W,hWl,hq,hW,_⟩:=wh i _ t (Aa_ hi) ht;nofun;show⟨_,SqT.of (s2 _ _ hq),rfl,_,_,rfl,_,_,rfl,_,_,rfl,_,_,rfl,rfl,?_⟩
    rcases Lg_ ht with⟨c,o,ho,rfl⟩|⟨c,e,_⟩
    .rw[if_pos (by simp[trF])];show⟨d_,λr nr=>kY _ _ _ ⟨_,_,_,_,rfl⟩ (FA_.new nr) ⟨ts'++[r],by rw[Ao_];rfl,by rw[Af_,tl'];simp;lia,λk' q hq'=>?_⟩⟩;have rD:r≠Dc:=(ae_ hDc nr).symm;by_cases ck:k'<ts'.length
     .rw[Al_ ck]at hq';obtain⟨o',W',y1,y2,z⟩:=all' k' q hq';show⟨o',W',y1,y2,hS_ (FA_.new nr) _ _ z⟩
     .rw[Ap_ o_]at hq';have e0:k'-ts'.length=0:=by have:=(Ae_.mp hq').1;simp only[AS_]at this;lia
      rw[e0]at hq';cases hq';have ki:k'=i:=o_
      rw[ki];show⟨o,W,ho,hWl,by rw[kB_ rD];show aa_⟩
    .have ef:trF t=.non:=by unfold trF;rw[e]
     rw[ef,if_neg s_];show kR _ _ ⟨_,_,_,_,rfl⟩ (FA_.refl _) ⟨ts',rfl,by rw[tl'];lia,all'⟩
   .rintro J H2 vs nJ s2 hJ ⟨js,rfl,jl,jall⟩;have jl':js.length=O.length:=by rw[jl];lia
    nofun;show⟨⟨_,.inl (.inl (s2 _ _ hD))⟩,?_⟩;show eO_ (n:=ts.length) (Pσ:=λσ=>∃a b c e,σ=[a,b,c,e]) (Pc H (trn N) (Pn N) L O.length) ⟨_,_,_,_,rfl⟩ o_ ⟨[],[],rfl,s_,rfl,(λi l h=>by cases h),λl hl=>absurd hl AL_,s_,s_⟩ (λi vs H1 H2 s ⟨ls,uss,z1,z2,z3,z4,z5⟩=>⟨ls,uss,z1,z2,z3,λi l hl=>s _ _ (z4 i l hl),z5⟩) (λi vs H1 ⟨ls,uss,z1,z2,_⟩=>by rw[z1,Ab_,z2];lia) (λj Hj hj sj=>⟨_,.ref (ts[j]),.inl (.inl ((s2.trans sj) _ _ hD)),by simp[hj]⟩) (λHj sj=>⟨_,.inl (.inl ((s2.trans sj) _ _ hD)),s_⟩) ?_ ?_
    .rintro Dc i x σ' H3 H3' vs nDc ⟨od,hDc⟩ s3 hi ⟨rfl,hy⟩ ⟨a,b,c,e,rfl⟩ ⟨ls,uss,rfl,ll,lu,la,ln0,pm,ex⟩ Y R kY kR;have s23:=s2.trans s3;have hx:=hy _ (.inl (.inl (s23 _ _ hD)));rw[Ag_,Aa_ hi]at hx;cases hx;obtain⟨t,ht,_⟩:=b7_ tra (Aa_ hi);obtain⟨C,W,hWl,hq,hW,_⟩:=wh i _ t (Aa_ hi) ht;nofun;show⟨_,SqT.of (s23 _ _ hq),rfl,_,_,rfl,_,_,rfl,_,_,rfl,_,_,rfl,rfl,?_⟩
     rcases Lg_ ht with⟨c,o,ho,rfl⟩|⟨c,e,hL⟩
     .rw[if_neg (by simp[trF])];show kR _ _ ⟨_,_,_,_,rfl⟩ (FA_.refl _) ⟨ls,uss,rfl,o_,lu,la,ln0,by rw[show i+1-O.length=i-O.length by lia];show⟨pm,ex⟩⟩
     .have ef:trF t=.non:=by unfold trF;rw[e]
      rw[ef,if_pos rfl];have lm:=Am_ hL;obtain⟨s',x',z1,z2,z3,z4⟩:=cl _ lm;have ndl:(cs t.2).Nodup:=((AM_.mp nd).2.1.sublist (CS_ (As_.mpr ⟨_,lm,rfl⟩)));have l100:=o3_ ok po ndl λc hc=>(all c).mpr (Aq_.mpr (.inr (BL_.mpr ⟨_,As_.mpr ⟨_,lm,rfl⟩,hc⟩)));have wl:(wiL (trn N) (Pn N) t.2).length<=100:=AG_ (BP_ _ _) (by unfold cs at l100;rwa[Ab_]at l100);have wne:wiL (trn N) (Pn N) t.2≠[]:=λz=>by obtain⟨w',hw,_⟩:=IH_ z4;have:w'∈wiL (trn N) (Pn N) t.2:=Ci_.mpr ⟨x',BR_ z3,hw⟩;rw[z]at this;cases this
      show⟨W,_,rfl,s23 _ _ hW,wne,o_,λl us H4 s4 nl hl pu=>kY _ _ _ ⟨_,_,_,_,rfl⟩ s4 ⟨ls++[l],uss++[us],by rw[Ao_];rfl,by rw[Af_,ll];simp;lia,by rw[Af_,Af_,lu];rfl,λk' l' hl'=>?_,λl' hl'=>?_,?_⟩⟩
      .have lD:l≠Dc:=(ae_ hDc nl).symm;by_cases ck:k'<ls.length
       .rw[Al_ ck]at hl';rw[Ad_,Al_ (by rw[<-lu];show ck),<-Ad_];show hS_ s4 _ _ (la k' l' hl')
       .rw[Ap_ o_]at hl';have e0:k'-ls.length=0:=by have:=(Ae_.mp hl').1;simp only[AS_]at this;lia
        rw[e0]at hl';cases hl';rw[kB_ lD,Ad_,Ap_ (by rw[<-lu];lia),<-lu,e0];show hl
      .rcases Aq_.mp hl' with h|h
       .show ln0 _ h
       .rw[Ak_.mp h];show(s1.trans s23).free nl
      .rw[show i+1-O.length=(i-O.length)+1 by lia,BJ_,hL,Ao_,pm];show⟨by rw[<-Jd_ pu];rfl,λl' hl'=>?_⟩
       rcases Aq_.mp hl' with h|h
       .show ex _ h
       .rw[Ak_.mp h];show⟨us,pu⟩
    .rintro Cd H3 vs nCd s3 hCd ⟨ls,uss,rfl,ll,lu,la,ln0,pm,ex⟩;rw[show ts.length-O.length=L.length by lia,CT_]at pm ex;have ll':ls.length=L.length:=o_
     nofun
     have l64:L.length<=40:=by
      have h1:=l1_ (L:=L) λl hl z=>by obtain⟨s',x',z1,z2,z3,z4⟩:=cl l hl;rw[z]at z2;cases z2
      have h2:=bS_ (l:=(L.map cs).flatten) (m:=corners (trn N) (Pn N)) (AM_.mp nd).2.1 λc hc=>bv_.mpr ((all c).mpr (Aq_.mpr (.inr hc)));have h3:=HX_ ok po;lia
     show⟨ls,hCd,uss,lu,o_,λi l hl=>mr_ _ _ (la i l hl),λZ zs uss2 nZ zl zin za zp srt=>?_⟩;have S4:=FA_.new nZ (o:=HO.lst (zs.map V.ref));have hZ:=aa_ (H:=H3) (a:=Z) (o:=HO.lst (zs.map V.ref));generalize upd H3 Z (HO.lst (zs.map V.ref))=H4 at*;have zl40:zs.length=L.length:=by rw[zl,zp.length_eq,<-lu,ll']
     show⟨⟨_,.inl (.inl hZ)⟩,?_⟩;show eO_ (n:=zs.length) (Pσ:=λσ=>∃a,σ=[a]) (Pt zs) ⟨_,rfl⟩ o_ ⟨[],rfl,rfl,(λk q h=>by cases h)⟩ (λi vs H1 H2 s ⟨qs,z1,z2,z3⟩=>⟨qs,z1,z2,λk q hq=>let⟨W,y1,y2⟩:=z3 k q hq;⟨W,y1,s _ _ y2⟩⟩) (λi vs H1 ⟨qs,z1,z2,_⟩=>by rw[z1,Ab_,z2];show Ai_ _) (λj Hj hj sj=>⟨_,.ref (zs[j]),.inl (.inl (sj _ _ hZ)),by simp[hj]⟩) (λHj sj=>⟨_,.inl (.inl (sj _ _ hZ)),s_⟩) ?_ ?_
     .rintro Dc i x σ' H5 H5' vs nDc ⟨od,hDc⟩ s5 hi ⟨rfl,hy⟩ ⟨a,rfl⟩ ⟨qs,rfl,ql,qa⟩ Y R kY kR;have hx:=hy _ (.inl (.inl (s5 _ _ hZ)));rw[Ag_,Aa_ hi]at hx;cases hx;nofun;show⟨d_,λr nr=>kY _ _ _ ⟨_,rfl⟩ (FA_.new nr) ⟨qs++[r],by rw[Ao_];rfl,by rw[Af_,ql];rfl,λk' q hq=>?_⟩⟩;have rD:r≠Dc:=(ae_ hDc nr).symm;by_cases ck:k'<qs.length
      .rw[Al_ ck]at hq;obtain⟨W,y1,y2⟩:=qa k' q hq;show⟨W,y1,hS_ (FA_.new nr) _ _ y2⟩
      .rw[Ap_ o_]at hq;have e0:k'-qs.length=0:=by have:=(Ae_.mp hq).1;simp only[AS_]at this;lia
       rw[e0]at hq;cases hq;show⟨zs[i],by rw[show k'=i by lia];show Aa_ hi,?_⟩;rw[kB_ rD];show aa_
     .rintro R0 H5 vs nR s5 hR ⟨qs,rfl,ql,qa⟩;have s35:=S4.trans s5;have s25:=s3.trans s35;show⟨R0,rfl,_,s25 _ _ hJ,_,hR,by rw[Ab_,Ab_];show AH_ (FB_ o_),λp np=>?_⟩;have s6:=FA_.new np (o:=HO.lst (js.map V.ref++qs.map V.ref));have h6:=aa_ (H:=H5) (a:=p) (o:=HO.lst (js.map V.ref++qs.map V.ref));generalize upd H5 p (HO.lst (js.map V.ref++qs.map V.ref))=H6 at*;have sall:=s1.trans (s2.trans s25);have ol:(opD (trn N) (Pn N) O).length=O.length:=Ab_ _;have ul:(clD uss2).length=uss2.length:=Ab_ _;show k p (js++qs) uss2 H6 O L (sall.trans s6) (sall.free np) (by rw[h6,Ao_]) (iQ_ (by rw[Af_,Af_,jl',ql,zl,ol,ul]) λi q t hq ht=>?_) (by rw[Af_];lia) op cl nd all ex (by rw[<-pm];show zp) srt;by_cases c:i<js.length
      .rw[Al_ c]at hq;rw[Al_ o_]at ht;obtain⟨o,W,y1,y2,z⟩:=jall i q hq;unfold opD at ht;rw[Ag_,y1]at ht;cases ht;have ht1:(opT O++clT L)[i]?=some (some (o.1,o.2.1),o.2.2):=by have ol:(opT O).length=O.length:=Ab_ _;rw[Al_ o_];unfold opT;rw[Ag_,y1];rfl
       obtain⟨C,W',x1,x2,x3,x4⟩:=wh i _ _ (Aa_ (show i<ts.length by lia)) ht1;rw[y2]at x1;cases x1;show⟨W,(s25.trans s6) _ _ (mr_ _ _ z),(s2.trans (s25.trans s6)) _ _ x3,x4⟩
      .rw[Ap_ o_,show i-js.length=i-O.length by lia]at hq;rw[Ap_ o_,ol]at ht;obtain⟨W,y1,y2⟩:=qa _ q hq;unfold clD at ht;rw[Ag_]at ht;obtain⟨u,hu,rfl⟩:=AQ_.mp ht;have:=za _ W y1;rw[Ad_,hu]at this;show⟨W,s6 _ _ (mr_ _ _ y2),(s35.trans s6) _ _ this,ln0 _ (zin _ (Am_ y1))⟩
abbrev FS_:Stmt:=stN 34
theorem b8_:ZM ["_law_row","_law_rounds","_law_one"] ["_law_row"] (FC_ FS_):=zM
theorem bD_:LK FS_ "_law_rounds" .local:=r_
theorem d1_:LK FS_ "_law_one" .cell:=r_
theorem fS_:LK FS_ "len" .globalImplicit:=r_
theorem fT_:LK FS_ "min" .globalImplicit:=r_
theorem e3_:LK FS_ "range" .globalImplicit:=r_
theorem iR_(T:Txt K mg)(F:Fn0 K mg "_law_least_round" FS_):Cal P w K mg base "_law_least_round" ["_law_row"] 1 G9_:=by
  show aQ_ F b8_.1 λf cdv A outer s0 H vs Q E hr h=>?_;obtain⟨W,ws,rfl,hW,ne,wl,k⟩:=h;refine'⟨_,?D,?R⟩
  case D =>
   refine' ac_ (ai_ (i:=1) b8_.nd rfl bD_ (bh_ ab_)) (aj_ ?a (ag_ (au_ (al_ (jj_ rfl (hr.units)) fT_ T.n_min nZ_ (pa_c (zw 1 b8_) ab_)))))
   case' a=>refine' aP_ AA_ rfl (lv_ (K:=K) rfl (ar_ (pa_c (zw 0 b8_) (pa_c (rI_ (zw 0 b8_) (bO_ (LF_ ru_ ad_))) ab_)))) ?b ?c
   case b=>show d9_ (i:=2) b8_.nd rfl d1_ rfl
   case' c=>refine' ag_ (ai_ (i:=1) b8_.nd rfl bD_ (FD_ f7_ (zw 1 b8_) (cc_ (N':=["_law_k","_law_one"]) (ix:=[none,some 2]) rfl rfl (cw_ ?d) (aE_ e3_ T.n_range (pa_c (al_ an_ fS_ T.n_len aG_ (pa_c (zw 2 b8_) ab_)) ab_)) (λ_ _ _=>?e) (λ_ _ _=>?f) (λ_ _ _=>?g))))
   case d=>show(by change Hv_ (FC_ FS_) ["_law_row","_law_rounds","_law_one"] _ _ _=true;decide +kernel)
   case e=>show ah_ (i:=0) (by change List.Nodup (["_law_k","_law_one"]:List Str);decide +kernel) rfl rfl
   case f=>show eC_
   case' g=>refine' FD_ f7_ (bu_ cm_ (pvc 1 rfl rfl) (bO_ (pv1 0 rfl rfl)) ?h) (bu_ cm_ (pvc 1 rfl rfl) ?i (bO_ (pv1 0 rfl rfl)))
   case h=>show b1_
   case i=>show b1_
  case R =>
   nofun;show⟨Az_ _,λD nD=>?_⟩;have S2:=FA_.new nD (o:=HO.lst []);have hD:=aa_ (H:=H) (a:=D) (o:=HO.lst []);generalize upd H D (HO.lst [])=H2 at*;nofun;unfold L6_;nofun;show⟨_,S2 _ _ hW,λR nR=>⟨d_,λp np=>⟨⟨_,SqT.of aa_⟩,?_⟩⟩⟩;rw[<-List.map_reverse]at*;have S3:=FA_.new nR (o:=HO.lst (ws.reverse.map V.str));have hR:=aa_ (H:=H2) (a:=R) (o:=HO.lst (ws.reverse.map V.str));generalize upd H2 R (HO.lst (ws.reverse.map V.str))=H3 at*;have S4:=FA_.new np (o:=HO.tup [V.ref W,V.ref R]);have hp:=aa_ (H:=H3) (a:=p) (o:=HO.tup [V.ref W,V.ref R]);generalize upd H3 p (HO.tup [V.ref W,V.ref R])=H4 at*;have s34:=S3.trans S4;have s24:=S2.trans s34;show oy_ (xs:=[V.ref W,V.ref R]) (λt σ Hy=>∃(e2:Option V)(Rl:Addr)(ls:List Addr)(tss:List (List Str)),σ=[some (.ref W),some (.ref Rl),e2]/\FA_ H4 Hy/\Hy Rl=some (.lst (ls.map V.ref))/\J2_ Hy ls tss/\ls.length=tss.length/\ls.length=t*ws.length/\(∀l∈ls,H l=none)/\(∀u∈tss,Rd ws u)/\(1<=t->∀j,j<ws.length->ws.drop j++ws.take j∈tss)/\(2<=t->∀j,j<ws.length->ws.reverse.drop j++ws.reverse.take j∈tss)) ⟨_,D,[],[],rfl,FA_.refl _,s34 _ _ hD,(λi l h=>by cases h),rfl,s_,λl hl=>absurd hl AL_,λu hu=>absurd hu AL_,λh=>absurd h d_,λh=>absurd h d_⟩ ?_ ?_ ?_
   .rintro t σ Hy ht ⟨e2,Rl,ls,tss,rfl,sy,_⟩;show SqT.of (sy _ _ hp)
   .rintro t x σ Hy hx kc kb hkc hkb G hG ⟨e2,Rl,ls,tss,rfl,sy,hRl,la,lt,ll,ln,rd,a1,a2⟩;show hG ?_
    obtain⟨X,us,rfl,hX,ul,rdu,t2,ea,eb⟩:∃(X:Addr)(us:List Str),x=.ref X/\Hy X=some (.lst (us.map V.str))/\us.length=ws.length/\(∀j,Rd ws (us.drop j++us.take j))/\t<=1/\(t=0->us=ws)/\(t=1->us=ws.reverse):=by
     match t,hx with
     |0,hx=>cases hx;show⟨W,ws,rfl,sy _ _ (s24 _ _ hW),rfl,λj=>.inl (JB_ ws j),d_,λ_=>rfl,λh=>by cases h⟩
     |1,hx=>cases hx;show⟨R,ws.reverse,rfl,sy _ _ (S4 _ _ hR),Bl_,λj=>.inr (JB_ _ j),d_,(λh=>by cases h),λ_=>rfl⟩
    nofun;have um:(us.map V.str).length=us.length:=Ab_ _;show⟨_,.inl hX,by rw[um];lia,by rw[um];lia,?_⟩;rw[um,AC_];show eO_ (n:=us.length) (Pσ:=λσ=>∃a,σ=[a,some (.ref X)]) (λi vs Hc=>∃ls2:List Addr,vs=ls2.map V.ref/\ls2.length=i/\(∀l∈ls2,Hy l=none)/\∀(j:Nat) l,ls2[j]?=some l->Hc l=some (.lst ((us.drop j++us.take j).map V.str))) ⟨_,rfl⟩ o_ ⟨[],rfl,rfl,λl hl=>absurd hl AL_,(λj l h=>by cases h)⟩ (λi vs H1 H2 s ⟨ls2,z1,z2,z3,z4⟩=>⟨ls2,z1,z2,z3,λj l hl=>s _ _ (z4 j l hl)⟩) (λi vs H1 ⟨ls2,z1,z2,_⟩=>by rw[z1,Ab_,z2];show Ai_ _) (λj Hj hj sj=>hj) (λHj sj=>Ai_ _) ?_ ?_
    .rintro Dc i x σ' H5 H5' vs nDc ⟨od,hDc⟩ s5 hi ⟨rfl,rfl⟩ ⟨a,rfl⟩ ⟨ls2,rfl,l2,l3,l4⟩ Y R' kY kR;rw[show(0:Int)+(i:Int)=(i:Int) by lia];have c1:Hx_ (us.map V.str) (some (i:Int)) none=(us.drop i).map V.str:=by rw[ga_ _ _ (by rw[Ab_];lia),Df_]
     have c2:Hx_ (us.map V.str) none (some (i:Int))=(us.take i).map V.str:=by rw[kA_ _ _ (by rw[Ab_];lia),C0_]
     nofun;have hX5:=s5 _ _ hX;show⟨_,hX5,λp1 n1=>?_⟩;rw[c1]at*;have A1:=FA_.new n1 (o:=HO.lst ((us.drop i).map V.str));have g1:=aa_ (H:=H5') (a:=p1) (o:=HO.lst ((us.drop i).map V.str));generalize upd H5' p1 (HO.lst ((us.drop i).map V.str))=Y1 at*;show⟨_,A1 _ _ hX5,λp2 n2=>?_⟩;rw[c2]at*;have A2:=FA_.new n2 (o:=HO.lst ((us.take i).map V.str));have g2:=A2 _ _ g1;generalize upd Y1 p2 (HO.lst ((us.take i).map V.str))=Y2 at*;show⟨_,g2,by rw[Ab_,Ab_,BG_,Bf_];show AH_ (FB_ o_),λp3 n3=>?_⟩;rw[<-Ao_];have a12:=A1.trans A2;have n3':=a12.free n3;have pD:p3≠Dc:=(ae_ hDc n3').symm;show kY _ _ _ ⟨_,rfl⟩ (a12.trans (FA_.new n3)) ⟨ls2++[p3],by rw[Ao_];rfl,by rw[Af_,l2];rfl,λl hl=>?_,λj l hl=>?_⟩
     .rcases Aq_.mp hl with h|h
      .show l3 l h
      .rw[Ak_.mp h];show s5.free n3'
     .by_cases ck:j<ls2.length
      .rw[Al_ ck]at hl;show hS_ (a12.trans (FA_.new n3)) _ _ (l4 j l hl)
      .rw[Ap_ o_]at hl;have e0:j-ls2.length=0:=by have:=(Ae_.mp hl).1;simp only[AS_]at this;lia
       rw[e0]at hl;cases hl;rw[kB_ pD,show j=i by lia];show aa_
    .rintro C H5 vs nC s5 hC ⟨ls2,rfl,l2,l3,l4⟩;show⟨C,rfl,_,s5 _ _ hRl,_,hC,by rw[Ab_,Ab_,ll,l2];show AH_ (FB_ (by have:t*ws.length<=1*ws.length:=Nat.mul_le_mul_right _ t2;lia)),λp' np'=>hkc _ _ ⟨_,p',ls++ls2,tss++(List.range us.length).map (λj=>us.drop j++us.take j),rfl,sy.trans (s5.trans (FA_.new np')),by rw[aa_,Ao_],λi l hl=>?_,?_,?_,λl hl=>?_,λu hu=>?_,λh j hj=>?_,λh j hj=>?_⟩⟩
     .have Sn:=FA_.new np' (o:=HO.lst (ls.map V.ref++ls2.map V.ref));by_cases ck:i<ls.length
      .rw[Al_ ck]at hl;rw[Ad_,Al_ o_,<-Ad_];show Sn _ _ (s5 _ _ (la i l hl))
      .rw[Ap_ o_]at hl;have hj:=(Ae_.mp hl).1;rw[Ad_,Ap_ o_,<-lt,Ag_,Ca_ o_];show Sn _ _ (mr_ _ _ (l4 _ l hl))
     .rw[Af_,Af_,lt,Ab_,Bn_,l2]
     .rw[Af_,ll,l2,ul,Nat.succ_mul]
     .rcases Aq_.mp hl with h|h
      .show ln l h
      .show(s24.trans sy).free (l3 l h)
     .rcases Aq_.mp hu with h|h
      .show rd u h
      .obtain⟨j,_,rfl⟩:=As_.mp h;show rdu j
     .by_cases t0:t=0
      .rw[ea t0]at ul⊢;show AO_ _ (As_.mpr ⟨j,A3_.mpr hj,rfl⟩)
      .show AN_ _ (a1 o_ j hj)
     .have t1:t=1:=o_
      rw[eb t1];show AO_ _ (As_.mpr ⟨j,A3_.mpr (by rw[Bl_];show hj),rfl⟩)
   .rintro σ Hy ⟨e2,Rl,ls,tss,rfl,sy,hRl,la,lt,ll,ln,rd,a1,a2⟩;nofun;have nz:ws.length≠0:=λz=>ne (AY_ z);have l2:ls.length=2*ws.length:=ll;show⟨ls,hRl,(λz=>by rw[z]at l2;simp at l2;lia),tss,la,λi l hl le=>?_⟩;have mem:∀{j:Nat},j<ls.length->tss.getD j []∈tss:=λ{j} hj=>by rw[Ad_,Aa_ (by rw[<-lt];show hj)];show Bg_ _
    have hi:=(Ae_.mp hl).1;show k l (tss.getD i []) Hy (s24.trans sy) (ln l (Am_ hl)) (la i l hl) (qc_ ne (mem hi) rd (λj hj=>⟨a1 s_ j hj,a2 s_ j hj⟩) λt ht=>?_);obtain⟨j,hj,rfl⟩:=AD_.mp ht;have:=le j (by rw[lt];show hj)
    rwa[Ad_,Aa_ hj]at this
def k3(e:Nat×Nat)(sd:Nat):List Key:=[.inl e.1,.inl e.2,.inl sd]
def stC(T:List (List Str))(P:Nat)(e:Nat×Nat)(sd:Nat):Sd:=if sd=0 then(e,true)else(beh T P e,false)
theorem Cr.st{T:List (List Str)}{P:Nat}{x:Sd}{e:Nat×Nat}(h:Cr T P x e sd):sd<=1/\x=stC T P e sd:=by
 rcases h with⟨rfl,rfl⟩|⟨rfl,rfl⟩
 .show⟨d_,rfl⟩
 .show⟨d_,rfl⟩
theorem Lc_{T:List (List Str)}{P:Nat}{e:Nat×Nat}(h:sd<=1):Cr T P (stC T P e sd) e sd:=by
 by_cases c:sd=0
 .show .inl ⟨if_pos c,c⟩
 .show .inr ⟨if_neg c,o_⟩
theorem q2_{T:List (List Str)}{P:Nat}{e e':Nat×Nat}{sd':Nat}{y':Str}(h:wi T e=some y)(h':wi T e'=some y')(s:sd<=1)(s':sd'<=1)(z:stC T P e sd=stC T P e' sd'):e=e'/\sd=sd':=by
 unfold stC at z;by_cases c:sd=0 <;> by_cases c':sd'=0
 .rw[if_pos c,if_pos c']at z;show⟨congrArg Prod.fst z,o_⟩
 .rw[if_pos c,if_neg c']at z;cases congrArg Prod.snd z
 .rw[if_neg c,if_pos c']at z;cases congrArg Prod.snd z
 .rw[if_neg c,if_neg c']at z;show⟨gN_ (F8_ h).1 (F8_ h').1 (congrArg Prod.fst z),o_⟩
theorem LP_{T:List (List Str)}{P:Nat}{x:Sd}{e f:Nat×Nat}(h:Cr T P x e sd)(m:Hk_ T e f):Gg T P x (tn (stC T P f sd)):=by
 rcases h with⟨rfl,rfl⟩|⟨rfl,rfl⟩
 .show⟨e,f,m,.inl ⟨rfl,rfl⟩⟩
 .show⟨e,f,m,.inr ⟨rfl,rfl⟩⟩
def Kg_(T:List (List Str))(P:Nat):List (List Key):=((corners T P).map λc=>k3 c 0)++(corners T P).map λc=>k3 c 1
theorem LJ_{T:List (List Str)}{P:Nat}{e:Nat×Nat}(h:wi T e=some y)(s:sd<=1):k3 e sd∈Kg_ T P:=by
 have ic:e∈corners T P:=bv_.mpr ⟨(F8_ h).2,AK_ (F8_ h).1 (Bt_ _ _)⟩;by_cases c:sd=0
 .rw[c];show AN_ _ (As_.mpr ⟨e,ic,rfl⟩)
 .rw[show sd=1 by lia];show AO_ _ (As_.mpr ⟨e,ic,rfl⟩)
def Sn(H:Hp)(T:List (List Str))(P:Nat)(d:Addr)(A:Sd->Prop):Prop:=∃kvs,H d=some (.dT kvs)/\IB_ kvs (Kg_ T P)/\∀e sd y,wi T e=some y->sd<=1->((Gi_ kvs (k3 e sd)).isSome=true↔A (stC T P e sd))
variable{A:Sd->Prop}
theorem Sn.mono{T:List (List Str)}{P:Nat}(h:Sn H T P d A)(s:FA_ H H'):Sn H' T P d A:=let⟨kvs,h1,h2⟩:=h;⟨kvs,s _ _ h1,h2⟩
theorem Sn.imp{T:List (List Str)}{P:Nat}{B:Sd->Prop}(h:Sn H T P d A)(s:∀z,A z↔B z):Sn H T P d B:=let⟨kvs,h1,h2,h3⟩:=h;⟨kvs,h1,h2,λe sd y he hs=>(h3 e sd y he hs).trans (s _)⟩
theorem Sn.put{T:List (List Str)}{P:Nat}{kvs:List (List Key×V)}{e:Nat×Nat}(h2:IB_ kvs (Kg_ T P))(h3:∀e sd y,wi T e=some y->sd<=1->((Gi_ kvs (k3 e sd)).isSome=true↔A (stC T P e sd)))(he:wi T e=some y)(hs:sd<=1)(hd:H' d=some (.dT (Gn_ kvs (k3 e sd) v))):Sn H' T P d λz=>A z\/z=stC T P e sd:=by
 show⟨_,hd,h2.put (LJ_ he hs) v,λe' sd' y' he' hs'=>?_⟩;rw[aA_];by_cases c:k3 e' sd'=k3 e sd
 .rw[if_pos c];unfold k3 at c;simp only[List.cons.injEq,Sum.inl.injEq,Int.natCast_inj,and_true]at c;have e1:e'=e:=Bb_ c.1 c.2.1;rw[e1,c.2.2];show⟨λ_=>.inr rfl,λ_=>rfl⟩
 .rw[if_neg c,h3 e' sd' y' he' hs'];show⟨.inl,λh=>h.elim id λz=>?_⟩;obtain⟨rfl,rfl⟩:=q2_ he' he hs' hs z;show absurd rfl c
theorem g3_(O:List (Nat×Nat×List Sd))(L:List (List Sd))(mm:List Sd):csO O++((L++[mm]).map cs).flatten=(csO O++(L.map cs).flatten)++cs mm:=by rw[Ao_,AT_];simp
theorem j8_{T:List (List Str)}{P:Nat}:∀{mm:List Sd}{x:Sd},Pa (Gg T P) (mm++[x])->(wiL T P mm).length=mm.length
 |[],_,_=>rfl
 |a::mm,x,p=>by
  have ih:=j8_ (mm:=mm) (x:=x) (lo_ p)
  have g:∃b,Gg T P a b:=by
   cases mm with
   |nil=>show⟨x,p 0 a x rfl rfl⟩
   |cons b mm=>show⟨b,p 0 a b rfl rfl⟩
  obtain⟨b,g⟩:=g;obtain⟨w,h,_⟩:=IH_ g;unfold wiL at ih⊢;rw[BC_,h];simp[ih]
abbrev FQ_:Stmt:=stN 35
theorem bs_:ZL ["_law_turns_here","_law_posts","_law_mates_here","_law_seen","_law_found","_law_p","_law_k","_law_side","_law_here","_law_row","_law_q","_law_j"] ["_law_turns_here","_law_posts","_law_mates_here","_law_seen"] (FC_ FQ_):=zL
theorem gD_:LK FQ_ "_law_beyond" .globalImplicit:=r_
theorem ex_:LK FQ_ "_law_least_round" .globalImplicit:=r_
theorem fu_:LK FQ_ "len" .globalImplicit:=r_
theorem cJ_:LK FQ_ "range" .globalImplicit:=r_
theorem g4_:LK FQ_ "sorted" .globalImplicit:=r_
def hid(H:Hp)(d:Addr):Hp:=λb=>if b=d then none else H b
theorem IG_:hid H d d=none:=if_pos rfl
theorem bY_{b:Addr}(h:H b=some o)(n:b≠d):hid H d b=some o:=(if_neg n).trans h
theorem j9_:FA_ (hid H d) H:=λb o e=>by
 by_cases c:b=d
 .rw[c,IG_]at e;cases e
 .show(if_neg c).symm.trans e
theorem mH_{b:Addr}(h:H b=none):hid H d b=none:=by
 by_cases c:b=d
 .rw[c];show IG_
 .show(if_neg c).trans h
abbrev So_(O:List (Nat×Nat×List Sd))(L:List (List Sd)):List (Nat×Nat):=csO O++(L.map cs).flatten
structure CS(T:List (List Str))(P:Nat)(O:List (Nat×Nat×List Sd))(Hm Hy:Hp)(d D0:Addr)(ts:List Addr)(L:List (List Sd)):Prop where
 same:FA_ Hm Hy
 hD:Hy D0=some (.lst (ts.map V.ref))
 len:ts.length=L.length
 tl:∀(i:Nat) t l,ts[i]?=some t->L[i]?=some l->∃W,Hy t=some (.tup [.non,.non,.ref W])/\Hy W=some (.lst ((lw (wiL T P l)).map V.str))/\W≠D0
 sn:Sn Hy T P d λz=>z.1∈So_ O L
 cl:∀l∈L,ClL T P l
 lst:∀l∈L,∃u,Lst (wiL T P l) u
 nd:(So_ O L).Nodup
 sh:H3_ T P (So_ O L)
 ic:∀c∈So_ O L,IsC T P c
variable{L:List (List Sd)}
theorem CS.few{T:List (List Str)}{P:Nat}{Hm Hy:Hp}{D0:Addr}(h:CS T P O Hm Hy d D0 ts L)(c40:(corners T P).length<=40):L.length<=40:=by
 have h1:=l1_ (L:=L) λl hl z=>by obtain⟨s',x',z1,z2,z3,z4⟩:=h.cl l hl;rw[z]at z2;cases z2
 have h2:=bS_ (l:=(L.map cs).flatten) (m:=corners T P) (AM_.mp h.nd).2.1 λc hc=>bv_.mpr (h.ic c (Aq_.mpr (.inr hc)));lia
def lamP:Pos:=⟨290,34,290,64⟩
def lamQ:Str:=(envOfC "_law_closed" (FC_ FQ_) 0 0 .none).qual++Str.ofString "<lambda>"
abbrev TbL(Pt:Addr)(H:Hp):Prop:=Tb lamQ lamP Pt H
def HO_(Pt:Addr):Sp:=λvs H Q _=>∃(l m d:Addr)(as_:List Addr)(T:List (List Str))(Pp:Nat)(O:List (Nat×Nat×List Sd)),vs=[.ref l,.int Pp,.ref m,.ref d]/\TbL Pt H/\Tg V.str H l as_ T/\GH_ H m T/\m≠d/\Tw T/\Pp<=T.length/\T.length<=40/\(∀p,rl T p<=40)/\(corners T Pp).length<=40/\Sn H T Pp d (λz=>z.1∈csO O)/\(csO O).Nodup/\H3_ T Pp (csO O)/\(∀c∈csO O,IsC T Pp c)/\(∀pl,pl<2*Pp->(stt T pl).1∈csO O) /\
 ∀D zs uss L H',(∀b o,b≠d->b≠Pt->H b=some o->H' b=some o)->TbL Pt H'->H D=none->H' D=some (.lst (zs.map V.ref))->Kk_ H' zs uss->zs.length=uss.length->(∀l∈L,ClL T Pp l)->(So_ O L).Nodup->(∀c,IsC T Pp c↔c∈So_ O L)->(∀l∈L,∃u,Lst (wiL T Pp l) u)->uss.Perm (L.map λl=>lw (wiL T Pp l))->uss.Pairwise (λx y=>GK_ y x=false)->L.length<=40->Q (.ref D) H'
theorem nf_{c Pt:Addr}(LM:Lam mg base c Pt)(T:Txt K mg)(F:FnC K mg "_law_closed" FQ_ c) (Hf_:Cal P w K mg base "_law_beyond" ["_law_turns_here","_law_posts","_law_mates_here","_law_crossing"] 1 Hd_) (Ho_:Cal P w K mg base "_law_least_round" ["_law_row"] 1 G9_):Cal P w K mg base "_law_closed" ["_law_turns_here","_law_posts","_law_mates_here","_law_seen"] 4 (HO_ Pt):=by
 show qL_ F bs_.1 (λ_ _ _ _ _ _=>byL4 λ_ _ _ _=>rfl) ?len ?body
 case len=>rintro vs H Q E ⟨_,_,_,_,_,_,_,rfl,_⟩;rfl
 case body =>
  intro f A outer s0 H vs Q E hr h;obtain⟨l,m,d,as_,Tt,Pp,O,rfl,hPt,hT,hm,md,tw,PT,T40,r40,c40,sn,ndO,shO,icO,allO,k⟩:=h;obtain⟨kv0,hd0,kt0,sn0⟩:=id sn;have dn:∀{b:Addr}{o:HO},H b=some o->(∀kv,o≠.dT kv)->b≠d:=λh1 h2 z=>by rw[z,hd0]at h1;show h2 _ (Au_ h1).symm
  have hTm:Tg V.str (hid H d) l as_ Tt:=⟨bY_ hT.top (dn hT.top s_),hT.len,λp a h=>bY_ (hT.row p a h) (dn (hT.row p a h) s_)⟩;have hmm:GH_ (hid H d) m Tt:=by obtain⟨kvs,h1,h2⟩:=hm;show⟨kvs,bY_ h1 md,λa b mt=>?_⟩;obtain⟨q,z1,z2⟩:=h2 a b mt;show⟨q,z1,bY_ z2 (dn z2 (by unfold cV;simp))⟩
  refine'⟨_,?D,?R⟩
  case D =>
   refine' ac_ (zas 4 bs_ (bh_ ab_)) (aj_ ?a (ag_ (au_ (ox_ (k:=0) (hr.mono d_) g4_ T.n_sorted (pa_c (zv 4 bs_) ab_) rfl rfl LM rfl rfl ⟨rfl,rfl,rfl,r_,rfl,r_,r_⟩ (λ_ _ _ _ _ _=>rfl) (λ_ _ _ _ _ _ _=>FF_ ao_ (pv 0) ad_ (λ_ _=>rfl))))))
   case' a=>refine' aP_ AA_ rfl (aE_ cJ_ T.n_range (pa_c (al_ an_ fu_ T.n_len aG_ (pa_c (zv 0 bs_) ab_)) ab_)) ?b ?c
   case b=>show zh 5 bs_
   case' c=>refine' ag_ (aP_ AA_ rfl ?d ?e (ag_ (aP_ AA_ rfl (aE_ cJ_ T.n_range (pa_c ad_ ab_)) ?f ?g)))
   case' d=>refine' aE_ cJ_ T.n_range (pa_c (al_ an_ fu_ T.n_len aG_ (pa_c (FF_ aq_ (zv 0 bs_) (zv 5 bs_)) ab_)) ab_)
   case e=>show zh 6 bs_
   case f=>show zh 7 bs_
   case' g=>refine' ac_ (zas 8 bs_ (ar_ (pa_c (zv 5 bs_) (pa_c (zv 6 bs_) (pa_c (zv 7 bs_) ab_))))) ?h
   case' h=>refine' ac_ (zas 9 bs_ (bh_ ab_)) (ac_ (e9_ AA_ (f2_ (im_ (un1 hr.units) (zv 8 bs_) (zv 3 bs_))) ?i) ?j)
   case' i=>refine' ac_ (cR_ (un1 hr.units) (zv 3 bs_) (zv 8 bs_) GG_ rfl) (ac_ (eL_ ?k (aU_ (K:=K) (n:=2) rfl rfl (ak_ ?l (ak_ ?m aT_)))) ?n)
   case' k=>refine' ce_ (un1 hr.units) (zv 2 bs_) (ar_ (pa_c (FF_ ao_ (zv 8 bs_) ad_) (pa_c (FF_ ao_ (zv 8 bs_) ad_) ab_))) (λ_ _=>rfl)
   case l=>show zh 10 bs_
   case m=>show zh 11 bs_
   case' n=>refine' ac_ (cR_ (un1 hr.units) (zv 3 bs_) (ar_ (pa_c (zv 10 bs_) (pa_c (zv 11 bs_) (pa_c (FF_ ao_ (zv 8 bs_) ad_) ab_)))) GG_ rfl) ?o
   case' o=>refine' ac_ (aH_ (Gq_ AB_ AI_ AJ_ aF_ (zv 9 bs_) (pa_c (FF_ aq_ (FF_ aq_ (zv 0 bs_) (FF_ ao_ (zv 8 bs_) ad_)) (FF_ ao_ (zv 8 bs_) ad_)) ab_))) ?p
   case' p=>refine' ag_ (zas 8 bs_ (am_ Hf_ (hr.mono d_) gD_ (pa_c (zv 0 bs_) (pa_c (zv 1 bs_) (pa_c (zv 2 bs_) (pa_c (zv 8 bs_) ab_))))))
   case' j=>refine' ag_ (Gj_ (aw_ (mo_ (hr.units)) (zv 9 bs_) (bh_ ab_) (FW_ _)) (ag_ (aH_ ?q)) aD_)
   case' q=>refine' Gq_ AB_ AI_ AJ_ aF_ (zv 4 bs_) (pa_c (ar_ (pa_c ?r (pa_c ?s (pa_c (am_ Ho_ (hr.mono d_) ex_ (pa_c (zv 9 bs_) ab_)) ab_)))) ab_)
   case r=>show ic_
   case s=>show ic_
  case R =>
   nofun;show⟨Az_ _,λD0 nD0=>?_⟩;have S1:=FA_.new nD0 (o:=HO.lst []);have hD0:=aa_ (H:=H) (a:=D0) (o:=HO.lst []);generalize upd H D0 (HO.lst [])=H1 at*;have D0d:D0≠d:=λz=>by rw[z,hd0]at nD0;cases nD0
   have D0m:hid H d D0=none:=mH_ nD0;have s1m:FA_ (hid H d) H1:=j9_.trans S1
   have cs0:CS Tt Pp O (hid H d) H1 d D0 [] []:=⟨s1m,hD0,rfl,(λi t l h=>by cases h),by
    have:=sn.mono S1;simpa[So_]using this,λl hl=>absurd hl AL_,λl hl=>absurd hl AL_,by simpa[So_]using ndO,by simpa[So_]using shO,by simpa[So_]using icO⟩
   nofun;show⟨_,.inl (S1 _ _ hT.top),by rw[Ab_,hT.len];lia,by rw[Ab_,hT.len];lia,?_⟩;rw[Ab_,hT.len,AC_];show a5_ (λp σ Hy=>∃(e5 e6 e7 e8 e9 e10 e11:Option V)(ts:List Addr)(L:List (List Sd)),σ=[some (.ref l),some (.int Pp),some (.ref m),some (.ref d),some (.ref D0),e5,e6,e7,e8,e9,e10,e11]/\CS Tt Pp O (hid H d) Hy d D0 ts L/\∀e y,wi Tt e=some y->e.1<p->e∈So_ O L) ⟨_,_,_,_,_,_,_,[],[],rfl,cs0,λe y _ h=>absurd h (Bh_ _)⟩ ?_ ?_
   .rintro p σ Hy hp kc kb hkc hkb G hG ⟨e5,e6,e7,e8,e9,e10,e11,ts,L,rfl,cs1,vis⟩;show hG ?_;rw[show(0:Int)+(p:Int)=(p:Int) by lia];nofun;obtain⟨a,ea,at0,ra⟩:=(hTm.mono cs1.same).at_ hp;have al:((Tt.getD p []).map V.str).length=rl Tt p:=Ab_ _;have:=r40 p;show⟨_,(hTm.mono cs1.same).top,_,at0,_,rfl,_,.inl ra,by rw[al];lia,by rw[al];lia,?_⟩;rw[al,AC_];show a5_ (λk' σ Hy=>∃(e6 e7 e8 e9 e10 e11:Option V)(ts:List Addr)(L:List (List Sd)),σ=[some (.ref l),some (.int Pp),some (.ref m),some (.ref d),some (.ref D0),some (.int p),e6,e7,e8,e9,e10,e11]/\CS Tt Pp O (hid H d) Hy d D0 ts L/\∀e y,wi Tt e=some y->e.1<p\/(e.1=p/\e.2<k')->e∈So_ O L) ⟨_,_,_,_,_,_,ts,L,rfl,cs1,λe y h z=>vis e y h o_⟩ ?_ ?_
    .rintro k' σ Hy hk' kc2 kb2 hkc2 hkb2 G2 hG2 ⟨e6,e7,e8,e9,e10,e11,ts,L,rfl,cs1,vis⟩;show hG2 ?_;rw[show(0:Int)+(k':Int)=(k':Int) by lia];nofun;show⟨d_,d_,?_⟩;rw[show Int.toNat 2=2 from rfl];show a5_ (λsd σ Hy=>∃(e7 e8 e9 e10 e11:Option V)(ts:List Addr)(L:List (List Sd)),σ=[some (.ref l),some (.int Pp),some (.ref m),some (.ref d),some (.ref D0),some (.int p),some (.int k'),e7,e8,e9,e10,e11]/\CS Tt Pp O (hid H d) Hy d D0 ts L/\(∀e y,wi Tt e=some y->e.1<p\/(e.1=p/\e.2<k')->e∈So_ O L)/\(1<=sd->(p,k')∈So_ O L)) ⟨_,_,_,_,_,ts,L,rfl,cs1,vis,λh=>absurd h d_⟩ ?_ ?_
     .rintro sd σ Hy hsd kc3 kb3 hkc3 hkb3 G3 hG3 ⟨e7,e8,e9,e10,e11,ts,L,rfl,cs1,vis,v1⟩;show hG3 ?_;rw[show(0:Int)+(sd:Int)=(sd:Int) by lia];nofun;show⟨d_,λc0 nc0=>?_⟩;have S2:=FA_.new nc0 (o:=HO.tup [V.int p,V.int k',V.int sd]);have hc0:upd Hy c0 (HO.tup [V.int p,V.int k',V.int sd]) c0=some (crV (p,k') sd):=aa_;generalize upd Hy c0 (HO.tup [V.int p,V.int k',V.int sd])=Y0 at*;nofun;show⟨Az_ _,λR0 nR0=>?_⟩;have S3:=FA_.new nR0 (o:=HO.lst []);have hR0:=aa_ (H:=Y0) (a:=R0) (o:=HO.lst []);generalize upd Y0 R0 (HO.lst [])=Y1 at*;have B1:FA_ (hid Y0 d) Y1:=j9_.trans S3;obtain⟨y0,hy0⟩:=cO_ (T:=Tt) (e:=(p,k')) hk';have sd1:sd<=1:=o_
      have cr0:=Lc_ (T:=Tt) (P:=Pp) (e:=(p,k')) sd1
      have s0ic:IsC Tt Pp (stC Tt Pp (p,k') sd).1:=by
       rcases cr0 with⟨z1,_⟩|⟨z1,_⟩
       .rw[z1];show⟨(F8_ hy0).2,AK_ (F8_ hy0).1 (Bt_ _ _)⟩
       .rw[z1];show JA_ hy0
      have snY:=cs1.sn.mono (S2.trans S3);obtain⟨kvy,hdy,kty,sny⟩:=id cs1.sn;have mB:FA_ (hid H d) (hid Y0 d):=λb o e=>bY_ (S2 _ _ (cs1.same _ _ e)) λz=>by rw[z,IG_]at e;cases e
      have ndB:hid Y0 d R0=none:=mH_ nR0;have R0d:R0≠d:=λz=>by rw[z,S2 _ _ hdy]at nR0;cases nR0
      nofun
      show hW_ (λσ Hz=>∃(mm:List Sd)(x:Sd)(c:Addr)(e:Nat×Nat)(sdx:Nat)(y:Str)(e10 e11:Option V),σ=[some (.ref l),some (.int Pp),some (.ref m),some (.ref d),some (.ref D0),some (.int p),some (.int k'),some (.int sd),some (.ref c),some (.ref R0),e10,e11]/\FA_ (hid Y0 d) Hz/\Hz R0=some (.lst ((wiL Tt Pp mm).map V.str))/\Hz c=some (crV e sdx)/\Cr Tt Pp x e sdx/\wi Tt e=some y/\Pa (Gg Tt Pp) (mm++[x])/\(mm++[x])[0]?=some (stC Tt Pp (p,k') sd)/\mm.Nodup/\(mm≠[]->(stC Tt Pp (p,k') sd).1∉So_ O L)/\Sn Hz Tt Pp d λz=>z.1∈So_ O L\/z∈mm\/∃u∈mm,Gg Tt Pp u (tn z))
       (λσ Hz=>match Hz R0 with|some (.lst xs)=>(corners Tt Pp).length+1-xs.length|_=>0) ⟨[],stC Tt Pp (p,k') sd,c0,(p,k'),sd,y0,_,_,rfl,B1,hR0,S3 _ _ hc0,cr0,hy0,pa1 _,rfl,A8_,λh=>absurd rfl h,?_⟩ ?_
      .show snY.imp λz=>⟨.inl,λh=>h.elim id λz=>by simp at z⟩
      rintro σ Hz kb4 hkb4 G4 hG4 ⟨mm,x,c,e,sdx,y,e10,e11,rfl,sz,hRz,hcz,cr,hy,pa,h0,nd,ns,snz⟩;show hG4 ?_;obtain⟨kvz,hdz,ktz,snz'⟩:=id snz;obtain⟨sx,ex⟩:=cr.st;nofun;show⟨_,GT_.t (k:=k3 e sdx) hdz hcz,?_⟩;have mP:(hid Y0 d) D0=some (.lst (ts.map V.ref)):=bY_ (S2 _ _ cs1.hD) D0d;have ktl:=ktz.len;have al2:(Kg_ Tt Pp).length=(corners Tt Pp).length+(corners Tt Pp).length:=by unfold Kg_;rw[Af_,Ab_,Ab_]
      by_cases hs:(Gi_ kvz (k3 e sdx)).isSome=true
      .rw[if_neg (by rw[hs];decide)];show hkb4 _ _ ?_;have seen:=(snz' e sdx y hy sx).mp hs;rw[<-ex]at seen;have wlen:=j8_ pa;have pam:Pa (Gg Tt Pp) mm:=λi a b ha hb=>pa i a b (by rw[cP_ (Nat.lt_of_succ_lt (Ae_.mp hb).1)];show ha) (by rw[cP_ (Ae_.mp hb).1];show hb);nofun;show⟨Az_ _,λp1 n1=>?_⟩;have S5:=FA_.new n1 (o:=HO.lst []);have hp1:=aa_ (H:=Hz) (a:=p1) (o:=HO.lst []);generalize upd Hz p1 (HO.lst [])=Z1 at*;have dle:dep (.lst ((wiL Tt Pp mm).map Dt.str))<=60:=by have:=fL_ (f:=Dt.str) (n:=0) (λ_=>Ai_ _) (wiL Tt Pp mm);rw[dep];lia
       show⟨.lst ((wiL Tt Pp mm).map Dt.str),⟨_,_,rfl,S5 _ _ hRz,b4_ _⟩,.lst [],⟨_,_,rfl,hp1,rfl⟩,decide ((wiL Tt Pp mm).length=0),o0_ _,dle,?_⟩;rw[wlen];by_cases m0:mm=[]
       .subst m0;rw[if_neg s_];have e0:x=stC Tt Pp (p,k') sd:=by simpa using h0
        have inS:x.1∈So_ O L:=by rcases seen with z|z|⟨u,z,_⟩;show z;cases z;cases z
        show hkc3 _ _ ⟨_,_,_,_,_,ts,L,rfl,⟨(mB.trans sz).trans S5,S5 _ _ (sz _ _ mP),cs1.len,λi t l h1 h2=>?_,?_,cs1.cl,cs1.lst,cs1.nd,cs1.sh,cs1.ic⟩,vis,λ_=>?_⟩
        .obtain⟨W,y1,y2,y3⟩:=cs1.tl i t l h1 h2;show⟨W,S5 _ _ (sz _ _ (bY_ (S2 _ _ y1) (λz=>by rw[z,hdy]at y1;cases y1))),S5 _ _ (sz _ _ (bY_ (S2 _ _ y2) (λz=>by rw[z,hdy]at y2;cases y2))),y3⟩
        .show(snz.mono S5).imp λz=>⟨λh=>h.elim id λz=>by simp at z,.inl⟩
        .by_cases sd0:sd=0
         .rw[e0,sd0]at inS;show inS
         .show v1 o_
       .have l0:mm.length≠0:=λz=>m0 (AY_ z);rw[if_pos (by simpa using l0)];have nS:=ns m0;have apt:=cs1.sh.apart pa h0 nS;have nxS:x.1∉So_ O L:=apt mm.length x (by rw[Ap_ (Ai_ _),B1_];rfl)
        have xm:x∈mm:=by
         rcases seen with z|z|⟨u,hu,g⟩
         .show absurd z nxS
         .show z
         .show(qp_ tw pa hu g).elim
        have m00:=nA_ tw pa nd xm;have ri:=qq_ pa m00;have h0m:mm[0]?=some (stC Tt Pp (p,k') sd):=by rw[cP_ o_]at h0;show h0
        have sh:=pam.short tw h0m s0ic nd;show⟨.inl ⟨_,.inl (.inl (S5 _ _ (sz _ _ mP)))⟩,R0,_,rfl,S5 _ _ hRz,λz=>l0 (by rw[<-wlen,z];rfl),o_,λlr us H6 s6 nl hl pu=>⟨d_,λp2 n2=>?_⟩⟩;have S7:=FA_.new n2 (o:=HO.tup [V.non,V.non,V.ref lr]);have hp2:=aa_ (H:=H6) (a:=p2) (o:=HO.tup [V.non,V.non,V.ref lr]);have zD0:=sz _ _ mP;have p2D:p2≠D0:=(ae_ (s6 _ _ (S5 _ _ zD0)) n2).symm;generalize upd H6 p2 (HO.tup [V.non,V.non,V.ref lr])=H7 at*;have s57:=S5.trans (s6.trans S7);have lrD:lr≠D0:=(ae_ (S5 _ _ zD0) nl).symm;have L40:=cs1.few c40;have ln:=cs1.len;have k7:∀{b:Addr}{o:HO},b≠D0->H7 b=some o->upd H7 D0 (HO.lst (ts.map V.ref++[V.ref p2])) b=some o:=λh1 h2=>by rw[af_ h1];show h2
        have hSm:Sn Hz Tt Pp d λz=>z.1∈So_ O (L++[mm]):=snz.imp λz=>by change _↔z.1∈csO O++((L++[mm]).map cs).flatten;rw[g3_,mO_ tw ri];show Aq_.symm
        obtain⟨kv8,d8,k8,i8⟩:=hSm;show⟨_,s57 _ _ zD0,FB_ (by rw[Ab_];lia),hkc3 _ _ ⟨_,_,_,_,_,ts++[p2],L++[mm],rfl,⟨λb o e=>k7 (ae_ e D0m) (s57 _ _ (sz _ _ (mB _ _ e))),by rw[aa_,Ao_];rfl,by rw[Af_,Af_,ln];rfl,λi t l h1 h2=>?_,⟨kv8,k7 D0d.symm (s57 _ _ d8),k8,i8⟩,λl hl=>?_,λl hl=>?_,?_,?_,λc hc=>?_⟩,λe y he z=>?_,λ_=>?_⟩⟩
        .by_cases ci:i<ts.length
         .rw[Al_ ci]at h1;rw[Al_ o_]at h2;obtain⟨W,y1,y2,y3⟩:=cs1.tl i t l h1 h2;have tD:t≠D0:=λz=>by rw[z,cs1.hD]at y1;cases y1
          show⟨W,k7 tD (s57 _ _ (sz _ _ (bY_ (S2 _ _ y1) (λz=>by rw[z,hdy]at y1;cases y1)))),k7 y3 (s57 _ _ (sz _ _ (bY_ (S2 _ _ y2) (λz=>by rw[z,hdy]at y2;cases y2)))),y3⟩
         .rw[Ap_ o_]at h1;rw[Ap_ o_,<-ln]at h2;have e0:i-ts.length=0:=by have:=(Ae_.mp h1).1;simp only[AS_]at this;lia
          rw[e0]at h1 h2;cases h1;cases h2;rw[Jd_ pu];show⟨lr,k7 p2D hp2,k7 lrD (S7 _ _ hl),lrD⟩
        .rcases Aq_.mp hl with h|h
         .show cs1.cl l h
         .rw[Ak_.mp h];show ri
        .rcases Aq_.mp hl with h|h
         .show cs1.lst l h
         .rw[Ak_.mp h];show⟨us,pu⟩
        .change(csO O++((L++[mm]).map cs).flatten).Nodup;rw[g3_];show AM_.mpr ⟨cs1.nd,pam.corners (Gr_ tw) nd,λa ha b hb z=>?_⟩;obtain⟨u,hu,eu⟩:=a3_.mp hb;obtain⟨k9,hk9⟩:=AU_.mp hu;show apt k9 u (by rw[cP_ (Ae_.mp hk9).1];show hk9) (by rw[eu,<-z];show ha)
        .change H3_ Tt Pp (csO O++((L++[mm]).map cs).flatten);rw[g3_];obtain⟨s',x',z1,z2,z3,z4⟩:=ri;show cs1.sh.app (ny_ tw z1 z2 z3 z4)
        .rw[show So_ O (L++[mm])=_ from g3_ O L mm]at hc
         rcases Aq_.mp hc with h|h
         .show cs1.ic c h
         .obtain⟨u,hu,rfl⟩:=a3_.mp h;show pam.allC h0m s0ic u hu
        .rw[show So_ O (L++[mm])=_ from g3_ O L mm];show AN_ _ (vis e y he z)
        .rw[show So_ O (L++[mm])=_ from g3_ O L mm];by_cases sd0:sd=0
         .rw[sd0]at h0m;show AO_ _ (a3_.mpr ⟨_,Am_ h0m,rfl⟩)
         .show AN_ _ (v1 o_)
      .have hs0:(Gi_ kvz (k3 e sdx)).isSome=false:=by simpa using hs
       rw[if_pos hs0];show⟨_,N_ok,?_⟩;have uns:=λz=>hs ((snz' e sdx y hy sx).mpr z);rw[<-ex]at uns;nofun;show⟨_,HF_.t (k:=k3 e sdx) hdz hcz (FB_ o_),?_⟩;have sn1:Sn (upd Hz d (.dT (Gn_ kvz (k3 e sdx) (.bl true)))) Tt Pp d _:=Sn.put (A:=λz=>z.1∈So_ O L\/z∈mm\/∃u∈mm,Gg Tt Pp u (tn z)) ktz snz' hy sx aa_;have sz1:FA_ (hid Y0 d) (upd Hz d (.dT (Gn_ kvz (k3 e sdx) (.bl true)))):=aX_ sz IG_;have k1:∀{b:Addr}{o:HO},b≠d->Hz b=some o->upd Hz d (.dT (Gn_ kvz (k3 e sdx) (.bl true))) b=some o:=λh1 h2=>by rw[af_ h1];show h2
       have cd:c≠d:=λz=>by rw[z,hdz]at hcz;cases hcz
       have hc1:=k1 cd hcz;have hR1:=k1 R0d hRz;generalize upd Hz d (.dT (Gn_ kvz (k3 e sdx) (.bl true)))=Z1 at*;obtain⟨f',mt⟩:=jt_ tw hy;obtain⟨kvm,hkm,hmt⟩:=hmm.mono (mB.trans sz1);obtain⟨q,vq,hq⟩:=hmt e f' mt;obtain⟨_,wf,_,hwf⟩:=id mt;nofun;show⟨_,hc1,_,Gv_,_,hc1,_,GD_,d_,λp1 n1=>?_⟩;have S6:=FA_.new n1 (o:=HO.tup [V.int e.1,V.int e.2]);have hp1:upd Z1 p1 (HO.tup [V.int e.1,V.int e.2]) p1=some (cV e):=aa_;generalize upd Z1 p1 (HO.tup [V.int e.1,V.int e.2])=Z2 at*;have g:GT_ Z2 m (.ref p1) (some (.ref q)):=vq▸GT_.t (k:=cK e) (S6 _ _ hkm) hp1;show⟨_,g,q,rfl,_,SqT.of (S6 _ _ hq),rfl,_,_,rfl,_,_,rfl,rfl,?_⟩;nofun;have hc2:=S6 _ _ hc1;show⟨_,hc2,_,G7_,d_,λp2 n2=>?_⟩;have S7:=FA_.new n2 (o:=HO.tup [V.int f'.1,V.int f'.2,V.int sdx]);have hp2:upd Z2 p2 (HO.tup [V.int f'.1,V.int f'.2,V.int sdx]) p2=some (crV f' sdx):=aa_;generalize upd Z2 p2 (HO.tup [V.int f'.1,V.int f'.2,V.int sdx])=Z3 at*;obtain⟨kv3,hd3,kt3,sn3⟩:=sn1.mono (S6.trans S7);have kl3:=kt3.len;show⟨_,HF_.t (k:=k3 f' sdx) hd3 hp2 (FB_ o_),?_⟩;have sn4:=Sn.put (A:=λz=>(z.1∈So_ O L\/z∈mm\/∃u∈mm,Gg Tt Pp u (tn z))\/z=stC Tt Pp e sdx) (v:=.bl true) kt3 sn3 hwf sx (aa_ (H:=Z3) (a:=d));have sz4:FA_ (hid Y0 d) (upd Z3 d (.dT (Gn_ kv3 (k3 f' sdx) (.bl true)))):=aX_ (sz1.trans (S6.trans S7)) IG_;have k4:∀{b:Addr}{o:HO},b≠d->Z1 b=some o->upd Z3 d (.dT (Gn_ kv3 (k3 f' sdx) (.bl true))) b=some o:=λh1 h2=>by rw[af_ h1];show(S6.trans S7) _ _ h2
       have hc4:=k4 cd hc1;have hR4:=k4 R0d hR1;generalize upd Z3 d (.dT (Gn_ kv3 (k3 f' sdx) (.bl true)))=Z4 at*;nofun;have hT4:=hTm.mono (mB.trans sz4);have hm4:=hmm.mono (mB.trans sz4);have el:=F8_ hy;obtain⟨ar,ea2,at2,ra2⟩:=hT4.at_ el.2;have xm:x∉mm:=λz=>uns (.inr (.inl z));have nd2:(mm++[x]).Nodup:=AM_.mpr ⟨nd,s_,λa ha b hb z=>xm (by rw[<-Ak_.mp hb,<-z];show ha)⟩;have sh:=pa.short tw h0 s0ic nd2;rw[Af_]at sh;have wle:(wiL Tt Pp mm).length<=mm.length:=BP_ _ _;have hwr:=cr.wr hy;have ix:=pa.allC h0 s0ic x s_;obtain⟨b,gb⟩:=nv_ tw ix hwr
       have nS:(stC Tt Pp (p,k') sd).1∉So_ O L:=by
        by_cases m0:mm=[]
        .subst m0;have e0:x=stC Tt Pp (p,k') sd:=by simpa using h0
         rw[<-e0];show λz=>uns (.inl z)
        .show ns m0
       have pab:=pa.snoc gb;have h0b:(mm++[x]++[b])[0]?=some (stC Tt Pp (p,k') sd):=by rw[Al_ s_];show h0
       have nb:b.1∉So_ O L:=cs1.sh.apart pab h0b nS (mm++[x]).length b (by rw[Ap_ (Ai_ _),B1_];rfl);show⟨.inl ⟨_,.inl (.inl hR4)⟩,_,hc4,_,Gv_,_,_,rfl,hT4.top,_,at2,_,hc4,_,GD_,ar,rfl,_,_,rfl,ra2,.str y,ls_ (by rw[Ag_,show(Tt.getD e.1 [])[e.2]?=some y from hy];rfl),_,hR4,FB_ (by rw[Ab_];lia),?_⟩;have sz5:FA_ (hid Y0 d) (upd Z4 R0 (HO.lst ((wiL Tt Pp mm).map V.str++[V.str y]))):=aX_ sz4 ndB;have hR5:upd Z4 R0 (HO.lst ((wiL Tt Pp mm).map V.str++[V.str y])) R0=some (.lst ((wiL Tt Pp (mm++[x])).map V.str)):=by rw[aa_,gO_,Ao_];unfold wiL;rw[BC_,hwr];rfl
       have k5:∀{b:Addr}{o:HO},b≠R0->Z4 b=some o->upd Z4 R0 (HO.lst ((wiL Tt Pp mm).map V.str++[V.str y])) b=some o:=λh1 h2=>by rw[af_ h1];show h2
       have hc5:=k5 (λz=>by rw[z,hR4]at hc4;cases hc4) hc4;obtain⟨kv5,d5,kt5,i5⟩:=sn4;have d5':=k5 R0d.symm d5;generalize upd Z4 R0 (HO.lst ((wiL Tt Pp mm).map V.str++[V.str y]))=Z5 at*
       have sn5:Sn Z5 Tt Pp d λz=>z.1∈So_ O L\/z∈mm++[x]\/∃u∈mm++[x],Gg Tt Pp u (tn z):=Sn.imp (A:=λz=>((z.1∈So_ O L\/z∈mm\/∃u∈mm,Gg Tt Pp u (tn z))\/z=stC Tt Pp e sdx)\/z=stC Tt Pp f' sdx) ⟨kv5,d5',kt5,i5⟩ λz=>by
        have gz:=LP_ cr mt;have q1:Gg Tt Pp x (tn z)↔z=stC Tt Pp f' sdx:=⟨λg=>by have:=(Gr_ tw).one g gz;rw[<-He_ z,this,He_],λg=>by rw[g];show gz⟩;rw[<-ex,<-q1];constructor
        .rintro(((h|h|⟨u,hu,g⟩)|h)|h)
         .show .inl h
         .show .inr (.inl (AN_ _ h))
         .show .inr (.inr ⟨u,AN_ _ hu,g⟩)
         .show .inr (.inl (by simp[h]))
         .show .inr (.inr ⟨x,s_,h⟩)
        .rintro(h|h|⟨u,hu,g⟩)
         .show .inl (.inl (.inl h))
         .rcases Aq_.mp h with h|h
          .show .inl (.inl (.inr (.inl h)))
          .show .inl (.inr (Ak_.mp h))
         .rcases Aq_.mp hu with h|h
          .show .inl (.inl (.inr (.inr ⟨u,h,g⟩)))
          .rw[Ak_.mp h]at g;show .inr g
       nofun;show⟨l,m,c,as_,Tt,Pp,x,b,e,sdx,y,rfl,hTm.mono (mB.trans sz5),hmm.mono (mB.trans sz5),tw,hc5,cr,hy,gb,λq' H' e' sd' x' s' hq' cr' hx'=>?_,λpl H' s' hpl hn ht=>?_⟩
       .show⟨⟨mm++[x],b,q',rfl,sz5.trans s',s' _ _ hR5,e',sd',hq',cr',x',hx',pab,h0b,nd2,λ_=>nS,sn5.mono s'⟩,?_⟩;rw[s' _ _ hR5,hRz];change(corners Tt Pp).length+1-((wiL Tt Pp (mm++[x])).map V.str).length<(corners Tt Pp).length+1-((wiL Tt Pp mm).map V.str).length;have l1:=j8_ pab;have l2:=j8_ pa;simp only[Ab_,Af_,AS_]at sh l1⊢;lia
       .show absurd ?_ nb;have:=allO pl hpl;rw[<-ht]at this;show AN_ _ this
     .rintro σ Hy ⟨e7,e8,e9,e10,e11,ts,L,rfl,cs1,vis,v1⟩;show hkc2 _ _ ⟨_,_,_,_,_,_,ts,L,rfl,cs1,λe y h z=>?_⟩;by_cases c:e.1=p/\e.2=k'
      .rw[show e=(p,k')from Bb_ c.1 c.2];show v1 d_
      .show vis e y h o_
    .rintro σ Hy ⟨e6,e7,e8,e9,e10,e11,ts,L,rfl,cs1,vis⟩;show hkc _ _ ⟨_,_,_,_,_,_,_,ts,L,rfl,cs1,λe y h z=>vis e y h ?_⟩;have:=(F8_ h).1;by_cases c:e.1=p
     .rw[c]at this;show .inr ⟨c,this⟩
     .show .inl o_
   .rintro σ Hy ⟨e5,e6,e7,e8,e9,e10,e11,ts,L,rfl,cs1,vis⟩
    have hPy:TbL Pt Hy:=by
     rcases hPt with h|⟨c',h,h2⟩
     .show .inl (cs1.same _ _ (bY_ h (dn h s_)))
     .show .inr ⟨c',cs1.same _ _ (bY_ h (dn h s_)),cs1.same _ _ (bY_ h2 (dn h2 (by unfold CdO;simp)))⟩
    obtain⟨pz,hz⟩:=hPy.at_;have L40:=cs1.few c40;have ln:=cs1.len;obtain⟨kvy,hdy,_⟩:=cs1.sn;nofun;show⟨hPy,ts,cs1.hD,L.map (λl=>lw (wiL Tt Pp l)),by rw[Ab_,ln],o_,λi t hi=>?_,λH2 D zs uss up2 tb2 nD nD2 zl tl zp srt=>?_⟩
    .have hl:=(Ae_.mp hi).1;obtain⟨W,y1,y2,_⟩:=cs1.tl i t _ hi (Aa_ (show i<L.length by lia));show⟨W,y1,?_⟩;rw[Ad_,Ag_,Aa_ (show i<L.length by lia)];show y2
    .have up:∀{b:Addr}{o:HO},Hy b=some o->b≠Pt->upd H2 D (HO.lst (zs.map V.ref)) b=some o:=λh1 h2=>by rw[af_ (ae_ h1 nD)];show up2 _ _ h2 h1
     have nP:∀{b:Addr}{o:HO},Hy b=some o->(∀z,o≠.tbl z)->b≠Pt:=λh1 h2 z=>by rw[z,hz]at h1;show h2 _ (Au_ h1).symm
     show k D zs uss L _ (λb o h1 h2 h3=>up (cs1.same _ _ (bY_ h3 h1)) h2) (tb2.mono (FA_.new nD2)) ?_ aa_ (λi t hi=>?_) zl cs1.cl cs1.nd (λc=>⟨λic=>?_,cs1.ic c⟩) cs1.lst zp srt L40
     .have Dd:D≠d:=λz=>by rw[z,hdy]at nD;cases nD
      have:=cs1.same.free nD;show(if_neg Dd).symm.trans this
     .obtain⟨W,y1,y2⟩:=tl i t hi;show⟨W,(FA_.new nD2) _ _ y1,(FA_.new nD2) _ _ y2⟩
     .by_cases cw:c.2<rl Tt c.1
      .obtain⟨y,hy⟩:=cO_ (T:=Tt) (e:=c) cw;show vis c y hy ic.1
      .have h2:=ic.2;have cP:c.1<Pp:=B8_.mp λz=>by rw[if_neg z]at h2;lia
       rw[if_pos cP]at h2;have:=allO (2*c.1) o_;unfold stt at this;rw[if_pos o_,show 2*c.1/2=c.1 by lia]at this;show AN_ _ ?_
       rwa[show c=(c.1,rl Tt c.1)from Bb_ rfl (by change c.2=rl Tt c.1;lia)]
theorem qi_(ok:FY_ N)(po:FK_ N)(rfew:∀r∈N.rows,r.2.length<=30)(p:Nat):rl (trn N) p<=30:=by
 unfold rl;by_cases hp:p<(pts N).length
 .obtain⟨r,hr,er⟩:=As_.mp ((d5_ po).mp (Bg_ hp));rw[gM_ (Aa_ hp),<-er,ck_ ok hr];show rfew r hr
 .rw[Ad_,Ba_ (by rw[ba_];lia)];show Az_ _
theorem Sn.imp2{T:List (List Str)}{P:Nat}{B:Sd->Prop}(h:Sn H T P d A)(s:∀z y,wr T P z=some y->(A z↔B z)):Sn H T P d B:=let⟨kvs,h1,h2,h3⟩:=h;⟨kvs,h1,h2,λe sd y he hs=>(h3 e sd y he hs).trans (s _ y ((Lc_ hs).wr he))⟩
structure OS(T:List (List Str))(P i:Nat)(B Hy:Hp)(d F0:Addr)(ts:List Addr)(O:List (Nat×Nat×List Sd)):Prop where
 same:FA_ B Hy
 hF:Hy F0=some (.lst (ts.map V.ref))
 len:ts.length=O.length
 tl:∀(n:Nat) q o,ts[n]?=some q->O[n]?=some o->∃W,Hy q=some (.tup [.int o.1,.int o.2.1,.ref W])/\Hy W=some (.lst ((wiL T P o.2.2).map V.str))/\W≠F0
 sn:Sn Hy T P d λz=>∃pl,pl<i/\∃l j,LnP T P pl l j/\z∈l
 op:OpL T P i O
 few:O.length<=i
theorem OS.mono{T:List (List Str)}{P:Nat}{Hy Hz:Hp}{F0:Addr}(h:OS T P i B Hy d F0 ts O)(s:FA_ Hy Hz):OS T P i B Hz d F0 ts O:=⟨h.same.trans s,s _ _ h.hF,h.len,λn q o h1 h2=>let⟨W,y1,y2,y3⟩:=h.tl n q o h1 h2;⟨W,s _ _ y1,s _ _ y2,y3⟩,h.sn.mono s,h.op,h.few⟩
theorem pS_{l:List Sd}{x:Sd}(h:l.getLast?=some x):l.dropLast++[x]=l:=by
 cases l with
 |nil=>cases h
 |cons a l =>rw[Dw_ s_]at h;cases h;show BQ_ _
abbrev FU_:Stmt:=stN 36
theorem bg_:ZM ["_law_net","_law_points","_law_turns_here","_law_posts","_law_mates_here","_law_seen","_law_found","_law_place","_law_last","_law_crossings","_law_p","_law_k","_law_side"] ["_law_net"] (FC_ FU_):=zM
theorem l3_:LK FU_ "_law_points" .local:=r_
theorem ey_:LK FU_ "_law_turns_here" .cell:=r_
theorem ez_:LK FU_ "_law_posts" .local:=r_
theorem fU_:LK FU_ "_law_mates_here" .local:=r_
theorem fV_:LK FU_ "_law_seen" .local:=r_
theorem fW_:LK FU_ "_law_found" .local:=r_
theorem eA_:LK FU_ "_law_place" .local:=r_
theorem fX_:LK FU_ "_law_last" .local:=r_
theorem fY_:LK FU_ "_law_crossings" .local:=r_
theorem hw_:LK FU_ "_law_p" .local:=r_
theorem hx_:LK FU_ "_law_k" .local:=r_
theorem hy_:LK FU_ "_law_side" .local:=r_
theorem g5_:LK FU_ "_law_closed" .globalImplicit:=r_
theorem e7_:LK FU_ "_law_from_place" .globalImplicit:=r_
theorem hG_:LK FU_ "_law_mates" .globalImplicit:=r_
theorem hH_:LK FU_ "_law_turns" .globalImplicit:=r_
theorem ka_:LK FU_ "len" .globalImplicit:=r_
theorem iT_:LK FU_ "range" .globalImplicit:=r_
def HN_(Pt:Addr):Sp:=λvs H Q _=>∃(v:V)(N:Net Str),vs=[v]/\Rep H v (HG_ N)/\FY_ N/\FK_ N/\TbL Pt H/\∀D (ts:List Addr) (uss:List (List Str)) H' (O:List (Nat×Nat×List Sd)) (L:List (List Sd)),(∀b o,b≠Pt->H b=some o->H' b=some o)->TbL Pt H'->ts.length<=200->H D=none->H' D=some (.lst (ts.map V.ref))->LA (λ_=>none) H' ts (opD (trn N) (Pn N) O++clD uss)->OpL (trn N) (Pn N) (2*Pn N) O->(∀l∈L,ClL (trn N) (Pn N) l)->(csO O++(L.map cs).flatten).Nodup->(∀c,IsC (trn N) (Pn N) c↔c∈csO O++(L.map cs).flatten)->(∀l∈L,∃u,Lst (wiL (trn N) (Pn N) l) u)->uss.Perm (L.map λl=>lw (wiL (trn N) (Pn N) l))->uss.Pairwise (λx y=>GK_ y x=false)->Q (.ref D) H'
theorem o4_{Pt:Addr}(T:Txt K mg)(F:Fn0 K mg "_law_lines" FU_) (JG_:Cal P w K mg base "_law_turns" ["_law_net"] 1 It_) (Hz_:Cal P w K mg base "_law_mates" ["_law_turns_here"] 1 Ht_) (HB_:Cal P w K mg base "_law_from_place" ["_law_turns_here","_law_posts","_law_mates_here","_law_place"] 2 In_) (Jj_:Cal P w K mg base "_law_closed" ["_law_turns_here","_law_posts","_law_mates_here","_law_seen"] 4 (HO_ Pt)):Cal P w K mg base "_law_lines" ["_law_net"] 5 (HN_ Pt):=by
  show aQ_ F bg_.1 λf cdv A outer s0 H vs Q E hr h=>?_;obtain⟨v,N,rfl,rep1,ok,po,hPt,k⟩:=h;obtain⟨few,rfew⟩:=er_ ok;have tw:=ha_ ok po;have PT:Pn N<=(trn N).length:=by rw[ba_];unfold pts;rw[Af_];show Bt_ _ _
  have pl6:Pn N<=6:=ok.pl;have c40:=HX_ ok po;refine'⟨_,?D,?R⟩
  case D =>
   refine' ac_ ?a (ac_ (ai_ (i:=3) bg_.nd rfl ez_ (al_ an_ ka_ T.n_len aG_ (pa_c (FF_ ao_ (zw 0 bg_) ad_) ab_))) ?b)
   case' a=>refine' eL_ (am_ JG_ (hr.mono d_) hH_ (pa_c (zw 0 bg_) ab_)) (aU_ (K:=K) (n:=2) rfl rfl (ak_ ?c (ak_ ?d aT_)))
   case c=>show ah_ (i:=1) bg_.nd rfl l3_
   case d=>show d9_ (i:=2) bg_.nd rfl ey_ rfl
   case' b=>refine' ac_ (ai_ (i:=4) bg_.nd rfl fU_ (am_ Hz_ (hr.mono d_) hG_ (pa_c (zw 2 bg_) ab_))) (ac_ ?e ?f)
   case e=>show ai_ (i:=5) bg_.nd rfl fV_ fd_
   case' f=>refine' ac_ (ai_ (i:=6) bg_.nd rfl fW_ (bh_ ab_)) (ac_ (aP_ AA_ rfl (aE_ iT_ T.n_range (pa_c (FD_ f5_ ad_ (zw 3 bg_)) ab_)) ?g ?h) ?i)
   case g=>show ah_ (i:=7) bg_.nd rfl eA_
   case' h=>refine' ac_ (eL_ ?j (aU_ (K:=K) (n:=2) rfl rfl (ak_ ?k (ak_ ?l aT_)))) ?m
   case' j=>refine' am_ HB_ (hr.mono d_) e7_ (pa_c (zw 2 bg_) (pa_c (zw 3 bg_) (pa_c (zw 4 bg_) (pa_c (zw 7 bg_) ab_))))
   case k=>show ah_ (i:=8) bg_.nd rfl fX_
   case l=>show ah_ (i:=9) bg_.nd rfl fY_
   case' m=>refine' ac_ ?n (ag_ (Gj_ (aw_ Hy_ (zw 7 bg_) (zw 8 bg_) (FW_ _)) ?o aD_))
   case' n=>refine' aP_ AA_ rfl (aL_ (K:=K) rfl (zw 9 bg_)) (aU_ (K:=K) (n:=3) rfl rfl (ak_ ?p (ak_ ?q (ak_ ?r aT_)))) ?s
   case p=>show ah_ (i:=10) bg_.nd rfl hw_
   case q=>show ah_ (i:=11) bg_.nd rfl hx_
   case r=>show ah_ (i:=12) bg_.nd rfl hy_
   case' s=>refine' ag_ (cR_ (un1 hr.units) (zw 5 bg_) (ar_ (pa_c (zw 10 bg_) (pa_c (zw 11 bg_) (pa_c (zw 12 bg_) ab_)))) GG_ rfl)
   case' o=>refine' ag_ (aH_ (Gq_ AB_ AI_ AJ_ aF_ (zw 6 bg_) (pa_c (ar_ (pa_c (zw 7 bg_) (pa_c (zw 8 bg_) (pa_c ?t ab_)))) ab_)))
   case' t=>refine' cc_ (N':=["_law_p","_law_k","_law_side","_law_turns_here"]) (ix:=[none,none,none,some 2]) rfl rfl (cw_ ?u) (aL_ (K:=K) rfl (zw 9 bg_)) (λ_ _ _=>(aU_ (K:=K) (n:=3) rfl rfl (ak_ ?v (ak_ ?w (ak_ ?x aT_))))) (λ_ _ _=>?y) (λ_ _ _=>(FF_ aq_ (FF_ aq_ (pvc 3 rfl rfl) (pv1 0 rfl rfl)) (pv1 1 rfl rfl)))
   case u=>show(by change Hv_ (FC_ FU_) ["_law_net","_law_points","_law_turns_here","_law_posts","_law_mates_here","_law_seen","_law_found","_law_place","_law_last","_law_crossings","_law_p","_law_k","_law_side"] _ _ _=true;decide +kernel)
   case v=>show ah_ (i:=0) (by change List.Nodup (["_law_p","_law_k","_law_side","_law_turns_here"]:List Str);decide +kernel) rfl rfl
   case w=>show ah_ (i:=1) (by change List.Nodup (["_law_p","_law_k","_law_side","_law_turns_here"]:List Str);decide +kernel) rfl rfl
   case x=>show ah_ (i:=2) (by change List.Nodup (["_law_p","_law_k","_law_side","_law_turns_here"]:List Str);decide +kernel) rfl rfl
   case y=>show eC_
   case' i=>refine' ag_ (au_ (FD_ f7_ (zw 6 bg_) (am_ Jj_ (hr.mono d_) g5_ (pa_c (zw 2 bg_) (pa_c (zw 3 bg_) (pa_c (zw 4 bg_) (pa_c (zw 5 bg_) ab_)))))))
  case R =>
   nofun;show⟨v,N,rfl,rep1,ok,po,λt0 pl0 tl0 as0 H2 s2 ht0 hpl0 hT=>?_⟩;obtain⟨pn,p0,p1,p2,rs,ws,rfl,hn,h0,h1,r1,h2,r2⟩:=dr_ rep1;nofun;show⟨_,SqT.of ht0,rfl,_,_,rfl,_,_,rfl,rfl,?_⟩;nofun;show⟨_,s2 _ _ hn,_,Gv_,p0,rfl,_,.inl (s2 _ _ h0),?_⟩;rw[Ab_];nofun;have plen:=nq_ ok po;have rfw:=ok.few;show⟨Str,_,V.str,λx=>.inr x,tl0,as0,trn N,rfl,λ_=>rfl,λa b h=>CE_ h,hT,tw,by rw[ba_];lia,qi_ ok po rfew,λm H3 s3 nm hm=>?_⟩;nofun;intro d nd;have S4:=FA_.new nd (o:=HO.dT []);have hd:=aa_ (H:=H3) (a:=d) (o:=HO.dT []);generalize upd H3 d (HO.dT [])=H4 at*;nofun;show⟨Az_ _,λF0 nF0=>?_⟩;have S5:=FA_.new nF0 (o:=HO.lst []);have hF0:=aa_ (H:=H4) (a:=F0) (o:=HO.lst []);have F0d:F0≠d:=λz=>by rw[z,hd]at nF0;cases nF0
   have nF3:=S4.free nF0;generalize upd H4 F0 (HO.lst [])=H5 at*;have s35:=S4.trans S5;have hT3:=hT.mono s3;have hpp:(N.posts.length:Int)=(Pn N:Int):=rfl;have os0:OS (trn N) (Pn N) 0 H3 H5 d F0 [] []:=⟨s35,hF0,rfl,(λn q o h=>by cases h),⟨[],S5 _ _ hd,⟨A8_,λk hk=>absurd hk AL_⟩,λe sd y _ _=>⟨(λh=>by cases h),λ⟨pl,h,_⟩=>absurd h (Bh_ _)⟩⟩,rfl,Ai_ _⟩;nofun;show⟨.inl d_,o_,o_,?_⟩;rw[show(2*(N.posts.length:Int)).toNat=2*Pn N by lia];show a5_ (λi σ Hy=>∃(e7 e8 e9 e10 e11 e12:Option V)(ts:List Addr)(O:List (Nat×Nat×List Sd)),σ=[some (.ref pn),some (.ref pl0),some (.ref tl0),some (.int (Pn N)),some (.ref m),some (.ref d),some (.ref F0),e7,e8,e9,e10,e11,e12]/\OS (trn N) (Pn N) i H3 Hy d F0 ts O) ⟨_,_,_,_,_,_,[],[],rfl,os0⟩ ?_ ?_
   .rintro i σ Hy hi kc kb hkc hkb G hG ⟨e7,e8,e9,e10,e11,e12,ts,O,rfl,os⟩;show hG ?_;rw[show(0:Int)+(i:Int)=(i:Int) by lia];nofun;show⟨tl0,m,as0,trn N,Pn N,i,rfl,hT3.mono os.same,hm.mono os.same,tw,PT,hi,pl6,Kn_ ok po,λt' F' H7 l xs x j s7 ht' hF' cra ln hx hj ej=>?_⟩;have lp:LnP (trn N) (Pn N) i l j:=⟨ln,hj,x,hx,ej⟩;have os7:=os.mono s7;have ecat:=pS_ hx;have wx:=ln.ed x hx;have xl:xs.length=l.dropLast.length:=BE_ cra;have lsh:=ln.pa.short tw ln.hd (IF_ (T:=trn N) PT hi) (ln.pa.nd_first tw ln.hd (bF_ hi));have dl:l.dropLast.length<=l.length:=by rw[List.length_dropLast];lia
    obtain⟨kv7,hd7,kt7,sn7⟩:=os7.sn;nofun;show⟨_,SqT.of ht',rfl,_,_,rfl,_,_,rfl,rfl,?_⟩;nofun;show⟨⟨_,.inl (.inl hF')⟩,?_⟩;have B7:FA_ (hid H7 d) H7:=j9_;have dn:∀{b:Addr}{o:HO},H7 b=some o->(∀kv,o≠.dT kv)->hid H7 d b=some o:=λh1 h2=>bY_ h1 λz=>by rw[z,hd7]at h1;show h2 _ (Au_ h1).symm
    show c9_ (xs:=xs.map V.ref) (λn σ Hz=>∃(e10 e11 e12:Option V),σ=[some (.ref pn),some (.ref pl0),some (.ref tl0),some (.int (Pn N)),some (.ref m),some (.ref d),some (.ref F0),some (.int i),some (.int j),some (.ref F'),e10,e11,e12]/\FA_ (hid H7 d) Hz/\Sn Hz (trn N) (Pn N) d λz=>(∃pl,pl<i/\∃l j,LnP (trn N) (Pn N) pl l j/\z∈l)\/z∈l.dropLast.take n) ⟨_,_,_,rfl,B7,os7.sn.imp λz=>⟨.inl,λh=>h.elim id λz=>by simp at z⟩⟩ ?_ ?_ ?_
    .rintro n σ Hz hn' ⟨e10,e11,e12,rfl,sz,_⟩;show .inl (.inl (sz _ _ (dn hF' s_)))
    .rintro n x0 σ Hz hx0 kc2 kb2 hkc2 hkb2 G2 hG2 ⟨e10,e11,e12,rfl,sz,snz⟩;show hG2 ?_;have hn':n<xs.length:=by have:=(Ae_.mp hx0).1;rwa[Ab_]at this
     rw[Ag_,Aa_ hn']at hx0;cases hx0;obtain⟨u,hu,e,sd,y,he,cr,hy⟩:=b7_ cra (Aa_ hn');obtain⟨sd1,ex⟩:=cr.st;have he2:=sz _ _ (dn he (by unfold crV;simp));obtain⟨kvz,hdz,ktz,snz'⟩:=id snz;have ktl:=ktz.len;have al2:(Kg_ (trn N) (Pn N)).length=(corners (trn N) (Pn N)).length+(corners (trn N) (Pn N)).length:=by unfold Kg_;rw[Af_,Ab_,Ab_]
     nofun;show⟨_,SqT.of he2,rfl,_,_,rfl,_,_,rfl,_,_,rfl,rfl,d_,λp np=>?_⟩;have Sp:=FA_.new np (o:=HO.tup [V.int e.1,V.int e.2,V.int sd]);have hp:upd Hz p (HO.tup [V.int e.1,V.int e.2,V.int sd]) p=some (crV e sd):=aa_;generalize upd Hz p (HO.tup [V.int e.1,V.int e.2,V.int sd])=Z1 at*;show⟨_,HF_.t (k:=k3 e sd) (Sp _ _ hdz) hp (FB_ o_),hkc2 _ _ ⟨_,_,_,rfl,aX_ (sz.trans Sp) IG_,Sn.imp (Sn.put (A:=λz=>(∃pl,pl<i/\∃l j,LnP (trn N) (Pn N) pl l j/\z∈l)\/z∈l.dropLast.take n) (v:=.bl true) ktz snz' hy sd1 aa_) λz=>?_⟩⟩;rw[BJ_,hu,<-ex];change _↔_\/z∈l.dropLast.take n++[u];rw[Aq_,Ak_,or_assoc]
    .rintro σ Hz ⟨e10,e11,e12,rfl,sz,snz⟩;rw[Ab_,xl,CT_]at snz
     have sn':Sn Hz (trn N) (Pn N) d λz=>∃pl,pl<i+1/\∃l j,LnP (trn N) (Pn N) pl l j/\z∈l:=snz.imp2 λz y hz=>by
      constructor
      .rintro(⟨pl,h1,h2⟩|h)
       .show⟨pl,o_,h2⟩
       .show⟨i,o_,l,j,lp,by rw[<-ecat];show AN_ _ h⟩
      .rintro⟨pl,h1,l',j',h2,h3⟩;by_cases e:pl=i
       .subst e;obtain⟨rfl,_⟩:=h2.one tw lp;rw[<-ecat]at h3
        rcases Aq_.mp h3 with h|h
        .show .inr h
        .rw[Ak_.mp h,wx]at hz;cases hz
       .show .inl ⟨pl,o_,l',j',h2,h3⟩
     have opn:OpL (trn N) (Pn N) (i+1) (if i<j then O++[(i,j,l)]else O):=⟨O,l,j,os.op,lp,rfl⟩;have sm:FA_ H3 Hz:=λb o e=>sz _ _ (bY_ (os7.same _ _ e) (ae_ e nd));have hFz:=sz _ _ (dn os7.hF s_);have tlz:∀(n:Nat) q o,ts[n]?=some q->O[n]?=some o->∃W,Hz q=some (.tup [.int o.1,.int o.2.1,.ref W])/\Hz W=some (.lst ((wiL (trn N) (Pn N) o.2.2).map V.str))/\W≠F0:=λn q o h1 h2=>let⟨W,y1,y2,y3⟩:=os7.tl n q o h1 h2;⟨W,sz _ _ (dn y1 s_),sz _ _ (dn y2 s_),y3⟩;have olen:=os.len;have ofew:=os.few;have hFz':=sz _ _ (dn hF' s_);nofun;by_cases cj:i<j
     .rw[if_pos cj]at opn;rw[if_pos o_];show⟨.inl ⟨_,.inl (.inl hFz)⟩,⟨_,.inl (.inl hFz')⟩,?_⟩;have hTz:=hT3.mono sm;show eO_ (n:=xs.length) (Pσ:=λσ=>∃a b c,σ=[a,b,c,some (.ref tl0)]) (λn vs H=>vs=(wiL (trn N) (Pn N) (l.dropLast.take n)).map V.str) ⟨_,_,_,rfl⟩ o_ (by simp[wiL]) (λi vs H1 H2 s z=>z) (λi vs H1 z=>by rw[z,Ab_];show AG_ (BP_ _ _) (List.length_take_le _ _)) (λj Hj hj sj=>⟨_,.ref (xs[j]),.inl (.inl (sj _ _ hFz')),by simp[hj]⟩) (λHj sj=>⟨_,.inl (.inl (sj _ _ hFz')),s_⟩) ?_ ?_
      .rintro Dc n x0 σ' H8 H8' vs nDc ⟨od,hDc⟩ s8 hn' ⟨rfl,hy'⟩ ⟨a',b',c',rfl⟩ rfl Y R kY kR;have hx0:=hy' _ (.inl (.inl (s8 _ _ hFz')));rw[Ag_,Aa_ hn']at hx0;cases hx0;obtain⟨u,hu,e,sd,y,he,cr,hy⟩:=b7_ cra (Aa_ hn');have el:=F8_ hy;obtain⟨ar,ea,at0,ra⟩:=(hTz.mono s8).at_ el.2;nofun;show⟨_,SqT.of (s8 _ _ (sz _ _ (dn he (λkv z=>by cases z)))),rfl,_,_,rfl,_,_,rfl,_,_,rfl,rfl,?_⟩;show⟨_,_,rfl,(hTz.mono s8).top,_,at0,_,rfl,_,_,rfl,ra,.str y,ls_ (by rw[Ag_,show((trn N).getD e.1 [])[e.2]?=some y from hy];rfl),kY _ _ _ ⟨_,_,_,rfl⟩ (FA_.refl _) ?_⟩;rw[BJ_,hu,gO_,Ao_];change _=_++(wiL (trn N) (Pn N) [u]).map V.str;unfold wiL;rw[BC_,cr.wr hy];rfl
      .rintro Du H8 vs nDu s8 hDu rfl
       rw[xl,CT_,show wiL (trn N) (Pn N) l.dropLast=wiL (trn N) (Pn N) l by
        conv=>rhs;rw[<-ecat]
        rw[gO_];unfold wiL;rw[BC_,wx];simp]at hDu
       show⟨d_,λp np=>?_⟩;have S9:=FA_.new np (o:=HO.tup [V.int i,V.int j,V.ref Du]);have hp9:=aa_ (H:=H8) (a:=p) (o:=HO.tup [V.int i,V.int j,V.ref Du]);have pF:p≠F0:=(ae_ (s8 _ _ hFz) np).symm;have DF:Du≠F0:=(ae_ hFz nDu).symm;generalize upd H8 p (HO.tup [V.int i,V.int j,V.ref Du])=H9 at*;have s89:=s8.trans S9;have k9:∀{b:Addr}{o:HO},b≠F0->H9 b=some o->upd H9 F0 (HO.lst (ts.map V.ref++[V.ref p])) b=some o:=λh1 h2=>by rw[af_ h1];show h2
       obtain⟨kvs,d1,d2⟩:=sn';show⟨_,s89 _ _ hFz,FB_ (by rw[Ab_];lia),hkc _ _ ⟨_,_,_,_,_,_,ts++[p],O++[(i,j,l)],rfl,⟨aX_ (sm.trans s89) nF3,by rw[aa_,Ao_];rfl,by rw[Af_,Af_,olen];rfl,λn q o h1 h2=>?_,⟨kvs,k9 F0d.symm (s89 _ _ d1),d2⟩,opn,by rw[Af_];show BX_ ofew⟩⟩⟩;by_cases ci:n<ts.length
       .rw[Al_ ci]at h1;rw[Al_ o_]at h2;obtain⟨W,y1,y2,y3⟩:=tlz n q o h1 h2;show⟨W,k9 (λz=>by rw[z,hFz]at y1;cases y1) (s89 _ _ y1),k9 y3 (s89 _ _ y2),y3⟩
       .rw[Ap_ o_]at h1;rw[Ap_ o_,<-olen]at h2;have e0:n-ts.length=0:=by have:=(Ae_.mp h1).1;simp only[AS_]at this;lia
        rw[e0]at h1 h2;cases h1;cases h2;show⟨Du,k9 pF hp9,k9 DF (S9 _ _ hDu),DF⟩
     .rw[if_neg cj]at opn;rw[if_neg o_];show hkc _ _ ⟨_,_,_,_,_,_,ts,O,rfl,sm,hFz,olen,tlz,sn',opn,o_⟩
   .rintro σ Hy ⟨e7,e8,e9,e10,e11,e12,ts,O,rfl,os⟩;obtain⟨f1,f2,f3⟩:=os.op.facts tw PT (Ai_ _);have md:m≠d:=λz=>by obtain⟨kv,h,_⟩:=hm;rw[z,nd]at h;cases h
    nofun;show⟨tl0,m,d,as0,trn N,Pn N,O,rfl,hPt.mono ((s2.trans s3).trans os.same),hT3.mono os.same,hm.mono os.same,md,tw,PT,by rw[ba_];lia,λp=>AG_ (qi_ ok po rfew p) d_,c40,os.sn.imp λz=>os.op.seen tw z,f1,f2,f3,λpl h=>os.op.places tw h,λD zs uss L H' keep hP' nD hD tl zl cl nd' all lst pm srt L40=>?_⟩;obtain⟨pz,hz⟩:=hPt.at_;have hP3:=(s2.trans s3) _ _ hz;have F0P:F0≠Pt:=(ae_ hP3 nF3).symm;have olen:=os.len;have ofew:=os.few;obtain⟨oP,hP2⟩:=hP'.at_;have hk:∀b o,b≠Pt->H b=some o->H' b=some o:=λb o h1 h2=>keep b o (ae_ ((s2.trans s3) _ _ h2) nd) h1 (os.same _ _ ((s2.trans s3) _ _ h2));show⟨D,rfl,_,keep _ _ F0d F0P os.hF,_,hD,by rw[Ab_,Ab_];show AH_ (FB_ (by rw[zl,pm.length_eq,Ab_];lia)),λp np=>?_⟩;have Sp:=FA_.new np (o:=HO.lst (ts.map V.ref++zs.map V.ref));have hp:=aa_ (H:=H') (a:=p) (o:=HO.lst (ts.map V.ref++zs.map V.ref));generalize upd H' p (HO.lst (ts.map V.ref++zs.map V.ref))=H9 at*;have ol:(opD (trn N) (Pn N) O).length=O.length:=Ab_ _;have ul:(clD uss).length=uss.length:=Ab_ _;show k p (ts++zs) uss H9 O L (λb o h1 h2=>Sp _ _ (hk b o h1 h2)) (hP'.mono Sp) (by rw[Af_,zl,pm.length_eq,Ab_];lia) ?_ (by rw[hp,Ao_]) (iQ_ (by rw[Af_,Af_,olen,zl,ol,ul]) λn q t hq ht=>?_) os.op cl nd' all lst pm srt
    .cases e:H p with
     |none=>rfl
     |some o =>
      by_cases z:p=Pt
      .rw[z,hP2]at np;cases np
      .rw[hk p o z e]at np;cases np
    .have okp:∀{b:Addr}{o:HO},Hy b=some o->(∀kv,o≠.dT kv)->(∀kv,o≠.tbl kv)->H9 b=some o:=λ{b o} h1 h2 h3=>Sp _ _ (keep b o (λz=>by obtain⟨kv,e,_⟩:=os.sn;rw[z,e]at h1;show h2 _ (Au_ h1).symm) (λz=>by rw[z,os.same _ _ hP3]at h1;show h3 _ (Au_ h1).symm) h1);by_cases c:n<ts.length
     .rw[Al_ c]at hq;rw[Al_ o_]at ht;unfold opD at ht;rw[Ag_]at ht;obtain⟨o,ho,rfl⟩:=AQ_.mp ht;obtain⟨W,y1,y2,_⟩:=os.tl n q o hq ho;show⟨W,okp y1 s_ s_,okp y2 s_ s_,rfl⟩
     .rw[Ap_ o_]at hq;rw[Ap_ o_,ol,<-olen]at ht;unfold clD at ht;rw[Ag_]at ht;obtain⟨u,hu,rfl⟩:=AQ_.mp ht;obtain⟨W,y1,y2⟩:=tl _ q hq;rw[Ad_,hu]at y2;show⟨W,Sp _ _ y1,Sp _ _ y2,rfl⟩
theorem r0_{a b:List Str}(r:Rd a b):lw a=lw b:=by
 by_cases h:∃u,Lst a u
 .show LT_ h r
 .have h2:¬ ∃u,Lst b u:=λ⟨u,k1,k2⟩=>h ⟨u,r.trans k1,λv hv=>k2 v (r.symm.trans hv)⟩;unfold lw;rw[dif_neg h,dif_neg h2]
theorem q3_{T:List (List Str)}{P:Nat}(tw:Tw T){L':List (List Sd)}{us us':List (List Str)}(c1:∀l∈L,ClL T P l)(c2:∀l∈L',ClL T P l)(n1:(csO O++(L.map cs).flatten).Nodup)(n2:(csO O++(L'.map cs).flatten).Nodup)(a1:∀c,IsC T P c↔c∈csO O++(L.map cs).flatten)(a2:∀c,IsC T P c↔c∈csO O++(L'.map cs).flatten)(p1:us.Perm (L.map λl=>lw (wiL T P l)))(p2:us'.Perm (L'.map λl=>lw (wiL T P l)))(s1:us.Pairwise λx y=>GK_ y x=false)(s2:us'.Pairwise λx y=>GK_ y x=false):us=us':=by
 have half:∀{L L':List (List Sd)},(csO O++(L.map cs).flatten).Nodup->(∀c,IsC T P c↔c∈csO O++(L.map cs).flatten)->(∀c,IsC T P c↔c∈csO O++(L'.map cs).flatten)->∀c,c∈(L.map cs).flatten->c∈(L'.map cs).flatten:=λ{L L'} n a b c hc=>by
  rcases Aq_.mp ((b c).mp ((a c).mpr (AO_ _ hc)))with h|h
  .show absurd rfl ((AM_.mp n).2.2 c h c hc)
  .show h
 have:=i8_ (P:=P) tw (f:=λl=>lw (wiL T P l)) (λl m r=>r0_ r) (L:=L) (M:=L') c1 c2 (AM_.mp n1).2.1 (AM_.mp n2).2.1 λc=>⟨half n1 a1 a2 c,half n2 a2 a1 c⟩;show qJ_ (p1.trans (this.trans p2.symm)) s1 s2
structure LF(N:Net Str)(lns:List LD)(O:List (Nat×Nat×List Sd))(L:List (List Sd))(uss:List (List Str)):Prop where
 eq:lns=opD (trn N) (Pn N) O++clD uss
 op:OpL (trn N) (Pn N) (2*Pn N) O
 cl:∀l∈L,ClL (trn N) (Pn N) l
 nd:(csO O++(L.map cs).flatten).Nodup
 all:∀c,IsC (trn N) (Pn N) c↔c∈csO O++(L.map cs).flatten
 ex:∀l∈L,∃u,Lst (wiL (trn N) (Pn N) l) u
 pm:uss.Perm (L.map λl=>lw (wiL (trn N) (Pn N) l))
 srt:uss.Pairwise λx y=>GK_ y x=false
def G3_(N:Net Str)(lns:List LD):Prop:=∃O L uss,LF N lns O L uss
theorem G3_.one(tw:Tw (trn N)){a b:List LD}(h:G3_ N a)(k:G3_ N b):a=b:=by obtain⟨O,L,us,h⟩:=h;obtain⟨O',L',us',k⟩:=k;have eO:=h.op.one tw k.op;subst eO;rw[h.eq,k.eq,q3_ tw h.cl k.cl h.nd k.nd h.all k.all h.pm k.pm h.srt k.srt]
theorem q4_{a b:List Str}(h:Rd a b):a.Perm b:=by
 rcases h with⟨x,y,h1,h2⟩|⟨x,y,h1,h2⟩
 .rw[h1,h2];show Dg_
 .show(List.reverse_perm a).symm.trans ?_;rw[h1,h2];show Dg_
theorem le_{α:Type}{f g:α->List Str}:∀{l:List α},(∀x∈l,(f x).Perm (g x))->(l.map f).flatten.Perm (l.map g).flatten
 |[],_=>.refl _
 |x::l,h=>by rw[Ay_,Ay_,AF_,AF_];show(h x Ar_).append (le_ λy hy=>h y (An_ _ hy))
theorem mI_{α β γ:Type}{f:α->List β}{g:α->List γ}:∀{l:List α},(∀x∈l,(f x).length<=(g x).length)->(l.map f).flatten.length<=(l.map g).flatten.length
 |[],_=>Ai_ _
 |x::l,h=>by rw[Ay_,Ay_,AF_,AF_,Af_,Af_];have:=h x Ar_;have:=mI_ λy hy=>h y (An_ _ hy);lia
abbrev wsL(lns:List LD):List (List Str):=lns.map (·.2)
variable{lns:List LD}
theorem LF.flat{uss:List (List Str)}(h:LF N lns O L uss):(wsL lns).flatten.Perm (((O.map λt=>t.2.2)++L).map (wiL (trn N) (Pn N))).flatten:=by
 have e1:wsL lns=(O.map λt=>wiL (trn N) (Pn N) t.2.2)++uss:=by rw[h.eq];unfold wsL opD clD;rw[Ao_,AW_,AW_];show congrArg _ ((Bs_ λ_ _=>rfl).trans (List.map_id _))
 rw[e1,Ao_,AW_,AT_,AT_];show List.Perm.append_left _ ((dL_ h.pm).trans (le_ λl hl=>?_));obtain⟨u,hu⟩:=h.ex l hl;rw[Jd_ hu];show(q4_ hu.1).symm
theorem G3_.two(tw:Tw (trn N))(h:G3_ N lns):∀x∈(wsL lns).flatten,(wsL lns).flatten.count x=2:=λx hx=>by
 obtain⟨O,L,us,h⟩:=h;have e2:(((O.map λt=>t.2.2)++L).map λm=>m.map (·.1)).flatten=csO O++(L.map cs).flatten:=by rw[Ao_,AT_,AW_];rfl
 have ht:=ln_ (P:=Pn N) tw (L:=(O.map λt=>t.2.2)++L) h.nd (λc=>(h.all c).symm) (.of_eq e2) x λm hm=>by
  rcases Aq_.mp hm with hm|hm
  .obtain⟨t,ht,rfl⟩:=As_.mp hm;obtain⟨z1,z2,z3⟩:=h.op.in_ t ht;show ra_ x z3.ln (bF_ z1)
  .obtain⟨s,y,z1,z2,z3,z4⟩:=h.cl m hm;cases m with
   |nil=>cases z2
   |cons a m =>
    have e:a=s:=by simpa using z2
    subst e;show rb_ x z1 z3 z4
 have hc:=h.flat.count_eq x;rw[ht]at hc;have:=A7_.mpr hx;split at hc <;> lia
theorem G3_.few(c40:(corners (trn N) (Pn N)).length<=40)(h:G3_ N lns):(wsL lns).flatten.length<=40:=by
 obtain⟨O,L,us,h⟩:=h;rw[h.flat.length_eq];show AG_ (mI_ (g:=cs) λl _=>?_) (AG_ ?_ c40)
 .show AG_ (BP_ _ _) (Fu_ (Ab_ _).symm)
 .have e2:(((O.map λt=>t.2.2)++L).map cs).flatten=csO O++(L.map cs).flatten:=by rw[Ao_,AT_,AW_];rfl
  rw[e2];show bS_ h.nd λc hc=>bv_.mpr ((h.all c).mpr hc)
theorem mJ_{l:List Str}:∀{ls:List (List Str)}{i:Nat},ls[i]?=some l->l.length<=ls.flatten.length:=λh=>(CS_ (Am_ h)).length_le
theorem o5_(l:List (Str×End Str)):(F3_ l).length<=l.length:=by
 have key:∀n (l:List (Str×End Str)),l.length=n->(F3_ l).length<=n:=λn=>by
  induction n with
  |zero=>intro l h;rw[AY_ h];show Ai_ _
  |succ n ih =>
   intro l h;obtain⟨m,x,rfl⟩:∃m x,l=m++[x]:=⟨l.dropLast,l.getLast (λe=>by rw[e]at h;cases h),(BQ_ _).symm⟩;rw[dN_];have h2:=ih m (by simpa using h);have h3:=congrArg List.length (dO_ (w:=x.1) (e:=x.2) (a:=F3_ m));rw[Ab_]at h3;split at h3
   .rw[Ab_]at h3;lia
   .rw[Af_,Ab_]at h3;simp at h3;lia
 show key _ l rfl
def dI(e:End Str):Dt:=.int e.2
abbrev FP_:Stmt:=stN 14
theorem bp_:ZL ["net","numbers","number","line","wire"] ["net"] (FC_ FP_):=zL
theorem c3_:LK FP_ "enumerate" .globalImplicit:=r_
theorem dI_:LK FP_ "lines_of" .globalImplicit:=r_
def Ka_:Sp:=λvs H Q _=>∃(v:V)(N:Net Str),vs=[v]/\Rep H v (HG_ N)/\FY_ N/\FK_ N/\∀d S ls H' lns,FA_ H S->G3_ N lns->DE dI S H' d ls (F3_ (GL_ Str.empty 0 (wsL lns)))->H d=none->Q (.ref d) H'
theorem hI_(T:Txt K mg)(F:Fn0 K mg "lines_by_wire" FP_) (IJ_:Cal P w K mg base "lines_of" ["net"] 5 Iu_):Cal P w K mg base "lines_by_wire" ["net"] 6 Ka_:=by
  show aQ_ F bp_.1 λf cdv A outer s H vs Q E hr h=>?_;obtain⟨v,N,rfl,hv,ok,po,k⟩:=h;have c40:=HX_ ok po;refine'⟨_,?D,?R⟩
  case D =>
   refine' ac_ ?a (ac_ ?b (ag_ (au_ (zv 1 bp_))))
   case a=>show zas 1 bp_ hT_
   case' b=>refine' aP_ AA_ rfl (lA_ (K:=K) rfl c3_ T.n_enumerate (pa_c (am_ IJ_ (hr.mono d_) dI_ (pa_c (zv 0 bp_) ab_)) ab_)) (aU_ (K:=K) (n:=2) rfl rfl (ak_ ?c (ak_ ?d aT_))) ?e
   case c=>show zh 2 bp_
   case d=>show zh 3 bp_
   case' e=>refine' ag_ (aP_ AA_ rfl (aL_ (K:=K) rfl (FF_ ao_ (zv 3 bp_) ad_)) ?f ?g)
   case f=>show zh 4 bp_
   case' g=>refine' ag_ (aH_ (Gq_ AB_ AI_ AJ_ aF_ (Gq_ BS_ CQ_ DD_ gc_ (zv 1 bp_) (pa_c (zv 4 bp_) (pa_c (bh_ ab_) ab_))) (pa_c (zv 2 bp_) ab_)))
  case R =>
   nofun;intro d nd;have Sd:=FA_.new nd (o:=HO.dK []);have hd:=aa_ (H:=H) (a:=d) (o:=HO.dK []);generalize upd H d (HO.dK [])=H1 at*;nofun;show⟨_,N,rfl,Rep.mono Sd _ hv,ok,po,λD ts uss H2 O L s2 nD hD la t200 op cl nd' all ex pm srt=>?_⟩;obtain⟨lns,hlns,he⟩:∃lns,G3_ N lns/\lns=opD (trn N) (Pn N) O++clD uss:=⟨_,⟨O,L,uss,rfl,op,cl,nd',all,ex,pm,srt⟩,rfl⟩;rw[<-he]at la;have few:=hlns.few c40;have hd2:=s2 _ _ hd;have hidS:∀{b:Addr}{o:HO},H2 b=some o->(∀kv,o≠.dK kv)->hid H2 d b=some o:=λ{b o} h1 h2=>bY_ h1 λz=>by rw[z,hd2]at h1;show h2 _ (Au_ h1).symm
   have hidH:FA_ (hid H2 d) H2:=λb o h=>by
    unfold hid at h;by_cases z:b=d
    .rw[if_pos z]at h;cases h
    .rwa[if_neg z]at h
   have S0:FA_ H (hid H2 d):=λb o h=>bY_ (s2 _ _ (Sd _ _ h)) λz=>by rw[z,nd]at h;cases h
   show⟨D,rfl,⟨_,.inl (.inl hD)⟩,?_⟩;have tl:ts.length=lns.length:=la.length;show mv_ (xs:=ts.map V.ref) (λi σ Hy=>∃(e2 e3 e4:Option V)(S:Hp)(ls:List Addr),σ=[some v,some (.ref d),e2,e3,e4]/\FA_ (hid H2 d) S/\DE dI S Hy d ls (F3_ (GL_ Str.empty 0 ((wsL lns).take i)))) ⟨_,_,_,_,[],rfl,FA_.refl _,hidH,hd2,rfl,A8_,λz=>(by cases z),λi l kv z=>(by cases z),if_pos rfl,λl z=>(by cases z)⟩ ?_ ?_ ?_
   .rintro i σ Hy hi ⟨e2,e3,e4,S,ls,rfl,sS,de⟩;show .inl (.inl ((sS.trans de.sH) _ _ (hidS hD s_)))
   .rintro i x T0 σ Hy hx kc kb hkc hkb G hG ⟨e2,e3,e4,S,ls,rfl,sS,de⟩ nT;show hG ?_;rw[Ag_]at hx;obtain⟨q,hq,rfl⟩:=AQ_.mp hx;obtain⟨t,ht,W,g1,g2,_⟩:=b7_ la hq;have hw:(wsL lns)[i]?=some t.2:=by unfold wsL;rw[Ag_,ht];rfl
    have de2:=de.mono (FA_.new nT (o:=HO.tup [V.int i,V.ref q]));have hT:=aa_ (H:=Hy) (a:=T0) (o:=HO.tup [V.int i,V.ref q]);generalize upd Hy T0 (HO.tup [V.int i,V.ref q])=H3 at*;have s3:=sS.trans de2.sH;nofun;show⟨_,SqT.of hT,rfl,_,_,rfl,_,_,rfl,rfl,q,rfl,_,s3 _ _ (hidS g1 s_),_,G7_,W,rfl,⟨_,.inl (.inl (s3 _ _ (hidS g2 s_)))⟩,?_⟩;show c9_ (xs:=t.2.map V.str) (λj σ Hz=>∃(e4:Option V)(S:Hp)(ls:List Addr),σ=[some v,some (.ref d),some (.int i),some (.ref q),e4]/\FA_ (hid H2 d) S/\DE dI S Hz d ls (F3_ (GL_ Str.empty 0 ((wsL lns).take i)++(t.2.take j).map λw=>(w,(Str.empty,i))))) ⟨_,S,ls,rfl,sS,by rw[List.take_zero,CO_,By_];show de2⟩ ?_ ?_ ?_
    .rintro j σ Hz hj ⟨e4,S,ls,rfl,sS,de⟩;show .inl (.inl ((sS.trans de.sH) _ _ (hidS g2 s_)))
    .rintro j x σ Hz hx kc2 kb2 hkc2 hkb2 G2 hG2 ⟨e4,S,ls,rfl,sS,de⟩;show hG2 ?_;rw[Ag_]at hx;obtain⟨wr,hwr,rfl⟩:=AQ_.mp hx;have tk:(t.2.take (j+1)).map (λw=>(w,(Str.empty,i)))=(t.2.take j).map (λw=>(w,(Str.empty,i)))++[(wr,(Str.empty,i))]:=by rw[BJ_,hwr];simp
     have ol:(GL_ Str.empty 0 ((wsL lns).take i)++(t.2.take j).map λw=>(w,(Str.empty,i))).length<=40:=by have h1:=congrArg List.length (mz_ Str.empty (wsL lns) (i+1) 0);rw[iy_ Str.empty hw,Af_,Af_,Ab_]at h1;have h2:=congrArg List.length (gg_ Str.empty (wsL lns) 0);rw[Ab_]at h2;rw[Af_,Ab_,Bf_];lia
     have few2:=o5_ (GL_ Str.empty 0 ((wsL lns).take i)++(t.2.take j).map λw=>(w,(Str.empty,i)));have short:∀kv∈F3_ (GL_ Str.empty 0 ((wsL lns).take i)++(t.2.take j).map λw=>(w,(Str.empty,i))),kv.2.length<=40:=λkv hkv=>by rw[(bq_ _ _ rfl).2.1 kv hkv,Ab_];show AG_ (Co_ _ _) ol
     rw[tk,<-Bi_,dN_]at hkc2;generalize F3_ (GL_ Str.empty 0 ((wsL lns).take i)++(t.2.take j).map λw=>(w,(Str.empty,i)))=acc at*;nofun;show⟨.inr (.inr (.inl (.inl ⟨_,de.dict⟩))),Az_ _,λq nq=>?_⟩;have qd:q≠d:=(ae_ de.dict nq).symm;have ql:q∉ls:=λz=>by obtain⟨i0,hi0,ei⟩:=AD_.mp z;obtain⟨vs,z2,_⟩:=de.lst i0 q (acc[i0]'(by rw[<-de.len];show hi0)) (by rw[Aa_ hi0,ei]) (Aa_ _);rw[nq]at z2;cases z2
     have Sq:S q=none:=de.sH.free nq;have de3:=de.mono (FA_.new nq (o:=HO.lst []));have hq4:=aa_ (H:=Hz) (a:=q) (o:=HO.lst []);generalize upd Hz q (HO.lst [])=H4 at*;show⟨_,.inr wr,rfl,de3.dict,by rw[lX_ de3.len];lia,λv2 hv2=>?_,λhnone=>?_⟩
     .have hex:∃kv∈acc,kv.1=wr:=by
       by_cases hc:∃kv∈acc,kv.1=wr
       .show hc
       .rw[hX_ (λkv hkv z=>hc ⟨kv,hkv,z⟩)]at hv2;cases hv2
      obtain⟨i0,es,g1,g2,g3⟩:=dM_ (e:=(Str.empty,i)) hex;obtain⟨lw,l1,l2⟩:=fh_ de3.len g1 g2;rw[l2]at hv2;cases hv2;obtain⟨vs,hvs,hrep⟩:=de3.lst i0 lw _ l1 g1;have vle:vs.length<=40:=by rw[hrep.length,Ab_];show short _ (Am_ g1)
      show⟨.inl ⟨_,.inl (.inl hvs)⟩,lw,rfl,vs,hvs,FB_ o_,hkc2 _ _ ⟨_,S,ls,rfl,sS,?_⟩⟩;rw[g3];show de3.old g1 l1 hvs hrep rfl
     .have hno:∀kv∈acc,kv.1≠wr:=λkv hkv z=>by obtain⟨i0,es,g1,g2,g3⟩:=dM_ (e:=(Str.empty,i)) ⟨kv,hkv,z⟩;obtain⟨lw,l1,l2⟩:=fh_ de3.len g1 g2;rw[l2]at hnone;cases hnone
      have hqd:upd H4 d (HO.dK (Gn_ (GE_ acc ls) (Sum.inr wr) (V.ref q))) q=some (.lst []):=by rw[af_ qd];show hq4
      show⟨.inl ⟨_,.inl (.inl hqd)⟩,[],hqd,FB_ d_,hkc2 _ _ ⟨_,S,ls++[q],rfl,sS,?_⟩⟩;rw[h6_ hno];show de3.new hno hq4 qd ql Sq rfl
    .rintro σ Hz ⟨e4,S,ls,rfl,sS,de⟩;show hkc _ _ ⟨_,_,_,S,ls,rfl,sS,?_⟩;rw[iy_ Str.empty hw,CL_]
     rwa[Bp_ (l:=t.2) (by rw[Ab_];show Ai_ _)]at de
   .rintro σ Hy ⟨e2,e3,e4,S,ls,rfl,sS,de⟩;rw[Bp_ (by rw[Ab_,Ab_];lia)]at de;nofun;show k d S ls Hy lns (S0.trans sS) hlns de nd
def sLt(x y:Str):Prop:=x.cps.toList<y.cps.toList
def KY_(H:Hp)(ls:List (List Str))(v:V):Prop:=(v=.non/\¬ J3_ ls)\/(J3_ ls/\((∃(q:Addr)(k:Nat)(x:Str),v=.ref q/\H q=some (.tup [.int k,.str x])/\k<ls.length/\(ls.getD k []).count x=2)\/∃(q:Addr)(a b:Nat)(x y:Str),v=.ref q/\H q=some (.tup [.int a,.int b,.str x,.str y])/\a<b/\b<ls.length/\sLt x y/\(x∈ls.getD a []/\x∈ls.getD b [])/\y∈ls.getD a []/\y∈ls.getD b []))
theorem mK_:∀{acc:List (Str×List (End Str))}{ls:List Addr},ls.length=acc.length->(GE_ acc ls).map (λq=>q.1)=(acc.map (·.1)).map λn=>(Sum.inr n:Key)
 |[],[],_=>rfl
 |kv::acc,l::ls,h=>by change Sum.inr kv.1::(GE_ acc ls).map _=_;rw[mK_ (by simpa using h)];rfl
theorem q5_{dls:List Addr}{ws:List (List Str)}(de:DE dI S H d dls (F3_ (GL_ Str.empty 0 ws)))(hx:x∈ws.flatten)(h2:ws.flatten.count x=2):∃(l:Addr)(a b:Nat),Gi_ (GE_ (F3_ (GL_ Str.empty 0 ws)) dls) (.inr x)=some (.ref l)/\H l=some (.lst [.int a,.int b])/\nums 0 ws x=[a,b]/\a<=b/\b<ws.length:=by
 obtain⟨k1,k2,k3,k4⟩:=bq_ _ (GL_ Str.empty 0 ws) rfl;rw[<-gg_ Str.empty ws 0]at hx;obtain⟨y,hy,rfl⟩:=As_.mp hx;obtain⟨kv,hkv,ekv⟩:=k3 y hy;obtain⟨i,hi,rfl⟩:=AD_.mp hkv;obtain⟨a,b,hn,ab,bl⟩:=jV_ h2;have e2:=k2 _ hkv;have hm:((F3_ (GL_ Str.empty 0 ws))[i]).2.map (·.2)=[a,b]:=by rw[e2,AW_,<-hn,<-oC_ (z:=Str.empty)];rw[ekv];rfl
 obtain⟨l,l1,l2⟩:=fh_ (w:=y.1) (acc:=F3_ (GL_ Str.empty 0 ws)) (i:=i) (es:=((F3_ (GL_ Str.empty 0 ws))[i]).2) de.len (by rw[Aa_ hi,<-ekv]) λj kv hj hkv' e=>by obtain⟨jl,rfl⟩:=Ae_.mp hkv';have:=(A1_ (l:=(F3_ (GL_ Str.empty 0 ws)).map (·.1)) (i:=j) (j:=i) (by rw[Ab_];show jl) k1).mp (by rw[Ag_,Ag_,hkv',Aa_ hi];show congrArg some (e.trans ekv.symm));lia
 obtain⟨vs,hvs,hr⟩:=de.lst i l _ l1 (Aa_ hi);show⟨l,a,b,l2,?_,hn,ab,bl⟩
 match hq:((F3_ (GL_ Str.empty 0 ws))[i]).2,hm with
 |[e1,e3],hm =>rw[hq]at hr;cases hm;obtain⟨v1,_,rfl,h1,v2,_,rfl,h3,rfl⟩:=hr;cases h1;cases h3;show hvs
abbrev Ge_:Stmt:=stN 15
theorem cN_:ZL ["net","met","numbers","wire","one","other"] ["net"] (FC_ Ge_):=zL
theorem d2_:LK Ge_ "lines_by_wire" .globalImplicit:=r_
theorem g6_:LK Ge_ "sorted" .globalImplicit:=r_
def H7_:Sp:=λvs H Q _=>∃(v:V)(N:Net Str),vs=[v]/\Rep H v (HG_ N)/\FY_ N/\FK_ N/\∀r H' lns,FA_ H H'->G3_ N lns->KY_ H' (wsL lns) r->Q r H'
structure Met(ws:List (List Str))(zs:List Str)(i:Nat)(kb:List (List Key×V)):Prop where
 len:kb.length<=i
 to:∀(j:Nat) x,j<i->zs[j]?=some x->∃a b,nums 0 ws x=[a,b]/\a≠b/\Gi_ kb (cK (a,b))=some (.str x)
 fr:∀a b v,Gi_ kb (cK (a,b))=some v->∃(j:Nat)(x:Str),j<i/\zs[j]?=some x/\v=.str x/\nums 0 ws x=[a,b]
theorem Met.put{ws:List (List Str)}{zs:List Str}(h:Met ws zs i kb){a b:Nat}(hx:zs[i]?=some x)(hn:nums 0 ws x=[a,b])(ne:a≠b)(no:Gi_ kb (cK (a,b))=none):Met ws zs (i+1) (Gn_ kb (cK (a,b)) (.str x)):=by
 show⟨by have:=aJ_ kb (cK (a,b)) (.str x);have:=h.len;lia,λj y hj hy=>?_,λa' b' v hv=>?_⟩
 .by_cases c:j=i
  .subst c;rw[hx]at hy;cases hy;show⟨a,b,hn,ne,by rw[aA_,if_pos rfl]⟩
  .obtain⟨a',b',h1,h2,h3⟩:=h.to j y o_ hy;show⟨a',b',h1,h2,?_⟩;rw[aA_,if_neg (λz=>by rw[z,no]at h3;cases h3)];show h3
 .rw[aA_]at hv;by_cases c:cK (a',b')=cK (a,b)
  .rw[if_pos c]at hv;have e:=oF_ c;cases e;show⟨i,x,o_,hx,(Au_ hv).symm,hn⟩
  .rw[if_neg c]at hv;obtain⟨j,y,h1,h2,h3,h4⟩:=h.fr a' b' v hv;show⟨j,y,o_,h2,h3,h4⟩
theorem ng_(T:Txt K mg)(F:Fn0 K mg "lens_of" Ge_) (Hh_:Cal P w K mg base "lines_by_wire" ["net"] 6 Ka_):Cal P w K mg base "lens_of" ["net"] 7 H7_:=by
  show aQ_ F cN_.1 λf cdv A outer s H vs Q E hr h=>?_;obtain⟨v,N,rfl,hv,ok,po,k⟩:=h;have c40:=HX_ ok po;have tw:=ha_ ok po;refine'⟨_,?D,?R⟩
  case D =>
   refine' ac_ ?a (ac_ (zas 2 cN_ (am_ Hh_ (hr.mono d_) d2_ (pa_c (zv 0 cN_) ab_))) ?b)
   case a=>show zas 1 cN_ fd_
   case' b=>refine' ac_ (aP_ AA_ rfl (aL_ (K:=K) rfl (al_ (lD_ rfl) g6_ T.n_sorted eN_ (pa_c (zv 2 cN_) ab_))) ?c ?d) (ag_ (au_ ?e))
   case c=>show zh 3 cN_
   case' d=>refine' ac_ (zas 4 cN_ (FF_ aq_ (ce_ (un1 hr.units) (zv 2 cN_) (zv 3 cN_)) ad_)) (ac_ (zas 5 cN_ (FF_ aq_ (ce_ (un1 hr.units) (zv 2 cN_) (zv 3 cN_)) ad_)) ?f)
   case' f=>refine' ac_ ?g (ac_ ?h (ag_ (cR_ (un1 hr.units) (zv 1 cN_) (ar_ (pa_c (zv 4 cN_) (pa_c (zv 5 cN_) ab_))) (zv 3 cN_) rfl)))
   case' g=>refine' Gj_ (aw_ GW_ (zv 4 cN_) (zv 5 cN_) (FW_ _)) (ag_ (au_ (ar_ (pa_c (zv 4 cN_) (pa_c (zv 3 cN_) ab_))))) aD_
   case' h=>refine' Gj_ (f2_ (p6_ (un1 hr.units) (ar_ (pa_c (zv 4 cN_) (pa_c (zv 5 cN_) ab_))) (zv 1 cN_))) (ag_ (au_ (ar_ ?i))) aD_
   case' i=>refine' pa_c (zv 4 cN_) (pa_c (zv 5 cN_) (pa_c (ce_ (un1 hr.units) (zv 1 cN_) (ar_ (pa_c (zv 4 cN_) (pa_c (zv 5 cN_) ab_)))) (pa_c (zv 3 cN_) ab_)))
   case e=>show ic_
  case R =>
   nofun;intro m nm;have Sm:=FA_.new nm (o:=HO.dT []);have hm:=aa_ (H:=H) (a:=m) (o:=HO.dT []);generalize upd H m (HO.dT [])=H1 at*;nofun;show⟨_,N,rfl,Rep.mono Sm _ hv,ok,po,λd S dls H2 lns s2 hlns de nd=>?_⟩;nofun;have few:=hlns.few c40;have two:=hlns.two tw;have sH2:=s2.trans de.sH;have hm2:=sH2 _ _ hm;have md:m≠d:=(ae_ hm nd);obtain⟨k1,k2,k3,k4⟩:=bq_ _ (GL_ Str.empty 0 (wsL lns)) rfl;have kl:(F3_ (GL_ Str.empty 0 (wsL lns))).length<=40:=by have h1:=o5_ (GL_ Str.empty 0 (wsL lns));have h2:=congrArg List.length (gg_ Str.empty (wsL lns) 0);rw[Ab_]at h2;lia
   show⟨d,_,(F3_ (GL_ Str.empty 0 (wsL lns))).map (·.1),rfl,de.dict,mK_ de.len,by rw[Ab_];lia,λZ zs nZ pz sz=>?_⟩;have SZ:=FA_.new nZ (o:=HO.lst (zs.map V.str));have hZ:=aa_ (H:=H2) (a:=Z) (o:=HO.lst (zs.map V.str));have de3:=de.mono SZ;have hm3:=SZ _ _ hm2;have sH3:=sH2.trans SZ;generalize upd H2 Z (HO.lst (zs.map V.str))=H3 at*
   have zmem:∀x,x∈zs↔x∈(wsL lns).flatten:=λx=>by
    rw[pz.mem_iff,<-gg_ Str.empty (wsL lns) 0];constructor
    .intro h;obtain⟨kv,hkv,rfl⟩:=As_.mp h;obtain⟨y,hy,e⟩:=k4 kv hkv;show As_.mpr ⟨y,hy,e⟩
    .intro h;obtain⟨y,hy,rfl⟩:=As_.mp h;obtain⟨kv,hkv,e⟩:=k3 y hy;show As_.mpr ⟨kv,hkv,e⟩
   have znd:zs.Nodup:=pz.nodup_iff.mpr k1;have zl:zs.length<=40:=by rw[pz.length_eq,Ab_];show kl
   have hidS:∀{b:Addr}{o:HO},H3 b=some o->(∀kv,o≠.dT kv)->hid H3 m b=some o:=λ{b o} h1 h2=>bY_ h1 λz=>by rw[z,hm3]at h1;show h2 _ (Au_ h1).symm
   have S0:FA_ H (hid H3 m):=λb o h=>bY_ (sH3 _ _ (Sm _ _ h)) λz=>by rw[z,nm]at h;cases h
   have hidH:FA_ (hid H3 m) H3:=λb o h=>by
    unfold hid at h;by_cases z:b=m
    .rw[if_pos z]at h;cases h
    .rwa[if_neg z]at h
   show⟨Z,rfl,⟨_,.inl (.inl hZ)⟩,?_⟩;show c9_ (xs:=zs.map V.str) (λi σ Hy=>∃(e3 e4 e5:Option V)(kb:List (List Key×V)),σ=[some v,some (.ref m),some (.ref d),e3,e4,e5]/\FA_ (hid H3 m) Hy/\Hy m=some (.dT kb)/\Met (wsL lns) zs i kb) ⟨_,_,_,[],rfl,hidH,hm3,Ai_ _,λj x hj=>absurd hj (Bh_ _),λa b v h=>by cases h⟩ ?_ ?_ ?_
   .rintro i σ Hy hi ⟨e3,e4,e5,kb,rfl,sy,hmy,mt⟩;show .inl (.inl (sy _ _ (hidS hZ s_)))
   .rintro i x0 σ Hy hx0 kc kb0 hkc hkb G hG ⟨e3,e4,e5,kb,rfl,sy,hmy,mt⟩;show hG ?_;rw[Ag_]at hx0;obtain⟨x,hx,rfl⟩:=AQ_.mp hx0;have xf:=(zmem x).mp (Am_ hx);have il:=(Ae_.mp hx).1;obtain⟨l,a,b,hv1,hl,hn,ab,bl⟩:=q5_ de3 xf (two x xf);have hdy:=sy _ _ (hidS de3.dict s_);have hly:=sy _ _ (hidS hl s_);nofun;show⟨.ref l,hv1▸GT_.k (k:=.inr x) hdy,l,rfl,_,hly,_,Gv_,?_⟩;nofun;show⟨.ref l,hv1▸GT_.k (k:=.inr x) hdy,l,rfl,_,hly,_,GD_,?_⟩;nofun;show ite2 (λc=>?_) (λc=>?_)
    .have e:a=b:=o_
     subst e;obtain⟨z1,z2⟩:=qO_ hn bl;show⟨d_,λp np=>k _ _ lns ((S0.trans sy).trans (FA_.new np)) hlns (.inr ⟨z1,.inl ⟨p,a,x,rfl,aa_,bl,z2⟩⟩)⟩
    .have lt:a<b:=o_
     nofun;show⟨d_,λp np=>?_⟩;have sp:=FA_.new np (o:=cV (a,b));have hp:=aa_ (H:=Hy) (a:=p) (o:=cV (a,b));have e0:upd Hy p (HO.tup [V.int a,V.int b])=upd Hy p (cV (a,b)):=rfl;rw[e0];generalize upd Hy p (cV (a,b))=Z1 at*;show⟨_,GT_.t (k:=cK (a,b)) (sp _ _ hmy) hp,?_⟩;have sz1:=sy.trans sp;have hm1:=sp _ _ hmy;cases hk:Gi_ kb (cK (a,b))with
     |some u =>
      obtain⟨j,y,hj,hy,rfl,hny⟩:=mt.fr a b u hk;rw[if_pos (show(some (V.str y)).isSome=true from rfl)];show⟨d_,λp1 np1=>?_⟩;have s1:=FA_.new np1 (o:=cV (a,b));have hp1:=aa_ (H:=Z1) (a:=p1) (o:=cV (a,b));have e1:upd Z1 p1 (HO.tup [V.int a,V.int b])=upd Z1 p1 (cV (a,b)):=rfl;rw[e1];generalize upd Z1 p1 (cV (a,b))=Z2 at*;show⟨_,hk▸GT_.t (k:=cK (a,b)) (s1 _ _ hm1) hp1,d_,λp2 np2=>k _ _ lns ((S0.trans sz1).trans (s1.trans (FA_.new np2))) hlns (.inr ⟨?_,.inr ⟨p2,a,b,y,x,rfl,aa_,lt,bl,?_,jW_ hny o_,jW_ hn o_⟩⟩)⟩
      .show qP_ hny hn (λe=>by rw[e]at hy;have:=(A1_ o_ znd).mp (hy.trans hx.symm);lia) lt bl
      .have h1:sLe y x:=by obtain⟨jl,ej⟩:=Ae_.mp hy;obtain⟨il,ei⟩:=Ae_.mp hx;rw[<-ej,<-ei];show BK_.mp sz j i jl il hj
       show Classical.byContradiction λz=>?_;have e:=sLe.antisymm h1 z;rw[e]at hy;have:=(A1_ o_ znd).mp (hy.trans hx.symm);lia
     |none =>rw[if_neg d_];nofun;show⟨d_,λp1 np1=>?_⟩;have s1:=FA_.new np1 (o:=cV (a,b));have hp1:=aa_ (H:=Z1) (a:=p1) (o:=cV (a,b));have e1:upd Z1 p1 (HO.tup [V.int a,V.int b])=upd Z1 p1 (cV (a,b)):=rfl;rw[e1];generalize upd Z1 p1 (cV (a,b))=Z2 at*;have ml:=mt.len;show⟨_,HF_.t (k:=cK (a,b)) (s1 _ _ hm1) hp1 (FB_ o_),hkc _ _ ⟨_,_,_,_,rfl,aX_ (sz1.trans s1) (if_pos rfl),aa_,mt.put hx hn o_ hk⟩⟩
   .rintro σ Hy ⟨e3,e4,e5,kb,rfl,sy,hmy,mt⟩;nofun;show k _ Hy lns (S0.trans sy) hlns (.inl ⟨rfl,qQ_ two λx hx y hy a b hn=>?_⟩);rw[<-zmem]at hx hy;obtain⟨i,hi,ei⟩:=AD_.mp hx;obtain⟨j,hj,ej⟩:=AD_.mp hy;obtain⟨a1,b1,h1,h2,h3⟩:=mt.to i x (by rw[Ab_];show hi) (by rw[Aa_ hi,ei]);obtain⟨a2,b2,g1,g2,g3⟩:=mt.to j y (by rw[Ab_];show hj) (by rw[Aa_ hj,ej]);rw[hn]at h1;cases h1;show⟨h2,λe=>?_⟩;rw[e]at g1;cases g1;rw[h3]at g3;cases g3;rfl
abbrev GQ_:Stmt:=stN 16
theorem nh_:ZL ["net"] ["net"] (FC_ GQ_):=zL
theorem gF_:LK GQ_ "lens_of" .globalImplicit:=r_
def Ja_:Sp:=λvs H Q _=>∃(v:V)(N:Net Str),vs=[v]/\Rep H v (HG_ N)/\FY_ N/\FK_ N/\∀b H' lns,FA_ H H'->G3_ N lns->(b=true↔¬ J3_ (wsL lns))->Q (.bl b) H'
theorem ni_(T:Txt K mg)(F:Fn0 K mg "is_lean" GQ_) (Hi_:Cal P w K mg base "lens_of" ["net"] 7 H7_):Cal P w K mg base "is_lean" ["net"] 8 Ja_:=by
  show aQ_ F nh_.1 λf cdv A outer s H vs Q E hr h=>?_;obtain⟨v,N,rfl,hv,ok,po,k⟩:=h;refine'⟨_,?D,?R⟩
  case D =>refine' ag_ (au_ (rn_ (pY_ (am_ Hi_ (hr.mono d_) gF_ (pa_c (zv 0 nh_) ab_)))))
  case R =>
   nofun;show⟨_,N,rfl,hv,ok,po,λr H' lns s' hl hr=>?_⟩;show k _ H' lns s' hl ?_;rw[C4_]
   rcases hr with⟨rfl,h⟩|⟨h,⟨q,_,_,rfl,_⟩|⟨q,_,_,_,_,rfl,_⟩⟩
   .show⟨λ_=>h,λ_=>rfl⟩
   .show⟨(λz=>nomatch z),λz=>absurd h z⟩
   .show⟨(λz=>nomatch z),λz=>absurd h z⟩
theorem r1_:bootBuiltins "set"=some (.type "set"):=r_
theorem o6_{l:List Str}{t:Str}:inT l (.inr t)=true↔t∈l:=by simp[inT]
theorem Ko_:∀(n:Nat)(l:List Str),l.length=n->(dc l=n↔l.Nodup)
 |0,l,h=>by
  rw[AY_ h];show⟨λ_=>A8_,λ_=>rfl⟩
 |n+1,l,h=>by
  obtain⟨m,x,rfl⟩:∃m x,l=m++[x]:=⟨l.dropLast,l.getLast (λe=>by rw[e]at h;cases h),(BQ_ _).symm⟩;have hm:m.length=n:=by simpa using h
  have ih:=Ko_ n m hm;have le:=Km_ m;rw[oA_,AM_];by_cases c:x∈m
  .rw[if_pos (o6_.mpr c)];show⟨λz=>o_,λz=>absurd rfl (z.2.2 x c x Ar_)⟩
  .rw[if_neg (λz=>c (o6_.mp z))];show⟨λz=>⟨ih.mp o_,s_,λa ha b hb e=>c (by rw[<-Ak_.mp hb,<-e];show ha)⟩,λz=>by have:=ih.mpr z.1;lia⟩
abbrev F2_:Stmt:=stN 38
theorem do_:ZM ["_law_lines_here","_law_k","_law_mine","_law_other"] ["_law_lines_here"] (FC_ F2_):=zM
theorem dK_:LK F2_ "_law_k" .local:=r_
theorem cv_:LK F2_ "_law_mine" .local:=r_
theorem i0_:LK F2_ "_law_other" .cell:=r_
theorem bM_:LK F2_ "len" .globalImplicit:=r_
theorem gG_:LK F2_ "range" .globalImplicit:=r_
theorem hJ_:LK F2_ "set" .globalImplicit:=r_
def J1_:Sp:=λvs H Q _=>∃(D:Addr)(ts:List Addr)(lns:List LD),vs=[.ref D]/\H D=some (.lst (ts.map V.ref))/\LA (λ_=>none) H ts lns/\(wsL lns).flatten.length<=40/\lns.length<=200/\∀b H',FA_ H H'->(b=true↔J3_ (wsL lns))->Q (.bl b) H'
theorem lh_(T:Txt K mg)(F:Fn0 K mg "_law_has_lens" F2_):Cal P w K mg base "_law_has_lens" ["_law_lines_here"] 1 J1_:=by
  show aQ_ F do_.1 λf cdv A outer s H vs Q E hr h=>?_;obtain⟨D,ts,lns,rfl,hD,la,few,l200,k⟩:=h;have tl:ts.length=lns.length:=la.length;refine'⟨_,?D,?R⟩
  case D =>
   refine' ac_ (aP_ AA_ rfl (aE_ gG_ T.n_range (pa_c (al_ an_ bM_ T.n_len aG_ (pa_c (zw 0 do_) ab_)) ab_)) ?a ?b) (ag_ (au_ GG_))
   case a=>show ah_ (i:=1) do_.nd rfl dK_
   case' b=>refine' ac_ (ai_ (i:=2) do_.nd rfl cv_ (FF_ ao_ (FF_ aq_ (zw 0 do_) (zw 1 do_)) ad_)) (ac_ (Gj_ ?c (ag_ (au_ GG_)) aD_) ?d)
   case' c=>refine' aw_ Hy_ (al_ oz_ bM_ T.n_len aG_ (pa_c (cl_ (oB_ rfl) hJ_ T.n_set r1_ (pa_c (zw 2 do_) ab_)) ab_)) (al_ an_ bM_ T.n_len aG_ (pa_c (zw 2 do_) ab_)) (FW_ _)
   case' d=>refine' ag_ (aP_ AA_ rfl (aL_ (K:=K) rfl (bu_ cm_ (zw 0 do_) (bO_ (FD_ aN_ (zw 1 do_) ad_)) ?e)) ?f ?g)
   case e=>show b1_
   case f=>show d9_ (i:=3) do_.nd rfl i0_ rfl
   case' g=>refine' ag_ (Gj_ ?h (ag_ (au_ GG_)) aD_)
   case' h=>refine' aw_ Kp_ (al_ an_ bM_ T.n_len aG_ (pa_c (cc_ (N':=["_law_wire","_law_other"]) (ix:=[none,some 3]) rfl rfl (cw_ ?i) (aL_ (K:=K) rfl (zw 2 do_)) (λ_ _ _=>?j) (λ_ _ _=>(kw_ (aw_ (qf_ (K:=K) rfl) (pv1 0 rfl rfl) (FF_ ao_ (pvc 1 rfl rfl) ad_) (by with_unfolding_all rfl)))) (λ_ _ _=>(pv1 0 rfl rfl))) ab_)) ad_ (FW_ _)
   case i=>show(by change Hv_ (FC_ F2_) ["_law_lines_here","_law_k","_law_mine","_law_other"] _ _ _=true;decide +kernel)
   case j=>show ah_ (i:=0) (by change List.Nodup (["_law_wire","_law_other"]:List Str);decide +kernel) rfl rfl
  case R =>
   nofun;show⟨_,.inl hD,?_⟩;rw[Ab_];show⟨o_,o_,?_⟩;rw[AC_];show a5_ (λi σ Hy=>∃(e1 e2 e3:Option V),σ=[some (.ref D),e1,e2,e3]/\FA_ H Hy/\∀(k':Nat)(l:List Str),k'<i->(wsL lns)[k']?=some l->l.Nodup/\∀(j:Nat)(b:List Str),k'<j->(wsL lns)[j]?=some b->(l.filter (· ∈ b)).length<=1) ⟨_,_,_,rfl,FA_.refl _,λk' l h=>absurd h (Bh_ _)⟩ ?_ ?_
   .rintro i σ Hy hi kc kb hkc hkb G hG ⟨e1,e2,e3,rfl,sy,hno⟩;show hG ?_;rw[B5_];have hi':i<ts.length:=hi;have hq:ts[i]?=some ts[i]:=Aa_ hi';obtain⟨t,ht,W,g1,g2,_⟩:=b7_ la hq;have hw:(wsL lns)[i]?=some t.2:=by unfold wsL;rw[Ag_,ht];rfl
    have t40:t.2.length<=40:=AG_ (mJ_ hw) few;nofun;show⟨_,sy _ _ hD,_,c5_ o_ (by rw[AC_,Ag_,hq];rfl),_,rfl,_,sy _ _ g1,_,G7_,?_⟩;nofun;show⟨W,t.2,rfl,sy _ _ g2,o_,λa na=>?_⟩;have sa:=FA_.new na (o:=SzO a (dc t.2));have ha:=aa_ (H:=Hy) (a:=a) (o:=SzO a (dc t.2));generalize upd Hy a (SzO a (dc t.2))=H1 at*;have s1:=sy.trans sa;show⟨a,_,rfl,ha,?_⟩;show⟨_,.inl (s1 _ _ g2),_,rfl,?_⟩;rw[Ab_];have le:=Km_ t.2;show ite2 (λc=>k true H1 s1 ⟨λ_=>.inl ⟨i,t.2,hw,λnd=>?_⟩,λ_=>rfl⟩) (λc=>?_)
    .have:=(Ko_ _ _ rfl).mpr nd;lia
    .have nd:=(Ko_ _ _ rfl).mp (show dc t.2=t.2.length by lia);nofun;show⟨_,s1 _ _ hD,λp np=>?_⟩;have ce:Hx_ (ts.map V.ref) (some ((i:Int)+1)) none=(ts.drop (i+1)).map V.ref:=by rw[show(i:Int)+1=((i+1:Nat):Int) by lia,ga_ _ _ (by rw[Ab_];lia),Df_]
     rw[ce];have sp:=FA_.new np (o:=HO.lst ((ts.drop (i+1)).map V.ref));have hp:=aa_ (H:=H1) (a:=p) (o:=HO.lst ((ts.drop (i+1)).map V.ref));generalize upd H1 p (HO.lst ((ts.drop (i+1)).map V.ref))=H2 at*;have s2:=s1.trans sp;show⟨⟨_,.inl (.inl hp)⟩,?_⟩;show c9_ (xs:=(ts.drop (i+1)).map V.ref) (λn σ Hz=>∃(e3:Option V),σ=[some (.ref D),some (.int i),some (.ref W),e3]/\FA_ H2 Hz/\∀(j:Nat)(b:List Str),j<n->(wsL lns)[i+1+j]?=some b->(t.2.filter (· ∈ b)).length<=1) ⟨_,rfl,FA_.refl _,λj b h=>absurd h (Bh_ _)⟩ ?_ ?_ ?_
     .rintro n σ Hz hn ⟨e3,rfl,sz,_⟩;show .inl (.inl (sz _ _ hp))
     .rintro n x σ Hz hx kc2 kb2 hkc2 hkb2 G2 hG2 ⟨e3,rfl,sz,hno2⟩;show hG2 ?_;rw[Ag_,List.getElem?_drop]at hx;obtain⟨q,hq2,rfl⟩:=AQ_.mp hx;obtain⟨u,hu,U,u1,u2,_⟩:=b7_ la hq2;have hwu:(wsL lns)[i+1+n]?=some u.2:=by unfold wsL;rw[Ag_,hu];rfl
      have u40:u.2.length<=40:=AG_ (mJ_ hwu) few;have s3:=s2.trans sz;nofun;have hWz:=s3 _ _ g2;show⟨⟨_,.inl (.inl hWz)⟩,?_⟩;show jI_ (n:=t.2.length) (Pσ:=λσ=>∃e,σ=[e,some (.ref q)]) (bs:=λi=>decide (t.2.getD i Str.empty∈u.2)) (val:=λi=>V.str (t.2.getD i Str.empty)) ⟨_,rfl⟩ o_ (λi H' hi s'=>⟨_,V.str (t.2.getD i Str.empty),.inl (.inl (s' _ _ hWz)),by rw[Ag_,Aa_ hi,Ad_,Aa_ hi];rfl⟩) (λH' s'=>⟨_,.inl (.inl (s' _ _ hWz)),by rw[Ab_];show Ai_ _⟩) ?_ ?_
      .rintro D2 i2 x σ' Z1 Z1' hD2 hDo hs2 hi2 ⟨rfl,hy⟩ ⟨e,rfl⟩ Y R kY kR;have hx2:=hy _ (.inl (.inl (hs2 _ _ hWz)));rw[Ag_,Aa_ hi2]at hx2;have ex:x=V.str (t.2.getD i2 Str.empty):=by rw[Ad_,Aa_ hi2];show(Au_ hx2).symm
       subst ex;have s4:=s3.trans hs2;nofun;show⟨_,s4 _ _ u1,_,G7_,U,rfl,u.2.map V.str,.inl (.inl (.inl (s4 _ _ u2))),rfl,gs_ _,?_⟩;rw[iL_];nofun;show ite2 (λh=>kY (AZ_ h) _ _ ⟨_,rfl⟩ (FA_.refl _)) (λh=>kR (AP_ h) _ _ ⟨_,rfl⟩ (FA_.refl _))
      .intro D2 Z1 hD2 sZ hl2
       have el:(((List.range t.2.length).filter λi=>decide (t.2.getD i Str.empty∈u.2)).map λi=>V.str (t.2.getD i Str.empty)).length=(t.2.filter (· ∈ u.2)).length:=by
        have e0:t.2=(List.range t.2.length).map λi=>t.2.getD i Str.empty:=by
         apply Cu_
         .simp
         .intro i h1 h2;simp[h1]
        conv=>rhs;rw[e0]
        rw[C3_,Ab_,Ab_];rfl
       show⟨D2,rfl,_,.inl hl2,?_⟩;rw[el];show ite2 (λc=>k true Z1 (s3.trans sZ) ⟨λ_=>.inr ⟨i,i+1+n,t.2,u.2,o_,hw,hwu,o_⟩,λ_=>rfl⟩) (λc=>hkc2 _ _ ⟨_,rfl,sz.trans sZ,λj b hj hb=>?_⟩);by_cases cj:j=n
       .subst cj;rw[hwu]at hb;cases hb;lia
       .show hno2 j b o_ hb
     .rintro σ Hz ⟨e3,rfl,sz,hno2⟩;show hkc _ _ ⟨_,_,_,rfl,s2.trans sz,λk' l hk' hl=>?_⟩;by_cases c:k'=i
      .subst c;rw[hw]at hl;cases hl;show⟨nd,λj b hj hb=>hno2 (j-(k'+1)) b ?_ (by rw[show k'+1+(j-(k'+1))=j by lia];show hb)⟩;have:=(Ae_.mp hb).1;rw[Ab_]at this;rw[Ab_,BG_];lia
      .show hno k' l o_ hl
   .rintro σ Hy ⟨e1,e2,e3,rfl,sy,hno⟩;nofun;show k false Hy sy ⟨(λz=>nomatch z),λz=>?_⟩;have lt:∀{i:Nat}{l:List Str},(wsL lns)[i]?=some l->i<ts.length:=λh=>by have:=(Ae_.mp h).1;rw[Ab_]at this;lia
    rcases z with⟨i,l,h1,h2⟩|⟨i,j,a,b,h1,h2,h3,h4⟩
    .show absurd (hno i l (lt h1) h1).1 h2
    .have:=(hno i a (lt h2) h2).2 j b h1 h3;lia
theorem o7_{H0:Hp}(la:LA H0 H ts lns){k:Nat}(hk:k<(wsL lns).length):∃q W x y,ts[k]?=some q/\H q=some (.tup [x,y,.ref W])/\H W=some (.lst (((wsL lns).getD k []).map V.str)):=by have tl:ts.length=lns.length:=la.length;rw[Ab_]at hk;obtain⟨t,ht,W,g1,g2,_⟩:=b7_ la (Aa_ (show k<ts.length by lia));show⟨_,W,_,_,Aa_ o_,g1,?_⟩;rw[show(wsL lns).getD k []=t.2 from fB_ (by unfold wsL;rw[Ag_,ht];rfl)];show g2
abbrev F0_:Stmt:=stN 37
theorem fZ_:ZM ["_law_lines_here","_law_lens","_law_numbers","_law_number"] ["_law_lines_here","_law_lens"] (FC_ F0_):=zM
theorem gI_:LK F0_ "_law_numbers" .local:=r_
theorem cM_:LK F0_ "_law_number" .local:=r_
theorem hK_:LK F0_ "bool" .globalImplicit:=r_
theorem iU_:LK F0_ "int" .globalImplicit:=r_
theorem bt_:LK F0_ "isinstance" .globalImplicit:=r_
theorem bC_:LK F0_ "len" .globalImplicit:=r_
theorem g7_:LK F0_ "tuple" .globalImplicit:=r_
def KE_:Sp:=λvs H Q _=>∃(D:Addr)(v:V)(ts:List Addr)(lns:List LD),vs=[.ref D,v]/\H D=some (.lst (ts.map V.ref))/\LA (λ_=>none) H ts lns/\(wsL lns).flatten.length<=40/\lns.length<=200/\J3_ (wsL lns)/\KY_ H (wsL lns) v/\∀H',FA_ H H'->Q (.bl true) H'
theorem l4_(T:Txt K mg)(F:Fn0 K mg "_law_is_lens" F0_):Cal P w K mg base "_law_is_lens" ["_law_lines_here","_law_lens"] 1 KE_:=by
  show aQ_ F fZ_.1 λf cdv A outer s H vs Q E hr h=>?_;obtain⟨D,v,ts,lns,rfl,hD,la,few,l200,has,lv,k⟩:=h;have tl:ts.length=lns.length:=la.length;have wl:(wsL lns).length=lns.length:=Ab_ _
  obtain⟨q,xs,rfl,hq,ns,hns,ns2,nb,fork⟩:∃(q:Addr)(xs:List V),v=.ref q/\H q=some (.tup xs)/\∃ns:List Nat,xs.take (xs.length/2)=ns.map (λn:Nat=>V.int (n:Int))/\ns.length<=2/\(∀n∈ns,n<lns.length)/\((∃(k:Nat)(x:Str),xs=[.int k,.str x]/\k<lns.length/\((wsL lns).getD k []).count x=2)\/∃(a b:Nat)(x y:Str),xs=[.int a,.int b,.str x,.str y]/\a<b/\b<lns.length/\sLt x y/\(x∈(wsL lns).getD a []/\x∈(wsL lns).getD b [])/\y∈(wsL lns).getD a []/\y∈(wsL lns).getD b []):=by
   rw[<-wl]
   rcases lv with⟨_,h⟩|⟨_,⟨q,k,x,rfl,h1,h2,h3⟩|⟨q,a,b,x,y,rfl,h1,h2,h3,h4⟩⟩
   .show absurd has h
   .show⟨q,_,rfl,h1,[k],s_,C1_ _,λn hn=>by rw[Ak_.mp hn];show h2,.inl ⟨k,x,rfl,h2,h3⟩⟩
   .show⟨q,_,rfl,h1,[a,b],s_,Ai_ _,λn hn=>?_,.inr ⟨a,b,x,y,rfl,h2,h3,h4⟩⟩
    rcases Av_.mp hn with rfl|hn
    .lia
    .rw[Ak_.mp hn];show h3
  have xl:xs.length=2\/xs.length=4:=by rcases fork with⟨_,_,rfl,_⟩|⟨_,_,_,_,rfl,_⟩ <;> simp
  refine'⟨_,?D,?R⟩
  case D =>
   refine' ac_ (Gj_ (PW.pt ?a) (ag_ (au_ GG_)) aD_) ?b
   case' a=>refine' HY_ (f4_ (f3_ (al_ f8_ bt_ T.n_isinstance b2_ (pa_c (zw 1 fZ_) (pa_c ?c ab_))))) (i9_ (PW.pt ?d))
   case c=>show ks_ g7_ T.n_tuple po_
   case' d=>refine' mi_ (aw_ K5_ (al_ an_ bC_ T.n_len aG_ (pa_c (zw 1 fZ_) ab_)) ad_ (FW_ _)) (jz_ (aw_ K5_ (al_ an_ bC_ T.n_len aG_ (pa_c (zw 1 fZ_) ab_)) ad_ (FW_ _)))
   case' b=>refine' ac_ (ai_ (i:=2) fZ_.nd rfl gI_ (bu_ p3_ (zw 1 fZ_) ?e (bO_ (FD_ av_ (al_ an_ bC_ T.n_len aG_ (pa_c (zw 1 fZ_) ab_)) ad_)))) ?f
   case e=>show b1_
   case' f=>refine' ac_ ?g (ac_ ?h (ac_ (Gj_ ?i (ag_ (au_ GG_)) aD_) ?j))
   case' g=>refine' aP_ AA_ rfl (lv_ (K:=K) rfl (zw 2 fZ_)) ?k (ag_ (Gj_ ?l (ag_ (au_ GG_)) aD_))
   case k=>show ah_ (i:=3) fZ_.nd rfl cM_
   case' l=>refine' PW.pt (HY_ (f4_ (f3_ (al_ f8_ bt_ T.n_isinstance b2_ (pa_c (zw 3 fZ_) (pa_c ?m ab_))))) ?n)
   case m=>show ks_ iU_ T.n_int mm_
   case' n=>refine' HY_ (f3_ (al_ f8_ bt_ T.n_isinstance b2_ (pa_c (zw 3 fZ_) (pa_c ?o ab_)))) ?p
   case o=>show ks_ hK_ T.n_bool n0_
   case' p=>refine' i9_ (f4_ (ph_ LL_ Hy_ ad_ (zw 3 fZ_) (al_ an_ bC_ T.n_len aG_ (pa_c (zw 0 fZ_) ab_))))
   case' h=>refine' Gj_ (aw_ GW_ (al_ an_ bC_ T.n_len aG_ (pa_c (zw 1 fZ_) ab_)) ad_ (FW_ _)) (ag_ ?q) aD_
   case' q=>refine' au_ (gP_ GW_ (rJ_ (K:=K) rfl AB_ Es_ PySem.F.type_list_count pH_ (FF_ ao_ (FF_ aq_ (zw 0 fZ_) (FF_ ao_ (zw 1 fZ_) ad_)) ad_) (pa_c (FF_ ao_ (zw 1 fZ_) ad_) ab_)) ad_ (FW_ _))
   case' i=>refine' PW.pt (HY_ (f4_ (aw_ Hy_ (FF_ ao_ (zw 1 fZ_) ad_) (FF_ ao_ (zw 1 fZ_) ad_) (FW_ _))) ?r)
   case' r=>refine' i9_ (f4_ (aw_ nO_ (FF_ ao_ (zw 1 fZ_) ad_) (FF_ ao_ (zw 1 fZ_) ad_) (FW_ _)))
   case' j=>refine' ag_ (au_ (gP_ (n1_ (hr.units)) (cc_ (N':=["_law_wire","_law_lines_here","_law_lens"]) (ix:=[none,some 0,some 1]) rfl rfl (cw_ ?s) (lv_ (K:=K) rfl (bu_ p3_ (zw 1 fZ_) (bO_ ad_) ?t)) (λ_ _ _=>?u) (λ_ _ _=>?v) (λ_ _ _=>(pv1 0 rfl rfl))) (bh_ ab_) (FW_ _)))
   case s=>show(by change Hv_ (FC_ F0_) ["_law_lines_here","_law_lens","_law_numbers","_law_number"] _ _ _=true;decide +kernel)
   case t=>show b1_
   case u=>show ah_ (i:=0) (by change List.Nodup (["_law_wire","_law_lines_here","_law_lens"]:List Str);decide +kernel) rfl rfl
   case' v=>refine' kw_ (PW.pt (HY_ (aw_ (gr_ (K:=K) rfl) (pv1 0 rfl rfl) (FF_ ao_ (FF_ aq_ (pvc 1 rfl rfl) (FF_ ao_ (pvc 2 rfl rfl) ad_)) ad_) (by with_unfolding_all rfl)) ?w))
   case' w=>refine' i9_ (aw_ (gr_ (K:=K) rfl) (pv1 0 rfl rfl) (FF_ ao_ (FF_ aq_ (pvc 1 rfl rfl) (FF_ ao_ (pvc 2 rfl rfl) ad_)) ad_) (by with_unfolding_all rfl))
  case R =>
   nofun;show⟨"tuple",by change(match H q with|some (.lst _)=>some "list" | some (.tup _)=>some "tuple" | _=>none)=_;rw[hq],?_⟩;rw[if_neg d_];rename_i kk hkk
   have R:kk [some (V.ref D),some (V.ref q),none,none] H:=by
    nofun;have e2:((xs.length:Int)/2)=((xs.length/2:Nat):Int):=o_
    show⟨xs,.inr hq,d_,r_,?_⟩;rw[e2];show⟨q,xs,rfl,SqT.of hq,λz=>?_,λp np=>?_⟩
    .have:=z.2;rw[HT.sIx_nat]at this;lia
    rw[kA_ _ _ o_,hns];have sp:=FA_.new np (o:=HO.tup (ns.map λn:Nat=>V.int (n:Int)));have hp:=aa_ (H:=H) (a:=p) (o:=HO.tup (ns.map λn:Nat=>V.int (n:Int)));generalize upd H p (HO.tup (ns.map λn:Nat=>V.int (n:Int)))=H1 at*;nofun;show⟨⟨_,SqT.of hp⟩,?_⟩;show oy_ (xs:=ns.map λn:Nat=>V.int (n:Int)) (λi σ Hy=>∃(e3:Option V),σ=[some (.ref D),some (.ref q),some (.ref p),e3]/\Hy=H1) ⟨_,rfl,rfl⟩ ?_ ?_ ?_
    .rintro i σ Hy hi ⟨e3,rfl,rfl⟩;show SqT.of hp
    .rintro i x σ Hy hx kc kb hkc hkb G hG ⟨e3,rfl,rfl⟩;show hG ?_;rw[Ag_]at hx;obtain⟨n,hn,rfl⟩:=AQ_.mp hx;have nlt:=nb n (Am_ hn);nofun;show⟨"int",rfl,?_⟩;rw[if_neg d_];show⟨.inr (.inl rfl),"int",rfl,?_⟩;rw[if_neg d_];unfold JZ_;nofun;rw[if_pos o_];show⟨_,.inl (sp _ _ hD),?_⟩;rw[Ab_,if_neg o_];show hkc _ _ ⟨_,rfl,rfl⟩
    .rintro σ Hy ⟨e3,rfl,rfl⟩;have hqy:=sp _ _ hq;have hDy:=sp _ _ hD;nofun;show⟨xs,.inr hqy,?_⟩
     rcases fork with⟨k0,x,rfl,h1,h2⟩|⟨a,b,x,y,rfl,h1,h2,h3,h4,h5⟩
     .rw[if_pos (by rfl)];obtain⟨u,W,y1,y2,g0,g1,g2⟩:=o7_ la (k:=k0) o_;show⟨_,hqy,_,Gv_,_,k0,rfl,hDy,_,c5_ o_ (by rw[AC_,Ag_,g0];rfl),u,rfl,_,sp _ _ g1,_,G7_,.inl ⟨_,.inl (.inl (sp _ _ g2))⟩,_,hqy,_,GD_,W,_,x,rfl,rfl,sp _ _ g2,?_⟩;rw[h2];show⟨rfl,k _ sp⟩
     .rw[if_neg s_];nofun;show⟨_,hqy,_,Gv_,_,hqy,_,GD_,_,rfl,_,rfl,?_⟩;rw[if_neg o_];show⟨_,hqy,_,G7_,_,hqy,_,c5_ o_ rfl,_,rfl,_,rfl,?_⟩;rw[if_neg (λz=>z h3)];nofun;show⟨q,_,rfl,SqT.of hqy,λz=>?_,λp2 np2=>?_⟩
      .have:=z.1;rw[show(some (2:Int))=some ((2:Nat):Int)from rfl,HT.sIx_nat]at this;simp at this
      rw[show(some (2:Int))=some ((2:Nat):Int)from rfl,ga_ _ _ s_];have s2:=FA_.new np2 (o:=HO.tup ([V.int a,V.int b,V.str x,V.str y].drop 2));have hp2:upd Hy p2 (HO.tup ([V.int a,V.int b,V.str x,V.str y].drop 2)) p2=some (.tup [V.str x,V.str y]):=aa_;generalize upd Hy p2 (HO.tup ([V.int a,V.int b,V.str x,V.str y].drop 2))=H2 at*;show⟨p2,rfl,⟨_,SqT.of hp2⟩,?_⟩;obtain⟨u,W,_,_,g0,g1,g2⟩:=o7_ la (k:=a) o_;obtain⟨u',W',_,_,g0',g1',g2'⟩:=o7_ la (k:=b) o_;have s3:=sp.trans s2;show jI_ (n:=2) (Pσ:=λσ=>∃e,σ=[e,some (.ref D),some (.ref q)]) (bs:=λ_=>false) (val:=λ_=>V.non) ⟨_,rfl⟩ d_ (λi H' hi s'=>⟨_,V.str (if i=0 then x else y),SqT.of (s' _ _ hp2),?_⟩) (λH' s'=>⟨_,SqT.of (s' _ _ hp2),Ai_ _⟩) ?_ ?_
      .rcases(show i=0\/i=1 by lia)with rfl|rfl <;> rfl
      .rintro D2 i v σ' Z1 Z1' hD2 hDo hs2 hi ⟨rfl,hy⟩ ⟨e,rfl⟩ Y R kY kR;have hv:=hy _ (SqT.of (hs2 _ _ hp2))
       obtain⟨z,rfl,za,zb⟩:∃z,v=.str z/\z∈(wsL lns).getD a []/\z∈(wsL lns).getD b []:=by
        rcases(show i=0\/i=1 by lia)with rfl|rfl
        .cases hv;show⟨x,rfl,h4⟩
        .cases hv;show⟨y,rfl,h5⟩
       have s4:=s3.trans hs2;nofun;show⟨_,s4 _ _ hq,_,Gv_,_,_,rfl,s4 _ _ hD,_,c5_ o_ (by rw[AC_,Ag_,g0];rfl),_,rfl,_,s4 _ _ g1,_,G7_,W,rfl,_,.inl (.inl (.inl (s4 _ _ g2))),rfl,gs_ _,?_⟩;rw[iL_,if_neg (by rw[AZ_ za];decide)];show⟨_,s4 _ _ hq,_,GD_,_,_,rfl,s4 _ _ hD,_,c5_ o_ (by rw[AC_,Ag_,g0'];rfl),_,rfl,_,s4 _ _ g1',_,G7_,W',rfl,_,.inl (.inl (.inl (s4 _ _ g2'))),rfl,gs_ _,?_⟩;rw[iL_,if_neg (by rw[AZ_ zb];decide)];show kR rfl _ _ ⟨_,rfl⟩ (FA_.refl _)
      .intro D2 Z1 hD2 sZ hl2;show⟨Az_ _,λp3 np3=>⟨D2,rfl,.lst [],⟨D2,[],rfl,(FA_.new np3) _ _ hl2,rfl⟩,.lst [],⟨p3,[],rfl,aa_,rfl⟩,true,rfl,d_,k _ ((s3.trans sZ).trans (FA_.new np3))⟩⟩
   show⟨xs,.inr hq,rfl,_,rfl,?_⟩
   rcases xl with e|e
   .rw[if_neg (by rw[e];decide)];show R
   .rw[if_pos (by rw[e];decide)];show⟨xs,.inr hq,rfl,_,rfl,?_⟩;rw[if_neg (by rw[e];decide)];show R
mutual
theorem kb_{H H':Hp}{Pt:Addr}{ps:Array Value}(hP:H Pt=some (.tbl ps))(e:∀b o,b≠Pt->H b=some o->H' b=some o):∀{v:V}(d:Dt),Rep H v d->Rep H' v d
 |v,.non,h=>h
 |v,.bl b,h=>h
 |v,.int i,h=>h
 |v,.str x,h=>h
 |v,.tup ds,⟨p,xs,h1,h2,h3⟩=>⟨p,xs,h1,e _ _ (λz=>by rw[z,hP]at h2;cases h2) h2,iV_ hP e ds h3⟩
 |v,.lst ds,⟨p,xs,h1,h2,h3⟩=>⟨p,xs,h1,e _ _ (λz=>by rw[z,hP]at h2;cases h2) h2,iV_ hP e ds h3⟩
theorem iV_{H H':Hp}{Pt:Addr}{ps:Array Value}(hP:H Pt=some (.tbl ps))(e:∀b o,b≠Pt->H b=some o->H' b=some o):∀{xs:List V}(ds:List Dt),Gd_ H xs ds->Gd_ H' xs ds
 |xs,[],h=>h
 |xs,d::ds,⟨x,r,h1,h2,h3⟩=>⟨x,r,h1,kb_ hP e d h2,iV_ hP e ds h3⟩
end
theorem q6_{Pt a:Addr}{ps:Array Value}{xs:List V}(hP:H Pt=some (.tbl ps))(e:∀b o,b≠Pt->H b=some o->H' b=some o)(h:SqL K H a xs):SqL K H' a xs:=by
 rcases h with(h|⟨o,h⟩)|h
 .show .inl (.inl (e _ _ (λz=>by rw[z,hP]at h;cases h) h))
 .show .inl (.inr ⟨o,e _ _ (λz=>by rw[z,hP]at h;cases h) h⟩)
 .show .inr h
theorem LA.mono{H0 H H':Hp}(s:FA_ H H'):∀{ts:List Addr}{ls:List LD},LA H0 H ts ls->LA H0 H' ts ls
 |[],[],_=>.nil
 |q::ts,t::ls,.cons ⟨W,h1,h2,h3⟩ h=>.cons ⟨W,s _ _ h1,s _ _ h2,h3⟩ (LA.mono s h)
theorem KY_.mono(s:FA_ H H'){ls:List (List Str)}(h:KY_ H ls v):KY_ H' ls v:=by
 rcases h with h|⟨h,⟨q,k,x,h1,h2,h3⟩|⟨q,a,b,x,y,h1,h2,h3⟩⟩
 .show .inl h
 .show .inr ⟨h,.inl ⟨q,k,x,h1,s _ _ h2,h3⟩⟩
 .show .inr ⟨h,.inr ⟨q,a,b,x,y,h1,s _ _ h2,h3⟩⟩
abbrev GC_:Stmt:=stN 39
theorem iW_:ZL ["_law_script","_law_k","_law_net","_law_handed","_law_lines_here","_law_lens","_law_due"] ["_law_script"] (FC_ GC_):=zL
theorem hz_:LK GC_ "_law_copy" .globalImplicit:=r_
theorem hL_:LK GC_ "_law_has_lens" .globalImplicit:=r_
theorem iX_:LK GC_ "_law_is_lens" .globalImplicit:=r_
theorem ke_:LK GC_ "_law_lines" .globalImplicit:=r_
theorem i1_:LK GC_ "_law_net_by" .globalImplicit:=r_
theorem l5_:LK GC_ "bool" .globalImplicit:=r_
theorem fv_:LK GC_ "is_lean" .globalImplicit:=r_
theorem g8_:LK GC_ "isinstance" .globalImplicit:=r_
theorem nj_:LK GC_ "len" .globalImplicit:=r_
theorem i2_:LK GC_ "lens_of" .globalImplicit:=r_
theorem nk_:LK GC_ "max" .globalImplicit:=r_
theorem nl_:LK GC_ "min" .globalImplicit:=r_
theorem li_:LK GC_ "range" .globalImplicit:=r_
def Ir_(K:PySem.W.Frag)(Pt:Addr):Sp:=λvs H Q _=>∃(a:Addr)(ns:List Int),vs=[.ref a]/\SqL K H a (ns.map V.int)/\H Pt=some (.tbl #[])/\∀H',Q (.bl true) H'
theorem r2_{Pt:Addr}{f:Addr}{fd:FuncData}(T:Txt K mg)(F:Fun K "law" "law" GC_ f fd) (Jk_:Cal P w K mg base "_law_net_by" ["_law_script","_law_at","_law_most"] 4 (J6_ K)) (Jl_:Cal P w K mg base "_law_copy" ["_law_net"] 1 IP_) (JH_:Cal P w K mg base "_law_lines" ["_law_net"] 5 (HN_ Pt)) (Hi_:Cal P w K mg base "lens_of" ["net"] 7 H7_) (H0_:Cal P w K mg base "is_lean" ["net"] 8 Ja_) (If_:Cal P w K mg base "_law_has_lens" ["_law_lines_here"] 1 J1_) (IK_:Cal P w K mg base "_law_is_lens" ["_law_lines_here","_law_lens"] 1 KE_):Js_ P w K mg base CX0 9 f fd ["_law_script"] (Ir_ K Pt):=by
 show F.ok iW_.1 ?len ?body
 case len=>rintro vs H Q E ⟨a,b,rfl,_⟩;rfl
 case body =>
  intro cdv A outer s H vs Q E hr h;obtain⟨a,ns,rfl,hS,hPt,k⟩:=h;refine'⟨_,?D,?R⟩
  case D =>
   refine' aj_ (aP_ AA_ rfl (oD_ li_ T.n_range (pa_c ad_ (pa_c ?a (pa_c ad_ ab_)))) ?b ?c) (ag_ (au_ GG_))
   case' a=>refine' al_ (nP_ rfl) nk_ T.n_max rD_ (pa_c ad_ (pa_c (al_ (nQ_ rfl) nl_ T.n_min nZ_ (pa_c ad_ (pa_c (al_ eM_ nj_ T.n_len aG_ (pa_c (zv 0 iW_) ab_)) ab_))) ab_))
   case b=>show zh 1 iW_
   case' c=>refine' ac_ (zas 2 iW_ (am_ Jk_ (hr.mono d_) i1_ (pa_c (zv 0 iW_) (pa_c (zv 1 iW_) (pa_c ad_ ab_))))) ?d
   case' d=>refine' ac_ (zas 3 iW_ (am_ Jl_ (hr.mono d_) hz_ (pa_c (zv 2 iW_) ab_))) (ac_ (zas 4 iW_ (am_ JH_ (hr.mono d_) ke_ (pa_c (zv 2 iW_) ab_))) ?e)
   case' e=>refine' ac_ (zas 5 iW_ (am_ Hi_ (hr.mono d_) i2_ (pa_c (zv 3 iW_) ab_))) (ac_ (zas 6 iW_ (am_ If_ (hr.mono d_) hL_ (pa_c (zv 4 iW_) ab_))) ?f)
   case' f=>refine' ac_ ?g (ag_ (Gj_ (PW.pt ?h) (ag_ (au_ GG_)) aD_))
   case' g=>refine' Gj_ (PW.pt (HY_ (PW.pt ?i) ?j)) (ag_ (au_ GG_)) aD_
   case' i=>refine' mi_ (f3_ (zv 6 iW_)) (jz_ (f4_ (f3_ (am_ IK_ (hr.mono d_) iX_ (pa_c (zv 4 iW_) (pa_c (zv 5 iW_) ab_))))))
   case' j=>refine' i9_ (PW.pt (mi_ (f4_ (f3_ (zv 6 iW_))) (jz_ (f2_ (nF_ (zv 5 iW_))))))
   case' h=>refine' HY_ (aw_ GW_ (am_ H0_ (hr.mono d_) fv_ (pa_c (zv 3 iW_) ab_)) (zv 6 iW_) (FW_ _)) (HY_ (aw_ (mo_ (hr.units)) (zv 3 iW_) (am_ Jl_ (hr.mono d_) hz_ (pa_c (zv 2 iW_) ab_)) (FW_ _)) ?k)
   case' k=>refine' i9_ (f4_ (f3_ (al_ f8_ g8_ T.n_isinstance b2_ (pa_c (am_ H0_ (hr.mono d_) fv_ (pa_c (zv 3 iW_) ab_)) (pa_c ?l ab_)))))
   case l=>show ks_ l5_ T.n_bool n0_
  case R =>
   nofun;unfold KQ_;nofun;show⟨_,.inl hS,?_⟩;generalize((ns.map V.int).length:Int)=ln;generalize hj:(if(if ln<12 then ln else 12) > 2 then(if ln<12 then ln else 12)else 2)=j;have j0:2<=j/\j<=12:=by rw[<-hj];split <;> (try split) <;> lia
   show⟨o_,o_,pK_ (λi σ Hy=>∃(e1 e2 e3 e4 e5 e6:Option V),σ=[some (.ref a),e1,e2,e3,e4,e5,e6]/\SqL K Hy a (ns.map V.int)/\TbL Pt Hy) ⟨_,_,_,_,_,_,rfl,hS,.inl hPt⟩ ?_ ?_⟩
   .rintro i σ Hy hi kc kb hkc hkb G hG ⟨e1,e2,e3,e4,e5,e6,rfl,sq,tb⟩;show hG ?_;nofun;show⟨a,ns,_,rfl,o_,sq,λv N H1 s1 rep1 ok po=>?_⟩;have tw:=ha_ ok po;have c40:=HX_ ok po;nofun;show⟨_,N,rfl,rep1,ok,λv1 H2 s2 rep2=>?_⟩;nofun;have tb2:TbL Pt H2:=tb.mono (s1.trans s2);show⟨_,N,rfl,Rep.mono s2 _ rep1,ok,po,tb2,λD ts uss H3 O L keep tb3 t200 nD hD la op cl nd all ex pm srt=>?_⟩;obtain⟨pz,hz⟩:=tb2.at_;have repN:=kb_ hz keep _ (Rep.mono s2 _ rep1);have repH:=kb_ hz keep _ rep2;have sq3:=q6_ hz keep ((s1.trans s2).seq sq);nofun;show⟨_,N,rfl,repH,ok,po,λr H4 lns s4 hl hv=>?_⟩;have el:opD (trn N) (Pn N) O++clD uss=lns:=G3_.one tw ⟨O,L,uss,rfl,op,cl,nd,all,ex,pm,srt⟩ hl;rw[el]at la;have few:=hl.few c40;have tl:ts.length=lns.length:=la.length;nofun;show⟨D,ts,lns,rfl,s4 _ _ hD,la.mono s4,few,o_,λb H5 s5 hb=>?_⟩;have s45:=s4.trans s5;nofun;rename_i kk hkk
    have R:∀H6,FA_ H5 H6->kk [some (V.ref a),some (V.int (4*(i:Int))),some v,some v1,some (V.ref D),some r,some (V.bl b)] H6:=by
     intro H6 s6;have s46:=s45.trans s6;nofun;show⟨_,N,rfl,Rep.mono s46 _ repH,ok,po,λc H7 lns7 s7 hl7 hc=>⟨rfl,?_⟩⟩;have e7:=G3_.one tw hl7 hl;subst e7
     rw[if_neg (λz=>by
      have z':=V.bl.inj z;rw[z']at hc;cases b with
      |true=>show(hc.mp rfl) (hb.mp rfl)
      |false=>show absurd (hc.mpr λy=>absurd (hb.mpr y) d_) d_)]
     show⟨_,N,rfl,Rep.mono (s46.trans s7) _ repN,ok,λv2 H8 s8 rep8=>?_⟩;obtain⟨pu,_,_,_,_,_,eu,_⟩:=dr_ rep2;obtain⟨pv,_,_,_,_,_,ev,_⟩:=dr_ rep8;have s48:=s46.trans (s7.trans s8);show⟨pu,eu,pv,ev,_,Rep.mono s48 _ repH,_,rep8,true,mF_ _,qX_ N,?_⟩;rw[if_neg d_];show⟨_,N,rfl,Rep.mono s48 _ repH,ok,po,λc2 H9 lns9 s9 hl9 hc9=>⟨.inr (.inl rfl),"bool",rfl,?_⟩⟩;rw[if_neg d_];have s49:=s48.trans s9;show hkc _ _ ⟨_,_,_,_,_,_,rfl,s49.seq sq3,tb3.mono s49⟩
    cases b with
    |true =>
     rw[if_pos rfl];show⟨D,r,ts,lns,rfl,s45 _ _ hD,la.mono s45,few,o_,hb.mp rfl,hv.mono s5,λH6 s6=>⟨_,rfl,?_⟩⟩;rw[if_neg d_,if_neg d_];show R _ s6
    |false =>
     rw[if_neg d_,if_pos rfl]
     rcases hv with⟨hr,_⟩|⟨h,_⟩
     .rw[if_neg (λz=>z hr)];show R _ (FA_.refl _)
     .show absurd (hb.mpr h) d_
   .rintro σ Hy ⟨e1,e2,e3,e4,e5,e6,rfl,sq,tb⟩;nofun;show k _
theorem r3_{l:PySem.W.OpenLaw}{fa c Pt:Addr}(hfa:mg "law"=some (.ref fa)) (T:Txt K mg)  (Hp_:Fn0 K mg "ends_by_wire" FT_) (H1_:Fn0 K mg "other_ends" Gf_) (G1_:Fn0 K mg "corners_in_order" FH_) (JI_:Fn0 K mg "turned" Ha_) (GS_:Fn0 K mg "corners_behind_ends" FE_) (Ig_:Fn0 K mg "goings_of" FX_) (Ih_:Fn0 K mg "starts_of" Gc_) (Ii_:Fn0 K mg "gone_from" Gb_) (Ij_:Fn0 K mg "trails_of" FM_) (HC_:Fn0 K mg "least_round" FR_) (IL_:Fn0 K mg "lines_of" F5_) (Hj_:Fn0 K mg "lines_by_wire" FP_) (Jm_:Fn0 K mg "lens_of" Ge_) (Jn_:Fn0 K mg "is_lean" GQ_) (IM_:Fn0 K mg "_law_cell_at" Gz_) (Ln_:Fn0 K mg "_law_big" GJ_) (Lo_:Fn0 K mg "_law_low" G4_) (Ik_:Fn0 K mg "_law_worth_of" Gm_) (JJ_:Fn0 K mg "_law_mates" Gp_) (IN_:Fn0 K mg "_law_corners" F7_) (G8_:Fn0 K mg "_law_corner_behind" FJ_) (Jo_:Fn0 K mg "_law_region" Gk_) (JK_:Fn0 K mg "_law_grown" FV_) (JL_:Fn0 K mg "_law_names" FZ_) (JM_:Fn0 K mg "_law_begun" Gw_) (Jp_:Fn0 K mg "_law_net_by" FI_) (Ku_:Fn0 K mg "_law_copy" G2_) (JN_:Fn0 K mg "_law_turns" Go_) (Jq_:Fn0 K mg "_law_beyond" F6_) (HD_:Fn0 K mg "_law_from_place" FO_) (Hq_:Fn0 K mg "_law_least_round" FS_) (Jr_:FnC K mg "_law_closed" FQ_ c) (JO_:Fn0 K mg "_law_lines" FU_) (Il_:Fn0 K mg "_law_has_lens" F2_) (IO_:Fn0 K mg "_law_is_lens" F0_) (LU_:Fn0 K mg "law" GC_):
  ∃fd:FuncData,(∀(s:Shared)(v:Value),BindsTo s fd ⟨[v],[]⟩ [("_law_script",v)])/\∀base:Heap,K.In base->base.Ns mainGlobals mg->Lam mg base c Pt->Js_ l.prog w K mg base CX0 9 fa fd ["_law_script"] (Ir_ K Pt):=by
 obtain⟨f,fd,FL,m⟩:=LU_;have e:=hfa.symm.trans m;cases e;show⟨fd,?_,λbase _ _ LM=>?_⟩
 .obtain⟨oc,od,kV,doc,pm,an,cdv,ct,osl,rfl,lk,hcd⟩:=FL.ex;show λs v=>.of_eq rfl
 .have c1:=iI_ (P:=l.prog) (w:=w) (base:=base) T Hp_ ;have c2:=j1_ T H1_ c1;have c3:=fM_ (P:=l.prog) (w:=w) (base:=base) T G1_ ;have c4:=oU_ (P:=l.prog) (w:=w) (base:=base) T JI_ ;have c5:=eG_ (P:=l.prog) (w:=w) (base:=base) T GS_ ;have c6:=k5_ T Ig_ c5 c2;have c7:=k6_ (P:=l.prog) (w:=w) (base:=base) T Ih_ ;have c8:=k7_ (P:=l.prog) (w:=w) (base:=base) T Ii_ ;have c9:=lc_ T Ij_ c7 c6 c8 c4 c3;have c10:=iZ_ (P:=l.prog) (w:=w) (base:=base) T HC_ ;have c12:=l2_ T IL_ c9 c10;have c13:=hI_ T Hj_ c12;have c14:=ng_ T Jm_ c13;have c15:=ni_ T Jn_ c14;have d1:=lM_ (P:=l.prog) (w:=w) (base:=base) T IM_ ;have d2:=qS_ T Ln_ d1;have d3:=qT_ (P:=l.prog) (w:=w) (base:=base) T Lo_ ;have d4:=k0_ T Ik_ d3;have d5:=oG_ (P:=l.prog) (w:=w) (base:=base) T JJ_ ;have d6:=lP_ (P:=l.prog) (w:=w) (base:=base) T IN_ ;have d7:=gU_ (P:=l.prog) (w:=w) (base:=base) T G8_ ;have d8:=m9_ T Jo_ d7;have d9:=oH_ T JK_ d6 d5 d8;have d10:=oK_ (P:=l.prog) (w:=w) (base:=base) T JL_ ;have d11:=oN_ (P:=l.prog) (w:=w) (base:=base) T JM_ ;have d12:=na_ T Jp_ d2 d9 d10 d11 d4;have d13:=pP_ (P:=l.prog) (w:=w) (base:=base) T Ku_ ;have d14:=oZ_ (P:=l.prog) (w:=w) (base:=base) T JN_ ;have d15:=ne_ (P:=l.prog) (w:=w) (base:=base) T Jq_ ;have d16:=iY_ T HD_ d15;have d17:=iR_ (P:=l.prog) (w:=w) (base:=base) T Hq_ ;have d18:=nf_ LM T Jr_ d15 d17;have d19:=o4_ T JO_ d14 d5 d16 d18;have d20:=lh_ (P:=l.prog) (w:=w) (base:=base) T Il_ ;have d21:=l4_ (P:=l.prog) (w:=w) (base:=base) T IO_ ;show r2_ T FL d12 d13 d19 c14 c15 d20 d21
theorem walk{l:PySem.W.OpenLaw}{q:Program}{loose:List Str}{XP:(Str->Option Value)->Heap->Prop}{YP:World->Heap->Prop}{d:DefRec}{K:Params->PySem.W.Frag}{c Pt:Addr}(hn:l.most=some 63)(hdf:d.params.defaults=[])
  (hY:∀(w:World)(h:Heap),YP w h->(K w.params).In h/\h.get? Pt=some (PySem.W.tabObj #[])) (hKP:∀p,(K p).lookup Pt=none) (hcd:∀(p:Params)(base:Heap),(K p).In base->PySem.W.CodeHd base c Pt)
  (F:∀(w:World)(mg:Str->Option Value)(fa:Addr)(h:Heap),(K w.params).In h->h.Ns mainGlobals mg->mg d.name=some (.ref fa) ->
   ∃fd:FuncData,(∀(s:Shared)(u:Value),BindsTo s fd ⟨[u],[]⟩ [("_law_script",u)])/\∀base:Heap,(K w.params).In base->base.Ns mainGlobals mg->Lam mg base c Pt->Js_ l.prog w (K w.params) mg base CX0 9 fa fd ["_law_script"] (Ir_ (K w.params) Pt)):
  PySem.W.WalkO q loose XP YP l.row.toRowW d [] (λf vs=>PySem.call f vs):=
 L2.pF_ (n:=63) (k:=9) (x := "_law_script") (sp:=λw=>Ir_ (K w.params) Pt) hn d_ hdf ⟨rfl,d_,d_⟩ hY hKP hcd F (λ_ _ a ns _ hP hS=>⟨a,ns,rfl,hS,hP,λ_=>rfl⟩)
end Rim27
namespace PySem.W.Fast
def tw10115050086132690381:=0
def tw6300900466336939656:=0
def tw16963060023842070437:=0
def tw4196001595323123977:=0
def tw6847418577282014182:=0
def tw5314287701298238840:=0
def tw12665233762256961755:=0
def tw2127472097716103564:=0
def tw15215419139841943607:=0
def tw13635708819191276656:=0
def tw5047397214194524970:=0
def tw4164832876044607313:=0
def tw2881523969947704007:=0
def tw5028409735596512194:=0
def tw10774015098145333824:=0
def tw12442649099522104814:=0
def tw8659659248948154647:=0
def tw5795214539447378147:=0
def tw2942351470466484568:=0
def tw12574072953154261610:=0
def tw4683389980423509560:=0
def tw6874934168707532105:=0
def tw7487726510997715526:=0
def tw11427099169507058827:=0
def tw4528109332692865785:=0
def tw12668391980093992898:=0
def tw4548944617103580199:=0
def tw2989819786281781347:=0
def tw2291153935388511833:=0
def tw8624392560804749528:=0
def tw12293261400665737624:=0
def tw901741972291267963:=0
def tw14622238749485570369:=0
def tw16435280806588811568:=0
def tw569344874289928416:=0
def tw9583392219296298812:=0
def tw13776604396318100561:=0
def tw12520871410944016217:=0
def tw1973453122089568249:=0
def tw10473804914790076683:=0
def tw9634043689279548460:=0
def tw15687138471525250828:=0
def tw8586617458410156781:=0
def tw11310520518194479891:=0
def tw10774291749100512248:=0
def tw14832061451770225233:=0
def tw10713030425658861067:=0
def tw16980047144120404927:=0
def tw7212248992332173898:=0
def tw15486206817267410689:=0
def tw2365234138331651798:=0
def tw13594094551710950301:=0
def tw13760911293727721885:=0
def tw14728449807318919899:=0
def tw454750006801100617:=0
def tw4393830485202762147:=0
def tw18160944585787177918:=0
def tw17439115124901895025:=0
def tw1306454126088360718:=0
def tw10298790887145557663:=0
def tw431728053383365149:=0
def tw12146761732779634567:=0
def tw3893065050902190976:=0
def tw1578108534847861844:=0
def tw16855970303869484630:=0
def tw11803034135315249327:=0
def tw5010715781630651295:=0
def tw7048907858614764697:=0
def tw14127240719250830080:=0
def tw6652500283159831167:=0
def tw1898906061227372261:=0
def tw11023396003690775334:=0
def tw13153822965338255442:=0
def tw1245283696383595622:=0
def tw6682996397148231:=0
def tw13732171454854418967:=0
def tw6017549718637588539:=0
def tw13953112076205755558:=0
def tw14775117594033439151:=0
def tw7005519381210090949:=0
def tw13713008913903796872:=0
def tw8281256630199847666:=0
def tw1111468610299168789:=0
def tw2470807465012502543:=0
def tw7924917585194779212:=0
def tw13189616598289449162:=0
def tw1118458035930034858:=0
def tw10031478623288127258:=0
def tw7395946273337467452:=0
def tw12567989957868451681:=0
def tw16568986528582802797:=0
def tw7650593711382681926:=0
def tw16591607050142561132:=0
def tw12994331382614249766:=0
def tw2324741311909033509:=0
def tw13354706336058316705:=0
def tw10427925280604198490:=0
def tw10788937538757178275:=0
def tw6589933195532564288:=0
def tw15045232322009808214:=0
def tw12350824476270890850:=0
def tw1347403330219761312:=0
def tw11099524236652244618:=0
def tw13717380399653882809:=0
def tw3563461829253740009:=0
def tw17266729506941116752:=0
def tw4527630239056570099:=0
def tw16492007177966686951:=0
def tw11107613220171533653:=0
def tw14171854272586560184:=0
def tw470284760362032182:=0
def tw10299521404170280349:=0
def tw1145868797545097507:=0
def tw12650941735761183276:=0
def tw13697160576785347006:=0
def tw11178058211623160550:=0
def tw15146708949302141404:=0
def tw15356180899845570231:=0
def tw15687418525496122468:=0
def tw17886868920483554359:=0
def tw11448423117644116702:=0
def tw11228411653368184472:=0
def tw10157451540324169624:=0
def tw7688066271566705486:=0
def tw12893859670543261386:=0
def tw12889197361457440876:=0
def tw17096218339808944356:=0
def tw10041673729766579698:=0
def tw2427021390230762369:=0
def tw10669326624647565163:=0
def tw7202749713194936243:=0
def tw4751259363165896619:=0
def tw12076651713423246886:=0
def tw16928155704768772281:=0
def tw14993627451756585252:=0
def tw9393216746092972888:=0
def tw17172328989242402247:=0
def tw2716097487429307980:=0
def tw14470731980849732294:=0
def tw3808870941167501962:=0
def tw3493529900127742100:=0
def tw12944488069091170678:=0
def tw11679500779270447253:=0
def tw9179128624325033717:=0
def tw10274979671621950485:=0
def tw4430794722597129165:=0
def tw7409672246199866583:=0
def tw10906671833954453658:=0
def tw16679119200562078064:=0
def tw12974202778095288899:=0
def tw3726763390433169251:=0
def tw7673787061317719243:=0
def tw6310374236168340768:=0
def tw13176453290623465568:=0
def tw15331221508712007218:=0
def tw5423524926687869031:=0
def tw17945532475707527082:=0
def tw7314262196423428831:=0
def tw1986686066073602300:=0
def tw7484886957725349214:=0
def tw14765548661544227094:=0
def tw581840982912154312:=0
def tw15781988994406799849:=0
def tw16339381965070049101:=0
def tw6176894005746214175:=0
def tw6039741338152391369:=0
def tw8754262337233989394:=0
def tw6729295333597403467:=0
def tw2061471363217261856:=0
def tw16403760600058918789:=0
def tw6755253440718133590:=0
def tw12919758713012976267:=0
def tw17078180324721467450:=0
def tw6052851925394148006:=0
def tw7939422114875026965:=0
def tw12697448611899260521:=0
def tw15139742570769862055:=0
def tw11843743872248217563:=0
def tw12937456549959973221:=0
def tw4662111970813671465:=0
def tw13992064842566610933:=0
def tw13520436075499783081:=0
def tw9990414554502353441:=0
def tw4097958986950307269:=0
def tw15140286822850659002:=0
def tw12914285724765827562:=0
def tw7709546236045303056:=0
def tw11139668610822091567:=0
def tw3742173410899313081:=0
def tw14993467269154327965:=0
def tw4146267367072084952:=0
def tw7159052199925247444:=0
def tw9641297682087187026:=0
def tw17731519276496372239:=0
def tw11130853139445434342:=0
def tw7069245068934591274:=0
def tw10543245516668221779:=0
def tw1165453280690405648:=0
def tw1829085413995356383:=0
def tw14370443935246859961:=0
def tw11769785580052092953:=0
def tw10163636357224213438:=0
def tw2020924770431583619:=0
def tw2513712675564081793:=0
def tw3536066160797831624:=0
def tw16305707889515303071:=0
def tw10076719944562976026:=0
def tw16979798857723182189:=0
def tw9724331545513073165:=0
def tw9386905716472103128:=0
end PySem.W.Fast
open PySem PySem.W PyProof.Rows
set_option maxRecDepth 100000 in
set_option maxHeartbeats 0 in
theorem PySem.Challenge.cw_rimread_k27_lenses_holds : PySem.Challenge.rw_rimread_k27_lenses.Holds := by
 w_on; o_law; k_head; (case hw=>w_witness2)
 k_fill
 refine Rim27.walk (l:=PySem.Challenge.rw_rimread_k27_lenses) (c:=217) (Pt:=213) rfl rfl (fun w h Y=>⟨PySem.W.km_in_of Y,PySem.W.km_tabs_of Y 213 (List.mem_singleton.mpr rfl)⟩) (fun p=>rfl) (fun p base h=>⟨_,_,_,_,_,_,_,_,_,h 217 _ rfl,rfl,rfl,rfl,rfl,rfl,rfl,rfl,rfl,by decide⟩) ?F
 case F =>
  intro w mg fa h KX G hmg;refine Rim27.r3_  hmg ⟨?n_abs,?n_max,?n_min,?n_ValueError,?n_dict,?n_len,?n_range,?n_list,?n_isinstance,?n_int,?n_bool,?n_tuple,?n_str,?n_enumerate,?n_sorted,?n_set,?n_reversed⟩ ?f_ends_by_wire ?f_other_ends ?f_corners_in_order ?f_turned ?f_corners_behind_ends ?f_goings_of ?f_starts_of ?f_gone_from ?f_trails_of ?f_least_round ?f_lines_of ?f_lines_by_wire ?f_lens_of ?f_is_lean ?f_Lcell_at ?f_Lbig ?f_Llow ?f_Lworth_of ?f_Lmates ?f_Lcorners ?f_Lcorner_behind ?f_Lregion ?f_Lgrown ?f_Lnames ?f_Lbegun ?f_Lnet_by ?f_Lcopy ?f_Lturns ?f_Lbeyond ?f_Lfrom_place ?f_Lleast_round ?f_Lclosed ?f_Llines ?f_Lhas_lens ?f_Lis_lens ?f_law
  case n_abs | n_max | n_min | n_ValueError | n_dict | n_len | n_range | n_list | n_isinstance | n_int | n_bool | n_tuple | n_str | n_enumerate | n_sorted | n_set | n_reversed=>refine' PySem.W.mg_none_of KX G ?a; (case a=>k_is)
  case f_ends_by_wire | f_other_ends | f_corners_in_order | f_turned | f_corners_behind_ends | f_goings_of | f_starts_of | f_gone_from | f_trails_of | f_least_round | f_lines_of | f_lines_by_wire | f_lens_of | f_is_lean | f_Lcell_at | f_Lbig | f_Llow | f_Lworth_of | f_Lmates | f_Lcorners | f_Lcorner_behind | f_Lregion | f_Lgrown | f_Lnames | f_Lbegun | f_Lnet_by | f_Lcopy | f_Lturns | f_Lbeyond | f_Lfrom_place | f_Lleast_round | f_Llines | f_Lhas_lens | f_Lis_lens | f_law=>refine' L2.rA_ KX G ?a ?l ?c ?k; (case a=>k_is); (case l=>k_is); (case c=>k_is); (case k=>k_is)
  case f_Lclosed=>refine' L2.rO_ KX G ?a ?l ?c ?k; (case a=>k_is); (case l=>k_is); (case c=>k_is); (case k=>k_is)
