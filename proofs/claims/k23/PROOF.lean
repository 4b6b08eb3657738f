import PyProof.Rows.All
import Wide.All
import OpenK.AllK
import Wide.FinOn
import Lean
import PyProof.EqAt
import PyProof.EqKinds
import PyProof.TupleCall
import PySem.Challenge.RW_rimread_k23_woods_listed
local macro_rules|`(tactic|show $t:term)=>`(tactic|refine $t)
local macro_rules | `(tactic|rfl')=> `(tactic|decide +kernel)
local macro_rules | `(tactic|lia)=>`(tactic|first|lia -verbose|omega)
theorem o_{p:Prop}(h:p:=by lia):p:=h
theorem d_{p:Prop}(h:p:=by decide):p:=h
theorem r_{p:Prop}(h:p:=by rfl'):p:=h
theorem s_{p:Prop}(h:p:=by simp):p:=h
set_option Elab.async false
set_option linter.all false
set_option maxRecDepth 100000
set_option maxHeartbeats 4000000
set_option compiler.extract_closed false
def Aa_:=@List.length_map
def Ab_:=@List.getElem?_eq_getElem
def Ac_:=@List.getD_eq_getElem?_getD
def Ad_:=@PySem.wpAny_bind
def Ae_:=@List.getElem?_map
def Af_:=@Nat.le_refl
def Ag_:=@List.mem_singleton
def Ah_:=@PySem.Heap.get?_push_of_some
def Ai_:=@List.getElem?_eq_some_iff
def Aj_:=@List.mem_cons_of_mem
def Ak_:=@List.length_append
def Al_:=@List.mem_cons_self
def Am_:=@List.mem_of_getElem?
def An_:=@PyProof.Rows.wpS_bind
def Ao_:=@List.size_toArray
def Ap_:=@PySem.Heap.lt_size
def Aq_:=@List.mem_cons
def Ar_:=@Option.some.inj
def As_:=@List.map_append
def At_:=@List.mem_append
def Au_:=@Nat.le_trans
def Av_:=@Nat.zero_le
def Aw_:=@List.length_take
def Ax_:=@PyProof.Rows.wpS_pure
def Ay_:=@List.mem_map
def Az_:=@List.mem_iff_getElem
def AA_:=@PySem.wpAny_pure
def AB_:=@List.eq_nil_of_length_eq_zero
def AC_:=@PySem.Heap.get?_push_size
def AD_:=@Bool.false_ne_true
def AE_:=@decide_eq_false
def AF_:=@PySem.PassesOwn.never
def AG_:=@List.append_assoc
def AH_:=@List.getElem?_append_left
def AI_:=@List.getElem?_append_right
def AJ_:=@Nat.ne_of_lt
def AK_:=@Int.toNat_natCast
def AL_:=@decide_eq_true
def AM_:=@Nat.lt_of_lt_of_le
def AN_:=@of_decide_eq_true
def AO_:=@Int.emod_lt_of_pos
def AP_:=@PySem.F.plainAttrs_list
def AQ_:=@List.mem_append_right
def AR_:=@List.append_nil
def AS_:=@List.nodup_cons
def AT_:=@List.map_map
def AU_:=@Int.emod_nonneg
def AV_:=@List.take_of_length_le
def AW_:=@List.map_cons
def AX_:=@List.mem_range
def AY_:=@PySem.Around.in1_units
def AZ_:=@Array.length_toList
def A0_:=@List.length_cons
def A1_:=@List.take_append_drop
def A2_:=@PySem.F.slot_list_append
def A3_:=@PySem.F.type_list_append
def A4_:=@PySem.Heap.get?_update_other
def A5_:=@List.filter_append
def A6_:=@Nat.le_of_lt
def A7_:=@Array.getD_eq_getD_getElem?
def A8_:=@List.mem_iff_getElem?
def A9_:=@List.flatten_cons
def Ba_:=@List.mem_append_left
def Bb_:=@List.getElem?_inj
def Bc_:=@List.mem_filter
def Bd_:=@Array.perm_iff_toList_perm
def Be_:=@List.nodup_append
def Bf_:=@List.dropLast_concat_getLast
def Bg_:=@PySem.wpAny_mono
def Bh_:=@PySem.wpAny_holding
def Bi_:=@PyProof.Rows.bits_of_natAbs_le
def Bj_:=@List.length_filter_le
def Bk_:=@List.not_mem_nil
def Bl_:=@decide_eq_true_eq
def Bm_:=@List.pairwise_append
def Bn_:=@List.nodup_nil
def Bo_:=@List.filter_cons
def Bp_:=@List.take_length
def Bq_:=@PyProof.Rows.wpS_forRange
def Br_:=@List.extract_eq_take_drop
def Bs_:=@List.length_drop
def Bt_:=@Int.le_of_lt
def Bu_:=@PySem.mem_of_lookup
def Bv_:=@PySem.sizeLine_eq
def Bw_:=@Nat.lt_succ_of_lt
def Bx_:=@List.length_range
def By_:=@decide_eq_false_iff_not
def Bz_:=@Nat.lt_of_le_of_lt
def BA_:=@List.range_succ
def BB_:=@of_decide_eq_false
def BC_:=@PySem.wpAny_loadPart'
def BD_:=@PySem.F.slot_dict_setdefault
def BE_:=@PyProof.Rows.callWith_type1
def BF_:=@Bool.false_eq_true
def BG_:=@List.map_singleton
def BH_:=@PySem.F.plainAttrs_dict
def BI_:=@Array.toList_extract
def BJ_:=@List.getElem_mem
def BK_:=@Nat.lt_irrefl
def BL_:=@Option.map_eq_some_iff
def BM_:=@List.length_eq_one_iff
def BN_:=@List.flatten_append
def BO_:=@List.length_set
def BP_:=@List.drop_eq_getElem_cons
def BQ_:=@List.mem_filterMap
def BR_:=@List.getElem?_set
def BS_:=@Decidable.not_not
def BT_:=@List.filterMap_cons
def BU_:=@PySem.Heap.SameBut.update
def BV_:=@List.map_congr_left
def BW_:=@Sum.inr.inj
def BX_:=@PySem.Calls.callWith_builtin
def BY_:=@Nat.succ_le_succ
def BZ_:=@Array.getElem?_toList
def B0_:=@List.getElem?_eq_none
def B1_:=@List.pairwise_iff_getElem
def B2_:=@List.find?_cons
def B3_:=@Array.toList_reverse
def B4_:=@List.mem_of_mem_take
def B5_:=@List.getLast?_append
def B6_:=@Bool.not_eq_true'
def B7_:=@List.count_append
def B8_:=@List.pairwise_map
def B9_:=@List.mem_map_of_mem
def Ca_:=@List.lookup_cons
def Cb_:=@PyProof.Rows.wpS_mono
def Cc_:=@PySem.F.type_dict_setdefault
def Cd_:=@List.getElem?_set_self
def Ce_:=@Nat.mod_lt
def Cf_:=@List.filter_eq_nil_iff
def Cg_:=@Int.le_refl
def Ch_:=@PySem.wpAny_Call_Name_kw
def Ci_:=@PySem.wpAny_passesOwn
def Cj_:=@PySem.Heap.get?_update_self
def Ck_:=@Nat.min_eq_left
def Cl_:=@Array.getElem?_eq_some_iff
def Cm_:=@PySem.wpAny_truthy_bool
def Cn_:=@List.getElem?_set_ne
def Co_:=@List.getElem?_eq_none_iff
def Cp_:=@List.drop_eq_nil_iff
def Cq_:=@List.mem_of_find?_eq_some
def Cr_:=@Nat.pow_le_pow_right
def Cs_:=@PySem.wpAny_field
def Ct_:=@List.take_succ
def Cu_:=@List.map_nil
def Cv_:=@Bool.and_eq_true
def Cw_:=@Nat.mod_eq_of_lt
def Cx_:=@Int.zero_add
def Cy_:=@PySem.wpAny_call_entry
def Cz_:=@List.length_filterMap_le
def CA_:=@beq_eq_false_iff_ne
def CB_:=@List.reverse_append
def CC_:=@List.getElem?_cons_succ
def CD_:=@List.pairwise_singleton
def CE_:=@Int.eq_ofNat_of_zero_le
def CF_:=@Int.fdiv_eq_ediv_of_dvd
def CG_:=@Option.map_some
def CH_:=@PySem.wpAny_execs_nil
def CI_:=@Bool.eq_iff_iff
def CJ_:=@PySem.Calls.spliced_cons
def CK_:=@Nat.not_lt
def CL_:=@List.count_pos_iff
def CM_:=@List.pairwise_cons
def CN_:=@List.filter_nil
def CO_:=@if_false
def CP_:=@List.drop_eq_nil_of_le
def CQ_:=@List.take_append_of_le_length
def CR_:=@PySem.wpAny_newObj_type
def CS_:=@Int.gcd_dvd_right
def CT_:=@List.reverse_perm
def CU_:=@List.getElem_take
def CV_:=@List.length_singleton
def CW_:=@PySem.Heap.size_push
def CX_:=@PySem.wpAny_setField
def CY_:=@List.getElem_inj
def CZ_:=@PySem.wpAny_rule
def C0_:=@PySem.Calls.evalArgs_plain
def C1_:=@Nat.le_add_right
def C2_:=@Prod.ext
def C3_:=@PySem.Around.under_plainId
def C4_:=@List.reverse_reverse
def C5_:=@PyProof.Rows.wpS_modify
def C6_:=@List.any_cons
def C7_:=@PyProof.Rows.listUpdate_at
def C8_:=@PySem.wpAny_newList
def C9_:=@List.cons.inj
def Da_:=@PySem.W.looks_mroIn
def Db_:=@PyProof.Rows.getElem?_mirror_all
def Dc_:=@List.length_pos_iff
def Dd_:=@List.map_eq_nil_iff
def De_:=@PySem.codeAny_builtin
def Df_:=@List.count_cons
def Dg_:=@PyProof.Rows.get?_update_seq
def Dh_:=@List.mem_or_eq_of_mem_set
def Di_:=@Nat.ne_of_gt
def Dj_:=@PySem.wpAny_comprehension_free
def Dk_:=@PySem.Obj.data_mapFields
def Dl_:=@PySem.tupleKind_room_in1
def Dm_:=@Int.le_trans
def Dn_:=@List.getElem?_take
def Do_:=@List.find?_eq_none
def Dp_:=@PySem.wpAny_Call_method0_late
def Dq_:=@Option.some.injEq
def Dr_:=@PySem.Heap.get?_push_ne
def Ds_:=@Option.isSome_map
def Dt_:=@List.ext_getElem?
def Du_:=@List.filter_congr
def Dv_:=@PySem.wpAny_pyNext_list_item
def Dw_:=@PySem.W.cellsFrom_some
def Dx_:=@PyProof.Rows.seqEpoch_at
def Dy_:=@PySem.wpAny_standAt
def Dz_:=@PySem.wpAny_attempt
def DA_:=@PySem.wpAny_execs_cons
def DB_:=@List.take_succ_eq_append_getElem
def DC_:=@List.getElem_map
def DD_:=@List.contains_iff_mem
def DE_:=@PySem.Obj.isFreed_of_fields
def DF_:=@List.zipWith_nil_left
def DG_:=@List.getElem?_zipWith
def DH_:=@Array.getElem?_setIfInBounds_ne
def DI_:=@PySem.Heap.get?_none_of_le
def DJ_:=@List.of_mem_zip
def DK_:=@PySem.SeqAt.EqAt.same
def DL_:=@PySem.call_meets
def DM_:=@PySem.pushCells_keeps
def DN_:=@Nat.not_lt_zero
def DO_:=@PySem.W.looks_findIn
def DP_:=@List.length_nil
def DQ_:=@Nat.sub_self
def DR_:=@Nat.zero_add
def DS_:=@PyProof.Rows.entry_list_sort
def DT_:=@PySem.F.args_dict_setdefault_3
def DU_:=@List.mem_of_mem_drop
def DV_:=@Nat.add_zero
def DW_:=@List.nil_append
def DX_:=@PySem.F.slot_list_lt
def DY_:=@PySem.F.entry_dict_setdefault
def DZ_:=@PySem.W.hideAll_get
def D0_:=@PySem.evalArgs_none
def D1_:=@List.length_reverse
def D2_:=@List.getElem?_range
def D3_:=@PyProof.Rows.slot_list_sort
def D4_:=@List.not_lt
def D5_:=@PySem.W.of_hideAll
def D6_:=@PyProof.Rows.assignInOrder_cons
def D7_:=@PySem.SeqAt.EqAt.str_str
def D8_:=@PySem.SeqAt.EqAt.of_refs
def D9_:=@List.set_cons_zero
def Ea_:=@List.set_cons_succ
def Eb_:=@List.count_eq_zero
def Ec_:=@PySem.Calls.Name_function_global
def Ed_:=@Int.fdiv_eq_ediv_of_nonneg
def Ee_:=@PySem.wpAny_newFunctionEnv_cells
def Ef_:=@PySem.W.mg_of
def Eg_:=@PySem.plainId_quiet
def Eh_:=@Array.toList_setIfInBounds
def Ei_:=@List.map_take
def Ej_:=@Nat.mod_two_eq_zero_or_one
def Ek_:=@PySem.wpAny_pyIter_list
def El_:=@PySem.Calls.spliced_nil
def Em_:=@List.take_sublist
def En_:=@List.foldl_append
def Eo_:=@Nat.lt_trichotomy
def Ep_:=@PySem.typeIs_str
def Eq_:=@beq_iff_eq
def Er_:=@PySem.Calls.call_function_entry
def Es_:=@Int.natAbs_ediv_le_natAbs
def Et_:=@Array.getElem?_eq_getElem
def Eu_:=@List.exists_mem_of_ne_nil
def Ev_:=@PySem.codeAny_mono
def Ew_:=@Option.isSome_iff_exists
def Ex_:=@PyProof.noPylong_of_log2
def Ey_:=@beq_self_eq_true
def Ez_:=@or_false
def EA_:=@Int.gcd_dvd_left
def EB_:=@Int.mul_ediv_cancel_left
def EC_:=@PySem.Heap.size_update
def ED_:=@PySem.call_meetsIn
def EE_:=@List.ext_getElem
def EF_:=@List.Pairwise.imp_of_mem
def EG_:=@Nat.min_eq_right
def EH_:=@PySem.F.slot_dict_values
def EI_:=@Nat.pow_succ
def EJ_:=@Int.natCast_emod
def EK_:=@PySem.F.slot_list_insert
def EL_:=@PySem.F.type_list_insert
def EM_:=@List.getElem?_replicate
def EN_:=@PySem.F.slot_dict_items
def EO_:=@PySem.wpAny_callSpecial?_slot
def EP_:=@Int.gcd_natCast_natCast
def EQ_:=@PyProof.Rows.getElem?_bubble
def ER_:=@exists_eq_left'
def ES_:=@List.find?_some
def ET_:=@List.filter_map
def EU_:=@PySem.seqIndex_of
def EV_:=@PyProof.Rows.subscriptTail_builtinR
def EW_:=@PySem.wpAny_Call_method_late
def EX_:=@Nat.le_succ
def EY_:=@List.length_pos_of_mem
def EZ_:=@Int.mul_pos
def E0_:=@List.flatten_singleton
def E1_:=@PySem.F.args_list_lt_2
def E2_:=@Nat.testBit_lt_two_pow
def E3_:=@Nat.log2_lt
def E4_:=@PySem.wpAny_isTrue_Compare1
def E5_:=@PySem.wpAny_pyNext_list_end
def E6_:=@PySem.wpAny_pyIter_listiter
def E7_:=@List.length_replicate
def E8_:=@PySem.codeAny_call_function
def E9_:=@PySem.wpAny_newTuple
def Fa_:=@PyProof.Rows.args_list_sort
def Fb_:=@List.getElem_set_self
def Fc_:=@PySem.wpAny_seqItems
def Fd_:=@PySem.wpAny_notOrdered_dict
def Fe_:=@Int.neg_le_neg
def Ff_:=@List.pairwise_reverse
def Fg_:=@List.drop_zero
def Fh_:=@List.take_zero
def Fi_:=@List.set_append_right
def Fj_:=@PySem.F.entry_list_lt
def Fk_:=@List.countP_mono_left
def Fl_:=@PySem.F.slot_dict_get
def Fm_:=@List.filterMap_append
def Fn_:=@Int.natAbs_dvd_natAbs
def Fo_:=@PyProof.Rows.bits_add
def Fp_:=@PySem.wpAny_call
def Fq_:=@PySem.SeqAt.EqAt.bool_bool
def Fr_:=@bne_iff_ne
def Fs_:=@PySem.codeAny_call_builtin
def Ft_:=@PySem.Obj.data_mapDictKeys
def Fu_:=@List.replicate_succ'
def Fv_:=@List.getElem_zipWith
def Fw_:=@PySem.Paired.length
def Fx_:=@PyProof.Rows.Constant_none
def Fy_:=@List.all_cons
def Fz_:=@List.lt_asymm
def FA_:=@Nat.add_assoc
def FB_:=@PySem.wpAny_Tuple_spliced
def FC_:=@PySem.IsiPair.tuple_tuple
def FD_:=@Int.neg_ediv_of_dvd
def FE_:=@List.getD_cons_zero
def FF_:=@List.getD_cons_succ
def FG_:=@List.flatMap_append
def FH_:=@PySem.Heap.get?_update_ne
def FI_:=@List.getElem_set_ne
def FJ_:=@PyProof.Rows.slot_tupleiter_next
def FK_:=@List.length_zipWith
def FL_:=@List.zipWith_append
def FM_:=@PySem.seqIndex_neg
def FN_:=@PyProof.Rows.listItems_at
def FO_:=@PyProof.Rows.plain_sorted
def FP_:=@PyProof.Rows.entry_sorted
def FQ_:=@PyProof.Rows.collect_list
def FR_:=@List.map_id'
def FS_:=@Nat.add_comm
def FT_:=@Sum.inl.inj
def FU_:=@PySem.Paired.snoc
def FV_:=@Int.neg_gcd
def FW_:=@PyProof.Rows.bubble_perm
def FX_:=@PyProof.Rows.kind_sorted
def FY_:=@List.map_id
def FZ_:=@PySem.storedH_new
namespace L2
open PySem PySem.Spec PyProof.Rows
abbrev Key:=Sum Int Str
def In_:Key->Value->Bool
 | .inl k,v=>Value.isInt k v
 | .inr x,v=>Value.isStrOf x v
def keyH(w:World):Key->Int
 | .inl k=>hashInt k
 | .inr x=>hashStr w x
theorem aL_:∀{k:Key}{v:Value},In_ k v=true->(∃i t,k=Sum.inl i/\v=Value.int i t)\/(∃x t,k=Sum.inr x/\v=Value.str x t)
 | .inl i,v,h=>by
  obtain⟨t,e⟩:=Value.isInt_shape (k:=i) (v:=v) h;show .inl ⟨i,t,rfl,e⟩
 | .inr x,v,h=>by obtain⟨t,e⟩:=Value.isStrOf_shape (x:=x) (v:=v) h;show .inr ⟨x,t,rfl,e⟩
theorem mY_(i:Int)(t:Tok):In_ (.inl i) (.int i t)=true:=by simp[In_,Value.isInt]
theorem mZ_(x:Str)(t:Tok):In_ (.inr x) (.str x t)=true:=by simp[In_,Value.isStrOf]
theorem q4_(a b:Int):decide ((Sum.inl a:Key)=Sum.inl b)=(a == b):=by
 by_cases e:a=b
 .subst e;simp
 .have h:¬ (Sum.inl a:Key)=Sum.inl b:=λq=>e (FT_ q);rw[AE_ h];show(CA_.mpr e).symm
theorem q5_(a b:Str):decide ((Sum.inr a:Key)=Sum.inr b)=decide (a=b):=by
 by_cases e:a=b
 .subst e;simp
 .have h:¬ (Sum.inr a:Key)=Sum.inr b:=λq=>e (BW_ q);rw[AE_ h,AE_ e]
theorem q6_(a:Int)(b:Str):decide ((Sum.inl a:Key)=Sum.inr b)=false:=AE_ (λq=>nomatch q)
theorem q7_(a:Str)(b:Int):decide ((Sum.inr a:Key)=Sum.inl b)=false:=AE_ (λq=>nomatch q)
def Gc_(prog:Program)(w:World):PySem.KeyKind prog w Key where
 is:=In_
 hash:=keyH w
 inj:=λv a b ha hb=>by
  rcases aL_ ha with⟨i,t,rfl,rfl⟩|⟨x,t,rfl,rfl⟩
  .rcases aL_ hb with⟨j,u,rfl,e⟩|⟨y,u,rfl,e⟩
   .injection e with e1 _;rw[e1]
   .show nomatch e
  .rcases aL_ hb with⟨j,u,rfl,e⟩|⟨y,u,rfl,e⟩
   .show nomatch e
   .injection e with e1 _;rw[e1]
 byValue:=λk v h=>by rcases aL_ h with⟨i,t,rfl,rfl⟩|⟨x,t,rfl,rfl⟩ <;> rfl
 pyHash:=λhv h=>by
  rcases aL_ hv with⟨i,t,rfl,rfl⟩|⟨x,t,rfl,rfl⟩
  .show wpAny_pyHash_int h
  .show wpAny_pyHash_str h
 eqBool:=λhu hv h=>by
  rcases aL_ hu with⟨i,t,rfl,rfl⟩|⟨x,t,rfl,rfl⟩
  .rcases aL_ hv with⟨j,u,rfl,rfl⟩|⟨y,u,rfl,rfl⟩
   .rw[q4_]at h;show wpAny_eqBool_int h
   .rw[q6_]at h;show SeqAt.EqAt.int_str i t y u _ _ _ _ h
  .rcases aL_ hv with⟨j,u,rfl,rfl⟩|⟨y,u,rfl,rfl⟩
   .rw[q7_]at h;show SeqAt.EqAt.str_int x t j u _ _ _ _ h
   .rw[q5_]at h;show wpAny_eqBool_str h
 «strs»:=λk x t v h=>by
  rcases aL_ h with⟨i,u,rfl,e⟩|⟨y,u,rfl,e⟩
  .show nomatch e
  .injection e with e1 _
   subst e1;cases v <;> rfl
theorem kQ_(prog:Program)(w:World)(i:Int)(t:Tok):(Gc_ prog w).is (.inl i) (.int i t)=true:=mY_ i t
theorem kR_(prog:Program)(w:World)(x:Str)(t:Tok):(Gc_ prog w).is (.inr x) (.str x t)=true:=mZ_ x t
inductive V where
 |non|bl (b:Bool)|int (i:Int)|str (x:Str)|byt (b:Array UInt8)|flt (b:UInt64)|ref (a:Addr)|ty (n:String)
 deriving DecidableEq
def Gu_:V->Value->Prop
 | .non,u=>u=Value.none
 | .bl b,u=>u=Value.bool b
 | .int i,u=>∃t,u=Value.int i t
 | .str x,u=>∃t,u=Value.str x t
 | .byt b,u=>∃t,u=Value.bytes b t
 | .flt b,u=>∃t,u=Value.float b t
 | .ref a,u=>u=Value.ref a
 | .ty n,u=>u=Value.type n
abbrev Gn_:List V->List Value->Prop:=Paired Gu_
theorem Gn_.length{xs:List V}{us:List Value}(r:Gn_ xs us):xs.length=us.length:=Fw_ r
theorem Gn_.get:∀{xs:List V}{us:List Value}{i:Nat}{x:V},Gn_ xs us->xs[i]?=some x->∃u,us[i]?=some u/\Gu_ x u
 |_,_,_,_,.nil,e=>by simp at e
 |_,_,0,_,.cons r _,e=>by simp at e;subst e;show⟨_,rfl,r⟩
 |_,_,i+1,x,.cons _ t,e=>by obtain⟨u,h1,h2⟩:=Gn_.get (i:=i) (x:=x) t (by simpa using e);show⟨u,by simpa using h1,h2⟩
theorem Gn_.set{x:V}{u:Value}(r:Gu_ x u):∀{xs:List V}{us:List Value}(i:Nat),Gn_ xs us->Gn_ (xs.set i x) (us.set i u)
 |_,_,_,.nil=>.nil
 |_,_,0,.cons _ t=>.cons r t
 |_,_,i+1,.cons q t=>.cons q (Gn_.set r i t)
theorem Gn_.append:∀{xs ys:List V}{us ws:List Value},Gn_ xs us->Gn_ ys ws->Gn_ (xs++ys) (us++ws)
 |_,_,_,_,.nil,s=>s
 |_,_,_,_,.cons r t,s=>.cons r (Gn_.append t s)
theorem Gn_.take:∀{xs:List V}{us:List Value}(n:Nat),Gn_ xs us->Gn_ (xs.take n) (us.take n)
 |_,_,0,_=>.nil
 |_,_,_+1,.nil=>.nil
 |_,_,n+1,.cons r t=>.cons r (Gn_.take n t)
theorem Gn_.drop:∀{xs:List V}{us:List Value}(n:Nat),Gn_ xs us->Gn_ (xs.drop n) (us.drop n)
 |_,_,0,r=>r
 |_,_,_+1,.nil=>.nil
 |_,_,n+1,.cons _ t=>Gn_.drop n t
def IY_:Option V->Option Value->Prop
 |some v,some u=>Gu_ v u
 |none,none=>True
 |_,_=>False
def KV{κ:Type}:List (κ×V)->List (κ×Value)->Prop:=Paired λ(p:κ×V)(q:κ×Value)=>p.1=q.1/\Gu_ p.2 q.2
def kV:Key->V
 | .inl i=>.int i
 | .inr x=>.str x
inductive HO where
 |lst (xs:List V)
 |tup (xs:List V)
 |dK (kvs:List (Key×V))|dT (kvs:List (List Key×V))
 |set (S:Int->Bool) (n:Nat)
 |ins (C dx:Addr) (fs:List (Str×V))
 |own (x:Addr)
 |xd (fs:List (Str×V))
 |met (f x:Addr)
 |rng (lo hi:Int)
 |frz (o:Obj) (u:HO)
 |tbl (ps:Array Value)
 |ext (φ:Heap->Prop)
abbrev Hp:=Addr->Option HO
def upd(H:Hp)(a:Addr)(o:HO):Hp:=λb=>if b=a then some o else H b
variable{H:Hp}{a:Addr}{o:HO}
theorem aa_:upd H a o a=some o:=by unfold upd;rw[if_pos rfl]
variable{b:Addr}
theorem ae_(h:b≠a):upd H a o b=H b:=by unfold upd;rw[if_neg h]
theorem qe_{u:HO}:upd (upd H a o) a u=upd H a u:=by funext b;unfold upd;split <;> rfl
theorem KV_{u:HO}(h:H a=some o)(h':H b=some u)(d:o≠u):a≠b:=by intro e;subst e;rw[h]at h';show d (Ar_ h')
theorem ah_(h:H a=some o)(h':H b=none):a≠b:=by intro e;subst e;rw[h]at h';cases h'
section
variable (P:Program)(w:World)
def Gy_(H:Hp)(h:Heap)(a:Addr):HO->Prop
 | .lst xs=>xs.length<=sizeLine/\∃(its:List Value)(n:Nat),Gn_ xs its/\h.get? a=some {cls:=.type "list",data:=.seq its.toArray n}
 | .tup xs=>xs.length<=sizeLine/\∃its:List Value,Gn_ xs its/\IsTup h a its.toArray
 | .dK kvs=>kvs.length<=sizeLine/\(a == sysModules)=false/\∃vs,KV kvs vs/\h.DictOf (Gc_ P w) a vs
 | .dT kvs=>kvs.length<=sizeLine/\(a == sysModules)=false/\∃xs:List (List Key×Addr×Value),
   Paired (λ(p:List Key×V)(q:List Key×Addr×Value)=>p.1=q.1/\H q.2.1=some (.tup (p.1.map kV))/\Gu_ p.2 q.2.2) kvs xs /\
   ∃o es ep,h.get? a=some o/\o.ExactDict/\o.data=.dict es ep/\es.toList=xs.map (entryOfKey (tupleKind (Gc_ P w)))/\(xs.map (·.1)).Nodup
 | .set S n=>h.SetOf (intKind P w) a S n
 | .ins C dx fs=>H dx=some (.own a)/\fs.length<=1000/\dx≠a/\h.get? a=some (PySem.W.instObj C dx) /\
   ∃mA,h.Ns1 dx mA/\(∀f,IY_ (fs.lookup f) (mA f))/\PySem.Within mA (fs.map (·.1))
 | .own _=>∃o,h.get? a=some o
 | .xd fs=>∃mA,h.Ns1 a mA/\∀f,IY_ (fs.lookup f) (mA f)
 | .rng lo hi=>∃t u v,h.get? a=some {cls:=.type "range",data:=.fields #[.int lo t,.int hi u,.int 1 v]}
 | .frz o u=>h.get? a=some o/\Gy_ H h a u
 | .tbl ps=>h.get? a=some {cls:=.none,data:=.fields ps}
 | .met f x=>h.get? a=some (PySem.W.methodObj (.ref f) (.ref x))
 | .ext φ=>φ h/\(∃o,h.get? a=some o)/\∀h1 h2:Heap,φ h1->(∀o,h1.get? a=some o->h2.get? a=some o)->φ h2
def HOk(H:Hp)(h:Heap):Prop:=∀a o,H a=some o->Gy_ P w H h a o
end
variable {P:Program}{w:World}{H H':Hp}{h h':Heap}{a:Addr}{o:HO}
theorem Gy_.lt(x:Gy_ P w H h a o):a<h.objs.size:=by
 cases o with
 |lst xs=>obtain⟨_,_,_,_,e⟩:=x;show Ap_ e
 |tup xs=>obtain⟨_,_,_,p⟩:=x;show p.lt
 |dK kvs=>obtain⟨_,_,_,_,o,_,_,e,_⟩:=x;show Ap_ e
 |dT kvs=>obtain⟨_,_,_,_,o,_,_,e,_⟩:=x;show Ap_ e
 |set S n=>obtain⟨o,_,_,_,e,_⟩:=x;show Ap_ e
 |ins C dx fs=>obtain⟨_,_,_,e,_⟩:=x;show Ap_ e
 |own y=>obtain⟨_,e⟩:=x;show Ap_ e
 |xd fs=>obtain⟨_,⟨_,_,_,e,_⟩,_⟩:=x;show Ap_ e
 |rng lo hi=>obtain⟨_,_,_,e⟩:=x;show Ap_ e
 |frz ob u=>obtain⟨e,_⟩:=x;show Ap_ e
 |tbl ps=>show Ap_ (show h.get? a=some _ from x)
 |met f y=>show Ap_ (show h.get? a=some _ from x)
 |ext φ=>obtain⟨_,⟨_,e⟩,_⟩:=x;show Ap_ e
theorem Paired.mapP{α β:Type}{F G:α->β->Prop}:∀{l₁:List α}{l₂:List β},Paired F l₁ l₂->(∀a b,F a b->G a b)->Paired G l₁ l₂
 |_,_,.nil,_=>.nil
 |_,_,.cons r t,f=>.cons (f _ _ r) (Paired.mapP t f)
theorem Gy_.stay(x:Gy_ P w H h a o)(k:∀b u,(b=a\/H b=some (.own a))->h.get? b=some u->h'.get? b=some u)
  (ho:∀b,H b=some (.own a)->H' b=some (.own a)) (ht:∀b xs,H b=some (.tup xs)->H' b=some (.tup xs)):Gy_ P w H' h' a o:=by
 induction o with
 |lst xs=>obtain⟨z,its,n,r,e⟩:=x;show⟨z,its,n,r,k _ _ (.inl rfl) e⟩
 |tup xs=>obtain⟨z,its,r,ob,e,c⟩:=x;show⟨z,its,r,ob,k _ _ (.inl rfl) e,c⟩
 |dK kvs=>obtain⟨z,y,vs,r,ob,es,ep,e,c⟩:=x;show⟨z,y,vs,r,ob,es,ep,k _ _ (.inl rfl) e,c⟩
 |dT kvs =>
  obtain⟨z,y,xs,r,ob,es,ep,e,c⟩:=x;show⟨z,y,xs,Paired.mapP r λp q z=>⟨z.1,ht _ _ z.2.1,z.2.2⟩,ob,es,ep,k _ _ (.inl rfl) e,c⟩
 |set S n=>obtain⟨ob,es,ep,t,e,c⟩:=x;show⟨ob,es,ep,t,k _ _ (.inl rfl) e,c⟩
 |ins C dx fs =>
  obtain⟨d,z,ne,e,mA,⟨od,es,ep,e2,c⟩,r⟩:=x;show⟨ho _ d,z,ne,k _ _ (.inl rfl) e,mA,⟨od,es,ep,k _ _ (.inr d) e2,c⟩,r⟩
 |own y=>obtain⟨ob,e⟩:=x;show⟨ob,k _ _ (.inl rfl) e⟩
 |xd fs=>obtain⟨mA,⟨od,es,ep,e,c⟩,r⟩:=x;show⟨mA,⟨od,es,ep,k _ _ (.inl rfl) e,c⟩,r⟩
 |rng lo hi=>obtain⟨t,u,v,e⟩:=x;show⟨t,u,v,k _ _ (.inl rfl) e⟩
 |frz ob u ih=>obtain⟨e,q⟩:=x;show⟨k _ _ (.inl rfl) e,ih q⟩
 |tbl ps =>
  have e:h.get? a=some {cls:=.none,data:=.fields ps}:=x;change h'.get? a=some {cls:=.none,data:=.fields ps};show k a _ (.inl rfl) e
 |met f y =>
  have e:h.get? a=some (PySem.W.methodObj (.ref f) (.ref y)):=x;change h'.get? a=some (PySem.W.methodObj (.ref f) (.ref y));show k a _ (.inl rfl) e
 |ext φ=>obtain⟨p,⟨o,e⟩,st⟩:=x;show⟨st _ _ p λo q=>k _ _ (.inl rfl) q,⟨o,k _ _ (.inl rfl) e⟩,st⟩
theorem HOk.lt(x:HOk P w H h)(e:H a=some o):a<h.objs.size:=(x a o e).lt
theorem HOk.fresh(x:HOk P w H h)(e:h.objs.size<=a):H a=none:=by
 cases q:H a with
 |none=>rfl
 |some u=>show absurd (AM_ (x.lt q) e) (BK_ _)
theorem HOk.kept(x:HOk P w H h)(k:∀b u,h.get? b=some u->h'.get? b=some u):HOk P w H h':=λa o e =>
 (x a o e).stay (λb u _ q=>k b u q) (λ_ q=>q) λ_ _ q=>q
theorem HOk.laid(x:HOk P w H h)(k:∀b u,h.get? b=some u->h'.get? b=some u)(hp:h.objs.size<=a)(new:Gy_ P w (upd H a o) h' a o):HOk P w (upd H a o) h':=λb u e=>by
 have hn:=x.fresh hp;by_cases hb:b=a
 .subst hb;rw[aa_]at e;cases e;show new
 .rw[ae_ hb]at e;show(x b u e).stay (λc v _ q=>k c v q) (λc q=>by rw[ae_ (ah_ q hn)];show q) λc xs q=>by rw[ae_ (ah_ q hn)];show q
def Rd(H:Hp)(a:Addr)(u:HO):Prop:=H a=some u\/∃o,H a=some (.frz o u)
theorem Rd.ok{u:HO}(r:Rd H a u)(x:HOk P w H h):Gy_ P w H h a u:=by
 rcases r with r|⟨o,r⟩
 .show x a u r
 .obtain⟨_,q⟩:=x a _ r;show q
def Mut:Option HO->Prop
 |some (.lst _)=>True
 |some (.dK _)=>True
 |some (.dT _)=>True
 |some (.set _ _)=>True
 |some (.ins _ _ _)=>True
 |some (.ext _)=>True
 |_=>False
variable {x e:Addr}{o':HO}
theorem HOk.write(ok:HOk P w H h)(mu:Mut (H x))(he:e=x\/H e=some (.own x))(k:∀b u,b≠e->h.get? b=some u->h'.get? b=some u)(heo:∃u,h'.get? e=some u)
  (new:Gy_ P w (upd H x o') h' x o'):HOk P w (upd H x o') h':=λb u q=>by
 have nown:∀c y,H c=some (.own y)->c≠x:=λc y r z=>by subst z;rw[r]at mu;show mu
 have ntup:∀c xs,H c=some (.tup xs)->c≠x:=λc xs r z=>by subst z;rw[r]at mu;show mu
 by_cases hb:b=x
 .subst hb;rw[aa_]at q;cases q;show new
 .rw[ae_ hb]at q;by_cases hbe:b=e
  .have q':H b=some (.own x):=by
    rcases he with z|z
    .show absurd (hbe.trans z) hb
    .rw[hbe];show z
   rw[q]at q';cases q';obtain⟨v,hv⟩:=heo;show⟨v,by rw[hbe];show hv⟩
  .show(ok b u q).stay (λc v hc r=>k c v ?_ r) (λc r=>by rw[ae_ (nown c b r)];show r) λc xs r=>by rw[ae_ (ntup c xs r)];show r
   rcases hc with rfl|hc
   .show hbe
   .rintro rfl
    rcases he with z|z
    .show nown c b hc z
    .rw[hc]at z;cases z;show hb rfl
structure Un(fs ex:List Addr)(H H':Hp)(h h':Heap):Prop where
 keep:∀b o,h.get? b=some o->H b=none->b∉fs->b∉ex->h'.get? b=some o
 slot:∀b o,h.get? b=some o->H b=none->b∈fs->b∉ex->∃sl,h'.get? b=some {o with slots:=sl}
 free:∀b o,h.get? b=some o->H b=none->b∉ex->H' b=none
 there:∀b o,h.get? b=some o->b∉ex->∃o',h'.get? b=some o'
 tups:∀b xs,H b=some (.tup xs)->H' b=some (.tup xs)
 frzs:∀b o u,H b=some (.frz o u)->H' b=some (.frz o u)
 tbls:∀b ps,H b=some (.tbl ps)->∃more,H' b=some (.tbl (ps++more))
section
variable {fs fs' ex ex':List Addr}{H1 H2:Hp}{h1 h2:Heap}
theorem Un.any(u:Un fs ex H H1 h h1){ob:Obj}(q:h.get? b=some ob)(n:H b=none)(hx:b∉ex):∃sl,h1.get? b=some {ob with slots:=sl}:=by
 by_cases hb:b∈fs
 .show u.slot b ob q n hb hx
 .show⟨ob.slots,u.keep b ob q n hb hx⟩
theorem Un.kept(k:∀b u,h.get? b=some u->h'.get? b=some u):Un fs ex H H h h' :=
 ⟨λb ob q _ _ _=>k b ob q,λb ob q _ _ _=>⟨ob.slots,k b ob q⟩,λ_ _ _ n _=>n,λb ob q _=>⟨ob,k b ob q⟩,λ_ _ q=>q,λ_ _ _ q=>q,λ_ ps q=>⟨#[],by rw[q];simp⟩⟩
theorem Un.refl:Un fs ex H H h h:=Un.kept λ_ _ q=>q
theorem Un.laid(k:∀b u,h.get? b=some u->h'.get? b=some u)(hp:h.objs.size<=a)(hn:H a=none):Un fs ex H (upd H a o) h h' where
 keep:=λb u q _ _ _=>k b u q
 slot:=λb u q _ _ _=>⟨u.slots,k b u q⟩
 free:=λb u q n _=>by rw[ae_ (AJ_ (AM_ (Ap_ q) hp))];show n
 there:=λb u q _=>⟨u,k b u q⟩
 tups:=λb xs q=>by rw[ae_ (ah_ q hn)];show q
 frzs:=λb u xs q=>by rw[ae_ (ah_ q hn)];show q
 tbls:=λb ps q=>⟨#[],by rw[ae_ (ah_ q hn),q];simp⟩
theorem Un.write(mu:Mut (H x))(he:e=x\/H e=some (.own x))(k:∀b u,b≠e->h.get? b=some u->h'.get? b=some u)(heo:∃u,h'.get? e=some u):Un fs ex H (upd H x o) h h':=by
 have hx:∀b,H b=none->b≠x:=λb n z=>by subst z;rw[n]at mu;show mu
 have hb:∀b,H b=none->b≠e:=λb n z=>by
  subst z
  rcases he with r|r
  .show hx b n r
  .rw[n]at r;cases r
 have hm:∀b u,H b=some u->¬ Mut (some u)->b≠x:=λb u q nm z=>by subst z;rw[q]at mu;show nm mu
 show⟨λb u q n _ _=>k b u (hb b n) q,λb u q n _ _=>⟨u.slots,k b u (hb b n) q⟩,λb u q n _=>by rw[ae_ (hx b n)];show n,λb u q _=>?_,
  λb xs q=>by rw[ae_ (hm b _ q λz=>z)];show q,λb u xs q=>by rw[ae_ (hm b _ q λz=>z)];show q,λb ps q=>⟨#[],by rw[ae_ (hm b _ q λz=>z),q];simp⟩⟩
 by_cases hbe:b=e
 .subst hbe;show heo
 .show⟨u,k b u hbe q⟩
end
def trk(h:Heap)(H:Hp):List Addr:=(List.range h.objs.size).filter λa=>(H a).isSome
def J5_(h:Heap)(H:Hp):Heap:=PySem.W.hideAll h (trk h H)
theorem m0_(h:Heap)(H:Hp):(J5_ h H).objs.size=h.objs.size:=PySem.W.hideAll_size _ _
theorem ow_{o:Obj}(e:h.get? b=some o)(n:H b=none):(J5_ h H).get? b=some o :=
 DZ_ _ e λhm=>by have q:(H b).isSome=true:=(Bc_.mp hm).2;rw[n]at q;simp at q
theorem qf_{o:Obj}(e:(J5_ h H).get? b=some o):h.get? b=some o/\H b=none:=by
 have e':h.get? b=some o:=D5_ (trk h H) e;show⟨e',?_⟩;cases q:H b with
 |none=>rfl
 |some x =>have hm:b∈trk h H:=Bc_.mpr ⟨AX_.mpr (Ap_ e'),by simp[q]⟩;have z:(J5_ h H).get? b=none:=PySem.W.hideAll_none (trk h H) hm;rw[z]at e;cases e
def Gv_(g h:Heap)(L:Addr):List (Addr×Obj):=(List.range h.objs.size).filterMap λa=>if a=L\/(g.get? a).isSome=true then none else(h.get? a).map λo=>(a,o)
theorem dH_{g:Heap}{L:Addr}{o:Obj}(h1:a≠L)(h2:g.get? a=none)(h3:h.get? a=some o):(a,o)∈Gv_ g h L :=
 BQ_.mpr ⟨a,AX_.mpr (Ap_ h3),by simp[h1,h2,h3]⟩
theorem ig_{g:Heap}{L:Addr}{p:Addr×Obj}(hp:p∈Gv_ g h L):p.1≠L/\g.get? p.1=none/\h.get? p.1=some p.2:=by
 obtain⟨b,_,e⟩:=BQ_.mp hp;split at e
 .cases e
 .rename_i hn;cases q:h.get? b with
  |none=>rw[q]at e;simp at e
  |some u =>
   rw[q]at e;simp only[CG_,Dq_]at e;subst e;show⟨λz=>hn (.inl z),?_,q⟩;change g.get? b=none;cases r:g.get? b with
   |none=>rfl
   |some v=>show(hn (.inr (by simp[r]))).elim
def rest(g h:Heap)(L d:Addr):List (Addr×Obj):=(Gv_ g h L).filter λp=>decide (p.1≠d)
theorem bR_{g:Heap}{L:Addr}:News g L h (Gv_ g h L):=λp hp=>let⟨a,b,c⟩:=ig_ hp;⟨c,a,b⟩
structure Mod(K:PySem.W.Frag)(mg:Str->Option Value)(base:Heap):Prop where
 kin:K.In base
 glob:base.Ns mainGlobals mg
 blt:∃mb,base.Ns builtinsNs mb/\∀x:Str,x ≠ "__name__" -> mb x=bootBuiltins x
 nolimit:base.NoLimit
structure Cx where
 prog:Program
 w:World
 K:PySem.W.Frag
 mg:Str->Option Value
 base:Heap
 A:Around
 N:List Str
 s₀:Shared
 H₀:Hp
 env:Env
 outer:List Env
 stack:List Env
 ex:List Addr
 fn:Str->Bool
 calm:Bool
 pn:List (Addr×Obj)
 xe:Value->Shared->Prop
def frs(l:List Env):List Addr:=l.filterMap (·.frame)
abbrev Cx.fs(X:Cx):List Addr:=frs X.outer
def Vis(sc:Scope)(x:Str):Prop:=sc.names.lookup x=some .local\/sc.names.lookup x=some .cell\/sc.names.lookup x=some .free
def Loc(sc:Scope)(x:Str):Prop:=sc.names.lookup x=some .local\/sc.names.lookup x=some .cell
def Look(env:Env)(h:Heap)(m:Str->Option Value)(x:Str)(u:Value):Prop :=
 (env.kindOf x=some .local/\m x=some u)\/((env.kindOf x=some .cell\/env.kindOf x=some .free)/\∃c,env.cells.lookup x=some c/\h.IsCell c (some u))
structure Cx.Ok(X:Cx):Prop where
 mod:Mod X.K X.mg X.base
 kind:X.env.scope.kind=.function
 glob:X.env.globals=mainGlobals
 blt:X.env.builtins=builtinsNs
 above:X.s₀.heap.objs.size<=X.env.locals
 inj:∀x y c,X.env.cells.lookup x=some c->X.env.cells.lookup y=some c->x=y
 has:∀x,(X.env.kindOf x=some .cell\/X.env.kindOf x=some .free)->∃c,X.env.cells.lookup x=some c
 cab:∀x c,X.fn x=true->X.env.cells.lookup x=some c->X.s₀.heap.objs.size<=c
 hd:X.calm=true->X.A.handled=none
 frames:X.A.frames=some X.stack
 stk:X.stack=X.outer\/(X.stack=X.env::X.outer/\X.env.frame=some X.env.locals)
 exf:∀b∈X.ex,b≠X.env.locals/\∀x c,X.env.cells.lookup x=some c->c≠b
 bs:∀b o,X.base.get? b=some o->X.s₀.heap.get? b=some o/\X.H₀ b=none
 bsz:X.base.objs.size<=X.s₀.heap.objs.size
 noex:∀b o,X.base.get? b=some o->b∉X.ex
 exfs:∀b∈X.ex,b∉X.fs
 funs:X.s₀.heap.FunFrames X.base X.outer
 frf:∀b∈X.fs,X.H₀ b=none
structure Inv(X:Cx)(pins:List (Addr×Obj))(σ:List (Option V))(H:Hp)(s:Shared):Prop where
 ok:X.Ok
 os:s.os=X.s₀.os
 bare:AllBare s.gens
 base:Un X.fs X.ex X.H₀ H X.s₀.heap s.heap
 loc:∃m,s.heap.Ns X.env.locals m/\∀(i:Nat)(x:Str)(v:V),X.N[i]?=some x->σ[i]?=some (some v)->Vis X.env.scope x->∃u,Gu_ v u/\Look X.env s.heap m x u
 cell:∀x c,X.env.cells.lookup x=some c->∃v,s.heap.IsCell c v
 free:H X.env.locals=none
 freeC:∀x c,X.env.cells.lookup x=some c->H c=none
 pin:∀p∈X.pn++pins,s.heap.get? p.1=some p.2/\H p.1=none/\p.1≠X.env.locals/\p.1∉X.fs/\∀v,p.2.data≠.cell v
 hok:HOk X.prog X.w H s.heap
 len:σ.length=X.N.length
variable {X:Cx}{pins:List (Addr×Obj)}{σ:List (Option V)}{s:Shared}
theorem Cx.Ok.nofr(ok:X.Ok){o:Obj}(e:X.base.get? b=some o):b∉X.fs:=λhb=>by have:=(ok.funs.mem hb).1;rw[e]at this;cases this
theorem Inv.bs(I:Inv X pins σ H s):∀b o,X.base.get? b=some o->s.heap.get? b=some o/\H b=none:=λb o e =>⟨I.base.keep b o (I.ok.bs b o e).1 (I.ok.bs b o e).2 (I.ok.nofr e) (I.ok.noex b o e),I.base.free b o (I.ok.bs b o e).1 (I.ok.bs b o e).2 (I.ok.noex b o e)⟩
theorem Inv.bk(I:Inv X pins σ H s):∀b o,X.base.get? b=some o->s.heap.get? b=some o:=λb o e=>(I.bs b o e).1
theorem Inv.mod(I:Inv X pins σ H s):Mod X.K X.mg X.base:=I.ok.mod
theorem Inv.kIn(I:Inv X pins σ H s):X.K.In s.heap:=I.ok.mod.kin.keeps I.bk
theorem Inv.lt(I:Inv X pins σ H s):X.env.locals<s.heap.objs.size:=let⟨_,hn,_⟩:=I.loc;hn.lt
theorem Inv.sz(I:Inv X pins σ H s):X.s₀.heap.objs.size<=s.heap.objs.size:=Au_ I.ok.above (A6_ I.lt)
theorem Inv.nofs(I:Inv X pins σ H s)(h:s.heap.objs.size<=a):a∉X.fs:=λhb=>by obtain⟨_,o,ho,_⟩:=I.ok.funs.mem hb;show absurd (AM_ (Ap_ ho) (Au_ I.sz h)) (BK_ _)
theorem Inv.cne(I:Inv X pins σ H s):∀x c,X.env.cells.lookup x=some c->c≠X.env.locals:=λx c e z=>by obtain⟨v,o,ho,hd⟩:=I.cell x c e;obtain⟨m,⟨o',es,ep,ho',hd',_⟩,_⟩:=I.loc;rw[z,ho']at ho;cases ho;rw[hd']at hd;cases hd
theorem Inv.funs(I:Inv X pins σ H s):s.heap.FunFrames X.base X.outer:=by
 have all:∀(l:List Env),(∀b∈frs l,b∈X.fs)->X.s₀.heap.FunFrames X.base l->s.heap.FunFrames X.base l:=by
  intro l
  induction l with
  |nil=>intro _ _;trivial
  |cons env r ih =>intro hs hl;obtain⟨hk,⟨L,o,hf,hn,ho,hd⟩,hr⟩:=hl;have hL:L∈X.fs:=hs L (by unfold frs;rw[BT_,hf];show Al_);obtain⟨sl,e⟩:=I.base.slot L o ho (I.ok.frf L hL) hL λz=>I.ok.exfs L z hL;show⟨hk,⟨L,_,hf,hn,e,hd⟩,ih (λb hb=>hs b (by unfold frs;rw[BT_,hf];show Aj_ _ hb)) hr⟩
 show all X.outer (λ_ hb=>hb) I.ok.funs
theorem Inv.stack(I:Inv X pins σ H s):s.heap.FunFrames X.base X.stack:=by
 rcases I.ok.stk with e|⟨e,hf⟩
 .rw[e];show I.funs
 .rw[e];obtain⟨m,hn,_⟩:=I.loc;show .cons (by rw[I.ok.kind];decide) hf hn ?_ I.funs;show DI_ (Au_ I.ok.bsz I.ok.above)
theorem Inv.stkSub(I:Inv X pins σ H s):∀b∈frs X.stack,b∈X.env.locals::X.fs:=λb hb=>by
 rcases I.ok.stk with e|⟨e,hf⟩
 .rw[e]at hb;show Aj_ _ hb
 .rw[e]at hb;unfold frs at hb;rw[BT_,hf]at hb;show hb
theorem Inv.stkFree(I:Inv X pins σ H s):∀b∈frs X.stack,H b=none:=λb hb=>by
 rcases Aq_.mp (I.stkSub b hb)with e|hb
 .rw[e];show I.free
 .obtain⟨_,o,ho,_⟩:=I.ok.funs.mem hb;show I.base.free b o ho (I.ok.frf b hb) λz=>I.ok.exfs b z hb
theorem Inv.step{g':Array GenState}{t':Nat}{d':Drawn}{ch:List Addr}(I:Inv X pins σ H s)
  (hch:∀b∈ch,(b∈X.ex\/X.s₀.heap.objs.size<=b)/\b≠X.env.locals/\(∀x c,X.env.cells.lookup x=some c->c≠b)/\∀p∈X.pn++pins,p.1≠b)
  (keep:∀b o,b≠X.env.locals->b∉X.fs->b∉ch->s.heap.get? b=some o->H b=none->h'.get? b=some o)
  (slot:∀b o,b≠X.env.locals->b∈X.fs->b∉ch->s.heap.get? b=some o->H b=none->∃sl,h'.get? b=some {o with slots:=sl}) (free:∀b o,b∉ch->s.heap.get? b=some o->H b=none->H' b=none)
  (there:∀b o,b∉ch->s.heap.get? b=some o->∃o',h'.get? b=some o')
  (tups:∀b xs,H b=some (.tup xs)->H' b=some (.tup xs)) (frzs:∀b o u,H b=some (.frz o u)->H' b=some (.frz o u)) (tbls:∀b ps,H b=some (.tbl ps)->∃more,H' b=some (.tbl (ps++more)))
  (ns:∀m,s.heap.Ns X.env.locals m->h'.Ns X.env.locals m) (hok:HOk X.prog X.w H' h') (hg:AllBare g'):
  Inv X pins σ H' {s with heap:=h',gens:=g',drawn:=d',toks:=t'}:=by
 have neL:∀b o,X.s₀.heap.get? b=some o->b≠X.env.locals:=λb o e=>AJ_ (AM_ (Ap_ e) I.ok.above)
 have neC:∀b o,X.s₀.heap.get? b=some o->b∉X.ex->b∉ch:=λb o e hx hb=>by
  rcases(hch b hb).1 with z|z
  .show hx z
  .show absurd (AM_ (Ap_ e) z) (BK_ _)
 have cellK:∀x c,X.env.cells.lookup x=some c->∀v,s.heap.IsCell c v->h'.IsCell c v:=λx c e v ⟨o,ho,hd⟩=>by
  have nch:c∉ch:=λz=>(hch c z).2.2.1 x c e rfl;by_cases hc:c∈X.fs
  .obtain⟨sl,q⟩:=slot c o (I.cne x c e) hc nch ho (I.freeC x c e);show⟨_,q,hd⟩
  .show⟨o,keep c o (I.cne x c e) hc nch ho (I.freeC x c e),hd⟩
 show⟨I.ok,I.os,hg,⟨λb o e n hb hx=>?_,λb o e n hb hx=>?_,λb o e n hx=>?_,λb o e hx=>?_,λb xs e=>tups b xs (I.base.tups b xs e),λb o xs e=>frzs b o xs (I.base.frzs b o xs e),λb ps e=>?_⟩,?_,λx c e=>?_,?_,λx c e=>?_,λp hp=>?_,hok,I.len⟩
 .show keep b o (neL b o e) hb (neC b o e hx) (I.base.keep b o e n hb hx) (I.base.free b o e n hx)
 .obtain⟨sl,e1⟩:=I.base.slot b o e n hb hx;obtain⟨sl',e2⟩:=slot b _ (neL b o e) hb (neC b o e hx) e1 (I.base.free b o e n hx);show⟨sl',e2⟩
 .obtain⟨o',e1⟩:=I.base.there b o e hx;show free b o' (neC b o e hx) e1 (I.base.free b o e n hx)
 .obtain⟨o',e1⟩:=I.base.there b o e hx;show there b o' (neC b o e hx) e1
 .obtain⟨m1,e1⟩:=I.base.tbls b ps e;obtain⟨m2,e2⟩:=tbls b _ e1;show⟨m1++m2,by rw[e2,Array.append_assoc]⟩
 .obtain⟨m,hn,hl⟩:=I.loc;show⟨m,ns m hn,λi x v e1 e2 e3=>?_⟩;obtain⟨u,r,l⟩:=hl i x v e1 e2 e3;show⟨u,r,?_⟩
  rcases l with l|⟨k,c,e,z⟩
  .show .inl l
  .show .inr ⟨k,c,e,cellK x c e _ z⟩
 .obtain⟨v,z⟩:=I.cell x c e;show⟨v,cellK x c e v z⟩
 .obtain⟨m,⟨o,_,_,ho,_⟩,_⟩:=I.loc;show free _ o (λz=>(hch _ z).2.1 rfl) ho I.free
 .obtain⟨v,o,ho,hd⟩:=I.cell x c e;show free c o (λz=>(hch c z).2.2.1 x c e rfl) ho (I.freeC x c e)
 .obtain⟨e,n,ne,nf,d⟩:=I.pin p hp;have nch:p.1∉ch:=λz=>(hch p.1 z).2.2.2 p hp rfl;show⟨keep p.1 p.2 ne nf nch e n,free p.1 p.2 nch e n,ne,nf,d⟩
theorem Inv.un{t':Nat}(I:Inv X pins σ H s)(u:Un X.fs [] H H' s.heap h')(hok:HOk X.prog X.w H' h'):Inv X pins σ H' {s with heap:=h',toks:=t'}:=by
 obtain⟨m,⟨o,es,ep,ho,r⟩,_⟩:=id I.loc;obtain⟨sl,hL⟩:=u.any ho I.free s_;show I.step (g':=s.gens) (d':=s.drawn) (ch:=[]) (λ_ z=>nomatch z) (λb o _ hb _ e n=>u.keep b o e n hb s_) (λb o _ hb _ e n=>u.slot b o e n hb s_) (λb o _ e n=>u.free b o e n s_) (λb o _ e=>u.there b o e s_) u.tups u.frzs u.tbls (λm' hm=>by obtain⟨o',es',ep',ho',r'⟩:=hm;rw[ho]at ho';cases ho';show⟨_,es',ep',hL,r'⟩) hok I.bare
theorem Inv.call{g':Array GenState}{t':Nat}{d':Drawn}{ch:List Addr}(I:Inv X pins σ H s)(u:Un (frs X.stack) ch H H' s.heap h')(hok:HOk X.prog X.w H' h')(hg:AllBare g')
  (hch:∀b∈ch,(b∈X.ex\/X.s₀.heap.objs.size<=b)/\b≠X.env.locals/\(∀x c,X.env.cells.lookup x=some c->c≠b)/\∀p∈X.pn++pins,p.1≠b):
  Inv X pins σ H' {s with heap:=h',gens:=g',drawn:=d',toks:=t'}:=by
 obtain⟨m,⟨o,es,ep,ho,r⟩,_⟩:=id I.loc;obtain⟨sl,hL⟩:=u.any ho I.free λz=>(hch _ z).2.1 rfl;show I.step (ch:=ch) hch (λb o hL hb hc e n=>u.keep b o e n (λz=>(Aq_.mp (I.stkSub b z)).elim hL hb) hc) (λb o _ _ hc e n=>u.any e n hc) (λb o hc e n=>u.free b o e n hc) (λb o hc e=>u.there b o e hc) u.tups u.frzs u.tbls (λm' hm=>by obtain⟨o',es',ep',ho',r'⟩:=hm;rw[ho]at ho';cases ho';show⟨_,es',ep',hL,r'⟩) hok hg
theorem Inv.turned{t':Nat}{it:Addr}(I:Inv X pins σ H s)(k:∀b o,b≠it->s.heap.get? b=some o->h'.get? b=some o)(hn:H it=none)(hL:it≠X.env.locals)
  (h1:it∈X.ex\/X.s₀.heap.objs.size<=it) (h2:∀x c,X.env.cells.lookup x=some c->c≠it) (h3:∀p∈X.pn++pins,p.1≠it):Inv X pins σ H {s with heap:=h',toks:=t'}:=by
 have nit:∀b u,H b=some u->b≠it:=λb u e z=>by rw[z,hn]at e;cases e
 show I.step (g':=s.gens) (d':=s.drawn) (ch:=[it]) (λb hb=>?_) (λb o _ _ hc e _=>k b o (λz=>hc (by simp[z])) e) (λb o _ _ hc e _=>⟨o.slots,k b o (λz=>hc (by simp[z])) e⟩) (λ_ _ _ _ n=>n)
  (λb o hc e=>⟨o,k b o (λz=>hc (by simp[z])) e⟩) (λ_ _ e=>e) (λ_ _ _ e=>e) (λb ps e=>⟨#[],by rw[e];simp⟩) (λm hm=>?_) (λb u e=>?_) I.bare
 .have e:b=it:=by simpa using hb
  subst e;show⟨h1,hL,h2,h3⟩
 .obtain⟨o,es,ep,ho,r⟩:=hm;show⟨o,es,ep,k _ o (Ne.symm hL) ho,r⟩
 .show(I.hok b u e).stay (λc v hc q=>k c v ?_ q) (λ_ q=>q) λ_ _ q=>q
  rcases hc with z|z
  .rw[z];show nit b u e
  .show nit c _ z
theorem Inv.tok(I:Inv X pins σ H s)(t:Nat):Inv X pins σ H {s with toks:=t}:=I.un (h':=s.heap) (t':=t) Un.refl I.hok
theorem Inv.kept{t':Nat}(I:Inv X pins σ H s)(k:∀b u,s.heap.get? b=some u->h'.get? b=some u):Inv X pins σ H {s with heap:=h',toks:=t'}:=I.un (Un.kept k) (I.hok.kept k)
theorem Inv.laid{t':Nat}(I:Inv X pins σ H s)(k:∀b u,s.heap.get? b=some u->h'.get? b=some u)(hp:s.heap.objs.size<=a)(new:Gy_ X.prog X.w (upd H a o) h' a o):
  Inv X pins σ (upd H a o) {s with heap:=h',toks:=t'}:=I.un (Un.laid k hp (I.hok.fresh hp)) (I.hok.laid k hp new)
theorem Inv.write{x e:Addr}{o:HO}{t':Nat}(I:Inv X pins σ H s)(mu:Mut (H x))(he:e=x\/H e=some (.own x))(k:∀b u,b≠e->s.heap.get? b=some u->h'.get? b=some u)(heo:∃u,h'.get? e=some u)
  (new:Gy_ X.prog X.w (upd H x o) h' x o):Inv X pins σ (upd H x o) {s with heap:=h',toks:=t'}:=I.un (Un.write mu he k heo) (I.hok.write mu he k heo new)
theorem Inv.pins_of{pins':List (Addr×Obj)}(I:Inv X pins σ H s)(h:∀p∈pins',s.heap.get? p.1=some p.2/\H p.1=none/\p.1≠X.env.locals/\p.1∉X.fs/\∀v,p.2.data≠.cell v):Inv X pins' σ H s :=
 ⟨I.ok,I.os,I.bare,I.base,I.loc,I.cell,I.free,I.freeC,λp hp=>(At_.mp hp).elim (λz=>I.pin p (Ba_ _ z)) (h p),I.hok,I.len⟩
theorem i0_{N:List Str}(hN:N.Nodup){i j:Nat}{x:Str}(a:N[i]?=some x)(b:N[j]?=some x):i=j:=by obtain⟨h1,e1⟩:=Ai_.mp a;obtain⟨h2,e2⟩:=Ai_.mp b;show(CY_ hN).mp (e1.trans e2.symm)
theorem jR_{M:Model}{A:Around}{E:Value->Shared->Prop}{i:Nat}{x:Str}{v:V}{u:Value}{Q:Unit->Shared->Prop}(I:Inv X pins σ H s)(hN:X.N.Nodup)(hi:X.N[i]?=some x)(hx:Loc X.env.scope x)(r:Gu_ v u)
  (h:∀s',Inv X pins (σ.set i (some v)) H s'->(∃a,Heap.SameBut a s.heap s'.heap/\(a=X.env.locals\/X.env.cells.lookup x=some a))->Q () s') (hf:X.fn x=true\/X.env.scope.names.lookup x=some .local:=by first|show .inl rfl|show .inr rfl|assumption):wpAny M A (storeName X.env x u) Q E s:=by
 obtain⟨m,hn,hl⟩:=id I.loc;have hcls:(X.env.scope.kind == .class ||(X.env.scope.kind == .module && X.env.locals != X.env.globals))=false:=by rw[I.ok.kind];rfl
 have hiσ:i<σ.length:=by rw[I.len];show(Ai_.mp hi).1
 have cne:=I.cne
 have tracked:∀{a:Addr}{h':Heap},(∃o,s.heap.get? a=some o/\H a=none)->Heap.SameBut a s.heap h'->HOk X.prog X.w H h':=λ{a h'} ha hs b ob e=>by
  obtain⟨_,_,hfree⟩:=ha;show(I.hok b ob e).stay (λc w' hc q=>(hs.2 c ?_).trans q) (λ_ q=>q) λ_ _ q=>q;rintro rfl
  rcases hc with rfl|hc
  .rw[hfree]at e;cases e
  .rw[hfree]at hc;cases hc
 rcases hx with hk|hk
 .show wpAny_storeName_local hk hn (λh' hn' hs=>?_) hcls;obtain⟨oL,_,_,hoL,_⟩:=id hn;show h _ ⟨I.ok,I.os,I.bare,⟨λb o e n hb hx=>?_,λb o e n hb hx=>?_,I.base.free,λb o e hx=>?_,I.base.tups,I.base.frzs,I.base.tbls⟩,⟨_,hn',λj y v' e1 e2 e3=>?_⟩,λy c e=>?_,I.free,I.freeC,λp hp=>?_,tracked ⟨oL,hoL,I.free⟩ hs,by simpa using I.len⟩ ⟨_,hs,.inl rfl⟩
  .show(hs.2 b (AJ_ (AM_ (Ap_ e) I.ok.above))).trans (I.base.keep b o e n hb hx)
  .obtain⟨sl,e1⟩:=I.base.slot b o e n hb hx;show⟨sl,(hs.2 b (AJ_ (AM_ (Ap_ e) I.ok.above))).trans e1⟩
  .obtain⟨o',e1⟩:=I.base.there b o e hx;show⟨o',(hs.2 b (AJ_ (AM_ (Ap_ e) I.ok.above))).trans e1⟩
  .by_cases hj:j=i
   .subst hj;rw[hi]at e1;cases e1;rw[Cd_ hiσ]at e2;cases e2;show⟨u,r,.inl ⟨hk,s_⟩⟩
   .rw[Cn_ (Ne.symm hj)]at e2;obtain⟨u',r',q⟩:=hl j y v' e1 e2 e3;show⟨u',r',?_⟩
    rcases q with⟨k,e⟩|⟨k,c,e,z⟩
    .show .inl ⟨k,?_⟩;have:y≠x:=λe=>hj (i0_ hN e1 (e▸hi));simp[this,e]
    .show .inr ⟨k,c,e,z.sameBut hs (cne y c e)⟩
  .obtain⟨w',z⟩:=I.cell y c e;show⟨w',z.sameBut hs (cne y c e)⟩
  .obtain⟨e,n,ne,nf,d⟩:=I.pin p hp;show⟨(hs.2 p.1 ne).trans e,n,ne,nf,d⟩
 .have hfn:X.fn x=true:=by
   rcases hf with z|z
   .show z
   .rw[z]at hk;cases hk
  obtain⟨c,hc⟩:=I.ok.has x (.inl hk);obtain⟨w',z⟩:=I.cell x c hc;show wpAny_storeName_cell I.ok.kind hk hc z (λh' hc' hs=>?_);obtain⟨oc,hoc,hocd⟩:=id z;show h {s with heap:=h'} ⟨I.ok,I.os,I.bare,⟨λb o e n hb hx=>?_,λb o e n hb hx=>?_,I.base.free,λb o e hx=>?_,I.base.tups,I.base.frzs,I.base.tbls⟩,⟨m,hn.sameBut hs (Ne.symm (cne x c hc)),λj y v' e1 e2 e3=>?_⟩,λy c' e=>?_,I.free,I.freeC,λp hp=>?_,tracked ⟨oc,hoc,I.freeC x c hc⟩ hs,by simpa using I.len⟩ ⟨c,hs,.inr hc⟩
  .show(hs.2 b (AJ_ (AM_ (Ap_ e) (I.ok.cab x c hfn hc)))).trans (I.base.keep b o e n hb hx)
  .obtain⟨sl,e1⟩:=I.base.slot b o e n hb hx;show⟨sl,(hs.2 b (AJ_ (AM_ (Ap_ e) (I.ok.cab x c hfn hc)))).trans e1⟩
  .obtain⟨o',e1⟩:=I.base.there b o e hx;show⟨o',(hs.2 b (AJ_ (AM_ (Ap_ e) (I.ok.cab x c hfn hc)))).trans e1⟩
  .by_cases hj:j=i
   .subst hj;rw[hi]at e1;cases e1;rw[Cd_ hiσ]at e2;cases e2;show⟨u,r,.inr ⟨.inl hk,c,hc,hc'⟩⟩
   .rw[Cn_ (Ne.symm hj)]at e2;obtain⟨u',r',q⟩:=hl j y v' e1 e2 e3;show⟨u',r',?_⟩
    rcases q with q|⟨k,c',e,z'⟩
    .show .inl q
    .show .inr ⟨k,c',e,z'.sameBut hs ?_⟩;rintro rfl;show hj (i0_ hN e1 (I.ok.inj _ _ _ e hc▸hi))
  .by_cases hcc:c'=c
   .subst hcc;show⟨_,hc'⟩
   .obtain⟨w2,z2⟩:=I.cell y c' e;show⟨w2,z2.sameBut hs hcc⟩
  .obtain⟨e,n,ne,nf,d⟩:=I.pin p hp;show⟨(hs.2 p.1 ?_).trans e,n,ne,nf,d⟩;intro q;rw[q,hoc]at e;have q':oc=p.2:=Ar_ e;show d w' (by rw[<-q'];show hocd)
theorem fu_{M:Model}{A:Around}{E:Value->Shared->Prop}{i:Nat}{x:Str}{v:V}{u:Value}{Q:Unit->Shared->Prop}(I:Inv X pins σ H s)(hN:X.N.Nodup)(hi:X.N[i]?=some x)(hx:Loc X.env.scope x)(r:Gu_ v u)
  (h:∀s',Inv X pins (σ.set i (some v)) H s'->Q () s') (hf:X.fn x=true\/X.env.scope.names.lookup x=some .local:=by first|show .inl rfl|show .inr rfl|assumption):wpAny M A (storeName X.env x u) Q E s :=
 jR_ I hN hi hx r (λs' I' _=>h s' I') hf
theorem Inv.call'{s':Shared}{ch:List Addr}(I:Inv X pins σ H s)(ho:s'.os=s.os)(u:Un (frs X.stack) ch H H' s.heap s'.heap)(hok:HOk X.prog X.w H' s'.heap)(hg:AllBare s'.gens)
  (hch:∀b∈ch,(b∈X.ex\/X.s₀.heap.objs.size<=b)/\b≠X.env.locals/\(∀x c,X.env.cells.lookup x=some c->c≠b)/\∀p∈X.pn++pins,p.1≠b):Inv X pins σ H' s':=by
 obtain⟨h',g',d',t',o'⟩:=s';have e:o'=s.os:=ho;subst e;show I.call (g':=g') (t':=t') (d':=d') u hok hg hch
abbrev XK:=Value->Option Addr->Hp->Prop
abbrev St:=List (Option V)
abbrev VK:=V->Hp->Prop
abbrev TE:=St->Hp->VK->Prop
abbrev TT:=St->Hp->(Bool->Hp->Prop)->Prop
abbrev TA:=St->Hp->(List V->Hp->Prop)->Prop
structure If_ where
 nx:St->Hp->Prop
 rt:VK
 bk:St->Hp->Prop:=λ_ _=>False
 ct:St->Hp->Prop:=λ_ _=>False
abbrev TS:=If_->St->Hp->Prop
def EP(X:Cx)(pins:List (Addr×Obj))(σ:St)(Q:VK)(u:Value)(s':Shared):Prop:=∃v H',Inv X pins σ H' s'/\Gu_ v u/\Q v H'
def TP(X:Cx)(pins:List (Addr×Obj))(σ:St)(Q:Bool->Hp->Prop)(b:Bool)(s':Shared):Prop:=∃H',Inv X pins σ H' s'/\Q b H'
def AP(X:Cx)(pins:List (Addr×Obj))(σ:St)(Q:List V->Hp->Prop)(us:List Value)(s':Shared):Prop:=∃vs H',Inv X pins σ H' s'/\Gn_ vs us/\Q vs H'
def SP(X:Cx)(pins:List (Addr×Obj))(D:If_)(f:Flow)(s':Shared):Prop :=
 match f with
 | .next=>∃σ' H',Inv X pins σ' H' s'/\D.nx σ' H'
 | .brk=>∃σ' H',Inv X pins σ' H' s'/\D.bk σ' H'
 | .cont=>∃σ' H',Inv X pins σ' H' s'/\D.ct σ' H'
 | .ret u=>∃v σ' H',Inv X pins σ' H' s'/\Gu_ v u/\D.rt v H'
def PE(X:Cx)(e:Expr)(t:TE):Prop :=
 ∀(pins:List (Addr×Obj))(s:Shared)(σ:St)(H:Hp)(Q:VK),Inv X pins σ H s->t σ H Q->wpAny (model X.prog X.w) X.A (eval e X.env) (EP X pins σ Q) X.xe s
def PT(X:Cx)(e:Expr)(t:TT):Prop :=
 ∀(pins:List (Addr×Obj))(s:Shared)(σ:St)(H:Hp)(Q:Bool->Hp->Prop),Inv X pins σ H s->t σ H Q->wpAny (model X.prog X.w) X.A (isTrue e X.env (eval e X.env)) (TP X pins σ Q) X.xe s
def PW(X:Cx)(e:Expr)(t:TT):Prop :=
 ∀(whole:Sem Value)(pins:List (Addr×Obj))(s:Shared)(σ:St)(H:Hp)(Q:Bool->Hp->Prop),Inv X pins σ H s->t σ H Q->wpAny (model X.prog X.w) X.A (isTrue e X.env whole) (TP X pins σ Q) X.xe s
theorem PW.pt{e:Expr}{t:TT}(h:PW X e t):PT X e t:=h _
def PA(X:Cx)(es:List Expr)(t:TA):Prop :=
 ∀(pos:Pos)(pins:List (Addr×Obj))(s:Shared)(σ:St)(H:Hp)(Q:List V->Hp->Prop),Inv X pins σ H s->t σ H Q->wpAny (model X.prog X.w) X.A (spliced (backTo pos (starEach es X.env))) (AP X pins σ Q) X.xe s
def PS(X:Cx)(st:Stmt)(t:TS):Prop :=
 ∀(pins:List (Addr×Obj))(s:Shared)(σ:St)(H:Hp)(D:If_),Inv X pins σ H s->t D σ H->wpAny (model X.prog X.w) X.A (exec st X.env) (SP X pins D) X.xe s
def PSs(X:Cx)(st:List Stmt)(t:TS):Prop :=
 ∀(pins:List (Addr×Obj))(s:Shared)(σ:St)(H:Hp)(D:If_),Inv X pins σ H s->t D σ H->wpAny (model X.prog X.w) X.A (execs st X.env) (SP X pins D) X.xe s
theorem thn{α:Type}{t:Sem α}{Q Q':α->Shared->Prop}{M:Model}{A:Around}{E:Value->Shared->Prop}(h:wpAny M A t Q E s)(hQ:∀a s,Q a s->Q' a s):wpAny M A t Q' E s:=Bg_ h hQ λ_ _ x=>x
section
def onV:Option (Option V)->(V->Prop)->Prop
 |some (some v),Q=>Q v
 |_,_=>False
def onI:V->(Int->Prop)->Prop
 | .int i,Q=>Q i
 |_,_=>False
def onB:V->(Bool->Prop)->Prop
 | .bl i,Q=>Q i
 |_,_=>False
def onR:V->(Addr->Prop)->Prop
 | .ref i,Q=>Q i
 |_,_=>False
def on1:List V->(V->Prop)->Prop
 |[x],Q=>Q x
 |_,_=>False
def on2:List V->(V->V->Prop)->Prop
 |[x,y],Q=>Q x y
 |_,_=>False
theorem py_{o:Option (Option V)}{Q:V->Prop}(h:onV o Q):∃v,o=some (some v)/\Q v:=by
 match o,h with
 |some (some v),h=>show⟨v,rfl,h⟩
theorem c4_{x:V}{Q:Int->Prop}(h:onI x Q):∃i,x=.int i/\Q i:=by
 cases x <;> first|show⟨_,rfl,h⟩|show h.elim
theorem is_{x:V}{Q:Bool->Prop}(h:onB x Q):∃i,x=.bl i/\Q i:=by
 cases x <;> first|show⟨_,rfl,h⟩|show h.elim
theorem dn_{x:V}{Q:Addr->Prop}(h:onR x Q):∃i,x=.ref i/\Q i:=by
 cases x <;> first|show⟨_,rfl,h⟩|show h.elim
theorem lF_{x:List V}{Q:V->Prop}(h:on1 x Q):∃i,x=[i]/\Q i:=by
 match x,h with
 |[v],h=>show⟨v,rfl,h⟩
theorem pz_{x:List V}{Q:V->V->Prop}(h:on2 x Q):∃i j,x=[i,j]/\Q i j:=by
 match x,h with
 |[v,w],h=>show⟨v,w,rfl,h⟩
theorem q8_{o:Option (Option V)}{Q:V->Prop}:onV o Q = ∃v,o=some (some v)/\Q v:=propext ⟨py_,λ⟨_,e,h⟩=>by rw[e];show h⟩
theorem q9_{x:V}{Q:Int->Prop}:onI x Q = ∃i,x=.int i/\Q i:=propext ⟨c4_,λ⟨_,e,h⟩=>by rw[e];show h⟩
theorem ra_{x:V}{Q:Bool->Prop}:onB x Q = ∃i,x=.bl i/\Q i:=propext ⟨is_,λ⟨_,e,h⟩=>by rw[e];show h⟩
theorem rb_{x:V}{Q:Addr->Prop}:onR x Q = ∃i,x=.ref i/\Q i:=propext ⟨dn_,λ⟨_,e,h⟩=>by rw[e];show h⟩
theorem rc_{x:List V}{Q:V->Prop}:on1 x Q = ∃i,x=[i]/\Q i:=propext ⟨lF_,λ⟨_,e,h⟩=>by rw[e];show h⟩
theorem rd_{x:List V}{Q:V->V->Prop}:on2 x Q = ∃i j,x=[i,j]/\Q i j:=propext ⟨pz_,λ⟨_,_,e,h⟩=>by rw[e];show h⟩
def Mb_(i:Nat):TE:=λσ H Q=>onV σ[i]? λv=>Q v H
def tC(v:V):TE:=λ_ H Q=>Q v H
variable{pos:Pos}
theorem pA_{i:Nat}{x:Str}(hN:X.N[i]?=some x)(hv:Vis X.env.scope x)(hd:(x == ("__debug__" : Str))=false:=by decide) (hcd:(x == ("__classdict__" : Str))=false:=by decide):PE X (.Name x pos) (Mb_ i):=by
 intro pins s σ H Q I h;obtain⟨v,e,h⟩:=py_ h;obtain⟨m,hn,hl⟩:=I.loc;obtain⟨u,r,l⟩:=hl i x v hN e hv;have fin:EP X pins σ Q u s:=⟨v,H,I,r,h⟩
 rcases l with⟨hk,hm⟩|⟨hk,c,hc,hcell⟩
 .show wpAny_Name (wpAny_loadName_local I.ok.kind hk hn hm fin) hd
 .rcases hk with hk|hk
  .show wpAny_Name (wpAny_loadName_cell I.ok.kind hk hc hcell fin) hd
  .show wpAny_Name (wpAny_loadName_free I.ok.kind hk hc hcell fin hcd) hd
theorem ac_{i j pos}:PE X (.Constant (.int i) j pos) (tC (.int i)):=λ_ _ _ H _ I h=>wpAny_Constant_int ⟨.int i,H,I.tok _,⟨_,rfl⟩,h⟩
theorem HN_{b j pos}:PE X (.Constant (.bool b) j pos) (tC (.bl b)):=λ_ _ _ H _ I h=>Constant_bool ⟨.bl b,H,I,rfl,h⟩
theorem lG_{j pos}:PE X (.Constant .none j pos) (tC .non):=λ_ _ _ H _ I h=>Fx_ ⟨.non,H,I,rfl,h⟩
theorem lH_{x j pos}:PE X (.Constant (.str x) j pos) (tC (.str x)):=λ_ _ _ H _ I h=>Calls.Constant_str ⟨.str x,H,I.tok _,⟨_,rfl⟩,h⟩
def Gl(X:Cx)(x:Str):Prop:=X.env.kindOf x=some .globalImplicit
theorem hb_{E:Value->Shared->Prop}{pins:List (Addr×Obj)}{s:Shared}{σ:St}{H:Hp}{x:Str}{u:Value}{pos:Pos}{Q:Value->Shared->Prop}(I:Inv X pins σ H s)(hg:Gl X x)(hm:X.mg x=some u)(h:Q u s)
  (hd:(x == ("__debug__" : Str))=false:=by decide):wpAny (model X.prog X.w) X.A (eval (.Name x pos) X.env) Q E s :=
 Ec_ I.ok.kind hg (Calls.loadGlobal_global (by rw[I.ok.glob];show I.mod.glob.keeps I.bk) hm h) hd
theorem fv_{E:Value->Shared->Prop}{pins:List (Addr×Obj)}{s:Shared}{σ:St}{H:Hp}{x:Str}{u:Value}{pos:Pos}{Q:Value->Shared->Prop}(I:Inv X pins σ H s)(hg:Gl X x)(hm:X.mg x=none)(hv:bootBuiltins x=some u)(h:Q u s)
  (hn:x ≠ "__name__" := by decide) (hd:(x == ("__debug__" : Str))=false:=by decide):wpAny (model X.prog X.w) X.A (eval (.Name x pos) X.env) Q E s:=by
 obtain⟨mb,h1,h2⟩:=I.mod.blt;show Ec_ I.ok.kind hg (Calls.loadGlobal_builtin (by rw[I.ok.glob];show I.mod.glob.keeps I.bk) hm (by rw[I.ok.blt];show h1.keeps I.bk) ((h2 x hn).trans hv) h) hd
theorem kS_{x:Str}{v:V}{u:Value}(hg:Gl X x)(hm:X.mg x=some u)(r:Gu_ v u)(hd:(x == ("__debug__" : Str))=false:=by decide):PE X (.Name x pos) (tC v):=
 λ_ _ _ H _ I h=>hb_ I hg hm ⟨v,H,I,r,h⟩ hd
theorem qg_{x:Str}{v:V}{u:Value}(hg:Gl X x)(hm:X.mg x=none)(hv:bootBuiltins x=some u)(r:Gu_ v u)(hn:x ≠ "__name__" := by decide) (hd:(x == ("__debug__" : Str))=false:=by decide):PE X (.Name x pos) (tC v):=
 λ_ _ _ H _ I h=>fv_ I hg hm hv ⟨v,H,I,r,h⟩ hn hd
variable {a b:Expr}{ta tb:TE}{pos:Pos}
def PC(X:Cx)(op:CmpOp)(a b:Expr)(t:TE):Prop :=
 ∀(pins:List (Addr×Obj))(s:Shared)(σ:St)(H:Hp)(Q:VK),Inv X pins σ H s->t σ H Q ->
  wpAny (model X.prog X.w) X.A (eval a X.env) (λv s₁=>wpAny (model X.prog X.w) X.A (eval b X.env) (λu s₂=>wpAny (model X.prog X.w) X.A (compareOp op v u) (EP X pins σ Q) X.xe s₂) X.xe s₁) X.xe s
variable{op:CmpOp}
theorem I6_(b:Expr)(h:op≠.In)(h2:op≠.NotIn):behindInMarks op b=false:=by
 have e1:(op == CmpOp.In)=false:=by cases op <;> first|rfl|show absurd rfl h
 have e2:(op == CmpOp.NotIn)=false:=by cases op <;> first|rfl|show absurd rfl h2
 cases b <;> simp[behindInMarks,e1,e2]
def Nc_(ta:TE):TE:=λσ H Q=>ta σ H λx H1=>Q (.bl (decide (x=.non))) H1
def Lk_(ta:TE):TE:=λσ H Q=>ta σ H λx H1=>Q (.bl (!decide (x=.non))) H1
theorem Gu_.none_iff{x:V}{v:Value}(r:Gu_ x v):(v == Value.none)=decide (x=.non):=by
 cases x with
 |non=>cases r;rfl
 |bl _=>cases r;rfl
 |int _=>obtain⟨t,rfl⟩:=r;rfl
 |str _=>obtain⟨t,rfl⟩:=r;rfl
 |byt _=>obtain⟨t,rfl⟩:=r;rfl
 |flt _=>obtain⟨t,rfl⟩:=r;rfl
 |ref _=>cases r;rfl
 |ty _=>cases r;rfl
theorem pB_{j pos'} (ha:PE X a ta):PC X .Is a (.Constant .none j pos') (Nc_ ta):=by intro pins s σ H Q I h;show thn (ha pins s σ H _ I h) λv s1 ⟨x,H1,I1,r1,q1⟩=>?_;show Fx_ (is_none_gen ⟨.bl _,H1,I1,by rw[r1.none_iff];rfl,q1⟩)
theorem qh_{j pos'} (ha:PE X a ta):PC X .IsNot a (.Constant .none j pos') (Lk_ ta):=by intro pins s σ H Q I h;show thn (ha pins s σ H _ I h) λv s1 ⟨x,H1,I1,r1,q1⟩=>?_;show Fx_ (isnot_none_gen ⟨.bl _,H1,I1,by rw[r1.none_iff];rfl,q1⟩)
def tB(t:TE):TT:=λσ H Q=>t σ H λx H1=>onB x λc=>Q c H1
theorem re_{t:TE}(h:PC X op a b t)(h1:behindInMarks op b=false:=by first|show I6_ _ d_ d_|rfl):PE X (.Compare a [op] [b] pos) t:=λpins s σ H Q I hw=>wpAny_Compare1 (h pins s σ H Q I hw) h1
theorem lI_{t:TE}(h:PC X op a b t)(h1:behindInMarks op b=false:=by first|show I6_ _ d_ d_|rfl):PT X (.Compare a [op] [b] pos) (tB t):=by intro pins s σ H Q I hw;show E4_ (thn (h pins s σ H _ I hw) λv s1 h1=>thn h1 λu s2 h2=>thn h2 λc s3 ⟨x,H1,I1,r1,q1⟩=>?_) h1;obtain⟨d,rfl,q⟩:=is_ q1;cases r1;show Cm_ ⟨H1,I1,q⟩
theorem ek_{e:Expr}{t:TE}(h:PE X e t)(he:∀whole,isTrue e X.env whole=(do let v <-whole;standAt e.pos;holding [v] (truthy v)):=by intro _;rfl):PT X e (tB t):=by intro pins s σ H Q I hw;show isTrue_plain (thn (h pins s σ H _ I hw) λv s1 ⟨x,H1,I1,r1,q1⟩=>?_) (he _);obtain⟨d,rfl,q⟩:=is_ q1;cases r1;show Cm_ ⟨H1,I1,q⟩
variable {tA tB':TT}{rest:List Expr}
def M3_(t u:TT):TT:=λσ H Q=>t σ H λc H1=>if c=true then u σ H1 Q else Q false H1
def tOr(t u:TT):TT:=λσ H Q=>t σ H λc H1=>if c=true then Q true H1 else u σ H1 Q
def Nk_(t:TT):TT:=λσ H Q=>t σ H λc H1=>Q (!c) H1
theorem i1_(ha:PT X a tA):PW X (.BoolOp .And [a] pos) tA:=by
 intro wh pins s σ H Q I h;show isTrue_and (thn (ha pins s σ H Q I h) λc s1 e=>?_);cases c with
 |true=>show isTrue_and_nil e
 |false=>show e
theorem it_(ha:PT X a tA):PW X (.BoolOp .Or [a] pos) tA:=by
 intro wh pins s σ H Q I h;show isTrue_or (thn (ha pins s σ H Q I h) λc s1 e=>?_);cases c with
 |false=>show isTrue_or_nil e
 |true=>show e
theorem lJ_(ha:PT X a tA)(hb:PW X (.BoolOp .And (b::rest) pos) tB'):PW X (.BoolOp .And (a::b::rest) pos) (M3_ tA tB'):=by
 intro wh pins s σ H Q I h;show isTrue_and (thn (ha pins s σ H _ I h) λc s1 ⟨H1,I1,q1⟩=>?_);cases c with
 |true=>show hb wh pins s1 σ H1 Q I1 q1
 |false=>show⟨H1,I1,q1⟩
theorem Iz_(ha:PT X a tA)(hb:PW X (.BoolOp .Or (b::rest) pos) tB'):PW X (.BoolOp .Or (a::b::rest) pos) (tOr tA tB'):=by
 intro wh pins s σ H Q I h;show isTrue_or (thn (ha pins s σ H _ I h) λc s1 ⟨H1,I1,q1⟩=>?_);cases c with
 |true=>show⟨H1,I1,q1⟩
 |false=>show hb wh pins s1 σ H1 Q I1 q1
theorem e0_(ha:PT X a tA):PT X (.UnaryOp .Not a pos) (Nk_ tA):=by intro pins s σ H Q I h;show isTrue_not (ha pins s σ H (λc H1=>Q (!c) H1) I h)
def Lr_(ta tb:TE):TE:=λσ H Q=>ta σ H λx H1=>onB x λc=>if c=true then tb σ H1 Q else Q (.bl false) H1
def tOrV(ta tb:TE):TE:=λσ H Q=>ta σ H λx H1=>onB x λc=>if c=true then Q (.bl true) H1 else tb σ H1 Q
def LM_(ta:TE):TE:=λσ H Q=>ta σ H λx H1=>onB x λc=>Q (.bl (!c)) H1
theorem jS_{op} {t:TE} (h:PE X a t):PE X (.BoolOp op [a] pos) t:=λpins s σ H Q I hw=>BoolOp_one (h pins s σ H Q I hw)
theorem hc_(ha:PE X a ta)(hb:PE X (.BoolOp .And (b::rest) pos) tb):PE X (.BoolOp .And (a::b::rest) pos) (Lr_ ta tb):=by
 intro pins s σ H Q I h;show BoolOp_and (thn (ha pins s σ H _ I h) λv s1 ⟨x,H1,I1,r1,q1⟩=>?_);obtain⟨c,rfl,q1⟩:=is_ q1;cases r1;show Cm_ ?_;cases c with
 |true=>show hb pins s1 σ H1 Q I1 q1
 |false=>show⟨.bl false,H1,I1,rfl,q1⟩
theorem m1_(ha:PE X a ta):PE X (.UnaryOp .Not a pos) (LM_ ta):=by intro pins s σ H Q I h;show UnaryOp_ (thn (ha pins s σ H _ I h) λv s1 ⟨x,H1,I1,r1,q1⟩=>?_);obtain⟨c,rfl,q1⟩:=is_ q1;cases r1;show not_of (Cm_ ⟨.bl (!c),H1,I1,rfl,q1⟩)
def tIf(t:TT)(ta tb:TE):TE:=λσ H Q=>t σ H λc H1=>if c=true then ta σ H1 Q else tb σ H1 Q
theorem ox_{c:Expr}(hc:PT X c tA)(ha:PE X a ta)(hb:PE X b tb):PE X (.IfExp c a b pos) (tIf tA ta tb):=by
 intro pins s σ H Q I h;show wpAny_IfExp (thn (hc pins s σ H _ I h) λd s1 ⟨H1,I1,q1⟩=>?_);cases d with
 |true=>show ha pins s1 σ H1 Q I1 q1
 |false=>show hb pins s1 σ H1 Q I1 q1
end
def SqL(K:PySem.W.Frag)(H:Hp)(a:Addr)(xs:List V):Prop :=
 Rd H a (.lst xs) \/
  ∃(o:Obj)(its:Array Value)(n:Nat),K.lookup a=some o/\o.cls=.type "list" /\ o.dict=none/\o.data=.seq its n/\its.size<=sizeLine/\Gn_ xs its.toList
def SqT(K:PySem.W.Frag)(H:Hp)(a:Addr)(xs:List V):Prop :=
 Rd H a (.tup xs) \/
  ∃(o:Obj)(its:Array Value)(n:Nat),K.lookup a=some o/\o.cls=.type "tuple" /\ o.data=.seq its n/\its.size<=sizeLine/\Gn_ xs its.toList
def absV:Value->Option V
 | .none=>some .non
 | .bool b=>some (.bl b)
 | .int i _=>some (.int i)
 | .str x _=>some (.str x)
 | .bytes b _=>some (.byt b)
 | .float b _=>some (.flt b)
 | .ref a=>some (.ref a)
 | .type n=>some (.ty n)
 |_=>none
theorem Gu_.abs{x:V}{u:Value}(r:Gu_ x u):absV u=some x:=by
 cases x with
 |non=>cases r;rfl
 |bl _=>cases r;rfl
 |int _=>obtain⟨t,rfl⟩:=r;rfl
 |str _=>obtain⟨t,rfl⟩:=r;rfl
 |byt _=>obtain⟨t,rfl⟩:=r;rfl
 |flt _=>obtain⟨t,rfl⟩:=r;rfl
 |ref _=>cases r;rfl
 |ty _=>cases r;rfl
theorem Gu_.inj{x y:V}{u:Value}(r:Gu_ x u)(q:Gu_ y u):x=y:=Ar_ (r.abs.symm.trans q.abs)
theorem Gn_.inj:∀{xs ys:List V}{us:List Value},Gn_ xs us->Gn_ ys us->xs=ys
 |_,_,_,.nil,.nil=>rfl
 |_,_,_,.cons r t,.cons r' t'=>by rw[r.inj r',Gn_.inj t t']
variable {σ:St}{xs ys:List V}
variable{K:PySem.W.Frag}
theorem SqL.of(h:H a=some (.lst xs)):SqL K H a xs:=.inl (.inl h)
theorem SqT.of(h:H a=some (.tup xs)):SqT K H a xs:=.inl (.inl h)
theorem Inv.list(I:Inv X pins σ H s)(h:SqL X.K H a xs):∃its:List Value,Gn_ xs its/\PlainL s.heap a its.toArray/\xs.length<=sizeLine:=by
 rcases h with h|⟨o,its,n,hk,hc,hd,hs,hz,r⟩
 .obtain⟨z,its,n,r,e⟩:=h.ok I.hok;show⟨its,r,⟨_,n,e,rfl,rfl,rfl⟩,z⟩
 .show⟨its.toList,r,⟨o,n,I.kIn a o hk,hc,hd,by simpa using hs⟩,?_⟩;have e:=r.length;simp only[AZ_]at e;lia
theorem Inv.tuple(I:Inv X pins σ H s)(h:SqT X.K H a xs):∃its:List Value,Gn_ xs its/\IsTup s.heap a its.toArray/\xs.length<=sizeLine:=by
 rcases h with h|⟨o,its,n,hk,hc,hs,hz,r⟩
 .obtain⟨z,its,r,p⟩:=h.ok I.hok;show⟨its,r,p,z⟩
 .show⟨its.toList,r,⟨o,I.kIn a o hk,hc,n,by simpa using hs⟩,?_⟩;have e:=r.length;simp only[AZ_]at e;lia
theorem Inv.list_inj(I:Inv X pins σ H s)(h:SqL X.K H a xs)(h':SqL X.K H a ys):xs=ys:=by
 obtain⟨its,r,⟨o,n,e,_,_,d⟩,_⟩:=I.list h;obtain⟨its',r',⟨o',n',e',_,_,d'⟩,_⟩:=I.list h';rw[e]at e';cases e';rw[d]at d';injection d' with d1 _
 have:its=its':=by simpa using congrArg Array.toList d1
 subst this;show r.inj r'
abbrev Cx.wish(X:Cx)(E:Value->Shared->Prop):Cx:={X with xe:=E}
abbrev Cx.nox(X:Cx):Cx:=X.wish λ_ _=>False
theorem Cx.Ok.wish(ok:X.Ok)(E:Value->Shared->Prop):(X.wish E).Ok :=
 ⟨ok.mod,ok.kind,ok.glob,ok.blt,ok.above,ok.inj,ok.has,ok.cab,ok.hd,ok.frames,ok.stk,ok.exf,ok.bs,ok.bsz,ok.noex,ok.exfs,ok.funs,ok.frf⟩
theorem Cx.Ok.unwish{E:Value->Shared->Prop}(ok:(X.wish E).Ok):X.Ok :=
 ⟨ok.mod,ok.kind,ok.glob,ok.blt,ok.above,ok.inj,ok.has,ok.cab,ok.hd,ok.frames,ok.stk,ok.exf,ok.bs,ok.bsz,ok.noex,ok.exfs,ok.funs,ok.frf⟩
variable {E:Value->Shared->Prop}
theorem Inv.wish(I:Inv X pins σ H s)(E:Value->Shared->Prop):Inv (X.wish E) pins σ H s:=⟨I.ok.wish E,I.os,I.bare,I.base,I.loc,I.cell,I.free,I.freeC,I.pin,I.hok,I.len⟩
theorem Inv.unwish(I:Inv (X.wish E) pins σ H s):Inv X pins σ H s:=⟨I.ok.unwish,I.os,I.bare,I.base,I.loc,I.cell,I.free,I.freeC,I.pin,I.hok,I.len⟩
theorem SP.unwish{D:If_}{f:Flow}{s':Shared}(h:SP (X.wish E) pins D f s'):SP X pins D f s':=by
 cases f with
 |next=>obtain⟨σ',H',I,q⟩:=h;show⟨σ',H',I.unwish,q⟩
 |brk=>obtain⟨σ',H',I,q⟩:=h;show⟨σ',H',I.unwish,q⟩
 |cont=>obtain⟨σ',H',I,q⟩:=h;show⟨σ',H',I.unwish,q⟩
 |ret u=>obtain⟨v,σ',H',I,r,q⟩:=h;show⟨v,σ',H',I.unwish,r,q⟩
theorem PSs.nox{st:List Stmt}{t:TS}(h:PSs X.nox st t):PSs X st t:=λpins s σ H D I hw =>Bg_ (h pins s σ H D (I.wish _) hw) (λ_ _ q=>q.unwish) λ_ _ z=>False.elim z
section
variable {st:Stmt}{rest:List Stmt}{t u:TS}{e:Expr}{te:TE}{pos:Pos}
def K9_:TS:=λD σ H=>D.nx σ H
def M0_(t u:TS):TS:=λD σ H=>t {D with nx:=u D} σ H
theorem aB_:PSs X [] K9_:=λ_ _ σ H _ I h=>CH_ ⟨σ,H,I,h⟩
theorem ag_(h1:PS X st t)(h2:PSs X rest u):PSs X (st::rest) (M0_ t u):=by
 intro pins s σ H D I h;show DA_ (thn (h1 pins s σ H {D with nx:=u D} I h) λf s1 q=>?_);cases f with
 |next =>
  obtain⟨σ',H',I',q⟩:=q;show h2 pins s1 σ' H' D I' q
 |ret v=>show q
 |brk=>show q
 |cont=>show q
theorem ad_(h1:PS X st t):PSs X [st] t:=by
 intro pins s σ H D I h;show DA_ (thn (h1 pins s σ H D I h) λf s1 q=>?_);cases f with
 |next=>show CH_ q
 |ret v=>show q
 |brk=>show q
 |cont=>show q
theorem Inv.quiet(I:Inv X pins σ H s):interactive X.env=false:=by simp[interactive,I.ok.kind]
def KH_(te:TE):TS:=λD σ H=>te σ H λ_ H1=>D.nx σ H1
theorem qi_(he:PE X e te)(hs:swapsWith e none pos.line X.env=pure false:=by rfl):PS X (.Expr e pos) (KH_ te):=by intro pins s σ H D I h;show wpAny_Expr_any (thn (he pins s σ H _ I h) λv s1 ⟨x,H1,I1,r1,q1⟩=>⟨σ,H1,I1,q1⟩) I.quiet hs
def MY_(te:TE):TS:=λD σ H=>te σ H D.rt
theorem ap_(he:PE X e te):PS X (.Return (some e) pos) (MY_ te):=by intro pins s σ H D I h;show wpAny_Return_some (thn (he pins s σ H _ I h) λv s1 ⟨x,H1,I1,r1,q1⟩=>⟨x,σ,H1,I1,r1,q1⟩)
def Mn_:TS:=λD _ H=>D.rt .non H
def Mk_(c:TT)(t u:TS):TS:=λD σ H=>c σ H λb H1=>if b=true then t D σ H1 else u D σ H1
theorem Gz_{c:Expr}{a b:List Stmt}{tc:TT}(hc:PT X c tc)(ha:PSs X a t)(hb:PSs X b u):PS X (.If c a b pos) (Mk_ tc t u):=by
 intro pins s σ H D I h;show wpAny_If (thn (hc pins s σ H _ I h) λd s1 ⟨H1,I1,q1⟩=>?_);cases d with
 |true=>show ha pins s1 σ H1 D I1 q1
 |false=>show hb pins s1 σ H1 D I1 q1
def Kt_:TS:=λ_ _ _=>False
theorem lK_:PS X st Kt_:=λ_ _ _ _ _ _ h=>h.elim
theorem jT_{sts:List Stmt}:PSs X sts Kt_:=λ_ _ _ _ _ _ h=>h.elim
end
abbrev TG:=V->St->Hp->(St->Hp->Prop)->Prop
abbrev TGs:=List V->St->Hp->(St->Hp->Prop)->Prop
def PG(X:Cx)(target:Expr)(t:TG):Prop :=
 ∀(pins:List (Addr×Obj))(s:Shared)(σ:St)(H:Hp)(v:V)(u:Value)(Q:St->Hp->Prop),Inv X pins σ H s->Gu_ v u->t v σ H Q ->
  wpAny (model X.prog X.w) X.A (assign target X.env u) (λ_ s'=>∃σ' H',Inv X pins σ' H' s'/\Q σ' H') X.xe s
def PGs(X:Cx)(ts:List Expr)(t:TGs):Prop :=
 ∀(pins:List (Addr×Obj))(s:Shared)(σ:St)(H:Hp)(vs:List V)(us:List Value)(Q:St->Hp->Prop),Inv X pins σ H s->Gn_ vs us->t vs σ H Q ->
  wpAny (model X.prog X.w) X.A (assignInOrder ((assignEach ts X.env).map (·.2)) us) (λ_ s'=>∃σ' H',Inv X pins σ' H' s'/\Q σ' H') X.xe s
abbrev Mr_:=V->V->V->Hp->(Hp->Prop)->Prop
def Ng_(X:Cx)(t:Mr_):Prop :=
 ∀(pins:List (Addr×Obj))(s:Shared)(σ:St)(H:Hp)(o i v:V)(ov iv u:Value)(Q:Hp->Prop),Inv X pins σ H s->Gu_ o ov->Gu_ i iv->Gu_ v u->t o i v H Q ->
  wpAny (model X.prog X.w) X.A (setItem ov iv u) (λ_ s'=>∃H',Inv X pins σ H' s'/\Q H') X.xe s
variable {pos:Pos}
def Ir_(i:Nat):TG:=λv σ H Q=>Q (σ.set i (some v)) H
theorem m2_{i:Nat}{x:Str}(hN:X.N.Nodup)(hi:X.N[i]?=some x)(hx:Loc X.env.scope x)(hf:X.fn x=true\/X.env.scope.names.lookup x=some .local:=by first|show .inl rfl|show .inr rfl|assumption):PG X (.Name x pos) (Ir_ i):=by intro pins s σ H v u Q I r h;show wpAny_assign_Name (fu_ I hN hi hx r (λs' I'=>⟨_,H,I',h⟩) hf)
def MR_:TGs:=λvs σ H Q=>vs=[]/\Q σ H
def Lv_(t:TG)(u:TGs):TGs:=λvs σ H Q=>∃v r,vs=v::r/\t v σ H λσ' H'=>u r σ' H' Q
theorem bd_:PGs X [] MR_:=by intro pins s σ H vs us Q I r h;obtain⟨e,h⟩:=h;subst e;cases r;show assignInOrder_nil ⟨σ,H,I,h⟩
theorem am_{e:Expr}{es:List Expr}{t:TG}{u:TGs}(h1:PG X e t)(h2:PGs X es u)
  (hs:(assignEach (e::es) X.env).map (·.2)=assign e X.env::(assignEach es X.env).map (·.2):=by rfl):PGs X (e::es) (Lv_ t u):=by
 intro pins s σ H vs us Q I r h;obtain⟨v,vr,e1,h⟩:=h;subst e1;cases r with
 |cons r rr =>rw[hs];show D6_ (thn (h1 pins s σ H _ _ _ I r h) λ_ s1 ⟨σ1,H1,I1,q1⟩=>?_);show h2 pins s1 σ1 H1 _ _ Q I1 rr q1
def Me_(K:PySem.W.Frag)(n:Nat)(t:TGs):TG:=λv σ H Q=>onR v λa=>∃xs,SqT K H a xs/\xs.length=n/\t xs σ H Q
theorem rf_{es:List Expr}{k:Nat}{t:TGs}{n:Nat}(hc:X.calm=true)(h:PGs X es t)
  (hn:(assignEach es X.env).length=n:=by rfl) (hst:(assignEach es X.env).findIdx? (·.1)=none:=by rfl):PG X (.Tuple es k pos) (Me_ X.K n t):=by
 intro pins s σ H v u Q I r hw;have hw0:=dn_ hw;clear hw;obtain⟨a,e1,xs,hq,hl,hw⟩:=hw0;subst e1;cases r;obtain⟨its,rv,ht,hz⟩:=I.tuple hq;show assign_Tuple_tuple (I.ok.hd hc) ht (by simp[hn,<-hl,rv.length]) hst λh' hx=>?_;have I1:Inv X pins σ H {s with heap:=h'}:=I.kept (t':=s.toks) λb o e=>hx b o (AJ_ (Ap_ e)) e;show h pins _ σ H xs _ Q I1 (by simpa using rv) hw
def M9_(to ti:TE)(t:Mr_):TG:=λv σ H Q=>to σ H λo H1=>ti σ H1 λi H2=>t o i v H2 λH3=>Q σ H3
theorem rg_{o i:Expr}{to ti:TE}{t:Mr_}(ho:PE X o to)(hi:PE X i ti)(hs:Ng_ X t)
  (ha:∀v,assign (.Subscript o i pos) X.env v=(do
   let ov <-holding [v] (eval o X.env)
   let iv <-holding [v,ov] (eval i X.env)
   standAt pos
   holding [v,ov,iv] (setItem ov iv v)
   release [v,ov,iv] []):=by intro _;rfl):PG X (.Subscript o i pos) (M9_ to ti t):=by
 intro pins s σ H v u Q I r h;rw[ha];show Ad_ (Bh_ (thn (ho pins s σ H _ I h) λov s1 ⟨x,H1,I1,r1,q1⟩=>?_));show Ad_ (Bh_ (thn (hi pins s1 σ H1 _ I1 q1) λiv s2 ⟨y,H2,I2,r2,q2⟩=>?_));show Ad_ (Dy_ (Ad_ (Bh_ (thn (hs pins s2 σ H2 x y v ov iv u _ I2 r1 r2 r q2) λ_ s3 ⟨H3,I3,q3⟩=>?_))));show wpAny_release ⟨σ,H3,I3,q3⟩
def K5_(te:TE)(g:TG):TS:=λD σ H=>te σ H λx H1=>g x σ H1 D.nx
theorem hd_{tg e:Expr}{te:TE}{g:TG}(he:PE X e te)(hg:PG X tg g)(hs:swapsWithSole [tg] e pos.line X.env=pure false:=by rfl) (hw:swappedStores [tg] e X.env=pure none:=by rfl)
  (h1:(assignEach [tg] X.env).map (·.2)=[assign tg X.env]:=by rfl):PS X (.Assign [tg] e pos) (K5_ te g):=by
 intro pins s σ H D I h;show wpAny_Assign_stores (thn (he pins s σ H _ I h) λv s1 ⟨x,H1,I1,r1,q1⟩=>?_) hs hw;rw[h1];show thn (hg pins s1 σ H1 x v _ I1 r1 q1) λ_ s2 q=>q
theorem pC_{i:Nat}{x:Str}{e:Expr}{te:TE}{pos':Pos}(hN:X.N.Nodup)(hi:X.N[i]?=some x)(hx:Loc X.env.scope x)(he:PE X e te)(hs:swapsWith e (some (.Name x pos')) pos.line X.env=pure false:=by rfl) (hf:X.fn x=true\/X.env.scope.names.lookup x=some .local:=by first|show .inl rfl|show .inr rfl|assumption):
  PS X (.Assign [.Name x pos'] e pos) (K5_ te (Ir_ i)):=by
 intro pins s σ H D I h;show wpAny_Assign_Name (thn (he pins s σ H _ I h) λv s1 ⟨y,H1,I1,r1,q1⟩=>?_) hs;show fu_ I1 hN hi hx r1 (λs2 I2=>⟨_,H1,I2,q1⟩) hf
def MW_(i j:Nat)(ta:TA):TS:=λD σ H=>ta σ H λvs H1=>∃v w,vs=[v,w]/\D.nx ((σ.set i (some v)).set j (some w)) H1
theorem pD_{i j:Nat}{x y:Str}{a b:Expr}{ta:TA}{px py pt:Pos}{kt k2 pt2} (hc:X.calm=true) (hN:X.N.Nodup) (hi:X.N[i]?=some x) (hj:X.N[j]?=some y) (hij:i≠j)
  (hx:X.env.scope.names.lookup x=some .local) (hy:X.env.scope.names.lookup y=some .local) (ha:PA X [a,b] ta)
  (hw:swappedStores [.Tuple [.Name x px,.Name y py] kt pt] (.Tuple [a,b] k2 pt2) X.env=pure (some [x,y]))
  (hs:swapsWithSole [.Tuple [.Name x px,.Name y py] kt pt] (.Tuple [a,b] k2 pt2) pos.line X.env=pure false:=by rfl):
  PS X (.Assign [.Tuple [.Name x px,.Name y py] kt pt] (.Tuple [a,b] k2 pt2) pos) (MW_ i j ta):=by
 intro pins s σ H D I h;rw[exec_Assign_arm];show Ad_ (Dy_ ?_);rw[hs];show Ad_ (AA_ ?_);rw[if_neg d_];show Ad_ (Tuple_ (thn (ha _ pins s σ H _ I h) λus s1 ⟨vs,H1,I1,r1,q1⟩=>?_));obtain⟨v,w,e1,q1⟩:=q1;subst e1
 obtain⟨u1,u2,rfl,rv,rw'⟩:∃u1 u2,us=[u1,u2]/\Gu_ v u1/\Gu_ w u2:=by
  cases r1 with
  |cons p q =>
   cases q with
   |cons p' q' =>
    cases q';show⟨_,_,rfl,p,p'⟩
 show CR_ ?_ (by change 2<=sizeLine;decide);have I2:Inv X pins σ H1 {s1 with heap:=s1.heap.push {cls:=.type "tuple",data:=.seq [u1,u2].toArray}}:=I1.kept (t':=s1.toks) λb o e=>Ah_ _ e;rw[hw];show Ad_ (AA_ ?_);change wpAny (model X.prog X.w) X.A (do rule "assign.swapped-stores";let items <-unpackItems (.ref s1.heap.objs.size) 2 none;assignInOrder [λv=>bindName X.env y v,λv=>bindName X.env x v] items.reverse;pure Flow.next) _ _ _;show Ad_ (CZ_ (Ad_ (unpackItems_tuple (items:=#[u1,u2]) (I.ok.hd hc) (IsTup.new s1.heap _) λh' hx'=>?_)));have I3:=I2.kept (h':=h') (t':=s1.toks) λb o e=>hx' b o (AJ_ (Ap_ e)) e;change wpAny _ _ (assignInOrder [λv=>bindName X.env y v,λv=>bindName X.env x v] [u2,u1] >>= λ_=>pure Flow.next) _ _ _;show Ad_ (D6_ (wpAny_bindName (fu_ I3 hN hj (.inl hy) rw' (λs2 I4=>?_) (.inr hy))));show D6_ (wpAny_bindName (fu_ I4 hN hi (.inl hx) rv (λs3 I5=>assignInOrder_nil (AA_ ?_)) (.inr hx)));rw[List.set_comm _ _ (Ne.symm hij)]at I5;show⟨_,H1,I5,q1⟩
def JD_(c:TT)(tb:TS):TS:=λD σ H=>∃W:Nat->St->Hp->Prop,(∃m,W m σ H)/\∀m σ H,W m σ H ->
 c σ H λb H1=>if b=true then ∃N:St->Hp->Prop,(∀σ' H',N σ' H'->∃m',m'<m/\W m' σ' H')/\tb {D with nx:=N,ct:=N,bk:=D.nx} σ H1 else D.nx σ H1
theorem fw_{c:Expr}{body:List Stmt}{tc:TT}{tb:TS}(hp:PassesOwn (model X.prog X.w) X.A X.env X.xe)(hc:PT X c tc)(hb:PSs X body tb):PS X (.While c body [] pos) (JD_ tc tb):=by
 intro pins s σ H D I h;obtain⟨W,⟨m0,w0⟩,turn⟩:=h;show wpAny_While (codeAny_whileLoop (λn s'=>∃σ' H',Inv X pins σ' H' s'/\W n σ' H') ?_ m0 ⟨σ,H,I,w0⟩);rintro n s1 ⟨σ1,H1,I1,w1⟩;show Ci_ hp (thn (hc pins s1 σ1 H1 _ I1 (turn n σ1 H1 w1)) λb s2 ⟨H2,I2,q2⟩=>?_);cases b with
 |true =>
  obtain⟨N,hN,q2⟩:=q2;rw[if_pos rfl];show Ci_ hp (thn (hb pins s2 σ1 H2 _ I2 q2) λf s3 q3=>?_);cases f with
  |next =>
   obtain⟨σ3,H3,I3,n3⟩:=q3;obtain⟨m',hm,w3⟩:=hN σ3 H3 n3;show⟨m',hm,σ3,H3,I3,w3⟩
  |cont =>
   obtain⟨σ3,H3,I3,n3⟩:=q3;obtain⟨m',hm,w3⟩:=hN σ3 H3 n3;show⟨m',hm,σ3,H3,I3,w3⟩
  |brk=>show q3
  |ret v=>show q3
 |false =>rw[if_neg AD_];show CH_ ⟨σ1,H2,I2,q2⟩
structure It where
 go:Nat->Hp->Prop
 yld:Nat->Hp->V->Hp->Prop
 stop:Nat->Hp->Prop
def IC_(X:Cx)(pins:List (Addr×Obj))(H:Hp)(b:Addr):Prop :=
 H b=none/\b≠X.env.locals/\b∉X.fs/\(b∈X.ex\/X.s₀.heap.objs.size<=b)/\(∀x c,X.env.cells.lookup x=some c->c≠b)/\∀p∈X.pn++pins,p.1≠b
theorem Inv.fpOk(I:Inv X pins σ H s)(hb:s.heap.objs.size<=b)(hn:H' b=none):IC_ X pins H' b:=by
 show⟨hn,Di_ (AM_ I.lt hb),I.nofs hb,.inr (Au_ I.sz hb),λx c e z=>?_,λp hp z=>?_⟩
 .obtain⟨v,q⟩:=I.cell x c e;show absurd (AM_ q.lt (by rw[z];show hb)) (BK_ _)
 .show absurd (AM_ (Ap_ (I.pin p hp).1) (by rw[z];show hb)) (BK_ _)
structure KI_(P:Program)(w:World)(K:PySem.W.Frag)(tg:Expr)(J:It)(fp:List Addr)(it:Addr)(tn:Nat->Heap->Prop):Prop where
 mem:it∈fp
 obj:∀i h,tn i h->∀b∈fp,∃o,h.get? b=some o/\∀v,o.data≠.cell v
 keep:∀i h h',tn i h->(∀b∈fp,∀o,h.get? b=some o->h'.get? b=some o)->tn i h'
 item:∀(X:Cx),X.prog=P->X.w=w->X.K=K->X.calm=true->∀(i:Nat)(pins:List (Addr×Obj))(s:Shared)(σ:St)(H:Hp)(E:Value->Shared->Prop),Inv X pins σ H s->(∀b∈fp,IC_ X pins H b)->tn i s.heap->J.go i H ->
  wpAny (model P w) X.A (pyNext (.ref it)) (λr s1=>∃u,r=some u /\
   wpAny (model P w) X.A (letOwnedTupleGo tg (.ref it) u) (λ_ s2=>∃x H',Inv X pins σ H' s2/\Gu_ x u/\J.yld i H x H'/\tn (i+1) s2.heap/\∀b∈fp,H' b=none) E s1) E s
 done:∀(X:Cx),X.prog=P->X.w=w->X.K=K->X.calm=true->∀(i:Nat)(pins:List (Addr×Obj))(s:Shared)(σ:St)(H:Hp)(E:Value->Shared->Prop),Inv X pins σ H s->(∀b∈fp,IC_ X pins H b)->tn i s.heap->J.stop i H ->
  wpAny (model P w) X.A (pyNext (.ref it)) (λr s1=>r=none/\Inv X pins σ H s1) E s
 self:∀(A:Around)(i:Nat)(s:Shared)(Q:Value->Shared->Prop)(E:Value->Shared->Prop),tn i s.heap->Q (.ref it) s->wpAny (model P w) A (pyIter (.ref it)) Q E s
abbrev TI:=St->Hp->(It->Hp->Prop)->Prop
def PIE(X:Cx)(pins:List (Addr×Obj))(σ:St)(tg:Expr)(R:It->Hp->Prop)(itv:Value)(s2:Shared):Prop :=
 ∃(it:Addr)(fp:List Addr)(tn:Nat->Heap->Prop)(J:It)(H':Hp),itv=.ref it/\Inv X pins σ H' s2/\KI_ X.prog X.w X.K tg J fp it tn/\tn 0 s2.heap/\(∀b∈fp,IC_ X pins H' b)/\R J H'
def PI(X:Cx)(tg iter:Expr)(wi:TI):Prop :=
 ∀(pins:List (Addr×Obj))(s:Shared)(σ:St)(H:Hp)(R:It->Hp->Prop),Inv X pins σ H s->wi σ H R ->
  wpAny (model X.prog X.w) X.A (eval iter X.env) (λv s1=>wpAny (model X.prog X.w) X.A (pyIter v) (PIE X pins σ tg R) X.xe s1) X.xe s
theorem JU_{M:Model}{A:Around}{E:Value->Shared->Prop}{s:Shared}{tg:Expr}{it:Addr}{u:Value}{o:Obj}{n:String}{vs:Array Value}{Q:Unit->Shared->Prop}(ho:s.heap.get? it=some o)(hc:o.cls=.type n)(hd:o.data=.fields vs)
    (hn:["enumerate","zip","dict_itemiterator","dict_reverseitemiterator","odict_iterator","itertools.zip_longest","itertools.pairwise"].contains n=false) (hQ:Q () s):wpAny M A (letOwnedTupleGo tg (.ref it) u) Q E s:=by
  unfold letOwnedTupleGo
  cases tg <;> first
    |show AA_ hQ
    | (cases u <;> first
        |show AA_ hQ
        | (show Ad_ (wpAny_load ho ?_)
           rw[hc,hd];change wpAny M A (if(["enumerate","zip","dict_itemiterator","dict_reverseitemiterator","odict_iterator","itertools.zip_longest","itertools.pairwise"].contains n && vs[0]? == some (rawInt _))=true then _ else _) Q E s;rw[if_neg (by intro h;rw[hn,Bool.false_and]at h;cases h)];show AA_ hQ))
def Itl(K:PySem.W.Frag)(a:Addr):It :=
 ⟨λi H=>∃xs x,SqL K H a xs/\xs[i]?=some x,λi H x H'=>H'=H/\∀xs,SqL K H a xs->xs[i]?=some x,λi H=>∃xs,SqL K H a xs/\xs.length<=i⟩
def Itt(K:PySem.W.Frag)(a:Addr):It :=
 ⟨λi H=>∃xs x,SqT K H a xs/\xs[i]?=some x,λi H x H'=>H'=H/\∀xs,SqT K H a xs->xs[i]?=some x,λi H=>∃xs,SqT K H a xs/\xs.length<=i⟩
def Itr(lo:Int)(n:Nat):It:=⟨λi _=>i<n,λi H x H'=>H'=H/\x=.int (lo+i),λi _=>n<=i⟩
theorem m3_{tg:Expr}(a it:Addr):KI_ P w K tg (Itl K a) [it] it (λi h=>h.IsListIter it a i) where
 mem:=s_
 obj:=λi h st b hb=>by
  have e:b=it:=by simpa using hb
  subst e;obtain⟨o,e,c,d⟩:=st;show⟨o,e,λv z=>by rw[d]at z;cases z⟩
 keep:=λi h h' st k=>st.at λo e=>k it s_ o e
 item:=by intro X hP hw hK hc i pins s σ H E I hf st hg;subst hP hw hK;obtain⟨xs,x,hq,hx⟩:=hg;obtain⟨its,rv,p,hz⟩:=I.list hq;obtain⟨u,hu,ru⟩:=rv.get hx;obtain⟨f0,f1,f2,f3,f4,f5⟩:=hf it s_;show Dv_ st p.isList (x:=u) (by simpa using hu) λh' st' sb=>?_;have I1:Inv X pins σ H {s with heap:=h'}:=I.turned (t':=s.toks) (λb o hb e=>(sb.2 b hb).trans e) f0 f1 f3 f4 f5;obtain⟨o,e,c,d⟩:=id st';show⟨u,rfl,JU_ (s:={s with heap:=h'}) e c d d_ ⟨x,H,I1,ru,⟨rfl,λys hy=>by rw[I.list_inj hy hq];show hx⟩,st',λb hb=>(hf b hb).1⟩⟩
 done:=by intro X hP hw hK hc i pins s σ H E I hf st hg;subst hP hw hK;obtain⟨xs,hq,hx⟩:=hg;obtain⟨its,rv,p,hz⟩:=I.list hq;obtain⟨f0,f1,f2,f3,f4,f5⟩:=hf it s_;have hl:=rv.length;show E5_ (I.ok.hd hc) st p.isList (by simp;lia) λh' eb=>⟨rfl,I.turned (t':=s.toks) (λb o hb e=>eb b o hb e) f0 f1 f3 f4 f5⟩
 self:=λ_ _ _ _ _ st h=>E6_ st h
theorem mx_{tg:Expr}(it:Addr)(lo:Int)(n:Nat):KI_ P w K tg (Itr lo n) [it] it (λi h=>IsRangeIter h it (lo+(i:Nat)*1) ((n:Int)-(i:Nat)) 1) where
 mem:=s_
 obj:=λi h st b hb=>by
  have e:b=it:=by simpa using hb
  subst e;show⟨_,st,λv z=>by have z':Data.fields _=Data.cell v:=z;cases z'⟩
 keep:=λi h h' st k=>k it s_ _ st
 item:=by intro X hP hw hK hc i pins s σ H E I hf st hg;subst hP hw hK;obtain⟨f0,f1,f2,f3,f4,f5⟩:=hf it s_;have W:=Walks.range (prog:=X.prog) (w:=X.w) (I.ok.hd hc) it lo 1 n;show W.item i s _ _ hg st λv h' tk hv st' kk=>?_;obtain⟨t,rfl⟩:=hv;have I1:Inv X pins σ H {s with heap:=h',toks:=tk}:=I.turned (λb o hb e=>kk b o (by simpa using hb) e) f0 f1 f3 f4 f5;show⟨_,rfl,JU_ (s:={s with heap:=h',toks:=tk}) (n := "range_iterator") st' rfl rfl d_ ⟨.int (lo+i),H,I1,⟨t,?_⟩,⟨rfl,rfl⟩,st',λb hb=>(hf b hb).1⟩⟩;rw[Int.mul_one]
 done:=by intro X hP hw hK hc i pins s σ H E I hf st hg;subst hP hw hK;obtain⟨f0,f1,f2,f3,f4,f5⟩:=hf it s_;show wpAny_pyNext_range_end (I.ok.hd hc) st (by have:n<=i:=hg;lia) λh' eb=>⟨rfl,I.turned (t':=s.toks) (λb o hb e=>eb b o hb e) f0 f1 f3 f4 f5⟩
 self:=λ_ _ _ _ _ st h=>wpAny_pyIter_rangeiter st h
variable {tg:Expr}
def J7_(K:PySem.W.Frag)(tl:TE):TI:=λσ H R=>tl σ H λx H1=>onR x λa=>(∃xs,SqL K H1 a xs)/\R (Itl K a) H1
def iTup(K:PySem.W.Frag)(tl:TE):TI:=λσ H R=>tl σ H λx H1=>onR x λa=>(∃xs,SqT K H1 a xs)/\R (Itt K a) H1
theorem qj_{l:Expr}{tl:TE}(hl:PE X l tl):PI X tg l (J7_ X.K tl):=by
 intro pins s σ H R I h;show thn (hl pins s σ H _ I h) λv s1 ⟨x,H1,I1,r1,q1⟩=>?_;obtain⟨a,e,⟨xs,hq⟩,q⟩:=dn_ q1;subst e;cases r1;obtain⟨its,rv,p,hz⟩:=I1.list hq;show Ek_ p.isList ?_;show⟨s1.heap.objs.size,[s1.heap.objs.size],_,_,H1,rfl,I1.kept (t':=s1.toks) λb o e=>Ah_ _ e,m3_ a _,⟨_,AC_ _ rfl,rfl,rfl⟩,λb hb=>?_,q⟩;have e:b=s1.heap.objs.size:=by simpa using hb
 subst e;show I1.fpOk (Af_ _) (I1.hok.fresh (Af_ _))
theorem lL_{pins:List (Addr×Obj)}{σ:St}{H:Hp}{s:Shared}{R:It->Hp->Prop}{E:Value->Shared->Prop}{lo hi:Int}{t u v:Tok}{tk:Nat}(I:Inv X pins σ H s)(h1:-(2 ^ 62)<=lo)(h2:lo<2 ^ 62)(h3:-(2 ^ 62)<=hi)(h4:hi<2 ^ 62)
  (q:R (Itr lo (hi-lo).toNat) H):wpAny (model X.prog X.w) X.A (pyIter (.ref s.heap.objs.size)) (PIE X pins σ tg R) E {s with heap:=s.heap.push {cls:=.type "range",data:=.fields #[.int lo t,.int hi u,.int 1 v]},toks:=tk}:=by
 show wpAny_pyIter_range (IsRange.new ..) (small_one h1 h2 h3 h4) ?_;have I1:Inv X pins σ H {s with heap:=s.heap.push {cls:=.type "range",data:=.fields #[.int lo t,.int hi u,.int 1 v]},toks:=tk}:=I.kept λb o e=>Ah_ _ e
 show⟨(s.heap.push {cls:=.type "range",data:=.fields #[.int lo t,.int hi u,.int 1 v]}).objs.size,[(s.heap.push {cls:=.type "range",data:=.fields #[.int lo t,.int hi u,.int 1 v]}).objs.size],_,_,H,rfl,
  I1.kept (t':=tk) λb o e=>Ah_ _ e,mx_ _ lo (hi-lo).toNat,?_,λb hb=>?_,q⟩
 .have e1:lo+((0:Nat):Int)*1=lo:=s_
  have e2:(((hi-lo).toNat:Nat):Int)-((0:Nat):Int)=Builtin.Range.rangeSize lo hi 1:=by rw[rangeSize_one];split <;> lia
  change IsRangeIter _ _ (lo+((0:Nat):Int)*1) ((((hi-lo).toNat:Nat):Int)-((0:Nat):Int)) 1;rw[e1,e2];show AC_ _ rfl
 .have e:b=(s.heap.push {cls:=.type "range",data:=.fields #[.int lo t,.int hi u,.int 1 v]}).objs.size:=by simpa using hb
  subst e;show I1.fpOk (Af_ _) (I1.hok.fresh (Af_ _))
def LR_(ta:TA):TI:=λσ H R=>ta σ H λvs H1=>on1 vs λx=>onI x λj=>-(2 ^ 62)<=j/\j<2 ^ 62/\R (Itr 0 j.toNat) H1
def K7_(ta:TA):TI:=λσ H R=>ta σ H λvs H1=>on2 vs λx y=>onI x λi=>onI y λj=>(-(2 ^ 62)<=i/\i<2 ^ 62 /\ -(2 ^ 62)<=j/\j<2 ^ 62)/\R (Itr i (j-i).toNat) H1
theorem aZ_{a:Expr}{ta:TA}{p:Pos}(hg:Gl X "range") (hm:X.mg "range"=none) (ha:PA X [a] ta) (hs:starEach [a] X.env=[(false,eval a X.env)]:=by rfl):PI X tg (.Call (.Name "range" p) [a] [] pos) (LR_ ta):=by
 intro pins s σ H R I h;show Call_ (fv_ I hg hm boot_range (BE_ (thn (ha pos pins s σ H _ I h) λus s1 ⟨vs,H1,I1,r1,q1⟩=>?_) hs rfl));obtain⟨_,e,q0⟩:=lF_ q1;clear q1;obtain⟨j,rfl,q1,q2,q⟩:=c4_ q0;subst e;cases r1 with
 |cons r rr =>
  cases rr;obtain⟨t,rfl⟩:=r;show call_range_1 (lL_ I1 o_ o_ q1 q2 (by simpa using q))
theorem m4_{a b:Expr}{ta:TA}{p:Pos}(hg:Gl X "range") (hm:X.mg "range"=none) (ha:PA X [a,b] ta) (hs:starEach [a,b] X.env=[(false,eval a X.env),(false,eval b X.env)]:=by rfl) (hs2:starEach [b] X.env=[(false,eval b X.env)]:=by rfl):
  PI X tg (.Call (.Name "range" p) [a,b] [] pos) (K7_ ta):=by
 intro pins s σ H R I h;show Call_ (fv_ I hg hm boot_range (BE_ (thn (ha pos pins s σ H _ I h) λus s1 ⟨vs,H1,I1,r1,q1⟩=>?_) (by rw[hs,hs2]) (by rw[hs2];rfl)));obtain⟨_,_,e,q0⟩:=pz_ q1;clear q1;obtain⟨i,rfl,q9⟩:=c4_ q0;clear q0;obtain⟨j,rfl,⟨q1,q2,q3,q4⟩,q⟩:=c4_ q9;subst e;cases r1 with
 |cons r rr =>
  cases rr with
  |cons r' rr =>
   cases rr;obtain⟨t,rfl⟩:=r;obtain⟨t',rfl⟩:=r';show call_range_2 (lL_ I1 q1 q2 q3 q4 q)
def Nd_(wi:TI)(g:TG)(tb:TS):TS:=λD σ H=>wi σ H λJ H1=>∃W:Nat->Nat->St->Hp->Prop,(∃m,W 0 m σ H1)/\∀i m σ H,W i m σ H ->
 (J.stop i H/\D.nx σ H)\/(J.go i H/\∃N:St->Hp->Prop,(∀σ' H',N σ' H'->∃m',m'<m/\W (i+1) m' σ' H')/\∀x H',J.yld i H x H'->g x σ H' λσ2 H2=>tb {D with nx:=N,ct:=N,bk:=D.nx} σ2 H2)
def It_(fp:List Addr)(h:Heap):List (Addr×Obj):=fp.filterMap λb=>(h.get? b).map λo=>(b,o)
variable{fp:List Addr}
theorem eG_{o:Obj}(hb:b∈fp)(e:h.get? b=some o):(b,o)∈It_ fp h:=BQ_.mpr ⟨b,hb,by rw[e];rfl⟩
theorem m5_{p:Addr×Obj}(hp:p∈It_ fp h):p.1∈fp/\h.get? p.1=some p.2:=by
 obtain⟨b,hb,e⟩:=BQ_.mp hp;cases q:h.get? b with
 |none=>rw[q]at e;cases e
 |some o =>rw[q]at e;have e':(b,o)=p:=Ar_ e;subst e';show⟨hb,q⟩
theorem Inv.pinned(I:Inv X pins σ H s)(hf:∀b∈fp,IC_ X pins H b)(ho:∀b∈fp,∃o,s.heap.get? b=some o/\∀v,o.data≠.cell v):Inv X (pins++It_ fp s.heap) σ H s :=
 I.pins_of λp hp=>(At_.mp hp).elim (λz=>I.pin p (AQ_ _ z)) λz=>by obtain⟨hb,e⟩:=m5_ z;obtain⟨f0,f1,f2,_⟩:=hf p.1 hb;obtain⟨o,e',d⟩:=ho p.1 hb;rw[e]at e';cases e';show⟨e,f0,f1,f2,d⟩
theorem Inv.unpinned{pl:List (Addr×Obj)}(I:Inv X (pins++pl) σ H s):Inv X pins σ H s:=I.pins_of λp hp=>I.pin p (AQ_ _ (Ba_ _ hp))
theorem a6_{iter:Expr}{body:List Stmt}{wi:TI}{g:TG}{tb:TS}{pos:Pos}(hp:PassesOwn (model X.prog X.w) X.A X.env X.xe)(hc:X.calm=true)(hi:PI X tg iter wi)(hg:PG X tg g)(hb:PSs X body tb)
  (hs:∀x,foldedSetIterable iter X.env x=pure x:=by intro _;rfl):PS X (.For tg iter body [] pos) (Nd_ wi g tb):=by
 intro pins s σ H D I h;show wpAny_For (thn (hi pins s σ H _ I h) λv s1 h1=>thn h1 λitv s2 h2=>?_) hs;obtain⟨it,fp,tn,J,H2,e,I2,T,st2,f2,W,⟨m0,w0⟩,turn⟩:=h2;subst e
 have stat:∀{H':Hp},(∀b∈fp,H' b=none)->∀b∈fp,IC_ X pins H' b:=λhn b hb=>⟨hn b hb,(f2 b hb).2⟩;show codeAny_forLoop_any (λn s'=>∃i σ' H',Inv X pins σ' H' s'/\tn i s'.heap/\(∀b∈fp,H' b=none)/\W i n σ' H') ?_ m0 ⟨0,σ,H2,I2,st2,λb hb=>(f2 b hb).1,w0⟩;rintro n s3 ⟨i,σ3,H3,I3,st3,fr3,w3⟩
 rcases turn i n σ3 H3 w3 with⟨stop,qn⟩|⟨go,N,hN,step⟩
 .show Ci_ hp (thn (T.done X rfl rfl rfl hc i pins s3 σ3 H3 X.xe I3 (stat fr3) st3 stop) λr s4 ⟨hr,I4⟩=>?_);subst hr;show CH_ ⟨σ3,H3,I4,qn⟩
 .show Ci_ hp (thn (T.item X rfl rfl rfl hc i pins s3 σ3 H3 X.xe I3 (stat fr3) st3 go) λr s4 ⟨u,hr,h4⟩=>?_);subst hr;show Ci_ hp (thn h4 λ_ s5 ⟨x,H5,I5,r5,y5,st5,fr5⟩=>?_);have I5':=I5.pinned (stat fr5) (T.obj _ _ st5);show Ci_ hp (thn (hg _ s5 σ3 H5 x u _ I5' r5 (step x H5 y5)) λ_ s6 ⟨σ6,H6,I6,q6⟩=>?_);show Ci_ hp (thn (hb _ s6 σ6 H6 _ I6 q6) λf s7 q7=>?_);have again:∀{σ7:St}{H7:Hp},Inv X (pins++It_ fp s5.heap) σ7 H7 s7->N σ7 H7->∃m,m<n/\∃i σ' H',Inv X pins σ' H' s7/\tn i s7.heap/\(∀b∈fp,H' b=none)/\W i m σ' H':=λ{σ7 H7} I7 n7=>by obtain⟨m',hm,w7⟩:=hN σ7 H7 n7;show⟨m',hm,i+1,σ7,H7,I7.unpinned,T.keep _ _ _ st5 λb hb o e=>(I7.pin (b,o) (AQ_ _ (AQ_ _ (eG_ hb e)))).1,λb hb=>?_,w7⟩;obtain⟨o,e,d⟩:=T.obj _ _ st5 b hb;show(I7.pin (b,o) (AQ_ _ (AQ_ _ (eG_ hb e)))).2.1
  cases f with
  |next=>obtain⟨σ7,H7,I7,n7⟩:=q7;show again I7 n7
  |cont=>obtain⟨σ7,H7,I7,n7⟩:=q7;show again I7 n7
  |brk=>obtain⟨σ7,H7,I7,q7⟩:=q7;show⟨σ7,H7,I7.unpinned,q7⟩
  |ret v=>obtain⟨x7,σ7,H7,I7,r7,q7⟩:=q7;show⟨x7,σ7,H7,I7.unpinned,r7,q7⟩
theorem oy_{K:PySem.W.Frag}{a:Addr}{xs:List V}{g:TG}{tb:TS}{D:If_}{σ:St}{H:Hp}(Pv:Nat->St->Hp->Prop)(h0:Pv 0 σ H)(hl:∀i σ H,i<=xs.length->Pv i σ H->SqL K H a xs)
  (hs:∀i x σ H,xs[i]?=some x->Pv i σ H->g x σ H λσ2 H2=>tb {D with nx:=Pv (i+1),ct:=Pv (i+1),bk:=D.nx} σ2 H2) (hd:∀σ H,Pv xs.length σ H->D.nx σ H):
  ∃W:Nat->Nat->St->Hp->Prop,(∃m,W 0 m σ H)/\∀i m σ H,W i m σ H ->
   ((Itl K a).stop i H/\D.nx σ H)\/((Itl K a).go i H/\∃N:St->Hp->Prop,(∀σ' H',N σ' H'->∃m',m'<m/\W (i+1) m' σ' H')/\∀x H',(Itl K a).yld i H x H'->g x σ H' λσ2 H2=>tb {D with nx:=N,ct:=N,bk:=D.nx} σ2 H2):=by
 show⟨λi m σ H=>m=xs.length-i/\i<=xs.length/\Pv i σ H,⟨xs.length,s_,Av_ _,h0⟩,?_⟩;rintro i m σ H ⟨rfl,hi,p⟩;have q:=hl i σ H hi p;by_cases hlt:i<xs.length
 .show .inr ⟨⟨xs,xs[i],q,by simp[hlt]⟩,Pv (i+1),λσ' H' p'=>⟨xs.length-(i+1),o_,rfl,hlt,p'⟩,λx H' y=>?_⟩;obtain⟨e,y⟩:=y;subst e;show hs i x σ _ (y xs q) p
 .have e:i=xs.length:=o_
  subst e;show .inl ⟨⟨xs,q,Af_ _⟩,hd σ H p⟩
theorem m6_{lo:Int}{n:Nat}{g:TG}{tb:TS}{D:If_}{σ:St}{H:Hp}(Pv:Nat->St->Hp->Prop)(h0:Pv 0 σ H)
  (hs:∀i σ H,i<n->Pv i σ H->g (.int (lo+i)) σ H λσ2 H2=>tb {D with nx:=Pv (i+1),ct:=Pv (i+1),bk:=D.nx} σ2 H2) (hd:∀σ H,Pv n σ H->D.nx σ H):
  ∃W:Nat->Nat->St->Hp->Prop,(∃m,W 0 m σ H)/\∀i m σ H,W i m σ H ->
   ((Itr lo n).stop i H/\D.nx σ H)\/((Itr lo n).go i H/\∃N:St->Hp->Prop,(∀σ' H',N σ' H'->∃m',m'<m/\W (i+1) m' σ' H')/\∀x H',(Itr lo n).yld i H x H'->g x σ H' λσ2 H2=>tb {D with nx:=N,ct:=N,bk:=D.nx} σ2 H2):=by
 show⟨λi m σ H=>m=n-i/\i<=n/\Pv i σ H,⟨n,s_,Av_ _,h0⟩,?_⟩;rintro i m σ H ⟨rfl,hi,p⟩;by_cases hlt:i<n
 .show .inr ⟨hlt,Pv (i+1),λσ' H' p'=>⟨n-(i+1),o_,rfl,hlt,p'⟩,λx H' y=>?_⟩;obtain⟨e,y⟩:=y;subst e y;show hs i σ _ hlt p
 .have e:i=n:=o_
  subst e;show .inl ⟨Af_ _,hd σ H p⟩
abbrev R2:=V->V->Hp->VK->Prop
def OpR(X:Cx)(f:Value->Value->Sem Value)(r:R2):Prop :=
 ∀(pins:List (Addr×Obj))(s:Shared)(σ:St)(H:Hp)(x y:V)(v u:Value)(Q:VK),Inv X pins σ H s->Gu_ x v->Gu_ y u->r x y H Q ->
  wpAny (model X.prog X.w) X.A (f v u) (EP X pins σ Q) X.xe s
def UnR(X:Cx)(f:Value->Sem Value)(r:V->Hp->VK->Prop):Prop :=
 ∀(pins:List (Addr×Obj))(s:Shared)(σ:St)(H:Hp)(x:V)(v:Value)(Q:VK),Inv X pins σ H s->Gu_ x v->r x H Q ->
  wpAny (model X.prog X.w) X.A (f v) (EP X pins σ Q) X.xe s
def GM_(X:Cx)(f:Value)(r:List V->Hp->VK->Prop):Prop :=
 ∀(pins:List (Addr×Obj))(s:Shared)(σ:St)(H:Hp)(xs:List V)(us:List Value)(Q:VK),Inv X pins σ H s->Gn_ xs us->r xs H Q ->
  wpAny (model X.prog X.w) X.A (call f us) (EP X pins σ Q) X.xe s
def tOp(r:R2)(ta tb:TE):TE:=λσ H Q=>ta σ H λx H1=>tb σ H1 λy H2=>r x y H2 Q
def tUn(r:V->Hp->VK->Prop)(ta:TE):TE:=λσ H Q=>ta σ H λx H1=>r x H1 Q
def rI(C:Int->Int->Prop)(g:Int->Int->V):R2:=λx y H Q=>onI x λi=>onI y λj=>C i j/\Q (g i j) H
def rI0(g:Int->Int->V):R2:=λx y H Q=>onI x λi=>onI y λj=>Q (g i j) H
def rU(g:Int->V):V->Hp->VK->Prop:=λx H Q=>onI x λi=>Q (g i) H
section
variable {a b c:Expr}{ta tb tc:TE}
theorem binT(ha:PE X a ta)(hb:PE X b tb){pins:List (Addr×Obj)}{s:Shared}{σ:St}{H:Hp}{R:V->V->Hp->Prop}(I:Inv X pins σ H s)
  (h:ta σ H λx H1=>tb σ H1 λy H2=>R x y H2) {Q:Value->Shared->Prop} {f:Value->Value->Sem Value}
  (hf:∀v u s2 x y H2,Inv X pins σ H2 s2->Gu_ x v->Gu_ y u->R x y H2->wpAny (model X.prog X.w) X.A (f v u) Q X.xe s2):
  wpAny (model X.prog X.w) X.A (eval a X.env) (λv s₁=>wpAny (model X.prog X.w) X.A (eval b X.env) (λu s₂=>wpAny (model X.prog X.w) X.A (f v u) Q X.xe s₂) X.xe s₁) X.xe s:=by
 show thn (ha pins s σ H _ I h) λv s1 ⟨x,H1,I1,r1,q1⟩=>?_;show thn (hb pins s1 σ H1 _ I1 q1) λu s2 ⟨y,H2,I2,r2,q2⟩=>?_;show hf v u s2 x y H2 I2 r1 r2 q2
theorem F2_{op:Operator}{r:R2}(ho:OpR X (binaryOp op) r)(ha:PE X a ta)(hb:PE X b tb):PE X (.BinOp a op b pos) (tOp r ta tb):=by intro pins s σ H Q I h;show wpAny_BinOp (binT ha hb I h λv u s2 x y H2 I2 rx ry q=>ho pins s2 σ H2 x y v u Q I2 rx ry q)
theorem ML_{op:UnaryOp}{r:V->Hp->VK->Prop}(ho:UnR X (unaryOp op) r)(ha:PE X a ta):PE X (.UnaryOp op a pos) (tUn r ta):=by intro pins s σ H Q I h;show UnaryOp_ (thn (ha pins s σ H _ I h) λv s1 ⟨x,H1,I1,r1,q1⟩=>ho pins s1 σ H1 x v Q I1 r1 q1)
theorem opI{f:Value->Value->Sem Value}{C:Int->Int->Prop}{g:Int->Int->Int}
  (rule:∀(i j:Int)(t u:Tok)(s:Shared)(Q:Value->Shared->Prop)(E:Value->Shared->Prop),C i j->Q (.int (g i j) s.toks) {s with toks:=s.toks+1}->wpAny (model X.prog X.w) X.A (f (.int i t) (.int j u)) Q E s):
  OpR X f (rI C λi j=>.int (g i j)):=by
 intro pins s σ H x y v u Q I rx ry h;obtain⟨i,rfl,h1⟩:=c4_ h;clear h;obtain⟨j,rfl,hc,q⟩:=c4_ h1;obtain⟨t,rfl⟩:=rx;obtain⟨t',rfl⟩:=ry;show rule i j t t' s _ _ hc ⟨.int (g i j),H,I.tok _,⟨_,rfl⟩,q⟩
theorem opI0{f:Value->Value->Sem Value}{g:Int->Int->Int}
  (rule:∀(i j:Int)(t u:Tok)(s:Shared)(Q:Value->Shared->Prop)(E:Value->Shared->Prop),Q (.int (g i j) s.toks) {s with toks:=s.toks+1}->wpAny (model X.prog X.w) X.A (f (.int i t) (.int j u)) Q E s):
  OpR X f (rI0 λi j=>.int (g i j)):=by
 intro pins s σ H x y v u Q I rx ry h;obtain⟨i,rfl,h1⟩:=c4_ h;clear h;obtain⟨j,rfl,q⟩:=c4_ h1;obtain⟨t,rfl⟩:=rx;obtain⟨t',rfl⟩:=ry;show rule i j t t' s _ _ ⟨.int (g i j),H,I.tok _,⟨_,rfl⟩,q⟩
theorem opB0{f:Value->Value->Sem Value}{g:Int->Int->Bool}
  (rule:∀(i j:Int)(t u:Tok)(s:Shared)(Q:Value->Shared->Prop)(E:Value->Shared->Prop),Q (.bool (g i j)) s->wpAny (model X.prog X.w) X.A (f (.int i t) (.int j u)) Q E s):
  OpR X f (rI0 λi j=>.bl (g i j)):=by
 intro pins s σ H x y v u Q I rx ry h;obtain⟨i,rfl,h1⟩:=c4_ h;clear h;obtain⟨j,rfl,q⟩:=c4_ h1;obtain⟨t,rfl⟩:=rx;obtain⟨t',rfl⟩:=ry;show rule i j t t' s _ _ ⟨.bl (g i j),H,I,rfl,q⟩
def Mo_(i j:Int):Prop:=0<=j/\j<=1000000/\i.natAbs<2 ^ 64
def Md_(i j:Int):Prop:=(-(2 ^ 64)<i/\i<2 ^ 64)\/(-(2 ^ 64)<j/\j<2 ^ 64)
theorem Md_.ok{i j:Int}(h:Md_ i j):IntMulOk i j:=by
 rcases h with⟨h1,h2⟩|⟨h1,h2⟩
 .show .of_left (intBits_le_64 h1 h2)
 .show .of_right (intBits_le_64 h1 h2)
theorem my_(k:Nat):(0:Int)<=2 ^ k:=by rw[two_pow_cast];show Int.natCast_nonneg _
theorem aT_:OpR X (binaryOp .Add) (rI0 λi j=>.int (i+j)):=opI0 λ_ _ _ _ _ _ _ q=>add_int q
theorem pE_:OpR X (binaryOp .Sub) (rI0 λi j=>.int (i-j)):=opI0 λ_ _ _ _ _ _ _ q=>sub_int q
theorem lM_:OpR X (binaryOp .Mult) (rI Md_ λi j=>.int (i*j)):=opI λ_ _ _ _ _ _ _ hc q=>mul_int q hc.ok
theorem aD_:OpR X (binaryOp .Mod) (rI (λ_ j=>0<j) λi j=>.int (i%j)):=opI λi j _ _ _ _ _ hc q=>by have h1:(0:Int)<j:=hc;show mod_int' o_ (by rw[Int.fmod_eq_emod_of_nonneg i o_];show q)
theorem pF_:OpR X (binaryOp .Pow) (rI Mo_ λi j=>.int (i ^ j.toNat)):=opI λ_ _ _ _ _ _ _ hc q=>pow_int_small hc.1 hc.2.1 hc.2.2 q
theorem rh_:OpR X (binaryOp .LShift) (rI Mo_ λi j=>.int (i*2 ^ j.toNat)):=opI λ_ _ _ _ _ _ _ hc q=>lshift_int_small hc.1 hc.2.1 hc.2.2 q
theorem ri_:OpR X (binaryOp .RShift) (rI (λ_ j=>0<=j) λi j=>.int (i/2 ^ j.toNat)):=opI λi j _ _ _ _ _ hc q =>rshift_int hc (by rw[Ed_ i (my_ _)];show q)
theorem rj_:OpR X (binaryOp .BitAnd) (rI0 λi j=>.int (Builtin.bitAnd i j)):=opI0 λ_ _ _ _ _ _ _ q=>and_int q
theorem unI{f:Value->Sem Value}{g:Int->Int}
  (rule:∀(i:Int)(t:Tok)(s:Shared)(Q:Value->Shared->Prop)(E:Value->Shared->Prop),Q (.int (g i) s.toks) {s with toks:=s.toks+1}->wpAny (model X.prog X.w) X.A (f (.int i t)) Q E s):
  UnR X f (rU λi=>.int (g i)):=by
 intro pins s σ H x v Q I rx h;obtain⟨i,rfl,q⟩:=c4_ h;obtain⟨t,rfl⟩:=rx;show rule i t s _ _ ⟨.int (g i),H,I.tok _,⟨_,rfl⟩,q⟩
theorem rk_:UnR X (unaryOp .USub) (rU λi=>.int (-i)):=unI λ_ _ _ _ _ q=>neg_int q
end
def scal:V->V->Bool
 | .non,.non=>true | .non,.int _=>true | .int _,.non=>true | .non,.bl _=>true | .bl _,.non=>true | .non,.str _=>true | .str _,.non=>true
 | .int _,.int _=>true | .bl _,.bl _=>true | .str _,.str _=>true | .byt _,.byt _=>true
 | .int _,.str _=>true | .str _,.int _=>true | .bl _,.str _=>true | .str _,.bl _=>true
 |_,_=>false
def rEq:R2:=λx y H Q=>scal x y=true/\Q (.bl (decide (x=y))) H
def rNe:R2:=λx y H Q=>scal x y=true/\Q (.bl (!decide (x=y))) H
theorem m7_{i j:Int}:decide (V.int i=V.int j)=(i == j):=by rw[CI_];simp
theorem pG_{i j:Bool}:decide (V.bl i=V.bl j)=(i == j):=by rw[CI_];simp
theorem m8_{i j:Str}:decide (V.str i=V.str j)=(i == j):=by rw[CI_];simp
theorem m9_{i j:Array UInt8}:decide (V.byt i=V.byt j)=(i.toList == j.toList):=by rw[CI_];cases i;cases j;simp
section
variable {a b c:Expr}{ta tb tc:TE}
theorem aX_{Q:VK}{k k':Bool}(I:Inv X pins σ H s)(q:Q (.bl k) H)(e:k=k'):EP X pins σ Q (.bool k') s:=by subst e;show⟨.bl k,H,I,rfl,q⟩
theorem Hb_:OpR X (compareOp .Eq) rEq:=by
 intro pins s σ H x y v u Q I rx ry h;obtain⟨hs,q⟩:=h;cases x with
 |non =>
  cases rx;cases y with
  |non=>cases ry;show PySem.EqNone.eq_none_none (aX_ I q s_)
  |bl j=>cases ry;show PySem.EqNone.eq_none_bool (aX_ I q s_)
  |int j=>obtain⟨t',rfl⟩:=ry;show PySem.EqNone.eq_none_int (aX_ I q s_)
  |str j=>obtain⟨t',rfl⟩:=ry;show PySem.EqNone.eq_none_str (aX_ I q s_)
  |_=>show absurd (show false=true from hs) AD_
 |bl i =>
  cases rx;cases y with
  |non=>cases ry;show PySem.EqNone.eq_bool_none (aX_ I q s_)
  |bl j=>cases ry;show eq_bool (aX_ I q pG_)
  |str j=>obtain⟨t',rfl⟩:=ry;show PySem.EqMixed.eq_bool_str (aX_ I q s_)
  |_=>show absurd (show false=true from hs) AD_
 |int i =>
  obtain⟨t,rfl⟩:=rx;cases y with
  |non=>cases ry;show PySem.EqNone.eq_int_none (aX_ I q s_)
  |int j=>obtain⟨t',rfl⟩:=ry;show eq_int (aX_ I q m7_)
  |str j=>obtain⟨t',rfl⟩:=ry;show PySem.EqMixed.eq_int_str (aX_ I q s_)
  |_=>show absurd (show false=true from hs) AD_
 |str i =>
  obtain⟨t,rfl⟩:=rx;cases y with
  |non=>cases ry;show PySem.EqNone.eq_str_none (aX_ I q s_)
  |bl j=>cases ry;show PySem.EqMixed.eq_str_bool (aX_ I q s_)
  |int j=>obtain⟨t',rfl⟩:=ry;show PySem.EqMixed.eq_str_int (aX_ I q s_)
  |str j=>obtain⟨t',rfl⟩:=ry;show eq_str (aX_ I q m8_)
  |_=>show absurd (show false=true from hs) AD_
 |byt i =>
  obtain⟨t,rfl⟩:=rx;cases y with
  |byt j=>obtain⟨t',rfl⟩:=ry;show PySem.W.eq_bytes (aX_ I q m9_)
  |_=>show absurd (show false=true from hs) AD_
 |_=>cases y <;> show absurd (show false=true from hs) AD_
theorem J8_:OpR X (compareOp .NotEq) rNe:=by
 intro pins s σ H x y v u Q I rx ry h;obtain⟨hs,q⟩:=h;cases x with
 |non =>
  cases rx;cases y with
  |non=>cases ry;show PySem.EqNone.ne_none_none (aX_ I q s_)
  |bl j=>cases ry;show PySem.EqNone.ne_none_bool (aX_ I q s_)
  |int j=>obtain⟨t',rfl⟩:=ry;show PySem.EqNone.ne_none_int (aX_ I q s_)
  |str j=>obtain⟨t',rfl⟩:=ry;show PySem.EqNone.ne_none_str (aX_ I q s_)
  |_=>show absurd (show false=true from hs) AD_
 |bl i =>
  cases rx;cases y with
  |non=>cases ry;show PySem.EqNone.ne_bool_none (aX_ I q s_)
  |bl j=>cases ry;show ne_bool (aX_ I q (congrArg not pG_))
  |str j=>obtain⟨t',rfl⟩:=ry;show PySem.EqMixed.ne_bool_str (aX_ I q s_)
  |_=>show absurd (show false=true from hs) AD_
 |int i =>
  obtain⟨t,rfl⟩:=rx;cases y with
  |non=>cases ry;show PySem.EqNone.ne_int_none (aX_ I q s_)
  |int j=>obtain⟨t',rfl⟩:=ry;show ne_int (aX_ I q (congrArg not m7_))
  |str j=>obtain⟨t',rfl⟩:=ry;show PySem.EqMixed.ne_int_str (aX_ I q s_)
  |_=>show absurd (show false=true from hs) AD_
 |str i =>
  obtain⟨t,rfl⟩:=rx;cases y with
  |non=>cases ry;show PySem.EqNone.ne_str_none (aX_ I q s_)
  |bl j=>cases ry;show PySem.EqMixed.ne_str_bool (aX_ I q s_)
  |int j=>obtain⟨t',rfl⟩:=ry;show PySem.EqMixed.ne_str_int (aX_ I q s_)
  |str j=>obtain⟨t',rfl⟩:=ry;show ne_str (aX_ I q (congrArg not m8_))
  |_=>show absurd (show false=true from hs) AD_
 |byt i =>
  obtain⟨t,rfl⟩:=rx;cases y with
  |byt j=>obtain⟨t',rfl⟩:=ry;show PySem.W.ne_bytes (aX_ I q (congrArg not m9_))
  |_=>show absurd (show false=true from hs) AD_
 |_=>cases y <;> show absurd (show false=true from hs) AD_
theorem JV_:OpR X (compareOp .Lt) (rI0 λi j=>.bl (decide (i<j))):=opB0 λ_ _ _ _ _ _ _ q=>lt_int q
theorem HV_:OpR X (compareOp .Gt) (rI0 λi j=>.bl (decide (j<i))):=opB0 λ_ _ _ _ _ _ _ q=>gt_int q
theorem MC_:OpR X (compareOp .GtE) (rI0 λi j=>.bl (decide (j<=i))):=opB0 λ_ _ _ _ _ _ _ q=>ge_int q
variable{op:CmpOp}
theorem Gf_(b:Expr)(h:op≠.In:=by decide) (h2:op≠.NotIn:=by decide):behindInMarks op b=false:=by
 have e1:(op == CmpOp.In)=false:=by cases op <;> first|rfl|show absurd rfl h
 have e2:(op == CmpOp.NotIn)=false:=by cases op <;> first|rfl|show absurd rfl h2
 cases b <;> simp[behindInMarks,e1,e2]
theorem el_{r:R2}(ho:OpR X (compareOp op) r)(ha:PE X a ta)(hb:PE X b tb)(hm:behindInMarks op b=false):PE X (.Compare a [op] [b] pos) (tOp r ta tb):=by intro pins s σ H Q I h;show wpAny_Compare1 (binT ha hb I h λv u s2 x y H2 I2 rx ry q=>ho pins s2 σ H2 x y v u Q I2 rx ry q) hm
def LJ_(t:TE):TT:=λσ H Q=>t σ H λx H'=>onB x λk=>Q k H'
theorem ao_{r:R2}(ho:OpR X (compareOp op) r)(ha:PE X a ta)(hb:PE X b tb)(hm:behindInMarks op b=false):PT X (.Compare a [op] [b] pos) (LJ_ (tOp r ta tb)):=by
 intro pins s σ H Q I h;show E4_ (thn (ha pins s σ H _ I h) λv s1 ⟨x,H1,I1,r1,q1⟩=>thn (hb pins s1 σ H1 _ I1 q1) λu s2 ⟨y,H2,I2,r2,q2⟩ =>thn (ho pins s2 σ H2 x y v u _ I2 r1 r2 q2) λc s3 ⟨z,H3,I3,r3,q0⟩=>?_) hm;obtain⟨k,e,q3⟩:=is_ q0;subst e;cases r3;show Cm_ ⟨H3,I3,q3⟩
theorem Iy_:(sizeLine:Nat)<2 ^ 63:=by rw[Bv_];decide
theorem eH_:OpR X (binaryOp .Add) (λx y H Q=>∃i j,x=.str i/\y=.str j/\i.length+j.length<=sizeLine/\Q (.str (i++j)) H):=by intro pins s σ H x y v u Q I rx ry h;obtain⟨i,j,rfl,rfl,hz,q⟩:=h;obtain⟨t,rfl⟩:=rx;obtain⟨t',rfl⟩:=ry;show add_str (λt' tk=>⟨.str (i++j),H,I.tok _,⟨_,rfl⟩,q⟩) hz
theorem Hk_{x:V}{us:List Value}(r:Gn_ [x] us):∃u,us=[u]/\Gu_ x u:=by
 cases r with
 |cons r1 r2=>cases r2;show⟨_,rfl,r1⟩
theorem HG_{x y:V}{us:List Value}(r:Gn_ [x,y] us):∃u w',us=[u,w']/\Gu_ x u/\Gu_ y w':=by
 cases r with
 |cons r1 r2 =>
  cases r2 with
  |cons r3 r4=>cases r4;show⟨_,_,rfl,r1,r3⟩
theorem i2_:GM_ X (.builtin "abs") (λxs H Q=>∃i,xs=[.int i]/\Q (.int (if i<0 then -i else i)) H):=by intro pins s σ H xs us Q I r h;obtain⟨i,rfl,q⟩:=h;obtain⟨u,rfl,t,rfl⟩:=Hk_ r;show call_abs_int λu tk=>⟨.int (if i<0 then -i else i),H,I.tok _,⟨_,rfl⟩,q⟩
theorem fx_(hc:X.calm=true):GM_ X (.builtin "max") (λxs H Q=>∃i j,xs=[.int i,.int j]/\Q (.int (if j > i then j else i)) H):=by
 intro pins s σ H xs us Q I r h;obtain⟨i,j,rfl,q⟩:=h;obtain⟨u,w',rfl,⟨t,rfl⟩,⟨t',rfl⟩⟩:=HG_ r;show max_two_ints (I.ok.hd hc) λh' tk k=>⟨_,H,I.kept k,?_,q⟩;by_cases hj:j > i
 .rw[if_pos hj,if_pos hj];show⟨_,rfl⟩
 .rw[if_neg hj,if_neg hj];show⟨_,rfl⟩
theorem he_(hc:X.calm=true):GM_ X (.builtin "min") (λxs H Q=>∃i j,xs=[.int i,.int j]/\Q (.int (if j<i then j else i)) H):=by
 intro pins s σ H xs us Q I r h;obtain⟨i,j,rfl,q⟩:=h;obtain⟨u,w',rfl,⟨t,rfl⟩,⟨t',rfl⟩⟩:=HG_ r;show min_two_ints (I.ok.hd hc) λh' tk k=>⟨_,H,I.kept k,?_,q⟩;by_cases hj:j<i
 .rw[if_pos hj,if_pos hj];show⟨_,rfl⟩
 .rw[if_neg hj,if_neg hj];show⟨_,rfl⟩
theorem hf_:GM_ X (.type "int") (λxs H Q=>(∃i,xs=[.int i]/\Q (.int i) H)\/∃k,xs=[.bl k]/\Q (.int (if k then 1 else 0)) H):=by
 intro pins s σ H xs us Q I r h
 rcases h with⟨i,rfl,q⟩|⟨k,rfl,q⟩
 .obtain⟨u,rfl,t,rfl⟩:=Hk_ r;show call_int_int ⟨.int i,H,I,⟨_,rfl⟩,q⟩
 .obtain⟨u,rfl,r1⟩:=Hk_ r;cases r1;show call_int_bool ⟨.int (if k then 1 else 0),H,I.tok _,⟨_,rfl⟩,q⟩
end
variable {prog:Program}{A:Around}{K:PySem.W.Frag}{dx C f:Addr}{mA:Str->Option Value}{name:Str}{v:Value}
theorem IY_.some_of{v:V}{o:Option Value}(r:IY_ (some v) o):∃u,o=some u/\Gu_ v u:=by
 cases o with
 |none=>show(show False from r).elim
 |some u=>show⟨u,rfl,r⟩
variable {o e value:Expr}{f:Str}{pos' tpos:Pos}{ta tv:TE}
structure Hx_(k:Nat)(A:Around):Prop where
 hd:A.handled=none
 dp:A.depth+3*k+5<recursionLimit
 un:A.units+16*k+200<cLine
theorem Hx_.mono{j k:Nat}(r:Hx_ k A)(h:j<=k):Hx_ j A:=⟨r.hd,by have:=r.dp;lia,by have:=r.un;lia⟩
theorem Hx_.deeper{k:Nat}(r:Hx_ (k+1) A)(env:Env):Hx_ k (A.deeper env):=
 ⟨r.hd,by have:=r.dp;change A.depth+1+3*k+5<_;lia,by have:=r.un;change A.units+3+16*k+200<_;lia⟩
theorem Hx_.depth{k:Nat}(r:Hx_ k A):A.depth<recursionLimit:=by have:=r.dp;lia
theorem Hx_.units{k:Nat}(r:Hx_ k A):A.units+64<cLine:=by have:=r.un;lia
def Nl_:TA:=λ_ H Q=>Q [] H
def KM_(ta:TE)(tr:TA):TA:=λσ H Q=>ta σ H λx H1=>tr σ H1 λxs H2=>Q (x::xs) H2
section
variable {es:List Expr}{te:TE}{t:TA}
theorem ab_:PA X [] Nl_:=λ_ _ _ _ H Q I h=>El_ ⟨[],H,I,.nil,h⟩
theorem qk_(ha:PE X e te)(hr:PA X es t)(hs:starEach (e::es) X.env=(false,eval e X.env)::starEach es X.env:=by rfl):PA X (e::es) (KM_ te t):=by intro pos pins s σ H Q I h;rw[hs];change wpAny _ _ (spliced ((false,eval e X.env)::backTo pos (starEach es X.env))) _ _ s;show CJ_ (thn (ha pins s σ H _ I h) λu s1 ⟨x,H1,I1,r1,q1⟩=>?_);show thn (hr pos pins s1 σ H1 _ I1 q1) λus s2 ⟨xs,H2,I2,r2,q2⟩=>⟨x::xs,H2,I2,.cons r1 r2,q2⟩
def Ne_(t:TA):TE:=λσ H Q=>t σ H λxs H1=>xs.length<=sizeLine/\∀p,H1 p=none->Q (.ref p) (upd H1 p (.tup xs))
def Nj_(t:TA):TE:=λσ H Q=>t σ H λxs H1=>xs.length<=sizeLine/\∀p,H1 p=none->Q (.ref p) (upd H1 p (.lst xs))
theorem aK_{x1} (h:PA X es t):PE X (.Tuple es x1 pos) (Ne_ t):=by intro pins s σ H Q I hq;show FB_ (thn (h pos pins s σ H _ I hq) λus s1 ⟨xs,H1,I1,r,z,q⟩=>⟨by rw[<-r.length];show z,?_⟩);have hf:H1 s1.heap.objs.size=none:=I1.hok.fresh (Af_ _);show⟨.ref s1.heap.objs.size,upd H1 s1.heap.objs.size (.tup xs),I1.laid (t':=s1.toks) (λb u e=>Ah_ _ e) (Af_ _) ?_,rfl,q _ hf⟩;show⟨z,us,r,⟨_,AC_ _ rfl,rfl,_,rfl⟩⟩
theorem aY_(h:PA X es t):PE X (.List es pos) (Nj_ t):=by intro pins s σ H Q I hq;show wpAny_List_spliced (thn (h pos pins s σ H _ I hq) λus s1 ⟨xs,H1,I1,r,z,q⟩=>⟨by rw[<-r.length];show z,?_⟩);have hf:H1 s1.heap.objs.size=none:=I1.hok.fresh (Af_ _);show⟨.ref s1.heap.objs.size,upd H1 s1.heap.objs.size (.lst xs),I1.laid (t':=s1.toks) (λb u e=>Ah_ _ e) (Af_ _) ?_,rfl,q _ hf⟩;show⟨z,us,0,r,AC_ _ rfl⟩
end
abbrev Sp:=List V->Hp->VK->XK->Prop
abbrev CXT:=List Env->Hp->Shared->XK->Value->Shared->Prop
structure LQ_(P:Program)(w:World)(K:PySem.W.Frag)(mg:Str->Option Value)(base:Heap)(A:Around)(outer:List Env)(s:Shared)(H:Hp):Prop where
 frames:A.frames=some outer
 mod:Mod K mg base
 bs:∀b o,base.get? b=some o->s.heap.get? b=some o/\H b=none
 bsz:base.objs.size<=s.heap.objs.size
 funs:s.heap.FunFrames base outer
 frf:∀b∈frs outer,H b=none
 hok:HOk P w H s.heap
 bare:AllBare s.gens
def CE(outer:List Env)(P:Program)(w:World)(H:Hp)(s:Shared)(Q:VK)(u:Value)(s':Shared):Prop :=
 ∃v H',s'.os=s.os/\AllBare s'.gens/\Un (frs outer) [] H H' s.heap s'.heap/\HOk P w H' s'.heap/\Gu_ v u/\Q v H'
def CR(CX:CXT)(outer:List Env)(P:Program)(w:World)(H:Hp)(s:Shared)(Q:VK)(E:XK)(r:Result)(s':Shared):Prop :=
 match r with
 | .ok (.ret u)=>CE outer P w H s Q u s'
 | .ok _=>False
 | .error e=>CX outer H s E e s'
structure Jt_(P:Program)(w:World)(K:PySem.W.Frag)(mg:Str->Option Value)(base:Heap)(CX:CXT)(k:Nat)(f:Addr)(fd:FuncData)(ps:List Str)(sp:Sp):Prop where
 len:∀vs H Q E,sp vs H Q E->vs.length=ps.length
 run:∀(A:Around)(outer:List Env)(s:Shared)(H:Hp)(args:Args)(us:List Value)(vs:List V)(Q:VK)(E:XK),Hx_ k A->LQ_ P w K mg base A outer s H->BindsTo s fd args (ps.zip us)->Gn_ vs us->sp vs H Q E ->
  codeAny (model P w) A (.call (.ref f) args) (CR CX outer P w H s Q E) s
variable {s':Shared}
theorem Inv.env0(I:Inv X pins σ H s):LQ_ X.prog X.w X.K X.mg X.base X.A X.stack s H :=
 ⟨I.ok.frames,I.ok.mod,I.bs,Au_ I.ok.bsz I.sz,I.stack,I.stkFree,I.hok,I.bare⟩
theorem Inv.after{Q:VK}{u:Value}(I:Inv X pins σ H s)(h:CE X.stack X.prog X.w H s Q u s'):EP X pins σ Q u s':=by obtain⟨v,H',os,bare,un,hok,r,q⟩:=h;obtain⟨hh,g,d,t,os'⟩:=s';obtain rfl:os'=s.os:=os;show⟨v,H',I.call (h':=hh) (g':=g) (d':=d) (t':=t) (ch:=[]) un hok bare (λb z=>absurd z s_),r,q⟩
def JJ_(sp:Sp)(dvs:List V)(E:XK)(t:TA):TE:=λσ H Q=>t σ H λvs H1=>sp (vs++dvs) H1 Q E
def Is_(K:PySem.W.Frag)(fd:FuncData)(ps:List Str)(ds:List Value):Prop :=
 ∀(s:Shared)(us:List Value),K.In s.heap->(us++ds).length=ps.length->BindsTo s fd ⟨us,[]⟩ (ps.zip (us++ds))
theorem Is_.all{fd:FuncData}{ps:List Str}(h:∀us:List Value,us.length=ps.length->bindArgs fd ⟨us,[]⟩=pure (ps.zip us)):Is_ K fd ps []:=λs us _ hl=>by rw[AR_]at hl⊢;show .of_eq (h us hl)
def Ip_(CX:CXT)(X:Cx)(E:XK):Prop:=∀(pins:List (Addr×Obj))(σ:St)(H:Hp)(s:Shared)(e:Value)(s':Shared),Inv X pins σ H s->CX X.stack H s E e s'->X.xe e s'
section
variable {CX:CXT}{k:Nat}{f:Addr}{fd:FuncData}{ps:List Str}{sp:Sp}{dvs:List V}{ds:List Value}{E:XK}{x m:Str}{p apos:Pos}{es:List Expr}{t:TA}
theorem rl_{pins:List (Addr×Obj)}{σ:St}{H:Hp}{s:Shared}{Q:VK}{us:List Value}{vs:List V}(F:Jt_ X.prog X.w X.K X.mg X.base CX k f fd ps sp)(hr:Hx_ k X.A)(hb:Is_ X.K fd ps ds)(hd:Gn_ dvs ds)(hx:Ip_ CX X E)
  (I:Inv X pins σ H s) (r:Gn_ vs us) (h:sp (vs++dvs) H Q E):wpAny (model X.prog X.w) X.A (call (.ref f) us) (EP X pins σ Q) X.xe s:=by
 have r2:Gn_ (vs++dvs) (us++ds):=r.append hd;have hl:(us++ds).length=ps.length:=by rw[<-r2.length];show F.len _ _ _ _ h
 show Fp_ (Ev_ (F.run X.A X.stack s H ⟨us,[]⟩ (us++ds) (vs++dvs) Q E hr I.env0 (hb s us I.kIn hl) r2 h) λr s' hq=>?_);cases r with
 |error e=>show hx pins σ H s e s' I hq
 |ok fl =>
  cases fl with
  |ret u=>show I.after hq
  |next=>show False.elim hq
  |brk=>show False.elim hq
  |cont=>show False.elim hq
theorem na_(F:Jt_ X.prog X.w X.K X.mg X.base CX k f fd ps sp)(hr:Hx_ k X.A)(hg:Gl X x)(hm:X.mg x=some (.ref f))(hk:PySem.W.keepIn X.K (.ref f)=true)(hb:Is_ X.K fd ps ds)(hd:Gn_ dvs ds)(hx:Ip_ CX X E)
  (ha:PA X (e::es) t) (hdb:(x == ("__debug__" : Str))=false:=by decide) (he:starEach (e::es) X.env=(false,eval e X.env)::starEach es X.env:=by rfl) (hpl:(backTo pos (starEach es X.env)).any (·.1)=false:=by rfl):
  PE X (.Call (.Name x p) (e::es) [] pos) (JJ_ sp dvs E t):=by
 intro pins s σ H Q I h;show Ch_ (hb_ I hg hm ?_ hdb);show PySem.W.callWith_K (h₀:=X.base) I.ok.mod.kin hk (thn (ha pos pins s σ H _ I h) λus s1 ⟨vs,H1,I1,r,q⟩=>⟨I1.kIn,?_⟩) he hpl;show rl_ F hr hb hd hx I1 r q
end
structure F8_(N P:List Str)(sc:Scope):Prop where
 kind:sc.kind=.function
 co:sc.isCoroutine=false
 gen:sc.isGenerator=false
 nd:N.Nodup
 pre:N.take P.length=P
 par:∀x∈P,sc.names.lookup x=some .local\/sc.names.lookup x=some .cell
 nofree:∀y∈sc.names,y.2≠.free
theorem jU_{kindOf:Str->Option NameKind}{x:Str}:∀{binds:List (Str×Value)}{m:Str->Option Value},(∀v,(x,v)∉binds)->bindL kindOf binds m x=m x
 |[],_,_=>rfl
 | (n,v)::r,m,h=>by
  unfold bindL;rw[jU_ λw hw=>h w (Aj_ _ hw)];split
  .have:x≠n:=by rintro rfl;show h v Al_
   simp[this]
  .rfl
theorem jV_{kindOf:Str->Option NameKind}{x:Str}:∀{binds:List (Str×Value)}{m:Str->Option Value},(∀v,(x,v)∉binds)->bindC kindOf binds m x=m x
 |[],_,_=>rfl
 | (n,v)::r,m,h=>by
  unfold bindC;rw[jV_ λw hw=>h w (Aj_ _ hw)];split
  .rfl
  .have:x≠n:=by rintro rfl;show h v Al_
   simp[this]
theorem jW_{kindOf:Str->Option NameKind}{x:Str}{v:Value}:∀{P:List Str}{vs:List Value}{i:Nat}{m:Str->Option Value},P.Nodup->P[i]?=some x->vs[i]?=some v->kindOf x=some .local ->
  bindL kindOf (P.zip vs) m x=some v
 |[],_,_,_,_,h,_,_=>by simp at h
 |_::_,[],_,_,_,_,h,_=>by simp at h
 |p::P,w::vs,0,m,nd,h1,h2,hk=>by
  simp at h1 h2;subst h1;subst h2;change bindL kindOf ((p,w)::P.zip vs) m p=_;unfold bindL;rw[jU_ λv hv=>(AS_.mp nd).1 (DJ_ hv).1,if_pos hk];simp
 |p::P,w::vs,i+1,m,nd,h1,h2,hk=>by change bindL kindOf ((p,w)::P.zip vs) m x=_;unfold bindL;show jW_ (i:=i) (AS_.mp nd).2 (by simpa using h1) (by simpa using h2) hk
theorem jX_{kindOf:Str->Option NameKind}{x:Str}{v:Value}:∀{P:List Str}{vs:List Value}{i:Nat}{m:Str->Option Value},P.Nodup->P[i]?=some x->vs[i]?=some v->kindOf x≠some .local ->
  bindC kindOf (P.zip vs) m x=some v
 |[],_,_,_,_,h,_,_=>by simp at h
 |_::_,[],_,_,_,_,h,_=>by simp at h
 |p::P,w::vs,0,m,nd,h1,h2,hk=>by
  simp at h1 h2;subst h1;subst h2;change bindC kindOf ((p,w)::P.zip vs) m p=_;unfold bindC;rw[jV_ λv hv=>(AS_.mp nd).1 (DJ_ hv).1,if_neg hk];simp
 |p::P,w::vs,i+1,m,nd,h1,h2,hk=>by change bindC kindOf ((p,w)::P.zip vs) m x=_;unfold bindC;show jX_ (i:=i) (AS_.mp nd).2 (by simpa using h1) (by simpa using h2) hk
def start(N:List Str)(vs:List V):St:=vs.map some++List.replicate (N.length-vs.length) none
def ID_(CX:CXT)(P:Program)(w:World)(K:PySem.W.Frag)(mg:Str->Option Value)(base:Heap)(N:List Str)(qual:Str)(scope:Scope)(f:Addr)(cd:Value)(A:Around)(outer:List Env)(s:Shared)(H:Hp)(E:XK):Cx where
 prog:=P
 w:=w
 K:=K
 mg:=mg
 base:=base
 A:=A.deeper (envOfC qual scope s.heap.objs.size f cd)
 N:=N
 s₀:=s
 H₀:=H
 env:=envOfC qual scope s.heap.objs.size f cd
 outer:=outer
 stack:=envOfC qual scope s.heap.objs.size f cd::outer
 ex:=[]
 calm:=true
 fn:=λ_=>true
 pn:=[]
 xe:=λe s'=>wpAny (model P w) (A.deeper (envOfC qual scope s.heap.objs.size f cd)) (leaving (envOfC qual scope s.heap.objs.size f cd) e) (λ_ s''=>CX outer H s E e s'') (λe' s''=>CX outer H s E e' s'') s'
theorem lN_{sc:Scope}{n:Nat}{x:Str}(h:sc.names.lookup x=some .cell):∃c,(cellsFrom n sc.names []).lookup x=some c:=by have q:=Dw_ sc.names n [] (.inl h);show Ew_.mp q
theorem jY_{CX:CXT}{P:Program}{w:World}{K:PySem.W.Frag}{mg:Str->Option Value}{base:Heap}{N ps:List Str}{qual:Str}{scope:Scope}{f:Addr}{cd:Value}{A:Around}{outer:List Env}{s s1:Shared}{H:Hp}{E:XK}{us:List Value}{vs:List V}
  (S:F8_ N ps scope) (hd:A.handled=none) (e0:LQ_ P w K mg base A outer s H) (hl:vs.length=ps.length) (r:Gn_ vs us)
  (x:InCallC s s.heap.objs.size (bindL (envOfC qual scope s.heap.objs.size f cd).kindOf (ps.zip us) λ_=>none) (cellsFrom (s.heap.objs.size+1) scope.names []) (bindC (envOfC qual scope s.heap.objs.size f cd).kindOf (ps.zip us) λ_=>none) s1):
  Inv (ID_ CX P w K mg base N qual scope f cd A outer s H E) [] (start N vs) H s1:=by
 have hpl:ps.length<=N.length:=by have:=congrArg List.length S.pre;rw[Aw_]at this;lia
 obtain⟨h1,tk,rfl,hk⟩:=x.done;have noA:∀b:Addr,b∉(ID_ CX P w K mg base N qual scope f cd A outer s H E).ex:=λb z=>absurd (show b∈([]:List Addr)from z) s_
 show⟨⟨e0.mod,S.kind,rfl,rfl,Af_ _,λy z c h1 h2=>?_,λy hy=>?_,λy c _ h=>?_,λ_=>hd,Around.frames_deeper e0.frames,.inr ⟨rfl,rfl⟩,λb z=>absurd z (noA b),e0.bs,e0.bsz,λb _ _=>noA b,λb z=>absurd z (noA b),e0.funs,e0.frf⟩,
  rfl,e0.bare,Un.kept hk,⟨_,x.toInCall.ns,λi y v h1 h2 h3=>?_⟩,λy c h=>⟨_,x.cell y c h⟩,e0.hok.fresh (Af_ _),λy c h=>?_,λp hp=>absurd (show p∈([]:List (Addr×Obj))from hp) s_,e0.hok.kept hk,?_⟩
 .show name_of_addr x.apart (Bu_ h1) (Bu_ h2)
 .have hy:scope.names.lookup y=some .cell\/scope.names.lookup y=some .free:=hy
  rcases hy with hy|hy
  .show lN_ hy
  .show absurd rfl (S.nofree _ (Bu_ hy))
 .show A6_ (x.above y c (Bu_ h))
 .have hi:i<vs.length:=by
   unfold start at h2;by_cases hi:i<vs.length
   .show hi
   .rw[AI_ (by simpa using hi)]at h2;rw[EM_]at h2;split at h2 <;> cases h2
  have ha:vs[i]?=some v:=by
   unfold start at h2;rw[AH_ (by simpa using hi),Ae_]at h2;cases e:vs[i]? with
   |none=>rw[e]at h2;cases h2
   |some a=>rw[e]at h2;cases h2;rfl
  obtain⟨u,hu,rv⟩:=r.get ha;have hp:ps[i]?=some y:=by rw[<-S.pre,List.getElem?_take_of_lt o_];show h1
  have ndP:ps.Nodup:=by rw[<-S.pre];show S.nd.sublist (Em_ _ _)
  show⟨u,rv,?_⟩
  rcases S.par y (Am_ hp)with k|k
  .show .inl ⟨k,jW_ ndP hp hu k⟩
  .obtain⟨c,e⟩:=lN_ (n:=s.heap.objs.size+1) k;show .inr ⟨.inl k,c,e,?_⟩;have q:=x.cell y c e;rw[jX_ ndP hp hu (by change scope.names.lookup y≠_;rw[k];decide)]at q;show q
 .show e0.hok.fresh (A6_ (x.above y c (Bu_ h)))
 .unfold start;change _=N.length;rw[Ak_,Aa_,E7_];lia
theorem LW_{CX:CXT}{P:Program}{w:World}{K:PySem.W.Frag}{mg:Str->Option Value}{base:Heap}{k:Nat}{f:Addr}{name qual:Str}{params:Arguments}{body:List Stmt}{scope:Scope}{dV kV doc pm cdv ct oc:Value}{an od:Option Addr}
  {osl:Array (Option Value)} {N ps:List Str} {sp:Sp} (lk:K.lookup f=some ⟨oc,od,.func (PySem.W.fnOf name qual params body scope dV kV doc pm an cdv ct),osl⟩) (hcd:PySem.W.codeIn K cdv qual=true) (S:F8_ N ps scope)
  (len:∀vs H Q E,sp vs H Q E->vs.length=ps.length)
  (hbody:∀(A:Around)(outer:List Env)(s:Shared)(H:Hp)(vs:List V)(Q:VK)(E:XK),Hx_ k (A.deeper (envOfC qual scope s.heap.objs.size f cdv))->sp vs H Q E ->
   ∃t,PSs (ID_ CX P w K mg base N qual scope f cdv A outer s H E) body t/\t {nx:=λ_ H'=>Q .non H',rt:=Q} (start N vs) H):
  Jt_ P w K mg base CX (k+1) f (PySem.W.fnOf name qual params body scope dV kV doc pm an cdv ct) ps sp:=by
 show⟨len,λA outer s H args us vs Q E hr e0 hb r hsp=>?_⟩;have hl:=len _ _ _ _ hsp;have KX:K.In s.heap:=e0.mod.kin.keeps λb o e=>(e0.bs b o e).1;have lim:s.heap.NoLimit:=e0.mod.nolimit.keeps λb o e=>(e0.bs b o e).1
 have hkind:∀y∈ps.zip us,scope.names.lookup y.1=some .local\/(scope.names.lookup y.1=some .cell/\((cellsFrom (s.heap.objs.size+1) scope.names []).lookup y.1).isSome=true):=λ⟨n,v⟩ hy=>by
  rcases S.par n (DJ_ hy).1 with q|q
  .show .inl q
  .show .inr ⟨q,Dw_ _ _ _ (.inl q)⟩
 show E8_ hr.depth (KX _ _ lk) rfl S.co S.gen rfl (PySem.W.codeRec_of KX hcd) (hb _ _ _ _ ?_);show Ee_ S.kind hkind λenv he s1 x=>?_;subst he;show⟨lim.keeps x.toInCall.keep,codeAny_func ?_⟩;obtain⟨t,ht,hq⟩:=hbody A outer s H vs Q E (hr.deeper _) hsp;have I:Inv (ID_ CX P w K mg base N qual scope f cdv A outer s H E) [] (start N vs) H s1:=jY_ S hr.hd e0 hl r x;show Bg_ (ht [] s1 (start N vs) H _ I hq) (λfl s' hs=>?_) λe s' hs=>hs
 have fin:∀{σ':St}{H':Hp}{v:V}{u:Value},Inv (ID_ CX P w K mg base N qual scope f cdv A outer s H E) [] σ' H' s'->Gu_ v u->Q v H'->CE outer P w H s Q u s' :=
  λ{σ' H' v u} J rv q=>⟨v,H',J.os,J.bare,J.base,J.hok,rv,q⟩
 cases fl with
 |ret u =>
  obtain⟨v,σ',H',J,rv,q⟩:=hs;show fin J rv q
 |next =>
  obtain⟨σ',H',J,q⟩:=hs;show fin (v:=V.non) (u:=Value.none) J rfl q
 |brk =>
  obtain⟨_,_,_,q⟩:=hs;show False.elim q
 |cont =>obtain⟨_,_,_,q⟩:=hs;show False.elim q
section
variable {x:Str}{p:Pos}{es:List Expr}{t:TA}{id T:String}{r:List V->Hp->VK->Prop}
def tCB(r:List V->Hp->VK->Prop)(t:TA):TE:=λσ H Q=>t σ H λvs H1=>r vs H1 Q
theorem oz_(hc:GM_ X (.builtin id) r)(hg:Gl X x)(hm:X.mg x=none)(hv:bootBuiltins x=some (.builtin id))(ha:PA X (e::es) t)(hn:x ≠ "__name__" := by decide) (hdb:(x == ("__debug__" : Str))=false:=by decide)
  (he:starEach (e::es) X.env=(false,eval e X.env)::starEach es X.env:=by rfl) (hpl:(backTo pos (starEach es X.env)).any (·.1)=false:=by rfl):PE X (.Call (.Name x p) (e::es) [] pos) (tCB r t):=by
 intro pins s σ H Q I h;show Ch_ (fv_ I hg hm hv ?_ hn hdb);show PyProof.Rows.callWith_builtin1 (thn (ha pos pins s σ H _ I h) λus s1 ⟨vs,H1,I1,r1,q1⟩=>hc pins s1 σ H1 vs us Q I1 r1 q1) he hpl
theorem nb_(hc:GM_ X (.type T) r)(hg:Gl X x)(hm:X.mg x=none)(hv:bootBuiltins x=some (.type T))(ha:PA X (e::es) t)(hn:x ≠ "__name__" := by decide) (hdb:(x == ("__debug__" : Str))=false:=by decide)
  (he:starEach (e::es) X.env=(false,eval e X.env)::starEach es X.env:=by rfl) (hpl:(backTo pos (starEach es X.env)).any (·.1)=false:=by rfl):PE X (.Call (.Name x p) (e::es) [] pos) (tCB r t):=by
 intro pins s σ H Q I h;show Ch_ (fv_ I hg hm hv ?_ hn hdb);show BE_ (thn (ha pos pins s σ H _ I h) λus s1 ⟨vs,H1,I1,r1,q1⟩=>hc pins s1 σ H1 vs us Q I1 r1 q1) he hpl
end
end L2
namespace HT
open PySem PyProof.Rows
open PySem.SeqAt
open PySem.AutoSeq1 (wpAny_loadPart')
open PySem.MeetsSeq PySem.MeetsSeq2 PySem.MeetsSeq3
variable {prog:Program}{w:World}{A:Around}{E:Value->Shared->Prop}{s:Shared}
def sIx(n d:Nat):Option Int->Nat
 |none=>d
 |some v=>if v<0 then(v+(n:Int)).toNat else min v.toNat n
theorem sIx_none(n d:Nat):sIx n d none=d:=rfl
theorem sIx_nat(n d k:Nat):sIx n d (some (k:Int))=min k n:=by change(if(k:Int)<0 then((k:Int)+(n:Int)).toNat else min (k:Int).toNat n)=min k n;rw[if_neg o_,AK_]
end HT
namespace L2
open PySem PySem.Spec PyProof.Rows
abbrev TO:=St->Hp->(Option Int->Hp->Prop)->Prop
def PO(X:Cx)(e:Option Expr)(t:TO):Prop :=
 ∀(pins:List (Addr×Obj))(s:Shared)(σ:St)(H:Hp)(Q:Option Int->Hp->Prop),Inv X pins σ H s->t σ H Q ->
  wpAny (model X.prog X.w) X.A (evalPart e X.env) (λu s'=>∃o H',Inv X pins σ H' s'/\IsPart u o/\Q o H') X.xe s
def JF_:TO:=λ_ H Q=>Q none H
def Lt_(t:TE):TO:=λσ H Q=>t σ H λx H1=>onI x λi=>Q (some i) H1
theorem mz_{ns:List Int}:∀{us:List Value},Gn_ (ns.map V.int) us->IntsAre us ns:=by
 induction ns with
 |nil=>intro us r;rw[Cu_]at r;cases r;show .nil
 |cons n ns ih =>
  intro us r;rw[AW_]at r;cases r with
  |cons r1 r2 =>obtain⟨t,e⟩:=r1;subst e;show .cons n t (ih r2)
section
variable {X:Cx}{e:Expr}{te:TE}{lo hi:Option Expr}{tl th:TO}{pos p2:Pos}
theorem gc_:PO X none JF_:=by intro pins s σ H Q I h;rw[evalPart_none];show AA_ ⟨none,H,I,.none,h⟩
theorem gd_(h:PE X e te):PO X (some e) (Lt_ te):=by intro pins s σ H Q I hw;rw[evalPart_some];show thn (h pins s σ H _ I hw) λu s1 ⟨x,H1,I1,r1,q1⟩=>?_;obtain⟨i,rfl,q⟩:=c4_ q1;obtain⟨t,rfl⟩:=r1;show⟨some i,H1,I1,.int i t,q⟩
def SlR(X:Cx)(r:V->Option Int->Option Int->Hp->VK->Prop):Prop :=
 ∀(pins:List (Addr×Obj))(s:Shared)(σ:St)(H:Hp)(x:V)(v vl vu:Value)(lo hi:Option Int)(sl:Addr)(Q:VK),Inv X pins σ H s->Gu_ x v->s.heap.IsSliceOf sl vl vu .none->IsPart vl lo->IsPart vu hi->r x lo hi H Q ->
  ∃T id,typeLookup (.type T) "__getitem__"=pure (some (.builtin id))/\s.TypeIs v T/\wpAny (model X.prog X.w) X.A (getItem v (.ref sl)) (EP X pins σ Q) X.xe s
def tSl(r:V->Option Int->Option Int->Hp->VK->Prop)(te:TE)(tl th:TO):TE:=λσ H Q=>te σ H λx H1=>tl σ H1 λl H2=>th σ H2 λu H3=>r x l u H3 Q
theorem eI_{r:V->Option Int->Option Int->Hp->VK->Prop}(hr:SlR X r)(he:PE X e te)(hl:PO X lo tl)(hu:PO X hi th):PE X (.Subscript e (.Slice lo hi none p2) pos) (tSl r te tl th):=by intro pins s σ H Q I h;show Subscript_ (thn (he pins s σ H _ I h) λv s1 ⟨x,H1,I1,r1,q1⟩=>?_);show wpAny_Slice (thn (hl pins s1 σ H1 _ I1 q1) λvl s2 ⟨l,H2,I2,pl,q2⟩=>thn (hu pins s2 σ H2 _ I2 q2) λvu s3 ⟨u,H3,I3,pu,q3⟩=>?_);rw[evalPart_none];show AA_ ?_;have I4:Inv X pins σ H3 {s3 with heap:=s3.heap.push {cls:=.type "slice",data:=.fields #[vl,vu,.none]}}:=I3.kept (t':=s3.toks) λb ob q=>Ah_ _ q;obtain⟨T,id,hT,ht,hg⟩:=hr pins {s3 with heap:=s3.heap.push {cls:=.type "slice",data:=.fields #[vl,vu,.none]}} σ H3 x v vl vu l u s3.heap.objs.size Q I4 r1 (Heap.IsSliceOf.new ..) pl pu q3;change wpAny (model X.prog X.w) X.A (subscriptTail e (.Slice lo hi none p2) v (.ref s3.heap.objs.size)) (EP X pins σ Q) X.xe {s3 with heap:=s3.heap.push {cls:=.type "slice",data:=.fields #[vl,vu,.none]}};show tail_any (ops:=[.ref s3.heap.objs.size,v]) ht hT hg (by with_unfolding_all rfl)
def IE_(xs:List V)(lo hi:Option Int):List V:=(xs.drop (HT.sIx xs.length 0 lo)).take (HT.sIx xs.length xs.length hi-HT.sIx xs.length 0 lo)
theorem kT_(xs:List V)(lo hi:Option Int):(IE_ xs lo hi).length<=xs.length:=by unfold IE_;rw[Aw_,Bs_];lia
end
def ixN(n:Nat)(i:Int):Option Nat:=if 0<=i then(if i<n then some i.toNat else none)else if -(n:Int)<=i then some (i+n).toNat else none
def atI{α:Type}(xs:List α)(i:Int):Option α:=(ixN xs.length i).bind λj=>xs[j]?
theorem nc_{n:Nat}{i:Int}{j:Nat}(h:ixN n i=some j):seqIndex? i n=some j/\j<n /\ -(n:Int)<=i/\i<n:=by
 unfold ixN at h;by_cases h0:0<=i
 .rw[if_pos h0]at h;by_cases h1:i<n
  .rw[if_pos h1]at h;have e:i.toNat=j:=Ar_ h;show⟨by rw[EU_ h0 h1,e],o_,o_,h1⟩
  .rw[if_neg h1]at h;cases h
 .rw[if_neg h0]at h;by_cases h1:-(n:Int)<=i
  .rw[if_pos h1]at h;have e:(i+n).toNat=j:=Ar_ h;show⟨by rw[FM_ o_ h1,e],o_,h1,o_⟩
  .rw[if_neg h1]at h;cases h
theorem kU_{α:Type}{xs:List α}{i:Int}{v:α}(h:atI xs i=some v):∃j,seqIndex? i xs.length=some j/\xs[j]?=some v/\j<xs.length /\ -(xs.length:Int)<=i/\i<xs.length:=by
 unfold atI at h;cases e:ixN xs.length i with
 |none=>rw[e]at h;cases h
 |some j =>rw[e]at h;obtain⟨h1,h2,h3,h4⟩:=nc_ e;show⟨j,h1,h,h2,h3,h4⟩
theorem i3_{α:Type}{xs:List α}{j:Nat}{v:α}(h:xs[j]?=some v):atI xs (j:Int)=some v:=by
 have hj:j<xs.length:=(Ai_.mp h).1;have e:ixN xs.length (j:Int)=some j:=by unfold ixN;rw[if_pos o_,if_pos o_];simp
 unfold atI;rw[e];show h
def KO_(b:Expr):Prop:=∀o i,subscripted b false o i=operate [o,i] (getItem o i)
def IxR(X:Cx)(r:R2):Prop :=
 ∀(value slice:Expr)(pins:List (Addr×Obj))(s:Shared)(σ:St)(H:Hp)(x y:V)(v u:Value)(Q:VK),Inv X pins σ H s->Gu_ x v->Gu_ y u->r x y H Q ->
  subscripted slice false v u=operate [v,u] (getItem v u)->wpAny (model X.prog X.w) X.A (subscriptTail value slice v u) (EP X pins σ Q) X.xe s
def MtR(X:Cx)(id:String)(r:V->List V->Hp->VK->Prop):Prop :=
 ∀(pins:List (Addr×Obj))(s:Shared)(σ:St)(H:Hp)(x:V)(xs:List V)(v:Value)(us:List Value)(Q:VK),Inv X pins σ H s->Gu_ x v->Gn_ xs us->r x xs H Q ->
  wpAny (model X.prog X.w) X.A (call (.builtin id) (v::us)) (EP X pins σ Q) X.xe s
section
variable {X:Cx}{a b:Expr}{ta tb:TE}{pos:Pos}
theorem F9_{r:R2}(hr:IxR X r)(ha:PE X a ta)(hb:PE X b tb)(hs:KO_ b:=by intro _ _;rfl):PE X (.Subscript a b pos) (tOp r ta tb):=by intro pins s σ H Q I h;show Subscript_ (binT ha hb I h λv u s2 x y H2 I2 rx ry q=>hr a b pins s2 σ H2 x y v u Q I2 rx ry q (hs _ _))
def M5_(K:PySem.W.Frag):R2:=λx y H Q=>∃p xs i v,x=.ref p/\y=.int i/\SqL K H p xs/\atI xs i=some v/\Q v H
def Mg_(K:PySem.W.Frag):R2:=λx y H Q=>∃p xs i v,x=.ref p/\y=.int i/\SqT K H p xs/\atI xs i=some v/\Q v H
def MP_:R2:=λx y H Q=>∃z i c,x=.str z/\y=.int i/\z.length<=sizeLine/\atI z.cps.toList i=some c/\Q (.str ⟨#[c]⟩) H
theorem nd_:IxR X (M5_ X.K):=by
 intro value slice pins s σ H x y v u Q I rx ry h hs;obtain⟨p,xs,i,z,rfl,rfl,hq,he,q⟩:=h;cases rx;obtain⟨t,rfl⟩:=ry;obtain⟨its,r,pl,hz⟩:=I.list hq;obtain⟨j,h1,h2,h3,h4,h5⟩:=kU_ he;obtain⟨w,ew,rw'⟩:=r.get h2;have hl:=r.length;have hn:=Iy_;have fin:EP X pins σ Q w s:=⟨z,H,I,rw',q⟩;by_cases h0:0<=i
 .have hj:i.toNat=j:=by rw[EU_ h0 h5]at h1;show Ar_ h1
  show item_listR pl.isList h0 o_ (by rw[hj];simpa using ew) fin hs
 .have hj:(i+(its.toArray.size:Int)).toNat=j:=by rw[FM_ o_ h4]at h1;rw[Ao_,<-hl];show Ar_ h1
  show EV_ (x:=w) pl.isList.typeIs slot_list_getitem.lookup
   (wpAny_getItem_list_neg (Q:=λr s'=>r=w/\EP X pins σ Q r s') pl.isList o_ (by rw[Ao_] <;> lia) o_ (by rw[hj];simpa using ew) ⟨rfl,fin⟩) hs
theorem pH_:IxR X (Mg_ X.K):=by
 intro value slice pins s σ H x y v u Q I rx ry h hs;obtain⟨p,xs,i,z,rfl,rfl,hq,he,q⟩:=h;cases rx;obtain⟨t,rfl⟩:=ry;obtain⟨its,r,pl,hz⟩:=I.tuple hq;obtain⟨j,h1,h2,h3,h4,h5⟩:=kU_ he;obtain⟨w,ew,rw'⟩:=r.get h2;have hl:=r.length;have hn:=Iy_;have fin:EP X pins σ Q w s:=⟨z,H,I,rw',q⟩
 show EV_ (x:=w) pl.typeIs slot_tuple_getitem.lookup
  (getItem_tuple (j:=j) (Q:=λr s'=>r=w/\EP X pins σ Q r s') pl o_ o_ (by rw[Ao_,<-hl];show h1) (by simpa using ew) ⟨rfl,fin⟩) hs
theorem lO_:IxR X MP_:=by
 intro value slice pins s σ H x y v u Q I rx ry h hs;obtain⟨z,i,c,rfl,rfl,hz,he,q⟩:=h;obtain⟨t,rfl⟩:=rx;obtain⟨t',rfl⟩:=ry;obtain⟨j,h1,h2,h3,h4,h5⟩:=kU_ he;have hl:z.cps.toList.length=z.length:=by simp[Str.length]
 rw[hl]at h1 h4 h5;have hn:=Iy_;show tail_any (Ep_ s z t) slot_str_getitem.lookup (getItem_str (c:=c) (by have e1:decide (i < -(2 ^ 63:Int))=false:=AE_ o_;have e2:decide (i ≥ 2 ^ 63)=false:=AE_ o_;rw[e1,e2,Bool.or_false]) (by rw[h1];simpa using h2) ⟨.str ⟨#[c]⟩,H,I.tok _,⟨_,rfl⟩,q⟩) hs
theorem mA_(its:List Value)(n j:Nat)(u:Value):Obj.mapSeq (·.setIfInBounds j u) {cls:=.type "list",data:=.seq its.toArray n}={cls:=.type "list",data:=.seq (its.set j u).toArray n}:=by simp[Obj.mapSeq]
theorem Inv.lst{pins:List (Addr×Obj)}{σ:St}{H:Hp}{s:Shared}{p:Addr}{xs:List V}(I:Inv X pins σ H s)(h:H p=some (.lst xs)):
  ∃(its:List Value)(n:Nat),Gn_ xs its/\s.heap.get? p=some {cls:=.type "list",data:=.seq its.toArray n}/\xs.length<=sizeLine:=by
 obtain⟨z,its,n,r,e⟩:=I.hok p _ h;show⟨its,n,r,e,z⟩
theorem Inv.lstUpd{pins:List (Addr×Obj)}{σ:St}{H:Hp}{s:Shared}{p:Addr}{xs ys:List V}{its its':List Value}{n n':Nat}{f:Obj->Obj}(I:Inv X pins σ H s)(h:H p=some (.lst xs))
  (ho:s.heap.get? p=some {cls:=.type "list",data:=.seq its.toArray n}) (hf:f {cls:=.type "list",data:=.seq its.toArray n}={cls:=.type "list",data:=.seq its'.toArray n'}) (r:Gn_ ys its') (hz:ys.length<=sizeLine) (t:Nat):
  Inv X pins σ (upd H p (.lst ys)) {s with heap:=s.heap.update p f,toks:=t}:=by
 have e:(s.heap.update p f).get? p=some {cls:=.type "list",data:=.seq its'.toArray n'}:=by rw[Cj_ f ho (by rw[hf] <;> rfl),hf]
 show I.write (x:=p) (e:=p) (by rw[h];trivial) (.inl rfl) (λb u hb q=>(A4_ _ _ (Ne.symm hb)).trans q) ⟨_,e⟩ ?_;show⟨hz,its',n',r,e⟩
def Le_:V->V->V->Hp->(Hp->Prop)->Prop:=λo i v H Q=>∃p xs k j,o=.ref p/\i=.int k/\H p=some (.lst xs)/\ixN xs.length k=some j/\Q (upd H p (.lst (xs.set j v)))
theorem oA_:Ng_ X Le_:=by
 intro pins s σ H o i v ov iv u Q I ro ri rv h;obtain⟨p,xs,k,j,rfl,rfl,hp,hj,q⟩:=h;cases ro;obtain⟨t,rfl⟩:=ri;obtain⟨its,n,r,ho,hz⟩:=I.lst hp;obtain⟨h1,h2,h3,h4⟩:=nc_ hj;have hl:=r.length;have hn:=Iy_
 have I':Inv X pins σ (upd H p (.lst (xs.set j v))) {s with heap:=s.heap.update p (Obj.mapSeq (·.setIfInBounds j u))} :=
  I.lstUpd hp ho (mA_ its n j u) (r.set rv j) (by rw[BO_];show hz) s.toks
 by_cases h0:0<=k
 .have hk:k.toNat=j:=by rw[EU_ h0 h4]at h1;show Ar_ h1
  show PySem.W.ki_setAt ho h0 o_ (by rw[Ao_,<-hl];show h4) (by rw[hk];show⟨_,I',q⟩)
 .have hk:(k+(its.toArray.size:Int)).toNat=j:=by rw[FM_ o_ h3]at h1;rw[Ao_,<-hl];show Ar_ h1
  show PySem.W.ki_setBack ho o_ (by rw[Ao_,<-hl];show h3) o_ (by rw[hk];show⟨_,I',q⟩)
theorem jZ_(lo hi:Option Int)(n:Nat):(sliceBounds lo hi none n).1=((HT.sIx n 0 lo:Nat):Int)/\(sliceBounds lo hi none n).2.1=((HT.sIx n n hi:Nat):Int)/\(sliceBounds lo hi none n).2.2=1:=by
 show⟨?_,?_,rfl⟩
 .cases lo with
  |none=>simp[sliceBounds,HT.sIx]
  |some i =>
   simp only[sliceBounds,HT.sIx,Option.getD_none,show(1:Int) > 0 by decide,if_true];by_cases h:i<0
   .simp only[h,if_true] <;> lia
   .simp only[h,CO_] <;> lia
 .cases hi with
  |none=>simp[sliceBounds,HT.sIx]
  |some i =>
   simp only[sliceBounds,HT.sIx,Option.getD_none,show(1:Int) > 0 by decide,if_true];by_cases h:i<0
   .simp only[h,if_true] <;> lia
   .simp only[h,CO_] <;> lia
theorem i4_(its:List Value)(lo hi:Option Int):slicePick its.toArray lo hi none=((its.drop (HT.sIx its.length 0 lo)).take (HT.sIx its.length its.length hi-HT.sIx its.length 0 lo)).toArray:=by obtain⟨h1,h2,h3⟩:=jZ_ lo hi its.toArray.size;unfold slicePick;rw[h1,h2,h3];simp only[sliceRange_one,pick_run,Ao_] <;> rfl
def rSlL(K:PySem.W.Frag):V->Option Int->Option Int->Hp->VK->Prop:=λx lo hi H Q=>∃a xs,x=.ref a/\SqL K H a xs/\∀p,H p=none->Q (.ref p) (upd H p (.lst (IE_ xs lo hi)))
theorem ql_:SlR X (rSlL X.K):=by intro pins s σ H x v vl vu lo hi sl Q I rx hs pl pu h;obtain⟨a,xs,rfl,hx,q⟩:=h;cases rx;obtain⟨its,r,ht,hz⟩:=I.list hx;have hlen:=r.length;show⟨"list",_,slot_list_getitem.lookup,ht.isList.typeIs,?_⟩;show wpAny_getItem_list_slice ht.isList hs pl pu .none s_ ?_ (by rw[Ao_] <;> lia);rw[i4_,<-hlen];show⟨.ref s.heap.objs.size,_,I.laid (t':=s.toks) (o:=.lst (IE_ xs lo hi)) (λb ob q=>Ah_ _ q) (Af_ _) ?_,rfl,q _ (I.hok.fresh (Af_ _))⟩;show⟨Au_ (kT_ xs lo hi) hz,_,0,(r.drop (HT.sIx xs.length 0 lo)).take (HT.sIx xs.length xs.length hi-HT.sIx xs.length 0 lo),AC_ _ rfl⟩
def HE_:V->Bool
 | .non=>true
 | .bl _=>true
 | .int _=>true
 | .str _=>true
 |_=>false
def eqV:V->V->Bool
 | .non,.non=>true
 | .bl a,.bl b=>a == b
 | .bl a,.int b=>(if a then 1 else 0)== b
 | .int a,.bl b=>a == (if b then 1 else 0)
 | .int a,.int b=>a == b
 | .str a,.str b=>a == b
 |_,_=>false
theorem rm_{A:Around}{s:Shared}{y x:V}{u v:Value}(ry:Gu_ y u)(rx:Gu_ x v)(fy:HE_ y=true)(fx:HE_ x=true):SeqAt.EqAt A s u v (eqV y x):=by
 cases y with
 |non =>
  cases ry;cases x with
  |non=>cases rx;show DK_ _
  |bl b=>cases rx;show SeqAt.EqAt.none_bool b
  |int b=>obtain⟨t,rfl⟩:=rx;show SeqAt.EqAt.none_int b t
  |str b=>obtain⟨t,rfl⟩:=rx;show SeqAt.EqAt.none_str b t
  |_=>show absurd (show false=true from fx) AD_
 |bl a =>
  cases ry;cases x with
  |non=>cases rx;show SeqAt.EqAt.bool_none a
  |bl b=>cases rx;show Fq_ a b
  |int b=>obtain⟨t,rfl⟩:=rx;show SeqAt.EqAt.bool_int a b t
  |str b=>obtain⟨t,rfl⟩:=rx;show SeqAt.EqAt.bool_str a b t
  |_=>show absurd (show false=true from fx) AD_
 |int a =>
  obtain⟨t',rfl⟩:=ry;cases x with
  |non=>cases rx;show SeqAt.EqAt.int_none a t'
  |bl b=>cases rx;show SeqAt.EqAt.int_bool a t' b
  |int b=>obtain⟨t,rfl⟩:=rx;show SeqAt.EqAt.int_int a t' b t
  |str b=>obtain⟨t,rfl⟩:=rx;show SeqAt.EqAt.int_str a t' b t
  |_=>show absurd (show false=true from fx) AD_
 |str a =>
  obtain⟨t',rfl⟩:=ry;cases x with
  |non=>cases rx;show SeqAt.EqAt.str_none a t'
  |bl b=>cases rx;show SeqAt.EqAt.str_bool a t' b
  |int b=>obtain⟨t,rfl⟩:=rx;show SeqAt.EqAt.str_int a t' b t
  |str b=>obtain⟨t,rfl⟩:=rx;show D7_ a t' b t
  |_=>show absurd (show false=true from fx) AD_
 |_=>show absurd (show false=true from fy) AD_
def eqU(x:V)(u:Value):Bool:=match u with
 | .none=>eqV .non x
 | .bool b=>eqV (.bl b) x
 | .int i _=>eqV (.int i) x
 | .str z _=>eqV (.str z) x
 |_=>false
theorem pI_{x y:V}{u:Value}(r:Gu_ y u)(f:HE_ y=true):eqU x u=eqV y x:=by
 cases y with
 |non=>cases r;rfl
 |bl b=>cases r;rfl
 |int i=>obtain⟨t,rfl⟩:=r;rfl
 |str z=>obtain⟨t,rfl⟩:=r;rfl
 |_=>show absurd (show false=true from f) AD_
theorem kV_{x:V}:∀{xs:List V}{us:List Value},Gn_ xs us->xs.all HE_=true->us.any (eqU x)=xs.any λy=>eqV y x
 |_,_,.nil,_=>rfl
 |y::xs,u::us,.cons r t,f=>by rw[Fy_,Cv_]at f;rw[C6_,C6_,pI_ r f.1,kV_ t f.2]
theorem i5_{A:Around}{s:Shared}{x:V}{v:Value}(rx:Gu_ x v)(fx:HE_ x=true):∀{xs:List V}{us:List Value},Gn_ xs us->xs.all HE_=true->∀u∈us,SeqAt.EqAt A s u v (eqU x u)
 |_,_,.nil,_=>λu hu=>by cases hu
 |y::xs,u::us,.cons r t,f=>λu' hu=>by
  rw[Fy_,Cv_]at f
  rcases Aq_.mp hu with rfl|hu
  .rw[pI_ r f.1];show rm_ r rx f.1 fx
  .show i5_ rx fx t f.2 u' hu
def inV(x:V)(xs:List V):Bool:=xs.any λy=>eqV y x
def rIn(K:PySem.W.Frag)(neg:Bool):R2:=λx y H Q=>∃p xs,y=.ref p/\(SqL K H p xs\/SqT K H p xs)/\HE_ x=true/\xs.all HE_=true/\Q (.bl (if neg then !inV x xs else inV x xs)) H
theorem ne_:OpR X (compareOp .In) (rIn X.K false):=by
 intro pins s σ H x y v u Q I rx ry h;obtain⟨p,xs,rfl,hq,fx,fs,q⟩:=h;cases ry
 rcases hq with hq|hq
 .obtain⟨its,r,pl,hz⟩:=I.list hq;show SeqAt.in_listAt (eqU x) pl.isList (λw hw=>i5_ rx fx r fs w (by simpa using hw)) ⟨.bl _,H,I,rfl,?_⟩;rw[show its.toArray.any (eqU x)=its.any (eqU x) by simp,kV_ r fs];show q
 .obtain⟨its,r,pl,hz⟩:=I.tuple hq;show SeqAt.in_tupleAt (eqU x) pl (λw hw=>i5_ rx fx r fs w (by simpa using hw)) ⟨.bl _,H,I,rfl,?_⟩;rw[show its.toArray.any (eqU x)=its.any (eqU x) by simp,kV_ r fs];show q
theorem em_:GM_ X (.builtin "len") (λxs H Q=>∃p ys,xs=[.ref p]/\(SqL X.K H p ys\/SqT X.K H p ys)/\Q (.int ys.length) H):=by
 intro pins s σ H xs us Q I r h;obtain⟨p,ys,rfl,hq,q⟩:=h;obtain⟨u,rfl,rx⟩:=Hk_ r;cases rx;have hn:=Iy_
 rcases hq with hq|hq
 .obtain⟨its,r',pl,hz⟩:=I.list hq;have hlen:=r'.length;show Calls.call_len_list pl.isList (by simp only[Ao_] <;> lia) ⟨.int ys.length,H,I.tok _,⟨s.toks+1,by rw[Ao_,hlen]⟩,q⟩
 .obtain⟨its,r',pl,hz⟩:=I.tuple hq;have hlen:=r'.length;show len_tuple pl (by simp only[Ao_] <;> lia) ⟨.int ys.length,H,I.tok _,⟨s.toks+1,by rw[Ao_,hlen]⟩,q⟩
theorem j0_:GM_ X (.type "list") (λxs H Q=>∃p ys,xs=[.ref p]/\(SqL X.K H p ys\/SqT X.K H p ys)/\∀l,H l=none->Q (.ref l) (upd H l (.lst ys))):=by
 intro pins s σ H xs us Q I r h;obtain⟨p,ys,rfl,hq,q⟩:=h;obtain⟨u,rfl,rx⟩:=Hk_ r;cases rx
 have fin:∀(its:List Value),Gn_ ys its->ys.length<=sizeLine->∀(h':Heap)(c':Nat),(∀b o',s.heap.get? b=some o'->h'.get? b=some o') ->
   h'.get? s.heap.objs.size=some {cls:=.type "list",dict:=none,data:=.seq its.toArray c',slots:=#[]}->EP X pins σ Q (.ref s.heap.objs.size) {s with heap:=h'}:=λits r' hz h' c' kp e =>
  ⟨.ref s.heap.objs.size,_,I.laid (t':=s.toks) kp (Af_ _) (show Gy_ X.prog X.w _ h' _ (.lst ys)from⟨hz,its,c',r',e⟩),rfl,q _ (I.hok.fresh (Af_ _))⟩
 rcases hq with hq|hq
 .obtain⟨its,r',pl,hz⟩:=I.list hq;have hlen:=r'.length;obtain⟨o,ho,hc,n,hd⟩:=pl.isList;show call_list_seq p (.inl rfl) ho hc hd (λh' c' kp e=>fin its r' hz h' c' kp e) (by simp only[Ao_] <;> lia)
 .obtain⟨its,r',pl,hz⟩:=I.tuple hq;have hlen:=r'.length;obtain⟨o,ho,hc,n,hd⟩:=pl;show call_list_seq p (.inr rfl) ho hc hd (λh' c' kp e=>fin its r' hz h' c' kp e) (by simp only[Ao_] <;> lia)
theorem i6_:GM_ X (.type "tuple") (λxs H Q=>∃p ys,xs=[.ref p]/\((SqL X.K H p ys/\∀l,H l=none->Q (.ref l) (upd H l (.tup ys)))\/(SqT X.K H p ys/\Q (.ref p) H))):=by
 intro pins s σ H xs us Q I r h;obtain⟨p,ys,rfl,h⟩:=h;obtain⟨u,rfl,rx⟩:=Hk_ r;cases rx
 rcases h with⟨hq,q⟩|⟨hq,q⟩
 .obtain⟨its,r',pl,hz⟩:=I.list hq;have hlen:=r'.length;show call_tuple_list pl.isList (λh' kp=>?_) (by simp only[Ao_] <;> lia);have I1:Inv X pins σ H {s with heap:=h'}:=I.kept (t':=s.toks) kp
  have I2:Inv X pins σ (upd H h'.objs.size (.tup ys)) {s with heap:=h'.push {cls:=.type "tuple",data:=.seq its.toArray}} :=
   I1.laid (t':=s.toks) (λb o e=>Ah_ _ e) (Af_ _) (show Gy_ X.prog X.w _ _ _ (.tup ys)from⟨hz,its,r',IsTup.new _ _⟩)
  show⟨.ref h'.objs.size,_,I2,rfl,q _ (I1.hok.fresh (Af_ _))⟩
 .obtain⟨its,r',pl,hz⟩:=I.tuple hq;show call_tuple_same pl ⟨.ref p,H,I,rfl,q⟩
def tyV(K:PySem.W.Frag)(T:String)(x:V)(H:Hp):Prop:=match x with
 | .str _=>T = "str"
 | .int _=>T = "int"
 | .ref p=>(T = "list" /\ ∃xs,SqL K H p xs)\/(T = "tuple" /\ ∃o,K.lookup p=some o/\o.cls=.type "tuple" /\ o.dict=none) \/
   (T = "dict" /\ ((∃kvs,H p=some (.dK kvs))\/∃kvs,H p=some (.dT kvs)))\/(T = "set" /\ ∃S n,H p=some (.set S n))
 |_=>False
theorem pJ_{pins:List (Addr×Obj)}{σ:St}{H:Hp}{s:Shared}{T:String}{x:V}{v:Value}(I:Inv X pins σ H s)(r:Gu_ x v)(ty:tyV X.K T x H):
  s.TypeIs v T/\∀a,v=.ref a->∃ob,s.heap.get? a=some ob/\ob.dict=none:=by
 cases x with
 |str z =>
  obtain⟨t,rfl⟩:=r;cases(show T = "str"from ty);show⟨Ep_ s z t,λ_ e=>nomatch e⟩
 |int i =>
  obtain⟨t,rfl⟩:=r;cases(show T = "int"from ty);show⟨typeIs_int s i t,λ_ e=>nomatch e⟩
 |ref p =>
  cases r
  rcases ty with⟨rfl,xs,hq⟩|⟨rfl,o,hk,hc,hd⟩|⟨rfl,hk⟩|⟨rfl,S,n,hk⟩
  .obtain⟨its,_,pl,_⟩:=I.list hq;show⟨pl.isList.typeIs,λa e=>?_⟩;cases e;obtain⟨o,n,e,c,hd,_⟩:=pl;show⟨o,e,hd⟩
  .show⟨⟨o,I.kIn p o hk,hc⟩,λa e=>?_⟩;cases e;show⟨o,I.kIn _ o hk,hd⟩
  .have z:∃o,s.heap.get? p=some o/\o.ExactDict:=by
    rcases hk with⟨kvs,hk⟩|⟨kvs,hk⟩
    .obtain⟨_,_,_,_,o,_,_,e,ex,_⟩:=I.hok p _ hk;show⟨o,e,ex⟩
    .obtain⟨_,_,_,_,o,_,_,e,ex,_⟩:=I.hok p _ hk;show⟨o,e,ex⟩
   obtain⟨o,e,ex⟩:=z;show⟨⟨o,e,ex.1⟩,λa e2=>?_⟩;cases e2;show⟨o,e,ex.2.1⟩
  .obtain⟨o,_,_,_,e,ex,_⟩:=I.hok p _ hk;show⟨⟨o,e,ex.1⟩,λa e2=>?_⟩;cases e2;show⟨o,e,ex.2.1⟩
 |_=>show False.elim ty
def M8_(K:PySem.W.Frag)(T:String)(r:V->List V->Hp->VK->Prop)(to:TE):TE:=λσ H Q=>to σ H λx H1=>tyV K T x H1/\r x [] H1 Q
def tBM(K:PySem.W.Frag)(T:String)(r:V->List V->Hp->VK->Prop)(to:TE)(t:TA):TE:=λσ H Q=>to σ H λx H1=>tyV K T x H1/\t σ H1 λxs H2=>r x xs H2 Q
variable {o e:Expr}{es:List Expr}{to:TE}{t:TA}{name:Str}{apos cpos:Pos}{T id:String}{r:V->List V->Hp->VK->Prop}
theorem pK_(pa:PlainAttrs T)(slot:Slot T name id)(hty:typeOf (.builtin id)=pure (.type "method_descriptor")) (hm:MtR X id r) (ho:PE X o to)
  (hbase:attributeBase o name X.env (eval o X.env)=eval o X.env:=by rfl) (hline:(apos.endLine == cpos.line)=true:=by rfl):PE X (.Call (.Attribute o name apos) [] [] cpos) (M8_ X.K T r to):=by
 intro pins s σ H Q I h;show Dp_ hbase hline (thn (ho pins s σ H _ I h) λv s1 ⟨x,H1,I1,r1,ty,q1⟩=>?_);obtain⟨h1,h2⟩:=pJ_ I1 r1 ty;show⟨T,id,pa,slot,hty,h1,h2,BX_ rfl (D0_ (hm pins s1 σ H1 x [] v [] Q I1 r1 .nil q1))⟩
theorem Hc_(pa:PlainAttrs T)(slot:Slot T name id)(hty:typeOf (.builtin id)=pure (.type "method_descriptor")) (hm:MtR X id r) (ho:PE X o to) (ha:PA X (e::es) t)
  (hbase:attributeBase o name X.env (eval o X.env)=eval o X.env:=by rfl)
  (hfew:((backTo cpos (starEach (e::es) X.env)).all (λx=>!x.1) && (backToKw cpos (keywordEach [] X.env)).all (λx=>x.1.isSome)
   && decide ((e::es).length+([]:List Keyword).length+(if([]:List Keyword).isEmpty then 0 else 1)<30))=true:=by rfl)
  (hline:(apos.endLine == cpos.line)=true:=by rfl) (hs:starEach (e::es) X.env=(false,eval e X.env)::starEach es X.env:=by rfl) (hplain:(backTo cpos (starEach es X.env)).any (·.1)=false:=by rfl):
  PE X (.Call (.Attribute o name apos) (e::es) [] cpos) (tBM X.K T r to t):=by
 intro pins s σ H Q I h;show EW_ hbase hfew hline rfl (thn (ho pins s σ H _ I h) λv s1 ⟨x,H1,I1,r1,ty,q1⟩=>?_);obtain⟨h1,h2⟩:=pJ_ I1 r1 ty;show⟨T,id,pa,slot,hty,h1,h2,?_⟩;have hA:=ha cpos pins s1 σ H1 _ I1 q1;rw[hs]at hA⊢;show BX_ (by change(false ||(backTo cpos (starEach es X.env)).any (·.1))=false;rw[hplain] <;> rfl) (C0_ ?_);show thn hA λus s2 ⟨vs,H2,I2,r2,q2⟩=>hm pins s2 σ H2 x vs v us Q I2 r1 r2 q2
end
def MtM(X:Cx)(id:String)(r:V->List V->Hp->VK->Prop):Prop :=
 ∀(pins:List (Addr×Obj))(s:Shared)(σ:St)(H:Hp)(x:V)(xs:List V)(v:Value)(us:List Value)(Q:VK),Inv X pins σ H s->Gu_ x v->Gn_ xs us->r x xs H Q ->
  wpAny (model X.prog X.w) X.A (call (.builtin id) (v::us)) (EP X pins σ Q) X.xe s
variable{us:List Value}
theorem Gn_.one{x:V}(h:Gn_ [x] us):∃u,us=[u]/\Gu_ x u:=by
 cases h with
 |cons r t =>
  cases t;show⟨_,rfl,r⟩
theorem Gn_.two{x y:V}(h:Gn_ [x,y] us):∃u v,us=[u,v]/\Gu_ x u/\Gu_ y v:=by
 cases h with
 |cons r t =>obtain⟨v,rfl,q⟩:=Gn_.one t;show⟨_,_,rfl,r,q⟩
theorem Gn_.zero:∀{us:List Value},Gn_ [] us->us=[]
 |_,.nil=>rfl
theorem Gn_.dropLast{xs:List V}(h:Gn_ xs us):Gn_ xs.dropLast us.dropLast:=by
 induction h with
 |nil=>show .nil
 |cons r t ih =>
  cases t with
  |nil=>show .nil
  |cons q t'=>show .cons r ih
theorem Gn_.eraseIdx:∀{xs:List V}{us:List Value}(i:Nat),Gn_ xs us->Gn_ (xs.eraseIdx i) (us.eraseIdx i)
 |_,_,_,.nil=>.nil
 |_,_,0,.cons _ t=>t
 |_,_,i+1,.cons r t=>.cons r (Gn_.eraseIdx i t)
theorem Gn_.reverse{xs:List V}(h:Gn_ xs us):Gn_ xs.reverse us.reverse:=by
 induction h with
 |nil=>show .nil
 |cons r t ih=>rw[List.reverse_cons,List.reverse_cons];show Gn_.append ih (.cons r .nil)
theorem j1_{α:Type}:∀(l:List α)(i:Nat),(l.eraseIdx i).length<=l.length
 |[],_=>Af_ _
 |_::_,0=>EX_ _
 |_::r,i+1=>BY_ (j1_ r i)
variable {X:Cx}{pins:List (Addr×Obj)}{σ:St}{H:Hp}{s:Shared}{l b:Addr}{xs ys zs:List V}
theorem Inv.lset{its its':List Value}{n:Nat}{f:Array Value->Array Value}{t':Nat}(I:Inv X pins σ H s)(hH:H l=some (.lst xs))
  (e:s.heap.get? l=some {cls:=.type "list",data:=.seq its.toArray n}) (hf:f its.toArray=its'.toArray) (hv:Gn_ ys its') (hz:ys.length<=sizeLine):
  Inv X pins σ (upd H l (.lst ys)) {s with heap:=s.heap.update l (Obj.mapSeq f),toks:=t'}:=by
 have q:=PySem.IsL.update e f;rw[hf]at q;show I.write (x:=l) (e:=l) (by rw[hH];show trivial) (.inl rfl) (λb' u hb hu=>(A4_ s.heap (Obj.mapSeq f) (Ne.symm hb)).trans hu) ⟨_,q⟩ ?_;show⟨hz,its',_,hv,q⟩
theorem Inv.lnew{its:List Value}{t':Nat}(I:Inv X pins σ H s)(hv:Gn_ ys its)(hz:ys.length<=sizeLine):
  Inv X pins σ (upd H s.heap.objs.size (.lst ys)) {s with heap:=s.heap.push {cls:=.type "list",data:=.seq its.toArray},toks:=t'} :=
 I.laid (λ_ _ q=>Ah_ _ q) (Af_ _) ⟨hz,its,0,hv,AC_ _ rfl⟩
theorem Inv.fresh(I:Inv X pins σ H s):H s.heap.objs.size=none:=I.hok.fresh (Af_ _)
theorem Inv.lstM(I:Inv X pins σ H s)(hH:H l=some (.lst xs)):xs.length<=sizeLine/\∃(its:List Value)(n:Nat),Gn_ xs its/\xs.length=its.length/\s.heap.get? l=some {cls:=.type "list",data:=.seq its.toArray n}:=by obtain⟨z,its,n,r,e⟩:=I.hok l _ hH;show⟨z,its,n,r,r.length,e⟩
def JM_:V->List V->Hp->VK->Prop:=λx vs H Q=>onR x λl=>∃xs,on1 vs λy=>H l=some (.lst xs)/\xs.length<sizeLine/\Q .non (upd H l (.lst (xs++[y])))
theorem a0_:MtM X "list.append" JM_:=by intro pins s σ H x vs v us Q I rx rv h;obtain⟨l,rfl,xs,h1⟩:=dn_ h;clear h;obtain⟨y,rfl,hH,hz,q⟩:=lF_ h1;cases rx;obtain⟨u,rfl,ru⟩:=rv.one;obtain⟨z,its,n,r,hl,e⟩:=I.lstM hH;show DL_ F.slot_list_append ⟨_,e,rfl⟩ F.entry_list_append (F.args_list_append_2 _ _) (PySem.list_append l its.toArray n u (by rw[Ao_];lia)) ⟨e,?_⟩;show⟨.non,_,I.lset (its':=its++[u]) hH e s_ (r.append (.cons ru .nil)) ?_,rfl,q⟩;rw[Ak_,CV_];lia
def KP_:V->List V->Hp->VK->Prop:=λx vs H Q=>∃l b xs zs,x=.ref l/\vs=[.ref b]/\H l=some (.lst xs)/\H b=some (.lst zs)/\xs.length+zs.length<=sizeLine/\Q .non (upd H l (.lst (xs++zs)))
def rPop:V->List V->Hp->VK->Prop:=λx vs H Q=>∃l xs y,x=.ref l/\vs=[]/\H l=some (.lst xs)/\xs[xs.length-1]?=some y/\Q y (upd H l (.lst xs.dropLast))
def KA_:V->List V->Hp->VK->Prop:=λx vs H Q=>∃l xs i k y,x=.ref l/\vs=[.int i]/\H l=some (.lst xs) /\ -(2 ^ 63)<=i/\i<2 ^ 63/\seqIndex? i xs.length=some k/\xs[k]?=some y/\Q y (upd H l (.lst (xs.eraseIdx k)))
theorem oB_:MtM X "list.pop" KA_:=by
 intro pins s σ H x vs v us Q I rx rv h;obtain⟨l,xs,i,k,y,rfl,rfl,hH,h1,h2,hk,hy,q⟩:=h;cases rx;obtain⟨u,rfl,ru⟩:=rv.one;obtain⟨t,rfl⟩:=ru;obtain⟨z,its,n,r,hl,e⟩:=I.lstM hH;obtain⟨w,hw,rw'⟩:=r.get hy
 show DL_ F.slot_list_pop ⟨_,e,rfl⟩ F.entry_list_pop (F.args_list_pop_2 _ _)
  (MeetsSeq.list_pop_at l its.toArray n i t k w (fitsIndex_both h1 h2) (by rw[Ao_,<-hl];show hk) (by rw[<-BZ_];show hw) (by rw[Ao_];lia)) ⟨e,?_⟩
 show⟨y,_,I.lset (its':=its.eraseIdx k) hH e ?_ (r.eraseIdx k) ?_,rw',q⟩
 .change its.toArray.eraseIdxIfInBounds k=(its.eraseIdx k).toArray;rw[List.eraseIdxIfInBounds_toArray]
 .have:=j1_ xs k;lia
def IT_:V->List V->Hp->VK->Prop:=λx vs H Q=>∃l xs,x=.ref l/\vs=[]/\H l=some (.lst xs)/\Q .non (upd H l (.lst xs.reverse))
theorem mB_:MtM X "list.reverse" IT_:=by intro pins s σ H x vs v us Q I rx rv h;obtain⟨l,xs,rfl,rfl,hH,q⟩:=h;cases rx;have hus:=rv.zero;subst hus;obtain⟨z,its,n,r,hl,e⟩:=I.lstM hH;show DL_ F.slot_list_reverse ⟨_,e,rfl⟩ F.entry_list_reverse (F.args_list_reverse_1 _) (AutoSeq1.list_reverse_list_0 l its.toArray n (by rw[Ao_];lia)) ⟨e,?_⟩;show⟨.non,_,I.lset (its':=its.reverse) hH e s_ r.reverse ?_,rfl,q⟩;rw[D1_];lia
def Ll_:V->List V->Hp->VK->Prop:=λx vs H Q=>∃l xs,x=.ref l/\vs=[]/\H l=some (.lst xs)/\Q .non (upd H l (.lst []))
def M2_:R2:=λx y H Q=>∃l b xs zs,x=.ref l/\y=.ref b/\H l=some (.lst xs)/\H b=some (.lst zs)/\xs.length+zs.length<=sizeLine/\∀p,H p=none->Q (.ref p) (upd H p (.lst (xs++zs)))
theorem lP_:OpR X (binaryOp .Add) M2_:=by
 intro pins s σ H x y v u Q I rx ry h;obtain⟨l,b,xs,zs,rfl,rfl,hH,hB,hz,q⟩:=h;cases rx;cases ry;obtain⟨z,its,n,r,hl,e⟩:=I.lstM hH;obtain⟨z2,its2,n2,r2,hl2,e2⟩:=I.lstM hB;show PySem.P.add_list e e2 ?_ (by rw[Ao_,Ao_];lia);have ea:its.toArray++its2.toArray=(its++its2).toArray:=s_
 rw[ea];show⟨.ref _,_,I.lnew (t':=s.toks) (r.append r2) (by rw[Ak_];lia),rfl,q _ I.fresh⟩
def rRep:R2:=λx y H Q=>∃l k xs,x=.ref l/\y=.int k/\H l=some (.lst xs) /\ -(2 ^ 63)<=k/\k<2 ^ 63/\xs.length*k.toNat<=sizeLine /\
 ∀p,H p=none->Q (.ref p) (upd H p (.lst (List.replicate k.toNat xs).flatten))
variable {prog:Program}{w:World}{A:Around}{E:Value->Shared->Prop}
end L2
namespace Att
open PySem PySem.W PySem.Calls PyProof.Rows
theorem hg_{P:Params}{h:Heap}:∀(ns:List Int)(vs:List Value),WellAll P h vs (ns.map WData.int)->IntsAre vs ns:=by
 intro ns
 induction ns with
 |nil =>
  intro vs w;rw[Cu_]at w;cases w;show .nil
 |cons n ns ih =>
  intro vs w;rw[AW_]at w;cases w with
  |cons a b =>
   cases a;show .cons _ _ (ih _ b)
theorem nf_{l:OpenLaw}{n:Nat}(hn:l.most=some n){P:Params}{h:Heap}{args:List WData}{vals:List Value}
  (hpre:l.row.toRowW.claim.pre args=true) (hwl:WellAll P h vals args):
  ∃a vs ns,vals=[Value.ref a]/\args=[WData.list (ns.map WData.int)]/\h.get? a=some {cls:=.type "list",data:=.seq vs.toArray}/\IntsAre vs ns/\ns.length<=n:=by
 have hsh:WShape.hasAll [] args [.list .int]=true:=(pre_splitW hpre).1;have hc:l.pre.holds [] {args:=args}=true:=(pre_splitW hpre).2;obtain⟨d,r,rfl,h1,h2⟩:=hasAllW_cons hsh;obtain rfl:=hasAllW_nil h2;obtain⟨xs,rfl,h3⟩:=hasW_list h1;obtain⟨ns,rfl⟩:=items_int h3
 have hlen:ns.length<=n:=by
  unfold OpenLaw.pre at hc;have h4:(WTm.not (.lt (.lit (.int (n:Int))) (.len (.arg 0)))).holds [] {args:=[.list (ns.map .int)]}=true:=by have h4:=(holds_andW hc).1;rw[hn]at h4;show h4
  have h5:=condW_of h4 (w_not (w_lt w_lit (w_len_list (w_arg rfl))));rw[Aa_]at h5;show Nat.le_of_not_lt λq=>?_;have q':(n:Int)<((ns.length:Nat):Int):=o_
  first
   | (rw[AL_ q']at h5;show absurd h5 d_)
   | (simp at h5;lia)
 cases hwl with
 |cons w1 w2 =>
  cases w2;cases w1 with
  |list ho hall=>show⟨_,_,ns,rfl,rfl,ho,hg_ ns _ hall,hlen⟩
theorem ng_(l:OpenLaw)(args:List WData):l.row.toRowW.claim.post args (.bool true) args=true :=
 postW_of (r:=l.row.toRowW) (X:=(true == true))
  (show WShape.has [] (.bool true) .bool=true by first|rfl|decide|simp[WShape.has,WShape.arms,WShape.armsAll])
  (show(WTm.eq .res (.lit (.bool true))).value [] {args:=args,res:=some (.bool true),after:=args}=some (.bool (true == true))from w_eq_bool (w_res rfl) w_lit) rfl
theorem attach_call{l:OpenLaw}{n:Nat}{q:Program}{loose:List Str}{XP:(Str->Option Value)->Heap->Prop}{YP:World->Heap->Prop}{d:DefRec}
  (hn:l.most=some n) (hdf:d.params.defaults=[])
  (call:∀(w:World)(s₀ s₁:Shared)(mg mb:Str->Option Value)(fa:Addr)(o:Obj)(pm cd doc:Value)(a:Addr)(vs:List Value)(ns:List Int),
   Ground q loose [] XP w s₀ mg mb s₁.heap->YP w s₁.heap ->
   s₁.heap.get? fa=some o->o.data=.func (docDef d.name d.params d.body d.scope pm cd doc)->s₁.heap.CodeRec cd d.name->mg d.name=some (.ref fa) ->
   s₁.heap.get? a=some {cls:=.type "list",data:=.seq vs.toArray}->IntsAre vs ns->ns.length<=n->s₁.gens = #[] ->
   codeAny (model l.prog w) callerA (.call (.ref fa) ⟨[.ref a],[]⟩) (λr s'=>r=.ok (.ret (.bool true))/\OldK s₁.heap s'.heap/\s'.os=s₁.os/\AllBare s'.gens) s₁):
  WalkO q loose XP YP l.row.toRowW d [] (λf vs=>PySem.call f vs):=by
 intro w s₀ s₁ mg mb G Y fa o pm cd doc dV kV ho hd hcd hD hmg hg args vals as hpre hlay hrd hwl hlo;obtain rfl:dV=.none:=Dflts.none hD hdf;obtain rfl:kV=.none:=Dflts.noKw hD;obtain⟨a,vs,ns,rfl,rfl,hobj,hints,hlen⟩:=nf_ hn hpre hwl;show enter_call (Ev_ (call w s₀ s₁ mg mb fa o pm cd doc a vs ns G Y ho (fd_plain hd) hcd hmg hobj hints hlen hg) λr s' hq=>?_);obtain⟨rfl,h2,h3,h4⟩:=hq;show⟨.inl ⟨.bool true,.bool true,[],rfl,λ_=>rfl,.bool true,ng_ l _,λ_=>⟨List.Pairwise.nil,λ_ hm=>(nomatch hm)⟩⟩,h2,h3,h4⟩
variable {prog:Program}{w:World}{A:Around}{E:Value->Shared->Prop}{s:Shared}{K:Frag}
end Att
namespace L2
open PySem PySem.Spec PyProof.Rows
theorem j2_:∀{vs:List Value}{ns:List Int},IntsAre vs ns->Gn_ (ns.map V.int) vs
 |_,_,.nil=>.nil
 |_,_,.cons n t h=>.cons ⟨t,rfl⟩ (j2_ h)
def Mx_(H:Hp):Prop:=∀b,H b=none\/∃o xs,H b=some (.frz o (.lst xs))
theorem oC_{P:Program}{w:World}{K:PySem.W.Frag}{mg mb:Str->Option Value}{CX:CXT}{k:Nat}{fa a:Addr}{fd:FuncData}{x:Str}{sp:Sp}{s₁:Shared}{vs:List Value}{ns:List Int}
  (KX:K.In s₁.heap) (hns:s₁.heap.Ns mainGlobals mg) (hb:s₁.heap.Ns builtinsNs mb) (hbb:∀x:Str,x ≠ "__name__" -> mb x=bootBuiltins x) (hlim:s₁.heap.NoLimit) (hg:s₁.gens = #[])
  (ha:s₁.heap.get? a=some {cls:=.type "list",data:=.seq vs.toArray}) (hi:IntsAre vs ns) (hl:ns.length<=sizeLine) (hr:Hx_ k callerA)
  (F:∀base:Heap,K.In base->base.Ns mainGlobals mg->Jt_ P w K mg base CX k fa fd [x] sp) (hbind:∀(s:Shared)(u:Value),BindsTo s fd ⟨[u],[]⟩ [(x,u)])
  (hsp:∀H:Hp,Mx_ H->SqL K H a (ns.map V.int)->sp [.ref a] H (λv _=>v=.bl true) λ_ _ _=>False)
  (hCX:∀H e s',CX [] H s₁ (λ_ _ _=>False) e s'->False):
  codeAny (model P w) callerA (.call (.ref fa) ⟨[.ref a],[]⟩) (λr s'=>r=.ok (.ret (.bool true))/\OldK s₁.heap s'.heap/\s'.os=s₁.os/\AllBare s'.gens) s₁:=by
 have rv:=j2_ hi;have lenV:=hi.length
 have core:∀H:Hp,Mx_ H->SqL K H a (ns.map V.int)->HOk P w H s₁.heap->(∀b,H b≠none->b=a)->(H a≠none->K.lookup a=none) ->
   codeAny (model P w) callerA (.call (.ref fa) ⟨[.ref a],[]⟩) (λr s'=>r=.ok (.ret (.bool true))/\OldK s₁.heap s'.heap/\s'.os=s₁.os/\AllBare s'.gens) s₁:=by
  intro H hO hS hok hA hK;have base_of:∀{b:Addr}{o:Obj},s₁.heap.get? b=some o->H b=none->(J5_ s₁.heap H).get? b=some o:=λe n=>ow_ e n
  have noA:∀{b:Addr}{o:Obj}{es:Array DictEntry}{ep:Nat},s₁.heap.get? b=some o->o.data=.dict es ep->H b=none:=λ{b o es ep} e d=>by
   cases q:H b with
   |none=>rfl
   |some u =>have e':b=a:=hA b (by rw[q];simp);subst e';rw[ha]at e;cases e;have d':Data.seq vs.toArray _=Data.dict es ep:=d;cases d'
  have nsK:∀{b:Addr}{m:Str->Option Value},s₁.heap.Ns b m->(J5_ s₁.heap H).Ns b m:=λ{b m} ⟨o,es,ep,e,d,r⟩=>⟨o,es,ep,base_of e (noA e d),d,r⟩
  have hKb:K.In (J5_ s₁.heap H):=λb o e=>base_of (KX b o e) (by
   cases q:H b with
   |none=>rfl
   |some u =>have e':b=a:=hA b (by rw[q];simp);subst e';rw[hK (by rw[q];simp)]at e;cases e)
  have hM:Mod K mg (J5_ s₁.heap H):=⟨hKb,nsK hns,⟨mb,nsK hb,hbb⟩,let⟨mc,h1,h2⟩:=hlim;⟨mc,nsK h1,h2⟩⟩;have e0:LQ_ P w K mg (J5_ s₁.heap H) callerA [] s₁ H:=⟨rfl,hM,λb o e=>qf_ e,Nat.le_of_eq (m0_ _ _),trivial,λb hb=>absurd (show b∈([]:List Addr)from hb) s_,hok,.of_eq hg⟩;show Ev_ ((F _ hKb (nsK hns)).run callerA [] s₁ H ⟨[.ref a],[]⟩ [.ref a] [.ref a] _ _ hr e0 (hbind s₁ (.ref a)) (.cons rfl .nil) (hsp H hO hS)) λr s' h=>?_;cases r with
  |error e=>show(hCX H e s' h).elim
  |ok fl =>
   cases fl with
   |next=>show False.elim h
   |brk=>show False.elim h
   |cont=>show False.elim h
   |ret u =>
    obtain⟨v,H',os,bare,un,hok',r',q⟩:=h;have q':v=.bl true:=q;subst q';obtain rfl:u=Value.bool true:=r';show⟨rfl,OldK.of_keep λb o e=>?_,os,bare⟩;cases q:H b with
    |none=>show un.keep b o e q (by intro z;show absurd (show b∈([]:List Addr)from z) s_) s_
    |some u =>
     rcases hO b with z|⟨ob,xs,z⟩
     .rw[q]at z;cases z
     .have z2:=un.frzs b ob _ z;obtain⟨e1,_⟩:=hok b _ z;obtain⟨e2,_⟩:=hok' b _ z2;rw[e]at e1;cases e1;show e2
 cases hk:K.lookup a with
 |some o =>
  have e:=KX a o hk;rw[ha]at e;cases e;show core (λ_=>none) (λ_=>.inl rfl) (.inr ⟨_,vs.toArray,_,hk,rfl,rfl,rfl,by rw[Ao_,lenV];show hl,by simpa using rv⟩) (λb u z=>by have z':(none:Option HO)=some u:=z;cases z') (λb z=>absurd rfl z) λz=>absurd rfl z
 |none =>
  show core (λb=>if b=a then some (.frz {cls:=.type "list",data:=.seq vs.toArray} (.lst (ns.map V.int)))else none) (λb=>?_) (.inl (.inr ⟨{cls:=.type "list",data:=.seq vs.toArray},if_pos rfl⟩)) (λb u z=>?_) (λb z=>?_) λ_=>hk
  .by_cases hb:b=a
   .show .inr ⟨_,_,if_pos hb⟩
   .show .inl (if_neg hb)
  .by_cases hb:b=a
   .have z':=(if_pos hb).symm.trans z;cases z';subst hb;show⟨ha,by rw[Aa_];show hl,vs,_,rv,ha⟩
   .have z':=(if_neg hb).symm.trans z;cases z'
  .by_cases hb:b=a
   .show hb
   .show absurd (if_neg hb) z
theorem qm_{l:PySem.W.OpenLaw}{n k:Nat}{q:Program}{loose:List Str}{XP:(Str->Option Value)->Heap->Prop}{YP:World->Heap->Prop}{d:DefRec}{K:Params->PySem.W.Frag}{CX:World->CXT}{sp:World->Sp}{x:Str}
  (hn:l.most=some n) (hn2:n<=sizeLine) (hdf:d.params.defaults=[]) (hr:Hx_ k callerA)
  (hY:∀(w:World)(h:Heap),YP w h->(K w.params).In h)
  (F:∀(w:World)(mg:Str->Option Value)(fa:Addr)(h:Heap),(K w.params).In h->h.Ns mainGlobals mg->mg d.name=some (.ref fa) ->
   ∃fd:FuncData,(∀(s:Shared)(u:Value),BindsTo s fd ⟨[u],[]⟩ [(x,u)]) /\
    ∀base:Heap,(K w.params).In base->base.Ns mainGlobals mg->Jt_ l.prog w (K w.params) mg base (CX w) k fa fd [x] (sp w))
  (hsp:∀(w:World)(H:Hp)(a:Addr)(ns:List Int),ns.length<=n->Mx_ H->SqL (K w.params) H a (ns.map V.int)->sp w [.ref a] H (λv _=>v=.bl true) λ_ _ _=>False)
  (hCX:∀(w:World)(H:Hp)(s:Shared)(e:Value)(s':Shared),CX w [] H s (λ_ _ _=>False) e s'->False):
  PySem.W.WalkO q loose XP YP l.row.toRowW d [] (λf vs=>PySem.call f vs):=by
 show Att.attach_call hn hdf λw s₀ s₁ mg mb fa o pm cd doc a vs ns G Y ho hd hcd hmg hobj hints hlen hg=>?_;have KX:=hY w _ Y;obtain⟨fd,hb,hF⟩:=F w mg fa _ KX G.T.g hmg;show oC_ KX G.T.g G.T.b G.T.builtins G.T.nolimit hg hobj hints (Au_ hlen hn2) hr hF hb (λH hO hS=>hsp w H a ns hlen hO hS) λH e s'=>hCX w H s₁ e s'
def Hj_(s:Stmt):Arguments:=match s with
 | .FunctionDef _ a _ _ _ _ _ _ _ _=>a
 |_=>{posonlyargs:=[],args:=[],vararg:=none,kwonlyargs:=[],kw_defaults:=[],kwarg:=none,defaults:=[]}
def GL_(s:Stmt):List Stmt:=match s with
 | .FunctionDef _ _ b _ _ _ _ _ _ _=>b
 |_=>[]
def F1_(s:Stmt):Scope:=match s with
 | .FunctionDef _ _ _ _ _ _ sc _ _ _=>sc
 |_=>{kind:=.function,names:=[],isGenerator:=false,isCoroutine:=false}
abbrev CX0:CXT:=λ_ _ _ _ _ _=>False
abbrev E0:XK:=λ_ _ _=>False
theorem MK_{X:Cx}:Ip_ CX0 X E0:=λ_ _ _ _ _ _ _ h=>h.elim
structure Fun(K:PySem.W.Frag)(x qual:Str)(st:Stmt)(f:Addr)(fd:FuncData):Prop where
 ex:∃(oc:Value)(od:Option Addr)(kV doc pm:Value)(an:Option Addr)(cdv ct:Value)(osl:Array (Option Value)),
  fd=PySem.W.fnOf x qual (Hj_ st) (GL_ st) (F1_ st) .none kV doc pm an cdv ct/\K.lookup f=some ⟨oc,od,.func fd,osl⟩/\PySem.W.codeIn K cdv qual=true
 kp:PySem.W.keepIn K (.ref f)=true
variable {P:Program}{w:World}{K:PySem.W.Frag}{mg:Str->Option Value}{base:Heap}
theorem Fun.ok{x qual:Str}{st:Stmt}{f:Addr}{fd:FuncData}{N ps:List Str}{k:Nat}{sp:Sp}(F:Fun K x qual st f fd)(S:F8_ N ps (F1_ st))(len:∀vs H Q E,sp vs H Q E->vs.length=ps.length)
  (hbody:∀(cdv:Value)(A:Around)(outer:List Env)(s:Shared)(H:Hp)(vs:List V)(Q:VK)(E:XK),Hx_ k (A.deeper (envOfC qual (F1_ st) s.heap.objs.size f cdv))->sp vs H Q E ->
   ∃t,PSs (ID_ CX0 P w K mg base N qual (F1_ st) f cdv A outer s H E).nox (GL_ st) t/\t {nx:=λ_ H'=>Q .non H',rt:=Q} (start N vs) H):Jt_ P w K mg base CX0 (k+1) f fd ps sp:=by
 obtain⟨oc,od,kV,doc,pm,an,cdv,ct,osl,rfl,lk,hcd⟩:=F.ex;show LW_ lk hcd S len λA outer s H vs Q E hr hsp=>?_;obtain⟨t,h,q⟩:=hbody cdv A outer s H vs Q E hr hsp;show⟨t,h.nox,q⟩
theorem Fun.binds{x qual:Str}{st:Stmt}{f:Addr}{fd:FuncData}{ps:List Str}(F:Fun K x qual st f fd)
  (h:∀(kV doc pm:Value)(an:Option Addr)(cdv ct:Value)(us:List Value),us.length=ps.length->bindArgs (PySem.W.fnOf x qual (Hj_ st) (GL_ st) (F1_ st) .none kV doc pm an cdv ct) ⟨us,[]⟩=pure (ps.zip us)):Is_ K fd ps []:=by
 obtain⟨oc,od,kV,doc,pm,an,cdv,ct,osl,rfl,lk,hcd⟩:=F.ex;show .all (h kV doc pm an cdv ct)
theorem rn_{x qual:Str}{st:Stmt}{f:Addr}{oc:Value}{od an:Option Addr}{osl:Array (Option Value)}{kV doc pm cdv ct:Value}(l:K.lookup f=some ⟨oc,od,.func (PySem.W.fnOf x qual (Hj_ st) (GL_ st) (F1_ st) .none kV doc pm an cdv ct),osl⟩)
  (c:PySem.W.codeIn K cdv qual=true) (k:PySem.W.keepIn K (.ref f)=true):Fun K x qual st f (PySem.W.fnOf x qual (Hj_ st) (GL_ st) (F1_ st) .none kV doc pm an cdv ct):=⟨⟨oc,od,kV,doc,pm,an,cdv,ct,osl,rfl,l,c⟩,k⟩
theorem F3_{n:Nat}(h:n<=1000):n<sizeLine:=Bz_ h d_
variable {X:Cx}
theorem ite2{c A B:Prop}[Decidable c](h1:c->A)(h2:¬ c->B):if c then A else B:=by
 by_cases h:c
 .rw[if_pos h];show h1 h
 .rw[if_neg h];show h2 h
def F0_(H H':Hp):Prop:=∀b o,H b=some o->H' b=some o
theorem F0_.refl(H:Hp):F0_ H H:=λ_ _ h=>h
theorem F0_.trans{H H1 H2:Hp}(a:F0_ H H1)(b:F0_ H1 H2):F0_ H H2:=λc o h=>b c o (a c o h)
variable{H':Hp}
theorem F0_.free{H:Hp}(e:F0_ H H'){l:Addr}(h:H' l=Option.none):H l=Option.none:=by
 cases q:H l with
 |none=>rfl
 |some o =>rw[e l o q]at h;cases h
variable{a:Addr}
theorem F0_.seq{H:Hp}{xs:List V}(e:F0_ H H')(h:SqL K H a xs):SqL K H' a xs:=by
 rcases h with(h|⟨o,h⟩)|h
 .show .inl (.inl (e _ _ h))
 .show .inl (.inr ⟨o,e _ _ h⟩)
 .show .inr h
def HR_(H:Hp):V->Option String
 | .non=>some "NoneType"
 | .bl _=>some "bool"
 | .int _=>some "int"
 | .str _=>some "str"
 | .ref p=>match H p with
  |some (.lst _)=>some "list"
  |some (.tup _)=>some "tuple"
  |_=>none
 |_=>none
def MQ_(a b:String):Bool:=a == b ||(a == "bool" && b == "int")
def H6_(T:String):Prop:=T = "int" \/ T = "bool" \/ T = "tuple" \/ T = "list" \/ T = "str"
theorem fy_:GM_ X (.builtin "isinstance") (λxs H Q=>∃x T k,xs=[x,.ty T]/\H6_ T/\HR_ H x=some k/\Q (.bl (MQ_ k T)) H):=by
 intro pins s σ H xs us Q I r h;obtain⟨x,T,k,rfl,hT,hk,q⟩:=h;obtain⟨u,w',rfl,rx,ry⟩:=HG_ r;cases(show w'=Value.type T from ry);have fin:∀{b:Bool}{s':Shared},b=MQ_ k T->Inv X pins σ H s'->EP X pins σ Q (.bool b) s':=λ{b s'} e J=>⟨.bl b,H,J,rfl,by rw[e];show q⟩;cases x with
 |non =>
  cases(show u=Value.none from rx);cases hk
  rcases hT with rfl|rfl|rfl|rfl|rfl
  .show IsiPair.NoneType_int (fin d_ (I.tok _))
  .show IsiPair.NoneType_bool (fin d_ (I.tok _))
  .show IsiPair.NoneType_tuple (fin d_ (I.tok _))
  .show IsiPair.NoneType_list (fin d_ (I.tok _))
  .show IsiPair.NoneType_str (fin d_ (I.tok _))
 |bl b =>
  cases(show u=Value.bool b from rx);cases hk
  rcases hT with rfl|rfl|rfl|rfl|rfl
  .show IsiPair.bool_int (fin d_ I)
  .show IsiPair.bool_bool (fin d_ I)
  .show IsiPair.bool_tuple (fin d_ (I.tok _))
  .show IsiPair.bool_list (fin d_ (I.tok _))
  .show IsiPair.bool_str (fin d_ (I.tok _))
 |int i =>
  obtain⟨t,rfl⟩:=(show ∃t,u=Value.int i t from rx);cases hk
  rcases hT with rfl|rfl|rfl|rfl|rfl
  .show IsiPair.int_int (fin d_ I)
  .show IsiPair.int_bool (fin d_ (I.tok _))
  .show IsiPair.int_tuple (fin d_ (I.tok _))
  .show IsiPair.int_list (fin d_ (I.tok _))
  .show IsiPair.int_str (fin d_ (I.tok _))
 |str z =>
  obtain⟨t,rfl⟩:=(show ∃t,u=Value.str z t from rx);cases hk
  rcases hT with rfl|rfl|rfl|rfl|rfl
  .show IsiPair.str_int (fin d_ (I.tok _))
  .show IsiPair.str_bool (fin d_ (I.tok _))
  .show IsiPair.str_tuple (fin d_ (I.tok _))
  .show IsiPair.str_list (fin d_ (I.tok _))
  .show IsiPair.str_str (fin d_ I)
 |ref p =>
  cases(show u=Value.ref p from rx);cases e:H p with
  |none=>simp[HR_,e]at hk
  |some o =>
   cases o with
   |lst ys =>
    have hk':k = "list" := by simp[HR_,e]at hk;show hk.symm
    subst hk';obtain⟨its,n,rr,ho,hz⟩:=I.lst e
    rcases hT with rfl|rfl|rfl|rfl|rfl
    .show IsiPair.list_int ho rfl (fin d_ (I.tok _))
    .show IsiPair.list_bool ho rfl (fin d_ (I.tok _))
    .show IsiPair.list_tuple ho rfl (fin d_ (I.tok _))
    .show IsiPair.list_list ho rfl (fin d_ I)
    .show IsiPair.list_str ho rfl (fin d_ (I.tok _))
   |tup ys =>
    have hk':k = "tuple" := by simp[HR_,e]at hk;show hk.symm
    subst hk';obtain⟨its,rr,⟨ob,ho,hc,_⟩,hz⟩:=I.tuple (xs:=ys) (.inl (.inl e))
    rcases hT with rfl|rfl|rfl|rfl|rfl
    .show IsiPair.tuple_int ho hc (fin d_ (I.tok _))
    .show IsiPair.tuple_bool ho hc (fin d_ (I.tok _))
    .show FC_ ho hc (fin d_ I)
    .show IsiPair.tuple_list ho hc (fin d_ (I.tok _))
    .show IsiPair.tuple_str ho hc (fin d_ (I.tok _))
   |_=>simp[HR_,e]at hk
 |_=>cases hk
def LN_:V->List V->Hp->VK->Prop:=λx xs H Q=>∃i,x=.int i/\xs=[]/\Q (.int (Builtin.Int.intBits i:Nat)) H
theorem qn_:MtR X "int.bit_length" LN_:=by intro pins s σ H x xs v us Q I rx rs h;obtain⟨i,rfl,rfl,q⟩:=h;obtain⟨t,rfl⟩:=rx;cases rs;show call_gives F.slot_int_bit_length (typeIs_int s i t) F.entry_int_bit_length (F.args_int_bit_length_1 _) (AutoIntG2.int_bit_length_int_0 i t) ⟨.int (Builtin.Int.intBits i:Nat),H,I.tok _,⟨_,rfl⟩,q⟩
def K8_(i j:Int):Prop:=Builtin.Int.intBits i+Builtin.Int.intBits j<=134217728
theorem i7_:OpR X (binaryOp .Mult) (rI K8_ λi j=>.int (i*j)):=opI λi j _ _ _ _ _ hc q=>mul_int q (mulOk_of_bits (Af_ _) (Af_ _) hc)
def LI_(i j:Int):Prop:=0<j/\j.natAbs.log2<9000
theorem aq_:OpR X (binaryOp .FloorDiv) (rI LI_ λi j=>.int (i/j)):=opI λi j _ _ _ _ _ hc q=>by have h1:(0:Int)<j:=hc.1;show floordiv_int o_ (by rw[Ed_ i o_];show q) (.inl (Ex_ hc.2))
def Ls_(i j:Int):Prop:=j≠0/\j.natAbs.log2<9000
theorem lQ_:OpR X (binaryOp .FloorDiv) (rI Ls_ λi j=>.int (i.fdiv j)):=opI λi j _ _ _ _ _ hc q =>floordiv_int hc.1 q (.inl (Ex_ hc.2))
def MT_:List V->List V->Bool
 |[],[]=>true
 |x::xs,y::ys=>eqV x y && MT_ xs ys
 |_,_=>false
def Fn0(K:PySem.W.Frag)(mg:Str->Option Value)(x:Str)(st:Stmt):Prop:=∃f fd,Fun K x x st f fd/\mg x=some (.ref f)
theorem ro_{K:PySem.W.Frag}{mg:Str->Option Value}{h:Heap}(X:K.In h)(G:h.Ns mainGlobals mg){x:Str}{st:Stmt}{f:Addr}{oc:Value}{od an:Option Addr}{osl:Array (Option Value)}{kV doc pm cdv ct:Value}
  (a:PySem.W.nsIn K mainGlobals x=some (some (.ref f))) (l:K.lookup f=some ⟨oc,od,.func (PySem.W.fnOf x x (Hj_ st) (GL_ st) (F1_ st) .none kV doc pm an cdv ct),osl⟩) (c:PySem.W.codeIn K cdv x=true) (k:PySem.W.keepIn K (.ref f)=true):Fn0 K mg x st :=
 ⟨f,_,rn_ l c k,Ef_ X G a⟩
def Cal(P:Program)(w:World)(K:PySem.W.Frag)(mg:Str->Option Value)(base:Heap)(x:Str)(ps:List Str)(k:Nat)(sp:Sp):Prop :=
 ∃f fd,mg x=some (.ref f)/\PySem.W.keepIn K (.ref f)=true/\Is_ K fd ps []/\Jt_ P w K mg base CX0 k f fd ps sp
theorem aP_{P:Program}{w:World}{K:PySem.W.Frag}{mg:Str->Option Value}{base:Heap}{x:Str}{st:Stmt}{N ps:List Str}{k:Nat}{sp:Sp}(F:Fn0 K mg x st)(S:F8_ N ps (F1_ st))
  (hbody:∀(f:Addr)(cdv:Value)(A:Around)(outer:List Env)(s:Shared)(H:Hp)(vs:List V)(Q:VK)(E:XK),Hx_ k (A.deeper (envOfC x (F1_ st) s.heap.objs.size f cdv))->sp vs H Q E ->
   ∃t,PSs (ID_ CX0 P w K mg base N x (F1_ st) f cdv A outer s H E).nox (GL_ st) t/\t {nx:=λ_ H'=>Q .non H',rt:=Q} (start N vs) H)
  (hb:∀(kV doc pm:Value)(an:Option Addr)(cdv ct:Value)(us:List Value),us.length=ps.length->bindArgs (PySem.W.fnOf x x (Hj_ st) (GL_ st) (F1_ st) .none kV doc pm an cdv ct) ⟨us,[]⟩=pure (ps.zip us):=by first|show λ_ _ _ _ _ _=>byL1 λ_=>rfl|show λ_ _ _ _ _ _=>byL2 λ_ _=>rfl|show λ_ _ _ _ _ _=>byL3 λ_ _ _=>rfl|show λ_ _ _ _ _ _=>byL4 λ_ _ _ _=>rfl)
  (len:∀vs H Q E,sp vs H Q E->vs.length=ps.length:=by intro vs H Q E h;repeat (first|(obtain⟨rfl,_⟩:=h;rfl)|obtain⟨_,h⟩:=h)):Cal P w K mg base x ps (k+1) sp:=by
 obtain⟨f,fd,F,m⟩:=F;show⟨f,fd,m,F.kp,F.binds hb,F.ok S len λcdv A outer s H vs Q E=>hbody f cdv A outer s H vs Q E⟩
section
variable {x:Str}{ps:List Str}{k:Nat}{sp:Sp}{e:Expr}{es:List Expr}{t:TA}{p pos:Pos}
theorem oD_(C:Cal X.prog X.w X.K X.mg X.base x ps k sp)(hr:Hx_ k X.A)(hg:Gl X x)(ha:PA X (e::es) t)(hdb:(x == ("__debug__" : Str))=false:=by decide)
  (he:starEach (e::es) X.env=(false,eval e X.env)::starEach es X.env:=by rfl) (hpl:(backTo pos (starEach es X.env)).any (·.1)=false:=by rfl):PE X (.Call (.Name x p) (e::es) [] pos) (JJ_ sp [] E0 t):=by
 obtain⟨f,fd,m,kp,b,F⟩:=C;show na_ F hr hg m kp b .nil MK_ ha hdb he hpl
theorem kW_{i:Int}(hm:∃t,X.mg x=some (.int i t))(hg:Gl X x)(hd:(x == ("__debug__" : Str))=false:=by decide):PE X (.Name x pos) (tC (.int i)):=by obtain⟨t,hm⟩:=hm;show kS_ hg hm ⟨t,rfl⟩ hd
end
variable{h:Heap}{x:Str}{i:Int}
theorem pL_(X:K.In h)(G:h.Ns mainGlobals mg){t:Tok}(a:PySem.W.nsIn K mainGlobals x=some (some (.int i t))):∃t,mg x=some (.int i t):=⟨t,Ef_ X G a⟩
variable{o:HO}
theorem F0_.upd{H:Hp}(e:F0_ H H')(h:H a=none):F0_ H (upd H' a o):=λb o' q=>by rw[ae_ (ah_ q h)];show e b o' q
theorem F0_.new{H:Hp}(h:H a=none):F0_ H (L2.upd H a o):=(F0_.refl H).upd h
def Ly_:R2:=λx y H Q=>onR x λp=>∃xs,onI y λi=>H p=some (.tup xs)/\∃v,atI xs i=some v/\Q v H
def Lf_:R2:=λx y H Q=>onR x λp=>∃xs,onI y λi=>H p=some (.lst xs)/\∃v,atI xs i=some v/\Q v H
theorem au_:IxR X Ly_:=by intro value slice pins s σ H x y v u Q I rx ry h hs;obtain⟨p,e1,xs,h⟩:=dn_ h;obtain⟨i,e2,hp,z,ha,q⟩:=c4_ h;show pH_ value slice pins s σ H x y v u Q I rx ry ⟨p,xs,i,z,e1,e2,.inl (.inl hp),ha,q⟩ hs
theorem ar_:IxR X Lf_:=by intro value slice pins s σ H x y v u Q I rx ry h hs;obtain⟨p,e1,xs,h⟩:=dn_ h;obtain⟨i,e2,hp,z,ha,q⟩:=c4_ h;show nd_ value slice pins s σ H x y v u Q I rx ry ⟨p,xs,i,z,e1,e2,.inl (.inl hp),ha,q⟩ hs
def Mi_:R2:=λx y H Q=>∃a b xs ys,x=.ref a/\y=.ref b/\H a=some (.tup xs)/\H b=some (.tup ys)/\xs.all HE_=true/\ys.all HE_=true/\Q (.bl (MT_ xs ys)) H
def LL_:List V->Hp->VK->Prop:=λxs H Q=>on1 xs λx=>onR x λp=>∃ys,(H p=some (.lst ys)\/H p=some (.tup ys))/\Q (.int ys.length) H
theorem an_:GM_ X (.builtin "len") LL_:=by intro pins s σ H xs us Q I r h;obtain⟨_,e,h⟩:=lF_ h;obtain⟨p,rfl,ys,hp,q⟩:=dn_ h;show em_ pins s σ H xs us Q I r ⟨p,ys,e,hp.imp (λz=>.inl (.inl z)) (λz=>.inl (.inl z)),q⟩
theorem gz_{n:String}{pos:Pos}(hg:Gl X x)(hm:X.mg x=none)(hv:bootBuiltins x=some (.type n))(hn:x ≠ "__name__" := by decide) (hd:(x == ("__debug__" : Str))=false:=by decide):PE X (.Name x pos) (tC (.ty n)):=
 qg_ hg hm hv rfl hn hd
theorem G2_{α:Type}{x:α}{xs:List α}:atI (x::xs) 0=some x:=by simp[atI,ixN]
theorem Hm_{α:Type}{x y:α}{xs:List α}:atI (x::y::xs) 1=some y:=by
 have h:(1:Int)<(xs.length:Int)+1+1:=o_
 simp[atI,ixN,h]
theorem HF_{α:Type}{x y z:α}{xs:List α}:atI (x::y::z::xs) 2=some z:=by
 have h:(2:Int)<(xs.length:Int)+1+1+1:=o_
 simp[atI,ixN,h]
theorem fz_{α:Type}{xs:List α}{v:α}(h0:0<=i)(h:xs[i.toNat]?=some v):atI xs i=some v:=by
 have hl:i.toNat<xs.length:=(Ai_.mp h).1;have hl':i<xs.length:=o_
 unfold atI ixN;rw[if_pos h0,if_pos hl'];show h
theorem rp_(n:Nat):ixN (n+1) 0=some 0:=by
 have:(0:Int)<(n:Int)+1:=o_
 simp[ixN,this]
theorem hh_{c:TT}{tb:TS}{D:If_}{σ:St}{H:Hp}(Pv:St->Hp->Prop)(μ:St->Hp->Nat)(h0:Pv σ H)
  (hs:∀σ H,Pv σ H->c σ H λb H1=>if b=true then ∃N:St->Hp->Prop,(∀σ' H',N σ' H'->∃m',m'<μ σ H/\m'=μ σ' H'/\Pv σ' H')/\tb {D with nx:=N,ct:=N,bk:=D.nx} σ H1 else D.nx σ H1):JD_ c tb D σ H :=
 ⟨λm σ H=>m=μ σ H/\Pv σ H,⟨_,rfl,h0⟩,by rintro m σ H ⟨rfl,p⟩;show hs σ H p⟩
theorem N_ok{Pv:St->Hp->Prop}{μ:St->Hp->Nat}{k:Nat}:∀σ' H',(Pv σ' H'/\μ σ' H'<k)->∃m',m'<k/\m'=μ σ' H'/\Pv σ' H':=λ_ _ ⟨a,b⟩=>⟨_,b,rfl,a⟩
def Iv_(J:It)(g:TG)(tb:TS)(D:If_)(σ:St)(H:Hp):Prop:=∃W:Nat->Nat->St->Hp->Prop,(∃m,W 0 m σ H)/\∀i m σ H,W i m σ H ->
 (J.stop i H/\D.nx σ H)\/(J.go i H/\∃N:St->Hp->Prop,(∀σ' H',N σ' H'->∃m',m'<m/\W (i+1) m' σ' H')/\∀x H',J.yld i H x H'->g x σ H' λσ2 H2=>tb {D with nx:=N,ct:=N,bk:=D.nx} σ2 H2)
theorem qo_{wi:TI}{g:TG}{tb:TS}{D:If_}{σ:St}{H:Hp}:Nd_ wi g tb D σ H=wi σ H λJ H1=>Iv_ J g tb D σ H1:=rfl
theorem i8_{lo:Int}{n:Nat}{g:TG}{tb:TS}{D:If_}{σ:St}{H:Hp}(Pv:Nat->St->Hp->Prop)(h0:Pv 0 σ H)
  (hs:∀i σ H,i<n->Pv i σ H->g (.int (lo+i)) σ H λσ2 H2=>tb {D with nx:=Pv (i+1),ct:=Pv (i+1),bk:=D.nx} σ2 H2) (hd:∀σ H,Pv n σ H->D.nx σ H):Iv_ (Itr lo n) g tb D σ H:=m6_ Pv h0 hs hd
theorem nh_{K:PySem.W.Frag}{a:Addr}{xs:List V}{g:TG}{tb:TS}{D:If_}{σ:St}{H:Hp}(Pv:Nat->St->Hp->Prop)(h0:Pv 0 σ H)(hl:∀i σ H,i<=xs.length->Pv i σ H->SqL K H a xs)
  (hs:∀i x σ H,xs[i]?=some x->Pv i σ H->g x σ H λσ2 H2=>tb {D with nx:=Pv (i+1),ct:=Pv (i+1),bk:=D.nx} σ2 H2) (hd:∀σ H,Pv xs.length σ H->D.nx σ H):Iv_ (Itl K a) g tb D σ H:=oy_ Pv h0 hl hs hd
def GW_:Expr->Bool
 | .Starred .. => false
 |_=>true
theorem ax_{e:Expr}{es:List Expr}{env:Env}(h:GW_ e=true):starEach (e::es) env=(false,eval e env)::starEach es env:=by
 cases e <;> first|rfl|show absurd (show false=true from h) AD_
def Gg_:List Expr->Bool
 |[]=>true
 |e::es=>GW_ e && Gg_ es
theorem bN_{pos:Pos}{env:Env}:∀{es:List Expr},Gg_ es=true->(backTo pos (starEach es env)).any (·.1)=false
 |[],_=>rfl
 |e::es,h=>by
  have h':GW_ e=true/\Gg_ es=true:=by simpa[Gg_]using h
  rw[ax_ h'.1];change(false ||(backTo pos (starEach es env)).any (·.1))=false;rw[bN_ h'.2];rfl
def JN_:Expr->Bool
 | .ListComp .. => true
 | .SetComp .. => true
 | .DictComp .. => true
 |_=>false
variable{env:Env}
theorem hi_{e:Expr}{t:Option Expr}{n:Nat}(h:JN_ e=false):swapsWith e t n env=pure false:=by
 cases e <;> first|rfl|show absurd (show true=false from h) Bool.noConfusion
section
variable {x:Str}{ps:List Str}{k:Nat}{sp:Sp}{e:Expr}{es:List Expr}{te:TE}{t:TA}{p pos:Pos}{id:String}{r:List V->Hp->VK->Prop}
theorem pa_c(ha:PE X e te)(hr:PA X es t)(hs:GW_ e=true:=by rfl):PA X (e::es) (KM_ te t):=qk_ ha hr (ax_ hs)
theorem al_(C:Cal X.prog X.w X.K X.mg X.base x ps k sp)(hr:Hx_ k X.A)(hg:Gl X x)(ha:PA X (e::es) t)(hs:Gg_ (e::es)=true:=by rfl) (hdb:(x == ("__debug__" : Str))=false:=by decide):
  PE X (.Call (.Name x p) (e::es) [] pos) (JJ_ sp [] E0 t):=
 have h':GW_ e=true/\Gg_ es=true:=by simpa[Gg_]using hs
 oD_ C hr hg ha hdb (ax_ h'.1) (bN_ h'.2)
theorem aj_(hc:GM_ X (.builtin id) r)(hg:Gl X x)(hm:X.mg x=none)(hv:bootBuiltins x=some (.builtin id))(ha:PA X (e::es) t)(hs:Gg_ (e::es)=true:=by rfl) (hn:x ≠ "__name__" := by decide) (hdb:(x == ("__debug__" : Str))=false:=by decide):
  PE X (.Call (.Name x p) (e::es) [] pos) (tCB r t):=
 have h':GW_ e=true/\Gg_ es=true:=by simpa[Gg_]using hs
 oz_ hc hg hm hv ha hn hdb (ax_ h'.1) (bN_ h'.2)
theorem ai_{i:Nat}{pos':Pos}(hN:X.N.Nodup)(hi:X.N[i]?=some x)(hx:X.env.scope.names.lookup x=some .local)(he:PE X e te)(hs:JN_ e=false:=by rfl):PS X (.Assign [.Name x pos'] e pos) (K5_ te (Ir_ i)):=
 pC_ hN hi (.inl hx) he (hi_ hs) (.inr hx)
theorem ak_{i:Nat}(hN:X.N.Nodup)(hi:X.N[i]?=some x)(hx:X.env.scope.names.lookup x=some .local):PG X (.Name x pos) (Ir_ i):=m2_ hN hi (.inl hx) (.inr hx)
theorem a4_(he:PE X e te)(hs:JN_ e=false:=by rfl):PS X (.Expr e pos) (KH_ te):=qi_ he (hi_ hs)
theorem pv1(i:Nat)(hN:X.N[i]?=some x:=by rfl) (hv:X.env.scope.names.lookup x=some .local:=by rfl) (hd:(x == ("__debug__" : Str))=false:=by decide) (hcd:(x == ("__classdict__" : Str))=false:=by decide):PE X (.Name x pos) (Mb_ i):=pA_ hN (.inl hv) hd hcd
end
def tCut(t:TS):TS:=λD σ H=>∃M:St->Hp->Prop,t {D with nx:=M} σ H/\∀σ' H',M σ' H'->D.nx σ' H'
theorem iu_{st:Stmt}{t:TS}(h:PS X st t):PS X st (tCut t):=by
 intro pins s σ H D I hq;obtain⟨M,h1,h2⟩:=hq;show thn (h pins s σ H _ I h1) λf s' q=>?_;cases f with
 |next=>obtain⟨σ',H',I',m⟩:=q;show⟨σ',H',I',h2 _ _ m⟩
 |brk=>show q
 |cont=>show q
 |ret u=>show q
theorem aQ_:bootBuiltins "len"=some (.builtin "len"):=r_
theorem ni_:bootBuiltins "abs"=some (.builtin "abs"):=r_
theorem lR_:bootBuiltins "max"=some (.builtin "max"):=r_
theorem nj_:bootBuiltins "min"=some (.builtin "min"):=r_
theorem aC_:bootBuiltins "isinstance"=some (.builtin "isinstance"):=r_
theorem bB_:bootBuiltins "sorted"=some (.builtin "sorted"):=r_
theorem lS_:bootBuiltins "int"=some (.type "int"):=r_
theorem qp_:bootBuiltins "bool"=some (.type "bool"):=r_
theorem Ie_:bootBuiltins "tuple"=some (.type "tuple"):=r_
theorem e6_:bootBuiltins "list"=some (.type "list"):=r_
theorem rq_:bootBuiltins "str"=some (.type "str"):=r_
theorem j3_:bootBuiltins "enumerate"=some (.type "enumerate"):=r_
def Ig_(cells:List (Str×Addr)):List (Str×NameKind)->List (Str×Addr)->List (Str×Addr)
 |[],acc=>acc
 | (n,k)::r,acc=>if k == .free then Ig_ cells r ((n,(cells.lookup n).getD 0)::acc)else Ig_ cells r acc
theorem mC_:∀(names:List (Str×NameKind))(acc:List (Str×Addr)),(∀p∈names,p.2=.free->∃c,env.cells.lookup p.1=some c) ->
  (forIn (m:=Sem) names acc λx r=>(match x with|(name,kind)=>if(kind == NameKind.free)=true then do let a <-cellOf env name;pure (ForInStep.yield ((name,a)::r))else pure (ForInStep.yield r)))=pure (Ig_ env.cells names acc):=by
 intro names
 induction names with
 |nil=>intro acc _;rfl
 |cons p r ih =>
  intro acc h;obtain⟨n,k⟩:=p;rw[List.forIn_cons];by_cases hk:(k == NameKind.free)=true
  .obtain⟨c,hc⟩:=h (n,k) Al_ (by simpa using hk);have e1:cellOf env n=pure c:=by unfold cellOf;rw[hc]
   simp only[hk,if_true,e1];have:=ih ((n,c)::acc) λp hp=>h p (Aj_ _ hp);change _=pure (Ig_ env.cells ((n,k)::r) acc);rw[Ig_,if_pos hk,hc];show this
  .simp only[hk];have:=ih acc λp hp=>h p (Aj_ _ hp);change _=pure (Ig_ env.cells ((n,k)::r) acc);rw[Ig_,if_neg hk];show this
theorem ge_{scope:Scope}(h:∀p∈scope.names,p.2=.free->∃c,env.cells.lookup p.1=some c):closureFor scope env=pure (Ig_ env.cells scope.names []):=by unfold closureFor;show Eq.trans (congrArg (λz=>z >>= λs=>pure s) (mC_ (env:=env) scope.names [] h)) rfl
theorem i9_{cells:List (Str×Addr)}:∀(names:List (Str×NameKind))(acc:List (Str×Addr)),(∀p∈names,p.2=.free->∃c,cells.lookup p.1=some c)->(∀q∈acc,cells.lookup q.1=some q.2)->∀q∈Ig_ cells names acc,cells.lookup q.1=some q.2
 |[],acc,_,h=>h
 | (n,k)::r,acc,h1,h2=>by
  rw[Ig_];by_cases hk:(k == NameKind.free)=true
  .rw[if_pos hk];show i9_ r _ (λp hp=>h1 p (Aj_ _ hp)) λq hq=>?_
   rcases Aq_.mp hq with rfl|hq
   .obtain⟨c,hc⟩:=h1 (n,k) Al_ (by simpa using hk);rw[hc];rfl
   .show h2 q hq
  .rw[if_neg hk];show i9_ r _ (λp hp=>h1 p (Aj_ _ hp)) h2
theorem ja_{cells:List (Str×Addr)}{x:Str}:∀(names:List (Str×NameKind))(acc:List (Str×Addr)),((x,NameKind.free)∈names\/∃c,(x,c)∈acc)->∃c,(x,c)∈Ig_ cells names acc
 |[],acc,h=>h.elim (λz=>absurd z s_) id
 | (n,k)::r,acc,h=>by
  rw[Ig_];by_cases hk:(k == NameKind.free)=true
  .rw[if_pos hk];show ja_ r _ ?_
   rcases h with h|⟨c,hc⟩
   .rcases Aq_.mp h with e|h
    .cases e;show .inr ⟨_,Al_⟩
    .show .inl h
   .show .inr ⟨c,Aj_ _ hc⟩
  .rw[if_neg hk];show ja_ r _ ?_
   rcases h with h|h
   .rcases Aq_.mp h with e|h
    .cases e;show absurd rfl hk
    .show .inl h
   .show .inr h
theorem c5_{x:Str}{c:Addr}:∀{l:List (Str×Addr)},(x,c)∈l->∃c',l.lookup x=some c'
 | (n,d)::r,h=>by
  rw[Ca_];cases e:x == n with
  |true=>show⟨d,rfl⟩
  |false =>
   rcases Aq_.mp h with z|h
   .cases z;simp at e
   .show c5_ h
theorem hj_{cells:List (Str×Addr)}{q:Str×Addr}:∀(names:List (Str×NameKind))(acc:List (Str×Addr)),q∈Ig_ cells names acc->(q.1,NameKind.free)∈names\/q∈acc
 |[],acc,h=>.inr h
 | (n,k)::r,acc,h=>by
  rw[Ig_]at h;by_cases hk:(k == NameKind.free)=true
  .rw[if_pos hk]at h;have hk':k=.free:=by simpa using hk
   rcases hj_ r _ h with h|h
   .show .inl (Aj_ _ h)
   .rcases Aq_.mp h with rfl|h
    .show .inl (by rw[hk'];show Al_)
    .show .inr h
  .rw[if_neg hk]at h;show(hj_ r _ h).imp (Aj_ _) id
theorem dh_{x:Str}{c:Addr}:∀(names:List (Str×NameKind))(h:Heap)(acc:List (Str×Addr)),(x,c)∈cellsFrom h.objs.size names acc->(x,c)∈acc\/(h.objs.size<=c/\(pushCells h names).IsCell c none/\(x,NameKind.cell)∈names)
 |[],_,_,h=>.inl h
 | (n,k)::r,hp,acc,h=>by
  unfold cellsFrom at h;unfold pushCells;by_cases hk:(k == NameKind.cell)=true
  .rw[if_pos hk]at h⊢;have hk':k=.cell:=by simpa using hk
   have h':(x,c)∈cellsFrom (hp.push {cls:=.type "cell",data:=.cell none}).objs.size r ((n,hp.objs.size)::acc):=by rw[CW_];show h
   rcases dh_ r _ _ h' with h|⟨h1,h2,h3⟩
   .rcases Aq_.mp h with e|h
    .cases e;show .inr ⟨Af_ _,⟨_,DM_ r _ _ _ (AC_ _ rfl),rfl⟩,by rw[hk'];show Al_⟩
    .show .inl h
   .rw[CW_]at h1;show .inr ⟨o_,h2,Aj_ _ h3⟩
  .rw[if_neg hk]at h⊢;show(dh_ r hp acc h).imp id λ⟨h1,h2,h3⟩=>⟨h1,h2,Aj_ _ h3⟩
theorem dI_{x:Str}:∀(names:List (Str×NameKind))(n:Nat)(acc:List (Str×Addr)),((x,NameKind.cell)∈names\/∃c,(x,c)∈acc)->∃c,(x,c)∈cellsFrom n names acc
 |[],_,acc,h=>h.elim (λz=>absurd z s_) id
 | (y,k)::r,n,acc,h=>by
  unfold cellsFrom;by_cases hk:(k == NameKind.cell)=true
  .rw[if_pos hk];show dI_ r _ _ ?_
   rcases h with h|⟨c,hc⟩
   .rcases Aq_.mp h with e|h
    .cases e;show .inr ⟨_,Al_⟩
    .show .inl h
   .show .inr ⟨c,Aj_ _ hc⟩
  .rw[if_neg hk];show dI_ r _ _ ?_
   rcases h with h|h
   .rcases Aq_.mp h with e|h
    .cases e;show absurd rfl hk
    .show .inl h
   .show .inr h
theorem dJ_{lo:Nat}:∀(names:List (Str×NameKind))(n:Nat)(acc:List (Str×Addr)),(∀x c,(x,c)∈acc->c<n)->(∀x y c,lo<=c->(x,c)∈acc->(y,c)∈acc->x=y)->∀x y c,lo<=c->(x,c)∈cellsFrom n names acc->(y,c)∈cellsFrom n names acc->x=y
 |[],_,_,_,h=>h
 | (z,k)::r,n,acc,h1,h2=>by
  unfold cellsFrom;by_cases hk:(k == NameKind.cell)=true
  .rw[if_pos hk];show dJ_ r _ _ (λx c hm=>?_) λx y c hc hx hy=>?_
   .rcases Aq_.mp hm with e|hm
    .cases e;show Nat.lt_succ_self _
    .show Bw_ (h1 x c hm)
   .rcases Aq_.mp hx with e|hx <;> rcases Aq_.mp hy with e'|hy
    .cases e;cases e';rfl
    .cases e;show absurd (h1 _ _ hy) (BK_ _)
    .cases e';show absurd (h1 _ _ hx) (BK_ _)
    .show h2 x y c hc hx hy
  .rw[if_neg hk];show dJ_ r n acc h1 h2
def Hs_(scope:Scope)(env:Env)(n:Nat):List (Str×Addr):=cellsFrom (n+1) scope.names (Ig_ env.cells scope.names [])
def cxC(X:Cx)(N':List Str)(scope:Scope)(s:Shared)(H:Hp)(ex:List Addr):Cx :=
 {X with N:=N',s₀:=s,H₀:=H,env:=compEnvC scope (Hs_ scope X.env s.heap.objs.size) s.heap.objs.size X.env,outer:=X.stack,ex:=ex,fn:=λx=>decide ((x,NameKind.cell)∈scope.names)}
def pick(σ:St)(ix:List (Option Nat)):St:=ix.map λo=>match o with|some i=>(match σ[i]? with|some v=>v|none=>none)|none=>none
structure Scp(psc:Scope)(PN N':List Str)(ix:List (Option Nat))(scope:Scope):Prop where
 kind:scope.kind=.function
 names:∀x∈scope.names,x.2=.local->scope.names.lookup x.1=some .local
 uni:∀x∈scope.names,x.2=.free->scope.names.lookup x.1=some .free
 apart:∀x∈scope.names,x.2=.cell->(x.1,NameKind.free)∉scope.names
 free:∀x∈scope.names,x.2=.free->psc.names.lookup x.1=some .cell\/psc.names.lookup x.1=some .free
 len:ix.length=N'.length
 at_:∀(j i:Nat)(x:Str),N'[j]?=some x->ix[j]?=some (some i)->PN[i]?=some x/\(x,NameKind.free)∈scope.names
variable {pins:List (Addr×Obj)}{σ:St}{H:Hp}{s:Shared}{N':List Str}{ix:List (Option Nat)}{scope:Scope}{fp:List Addr}
theorem c6_{env:Env}:∀{names:List (Str×NameKind)}{x:Str},names.lookup x=some .free ->
  (names.map λ(n,k)=>if(k == NameKind.free && env.scope.kind == .function && env.kindOf n == some .cell)then(n,NameKind.cell)else(n,k)).lookup x=some .cell \/
  (names.map λ(n,k)=>if(k == NameKind.free && env.scope.kind == .function && env.kindOf n == some .cell)then(n,NameKind.cell)else(n,k)).lookup x=some .free
 |[],_,h=>by simp at h
 | (n,k)::r,x,h=>by
  have ih:=@c6_ env r x;simp only[AW_];cases hx:x == n with
  |true =>
   simp only[Ca_,hx]at h;cases h;by_cases hc:(NameKind.free == NameKind.free && env.scope.kind == .function && env.kindOf n == some .cell)=true
   .rw[if_pos hc];simp[Ca_,hx]
   .rw[if_neg hc];simp[Ca_,hx]
  |false =>
   simp only[Ca_,hx]at h;by_cases hc:(k == NameKind.free && env.scope.kind == .function && env.kindOf n == some .cell)=true
   .rw[if_pos hc];simp only[Ca_,hx];show ih h
   .rw[if_neg hc];simp only[Ca_,hx];show ih h
theorem hk_(h:scope.names.lookup x=some .free):(relabel scope env).names.lookup x=some .cell\/(relabel scope env).names.lookup x=some .free:=c6_ h
theorem j4_(h:(relabel scope env).names.lookup x=some .cell\/(relabel scope env).names.lookup x=some .free):(x,NameKind.cell)∈scope.names\/(x,NameKind.free)∈scope.names:=by
 have:∃k,(x,k)∈(relabel scope env).names/\(k=.cell\/k=.free):=by
  rcases h with h|h
  .show⟨_,Bu_ h,.inl rfl⟩
  .show⟨_,Bu_ h,.inr rfl⟩
 obtain⟨k,hm,hk⟩:=this;obtain⟨⟨n,k'⟩,hm',e⟩:=Ay_.mp hm
 dsimp only at e
 split at e
 .rename_i hc;cases e;have:k'=.free:=by simp at hc;show hc.1.1
  rw[this]at hm';show .inr hm'
 .cases e
  rcases hk with rfl|rfl
  .show .inl hm'
  .show .inr hm'
theorem oE_(I:Inv X pins σ H s)(S:Scp X.env.scope X.N N' ix scope)(hf:∀b∈fp,IC_ X pins H b)(hfl:∀b∈fp,b<s.heap.objs.size)(t':Nat):
  Inv (cxC X N' scope s H fp) [] (pick σ ix) H {s with heap:=pushCells (s.heap.push {cls:=.type "dict",data:=.dict #[]}) scope.names,toks:=t'}:=by
 have hn:(pushCells (s.heap.push {cls:=.type "dict",data:=.dict #[]}) scope.names).Ns s.heap.objs.size λ_=>none:=(Heap.Ns.new s.heap (.type "dict")).keeps (DM_ _ _);have hk:∀b o,s.heap.get? b=some o->(pushCells (s.heap.push {cls:=.type "dict",data:=.dict #[]}) scope.names).get? b=some o:=λb o e=>DM_ _ _ b o (Ah_ _ e);have hfr:∀p∈scope.names,p.2=NameKind.free->∃c,X.env.cells.lookup p.1=some c:=λp hp e=>I.ok.has p.1 (S.free p hp e);have clm:∀q∈Ig_ X.env.cells scope.names [],X.env.cells.lookup q.1=some q.2:=i9_ scope.names [] hfr s_
 have spec:∀x c,(Hs_ scope X.env s.heap.objs.size).lookup x=some c->(X.env.cells.lookup x=some c/\(x,NameKind.free)∈scope.names) \/
   (s.heap.objs.size<c/\(pushCells (s.heap.push {cls:=.type "dict",data:=.dict #[]}) scope.names).IsCell c none/\(x,NameKind.cell)∈scope.names):=λx c e=>by
  have hm:(x,c)∈cellsFrom (s.heap.push {cls:=.type "dict",data:=.dict #[]}).objs.size scope.names (Ig_ X.env.cells scope.names []):=by rw[CW_];show Bu_ e
  rcases dh_ scope.names _ _ hm with h|⟨h1,h2,h3⟩
  .show .inl ⟨clm _ h,(hj_ scope.names [] h).elim id (λz=>absurd z s_)⟩
  .rw[CW_]at h1;show .inr ⟨h1,h2,h3⟩
 have hasC:∀x,((relabel scope X.env).names.lookup x=some .cell\/(relabel scope X.env).names.lookup x=some .free)->∃c,(Hs_ scope X.env s.heap.objs.size).lookup x=some c:=λx hx=>by have:∃c,(x,c)∈Hs_ scope X.env s.heap.objs.size:=dI_ scope.names _ _ ((j4_ hx).imp id λz=>ja_ scope.names [] (.inl z));obtain⟨c,hc⟩:=this;show c5_ hc
 have cold:∀x c,X.env.cells.lookup x=some c->c<s.heap.objs.size:=λx c e=>let⟨v,q⟩:=I.cell x c e;q.lt
 show⟨⟨I.ok.mod,S.kind,I.ok.glob,I.ok.blt,Af_ _,λx y c e1 e2=>?_,hasC,λx c z e=>?_,I.ok.hd,I.ok.frames,.inl rfl,
  λb hb=>⟨AJ_ (hfl b hb),λx c e=>?_⟩,I.bs,Au_ I.ok.bsz I.sz,λb o e hb=>?_,λb hb z=>?_,I.stack,I.stkFree⟩,
  rfl,I.bare,Un.kept hk,⟨_,hn,λj x v e1 e2 e3=>?_⟩,λx c e=>?_,I.hok.fresh (Af_ _),λx c e=>?_,λp hp=>?pn,I.hok.kept hk,?_⟩
 case pn =>obtain⟨q1,q2,q3,q4,q5⟩:=I.pin p (Ba_ _ (show p∈X.pn from(At_.mp hp).elim id λz=>nomatch z));show⟨hk _ _ q1,q2,AJ_ (Ap_ q1),λz=>(Aq_.mp (I.stkSub _ z)).elim q3 q4,q5⟩
 .by_cases hc:c<s.heap.objs.size+1
  .rcases spec x c e1 with⟨q1,_⟩|⟨q1,_⟩
   .rcases spec y c e2 with⟨q2,_⟩|⟨q2,_⟩
    .show I.ok.inj x y c q1 q2
    .show absurd q2 (CK_.mpr (Nat.le_of_lt_succ hc))
   .show absurd q1 (CK_.mpr (Nat.le_of_lt_succ hc))
  .show dJ_ (lo:=s.heap.objs.size+1) scope.names _ _ (λx c hm=>Bw_ (cold x c (clm _ hm))) (λx y c hc hx _=>absurd (cold x c (clm _ hx)) (CK_.mpr (Au_ (EX_ _) hc))) x y c (CK_.mp hc) (Bu_ e1) (Bu_ e2)
 .have z':(x,NameKind.cell)∈scope.names:=AN_ z
  rcases spec x c e with⟨_,q⟩|⟨q,_⟩
  .show absurd q (S.apart _ z' rfl)
  .show A6_ q
 .rcases spec x c e with⟨q,_⟩|⟨q,_⟩
  .show(hf b hb).2.2.2.2.1 x c q
  .show λz=>absurd (hfl b hb) (CK_.mpr (z▸A6_ q))
 .show(hf b hb).2.2.2.1.elim (λz=>I.ok.noex b o e z) λz=>absurd (AM_ (Ap_ e) I.ok.bsz) (CK_.mpr z)
 .have hb2:=hf b hb
  rcases Aq_.mp (I.stkSub b z)with q|q
  .show hb2.2.1 q
  .show hb2.2.2.1 q
 .have e4:∃i,ix[j]?=some (some i)/\σ[i]?=some (some v):=by
   have e2':(pick σ ix)[j]?=some (some v):=e2;unfold pick at e2';rw[Ae_]at e2';cases q:ix[j]? with
   |none=>rw[q]at e2';cases e2'
   |some o =>
    rw[q]at e2';cases o with
    |none=>cases e2'
    |some i =>
     show⟨i,rfl,?_⟩;cases z:σ[i]? with
     |none=>simp[z]at e2'
     |some y=>simp[z]at e2';rw[e2']
  obtain⟨i,e4,e5⟩:=e4;obtain⟨a1,a2⟩:=S.at_ j i x e1 e4;have a3:=S.free _ a2 rfl;obtain⟨m0,hn0,hl0⟩:=I.loc;obtain⟨u,r,l⟩:=hl0 i x v a1 e5 (.inr a3);show⟨u,r,?_⟩
  rcases l with⟨k1,_⟩|⟨k1,c,hcl,hce⟩
  .have k1':X.env.scope.names.lookup x=some .local:=k1
   rcases a3 with z|z <;> (rw[k1']at z;cases z)
  .
   have e3':(relabel scope X.env).names.lookup x=some .local\/(relabel scope X.env).names.lookup x=some .cell\/(relabel scope X.env).names.lookup x=some .free:=e3;have k3:=hk_ (env:=X.env) (S.uni _ a2 rfl);obtain⟨c',hc'⟩:=hasC x k3
   rcases spec x c' hc' with⟨q,_⟩|⟨_,_,q⟩
   .rw[hcl]at q;cases q;show .inr ⟨k3,c,hc',hce.keeps hk⟩
   .show absurd a2 (S.apart _ q rfl)
 .rcases spec x c e with⟨q,_⟩|⟨q,q2,_⟩
  .obtain⟨v,q'⟩:=I.cell x c q;show⟨v,q'.keeps hk⟩
  .show⟨none,q2⟩
 .rcases spec x c e with⟨q,_⟩|⟨q,_⟩
  .show I.freeC x c q
  .show I.hok.fresh (A6_ q)
 .change(pick σ ix).length=N'.length;unfold pick;rw[Aa_];show S.len
variable {prog:Program}{A:Around}{R:Result->Shared->Prop}
def JR_(ifs:List Expr)(env:Env):Sem Bool:=forIn ifs true λc r=>if r=true then do let ok <-isTrue c env (eval c env);pure (ForInStep.yield ok)else pure (ForInStep.yield r)
theorem j5_{elt target iter:Expr}{ifs:List Expr}{scope:Scope}{pos:Pos}{it acc:Value}{env:Env}(I:Nat->Shared->Prop)
  (turn:∀n s,I n s->wpAny (model prog w) A (pyNext it) (λr s₁=>match r with
   |none=>R (.ok .next) s₁
   |some v=>wpAny (model prog w) A (letOwnedTupleGo target it v) (λ_ s₁'=>wpAny (model prog w) A (assign target env v) (λ_ s₂=>wpAny (model prog w) A (JR_ ifs env) (λok s₃ =>
     if ok=true then wpAny (model prog w) A (eval elt env) (λx s₄=>wpAny (model prog w) A (call (.builtin "list.append") [acc,x]) (λ_ s₅=>∃m,m<n/\I m s₅) (λ_ _=>False) s₄) (λ_ _=>False) s₃
     else ∃m,m<n/\I m s₃) (λ_ _=>False) s₂) (λ_ _=>False) s₁') (λ_ _=>False) s₁) (λ_ _=>False) s)
  (n:Nat) (h:I n s):codeAny (model prog w) A (.compLoop (.ListComp elt [⟨target,iter,ifs,0⟩] scope pos) 0 it acc env) R s:=by
 show codeAny_loop rfl I (λn s hI=>?_) n h;change wpAny _ _ ((compTurn (.ListComp elt [⟨target,iter,ifs,0⟩] scope pos) 0 it acc env).onRaise (λx=>do noteFrame x env;theTreesLotGoes x)) _ _ s;show wpAny_noted ?_;rw[compTurn_list];show Ad_ (Dy_ (Ad_ (Bg_ (turn n s hI) (λr s₁ h₁=>?_) λ_ _ h'=>h'.elim)));cases r with
 |none=>show AA_ h₁
 |some v =>
  show Ad_ (Bg_ h₁ (λ_ s₁' h₁'=>?_) λ_ _ h'=>h'.elim);show Ad_ (Bg_ h₁' (λ_ s₂ h₂=>Ad_ (Bg_ h₂ (λok s₃ h₃=>?_) λ_ _ h'=>h'.elim)) λ_ _ h'=>h'.elim);cases ok with
  |false=>show AA_ ⟨rfl,h₃⟩
  |true =>show Ad_ (Ad_ (Bg_ h₃ (λx s₄ h₄=>Ad_ (Bg_ h₄ (λ_ s₅ h₅=>AA_ (AA_ ⟨rfl,h₅⟩)) λ_ _ h'=>h'.elim)) λ_ _ h'=>h'.elim))
theorem kX_{M:Model}{A:Around}{E:Value->Shared->Prop}{s:Shared}{scope:Scope}{globals:Addr}{cl:List (Str×Addr)}{qual:Str}{env:Env}{Q:Env->Shared->Prop}
  (hQ:Q {scope:=scope,locals:=s.heap.objs.size,globals:=globals,cells:=cellsFrom (s.heap.objs.size+1) scope.names cl,qual:=qual,func:=none,code:=env.code,frame:=env.frame,builtins:=env.builtins} {s with heap:=pushCells (s.heap.push {cls:=.type "dict",data:=.dict #[]}) scope.names}):
  wpAny M A (newFunctionEnv scope globals cl [] qual none .none (some env)) Q E s:=by
 simp only[newFunctionEnv,Option.isSome_some,if_true];show Ad_ (wpAny_alloc ?_);show Ad_ (wpAny_layCells _ (λname kind cells=>by cases hkc:kind == NameKind.cell <;> simp[hkc]) _ _ _ _ ?_);rw[show({s with heap:=s.heap.push {cls:=.type "dict",data:=.dict #[]}}:Shared).heap.objs.size=s.heap.objs.size+1 from CW_ ..];show Ad_ (AA_ (AA_ hQ))
def PF(X:Cx)(ifs:List Expr)(t:TT):Prop :=
 ∀(pins:List (Addr×Obj))(s:Shared)(σ:St)(H:Hp)(Q:Bool->Hp->Prop),Inv X pins σ H s->t σ H Q->wpAny (model X.prog X.w) X.A (JR_ ifs X.env) (TP X pins σ Q) X.xe s
def Mc_:TT:=λ_ H Q=>Q true H
theorem e1_:PF X [] Mc_:=λ_ _ _ H _ I h=>wpAny_tests_nil ⟨H,I,h⟩
theorem iv_{c:Expr}{t:TT}(h:PT X c t):PF X [c] t:=λpins s σ H Q I q=>wpAny_tests_one (h pins s σ H Q I q)
def Ik_(J:It)(g:TG)(tt:TT)(te:TE)(σ:St)(H:Hp)(Q:VK):Prop:=∀D,H D=none->∃W:Nat->Nat->St->Hp->Prop,(∃m,W 0 m σ (upd H D (.lst [])))/\∀i m σ H,W i m σ H ->
 (J.stop i H/\Q (.ref D) H)\/(J.go i H/\∃N:St->Hp->Prop,(∀σ' H',N σ' H'->∃m',m'<m/\W (i+1) m' σ' H')/\∀x H',J.yld i H x H'->g x σ H' λσ2 H2=>tt σ2 H2 λb H3 =>if b=true then te σ2 H3 λv H4=>∃xs,H4 D=some (.lst xs)/\xs.length<sizeLine/\N σ2 (upd H4 D (.lst (xs++[v])))else N σ2 H3)
def Jv_(ix:List (Option Nat))(wi:TI)(g:TG)(tt:TT)(te:TE):TE:=λσ H Q=>wi σ H λJ H1=>Ik_ J g tt te (pick σ ix) H1 Q
section
variable {tg iter elt:Expr}{ifs:List Expr}{wi:TI}{g:TG}{tt:TT}{te:TE}{pos:Pos}
structure LO_(C:Cx->Prop)(P:Program)(w:World)(K:PySem.W.Frag)(tg:Expr)(J:It)(fp:List Addr)(it:Addr)(tn:Nat->Heap->Prop):Prop where
 obj:∀i h,tn i h->∀b∈fp,∃o,h.get? b=some o/\∀v,o.data≠.cell v
 keep:∀i h h',tn i h->(∀b∈fp,∀o,h.get? b=some o->h'.get? b=some o)->tn i h'
 item:∀(X:Cx),X.prog=P->X.w=w->X.K=K->C X->∀(i:Nat)(pins:List (Addr×Obj))(s:Shared)(σ:St)(H:Hp)(E:Value->Shared->Prop),Inv X pins σ H s->(∀b∈fp,IC_ X pins H b)->tn i s.heap->J.go i H ->
  wpAny (model P w) X.A (pyNext (.ref it)) (λr s1=>∃u,r=some u/\wpAny (model P w) X.A (letOwnedTupleGo tg (.ref it) u) (λ_ s2=>∃x H',Inv X pins σ H' s2/\Gu_ x u/\J.yld i H x H'/\tn (i+1) s2.heap/\∀b∈fp,H' b=none) E s1) E s
 done:∀(X:Cx),X.prog=P->X.w=w->X.K=K->C X->∀(i:Nat)(pins:List (Addr×Obj))(s:Shared)(σ:St)(H:Hp)(E:Value->Shared->Prop),Inv X pins σ H s->(∀b∈fp,IC_ X pins H b)->tn i s.heap->J.stop i H ->
  wpAny (model P w) X.A (pyNext (.ref it)) (λr s1=>r=none/\Inv X pins σ H s1) E s
 self:∀(A:Around)(i:Nat)(s:Shared)(Q:Value->Shared->Prop)(E:Value->Shared->Prop),tn i s.heap->Q (.ref it) s->wpAny (model P w) A (pyIter (.ref it)) Q E s
def PIc(C:Cx->Prop)(X:Cx)(tg iter:Expr)(wi:TI):Prop:=∀(pins:List (Addr×Obj))(s:Shared)(σ:St)(H:Hp)(R:It->Hp->Prop),Inv X pins σ H s->wi σ H R ->
 wpAny (model X.prog X.w) X.A (eval iter X.env) (λv s1=>wpAny (model X.prog X.w) X.A (pyIter v) (λitv s2=>∃(it:Addr)(fp:List Addr)(tn:Nat->Heap->Prop)(J:It)(H':Hp),itv=.ref it/\Inv X pins σ H' s2/\LO_ C X.prog X.w X.K tg J fp it tn/\tn 0 s2.heap/\(∀b∈fp,IC_ X pins H' b)/\R J H') X.xe s1) X.xe s
theorem PI.c(h:PI X tg iter wi):PIc (λX=>X.calm=true) X tg iter wi:=λpins s σ H R I q=>thn (h pins s σ H R I q) λ_ _ h1=>thn h1 λ_ _ ⟨it,fp,tn,J,H',e,I2,T,z⟩=>⟨it,fp,tn,J,H',e,I2,⟨T.obj,T.keep,T.item,T.done,T.self⟩,z⟩
theorem hl_{C:Cx->Prop}(hc:∀s H ex,C (cxC X N' scope s H ex))(hxe:X.xe=λ_ _=>False)(S:Scp X.env.scope X.N N' ix scope)(hi:PIc C X tg iter wi)(hg:∀s H ex,PG (cxC X N' scope s H ex) tg g)(ht:∀s H ex,PF (cxC X N' scope s H ex) ifs tt)(he:∀s H ex,PE (cxC X N' scope s H ex) elt te)
  {pins:List (Addr×Obj)} {s:Shared} {σ:St} {H:Hp} {Q:VK} (I:Inv X pins σ H s) (h:Jv_ ix wi g tt te σ H Q) {Post:Value->Addr->Result->Shared->Prop}
  (fin':∀(D C:Addr)(H':Hp)(s':Shared),Inv X pins σ H' s'->IC_ X pins H' C->(∃m,s'.heap.Ns C m)->Q (.ref D) H'->Post (.ref D) C (.ok .next) s'):
  wpAny (model X.prog X.w) X.A (eval iter X.env) (λx s₁=>wpAny (model X.prog X.w) X.A (pyIter x) (λit s₂=>wpAny (model X.prog X.w) X.A (newList []) (λacc s₃ =>wpAny (model X.prog X.w) X.A (newFunctionEnv scope X.env.globals (Ig_ X.env.cells scope.names []) [] X.env.qual none .none (some X.env)) (λcenv s₄ =>codeAny (model X.prog X.w) X.A (.compStart (.ListComp elt [⟨tg,iter,ifs,0⟩] scope pos) 0 it acc {cenv with scope:=relabel scope X.env}) (Post acc cenv.locals) s₄) X.xe s₃) X.xe s₂) X.xe s₁) X.xe s:=by
 show thn (hi pins s σ H _ I h) λv s1 h1=>thn h1 λitv s2 h2=>?_;obtain⟨it,fp,tn,J,H2,e,I2,T,st2,f2,go⟩:=h2;subst e;show CR_ ?_;have hD:H2 s2.heap.objs.size=none:=I2.hok.fresh (Af_ _)
 have I3:Inv X pins σ (upd H2 s2.heap.objs.size (.lst [])) {s2 with heap:=s2.heap.push {cls:=.type "list",dict:=none,data:=.seq ([]:List Value).toArray}} :=
  I2.laid (t':=s2.toks) (λb u e=>Ah_ _ e) (Af_ _) ⟨Av_ _,[],0,.nil,AC_ _ rfl⟩
 obtain⟨W,⟨m0,w0⟩,turn⟩:=go s2.heap.objs.size hD;have fpl:∀b∈fp,b<s2.heap.objs.size:=λb hb=>let⟨o,e,_⟩:=T.obj _ _ st2 b hb;Ap_ e;have tF:∀{α:Type}{t:Sem α}{Q':α->Shared->Prop}{s':Shared},wpAny (model X.prog X.w) X.A t Q' X.xe s'->wpAny (model X.prog X.w) X.A t Q' (λ_ _=>False) s':=λhw=>hxe▸hw;generalize hH3:upd H2 s2.heap.objs.size (.lst [])=H3 at I3 w0;generalize hs3:({s2 with heap:=s2.heap.push {cls:=.type "list",dict:=none,data:=.seq ([]:List Value).toArray}}:Shared)=s3 at I3⊢;have h23:∀b o,s2.heap.get? b=some o->s3.heap.get? b=some o:=λb o e=>by rw[<-hs3];show Ah_ _ e
 have sz3:s2.heap.objs.size<=s3.heap.objs.size:=by rw[<-hs3];change _<=(s2.heap.push _).objs.size;rw[CW_];show EX_ _
 have fpl3:∀b∈fp,b<s3.heap.objs.size:=λb hb=>AM_ (fpl b hb) sz3;have f3:∀b∈fp,IC_ X pins H3 b:=λb hb=>⟨by rw[<-hH3,ae_ (AJ_ (fpl b hb))];show(f2 b hb).1,(f2 b hb).2⟩;show kX_ ?_;generalize hh1:pushCells (s3.heap.push {cls:=.type "dict",data:=.dict #[]}) scope.names=h1;have hk:∀b o,s3.heap.get? b=some o->h1.get? b=some o:=λb o e=>by rw[<-hh1];show DM_ _ _ b o (Ah_ _ e)
 have I4:Inv (cxC X N' scope s3 H3 fp) [] (pick σ ix) H3 {s3 with heap:=h1}:=by rw[<-hh1];show oE_ I3 S f3 fpl3 s3.toks
 have st4:tn 0 h1:=T.keep _ _ _ st2 λb hb o e=>hk b o (h23 b o e);have fin:∀{σ':St}{H':Hp}{s':Shared},Inv (cxC X N' scope s3 H3 fp) [] σ' H' s'->Q (.ref s2.heap.objs.size) H'->Post (.ref s2.heap.objs.size) s3.heap.objs.size (.ok .next) s':=λ{σ' H' s'} J q=>by obtain⟨m,hn,_⟩:=J.loc;have K1:Inv X pins σ H' s':=I3.call' J.os J.base J.hok J.bare λb hb=>⟨(f3 b hb).2.2.2.1,(f3 b hb).2.1,(f3 b hb).2.2.2.2.1,(f3 b hb).2.2.2.2.2⟩;show fin' _ _ H' s' K1 (I3.fpOk (b:=s3.heap.objs.size) (Af_ _) (show H' s3.heap.objs.size=none from J.free)) ⟨m,hn⟩ q
 have loop:codeAny (model X.prog X.w) X.A (.compLoop (.ListComp elt [⟨tg,iter,ifs,0⟩] scope pos) 0 (.ref it) (.ref s2.heap.objs.size) (compEnvC scope (Hs_ scope X.env s3.heap.objs.size) s3.heap.objs.size X.env)) (Post (.ref s2.heap.objs.size) s3.heap.objs.size) {s3 with heap:=h1}:=by
  show j5_ (λn s'=>∃i σ' H',Inv (cxC X N' scope s3 H3 fp) [] σ' H' s'/\tn i s'.heap/\(∀b∈fp,H' b=none)/\W i n σ' H') ?_ m0 ⟨0,_,H3,I4,st4,λb hb=>(f3 b hb).1,w0⟩;rintro n s5 ⟨i,σ5,H5,I5,st5,fr5,w5⟩;have stat:∀{H':Hp},(∀b∈fp,H' b=none)->∀b∈fp,IC_ (cxC X N' scope s3 H3 fp) [] H' b:=λhn b hb=>⟨hn b hb,(I5.ok.exf b hb).1,I5.ok.exfs b hb,.inl hb,(I5.ok.exf b hb).2,λp hp=>(f3 b hb).2.2.2.2.2 p (Ba_ _ (show p∈X.pn from(At_.mp hp).elim id λz=>nomatch z))⟩
  rcases turn i n σ5 H5 w5 with⟨stop,qn⟩|⟨go,N,hN,step⟩
  .show thn (tF (T.done (cxC X N' scope s3 H3 fp) rfl rfl rfl (hc _ _ _) i [] s5 σ5 H5 X.xe I5 (stat fr5) st5 stop)) λr s6 ⟨hr,I6⟩=>?_;subst hr;show fin I6 qn
  .show thn (tF (T.item (cxC X N' scope s3 H3 fp) rfl rfl rfl (hc _ _ _) i [] s5 σ5 H5 X.xe I5 (stat fr5) st5 go)) λr s6 ⟨u,hr,h6⟩=>?_;subst hr;show thn (tF h6) λ_ s7 ⟨x,H7,I7,r7,y7,st7,fr7⟩=>?_;have I7':=I7.pinned (stat fr7) (T.obj _ _ st7);have again:∀{σ':St}{H':Hp}{s':Shared},Inv (cxC X N' scope s3 H3 fp) ([]++It_ fp s7.heap) σ' H' s'->N σ' H'->∃m,m<n/\∃i σ' H',Inv (cxC X N' scope s3 H3 fp) [] σ' H' s'/\tn i s'.heap/\(∀b∈fp,H' b=none)/\W i m σ' H':=λ{σ' H' s'} J n10=>by obtain⟨m',hm,w10⟩:=hN σ' H' n10;show⟨m',hm,i+1,σ',H',J.unpinned,T.keep _ _ _ st7 λb hb o e=>(J.pin (b,o) (AQ_ _ (AQ_ _ (eG_ hb e)))).1,λb hb=>?_,w10⟩;obtain⟨o,e,d⟩:=T.obj _ _ st7 b hb;show(J.pin (b,o) (AQ_ _ (AQ_ _ (eG_ hb e)))).2.1
   show thn (tF (hg s3 H3 fp _ s7 σ5 H7 x u _ I7' r7 (step x H7 y7))) λ_ s8 ⟨σ8,H8,I8,q8⟩=>?_;show thn (tF (ht s3 H3 fp _ s8 σ8 H8 _ I8 q8)) λok s8' ⟨H8',I8',q8'⟩=>?_;cases ok with
   |false=>show again I8' (by simpa using q8')
   |true =>rw[if_pos rfl]at q8'⊢;show thn (tF (he s3 H3 fp _ s8' σ8 H8' _ I8' q8')) λv s9 ⟨y,H9,I9,r9,xs,hl9,hz9,n9⟩=>?_;show thn (tF (a0_ (X:=cxC X N' scope s3 H3 fp) _ s9 σ8 H9 (.ref s2.heap.objs.size) [y] (.ref s2.heap.objs.size) [v] (λ_ H'=>N σ8 H') I9 rfl (.cons r9 .nil) ⟨xs,hl9,hz9,n9⟩)) λ_ s10 ⟨_,H10,I10,_,n10⟩=>again I10 n10
 show codeAny_compStart_list loop (T.self _ 0 _ _ _ st4 loop)
theorem di_(hc:X.calm=true)(hxe:X.xe=λ_ _=>False)(S:Scp X.env.scope X.N N' ix scope)(hi:PI X tg iter wi)(hg:∀s H ex,PG (cxC X N' scope s H ex) tg g)(ht:∀s H ex,PF (cxC X N' scope s H ex) ifs tt)(he:∀s H ex,PE (cxC X N' scope s H ex) elt te)
  (hs:∀x,foldedSetIterable iter X.env x=pure x:=by intro _;rfl):PE X (.ListComp elt [⟨tg,iter,ifs,0⟩] scope pos) (Jv_ ix wi g tt te):=by
 intro pins s σ H Q I h;rw[eval_ListComp];show Dj_ (use:=none) rfl hs (ge_ λp hp e=>I.ok.has p.1 (S.free p hp e)) S.kind S.names (hl_ (C:=λX=>X.calm=true) (λ_ _ _=>hc) hxe S hi.c hg ht he I h λD C H' s' K1 F ⟨m,hn⟩ q=>?_);show⟨m,hn,λh' sb=>?_⟩;obtain⟨g0,g1,g2,g3,g4,g5⟩:=F;show⟨.ref D,H',K1.turned (t':=s'.toks) (λb o hb e=>sb.extBut b o hb e) g0 g1 g3 g4 g5,rfl,q⟩
theorem hm_{i:Nat}{y:Str}{py spos:Pos}(hc:X.calm=true)(hxe:X.xe=λ_ _=>False)(hN:X.N.Nodup)(hy:X.N[i]?=some y)(hl:X.env.scope.names.lookup y=some .local)
  (hsw:swapsWith (.ListComp elt [⟨tg,iter,ifs,0⟩] scope pos) (some (.Name y py)) spos.line X.env=pure true)
  (S:Scp X.env.scope X.N N' ix scope) (hi:PI X tg iter wi) (hg:∀s H ex,PG (cxC X N' scope s H ex) tg g) (ht:∀s H ex,PF (cxC X N' scope s H ex) ifs tt) (he:∀s H ex,PE (cxC X N' scope s H ex) elt te)
  (hs:∀x,foldedSetIterable iter X.env x=pure x:=by intro _;rfl):PS X (.Assign [.Name y py] (.ListComp elt [⟨tg,iter,ifs,0⟩] scope pos) spos) (K5_ (Jv_ ix wi g tt te) (Ir_ i)):=by
 intro pins s σ H D I h;rw[exec_Assign_Name_used _ _ _ _ hsw];show Ad_ (Dy_ (Ad_ ?_));change wpAny _ X.A (do let _ <-comprehension (.ListComp elt [⟨tg,iter,ifs,0⟩] scope pos) scope X.env _ (newList []) false (eval iter X.env) (some (assign (.Name y py) X.env))) _ _ s
 show Ad_ (Bg_ (Dj_ (use:=some (assign (.Name y py) X.env)) (Q:=λ_ s'=>SP X pins D .next s') rfl hs (ge_ λp hp e=>I.ok.has p.1 (S.free p hp e)) S.kind S.names
  (hl_ (C:=λX=>X.calm=true) (λ_ _ _=>hc) hxe S hi.c hg ht he I h λL C H' s' K1 F ⟨m,hn⟩ q=>?_)) (λ_ s' hq=>AA_ (AA_ hq)) λ_ _ e=>e)
 change wpAny _ X.A (assign (.Name y py) X.env (.ref L)) _ _ _;obtain⟨g0,g1,g2,g3,g4,g5⟩:=F;show wpAny_assign_Name (jR_ K1 hN hy (.inl hl) (v:=.ref L) rfl (λs2 I2 ⟨a,sb,ha⟩=>?_) (.inr hl))
 have hCa:C≠a:=by
  rcases ha with rfl|ha
  .show g1
  .show λz=>g4 _ _ ha z.symm
 show⟨m,hn.sameBut sb hCa,λh' sb'=>?_⟩;show⟨_,H',I2.turned (t':=s2.toks) (λb o hb e=>sb'.extBut b o hb e) g0 g1 g3 g4 g5,q⟩
end
def Ih_(psc:Scope)(PN N':List Str)(ix:List (Option Nat))(scope:Scope):Bool :=
 scope.kind == .function &&
 scope.names.all (λx=>x.2 != .local ||scope.names.lookup x.1 == some .local) &&
 scope.names.all (λx=>x.2 != .free ||scope.names.lookup x.1 == some .free) &&
 scope.names.all (λx=>x.2 != .cell || !scope.names.contains (x.1,NameKind.free)) &&
 scope.names.all (λx=>x.2 != .free ||(psc.names.lookup x.1 == some .cell ||psc.names.lookup x.1 == some .free)) &&
 ix.length == N'.length &&
 (List.range N'.length).all (λj=>match ix[j]?,N'[j]? with|some (some i),some x=>PN[i]? == some x && scope.names.contains (x,NameKind.free)|_,_=>true)
theorem cy_{psc:Scope}{PN:List Str}(h:Ih_ psc PN N' ix scope=true):Scp psc PN N' ix scope:=by
 unfold Ih_ at h;simp only[Cv_,List.all_eq_true,Eq_,Bool.or_eq_true,Fr_,ne_eq,DD_,B6_,AX_]at h;obtain⟨⟨⟨⟨⟨⟨h1,h2⟩,h3⟩,h4⟩,h5⟩,h6⟩,h7⟩:=h;show⟨h1,λx hx e=>(h2 x hx).resolve_left λz=>z e,λx hx e=>(h3 x hx).resolve_left λz=>z e,λx hx e hm=>?_,λx hx e=>(h5 x hx).resolve_left λz=>z e,h6,λj i x e1 e2=>?_⟩
 .have:=(h4 x hx).resolve_left λz=>z e;rw[DD_.mpr hm]at this;cases this
 .have hj:j<N'.length:=(Ai_.mp e1).1;have:=h7 j hj;rw[e1,e2]at this;simp only[Cv_,Eq_,DD_]at this;show this
variable {x:Str}{pos:Pos}{i:Nat}{e:Expr}{te:TE}
theorem pvc(i:Nat)(hN:X.N[i]?=some x:=by rfl) (hv:X.env.scope.names.lookup x=some .cell:=by rfl) (hd:(x == ("__debug__" : Str))=false:=by decide) (hcd:(x == ("__classdict__" : Str))=false:=by decide):PE X (.Name x pos) (Mb_ i):=pA_ hN (.inr (.inl hv)) hd hcd
theorem e7_{pos':Pos}(hN:X.N.Nodup)(hi:X.N[i]?=some x)(hx:X.env.scope.names.lookup x=some .cell)(hf:X.fn x=true)(he:PE X e te)(hs:swapsWith e (some (.Name x pos')) pos.line X.env=pure false):PS X (.Assign [.Name x pos'] e pos) (K5_ te (Ir_ i)):=
 pC_ hN hi (.inr hx) he hs (.inl hf)
theorem gX_(hN:X.N.Nodup)(hi:X.N[i]?=some x)(hx:X.env.scope.names.lookup x=some .cell)(hf:X.fn x=true):PG X (.Name x pos) (Ir_ i):=m2_ hN hi (.inr hx) (.inl hf)
theorem aO_{tg l:Expr}{tl:TE}(hK:X.K=K)(hl:PE X l tl):PI X tg l (J7_ K tl):=hK▸qj_ hl
theorem oF_(hK:X.K=K):IxR X (M5_ K):=hK▸nd_
inductive Dt where
 |non|bl (b:Bool)|int (i:Int)|str (x:Str)|tup (xs:List Dt)|lst (xs:List Dt)
mutual
def Rep(H:Hp):V->Dt->Prop
 |v,.non=>v=.non
 |v,.bl b=>v=.bl b
 |v,.int i=>v=.int i
 |v,.str x=>v=.str x
 |v,.tup ds=>∃p xs,v=.ref p/\H p=some (.tup xs)/\Gt_ H xs ds
 |v,.lst ds=>∃p xs,v=.ref p/\H p=some (.lst xs)/\Gt_ H xs ds
def Gt_(H:Hp):List V->List Dt->Prop
 |xs,[]=>xs=[]
 |xs,d::ds=>∃x r,xs=x::r/\Rep H x d/\Gt_ H r ds
end
mutual
theorem Rep.mono{H H':Hp}(e:F0_ H H'):∀{v:V}(d:Dt),Rep H v d->Rep H' v d
 |v,.non,h=>h
 |v,.bl b,h=>h
 |v,.int i,h=>h
 |v,.str x,h=>h
 |v,.tup ds,⟨p,xs,h1,h2,h3⟩=>⟨p,xs,h1,e _ _ h2,Gt_.mono e ds h3⟩
 |v,.lst ds,⟨p,xs,h1,h2,h3⟩=>⟨p,xs,h1,e _ _ h2,Gt_.mono e ds h3⟩
theorem Gt_.mono{H H':Hp}(e:F0_ H H'):∀{xs:List V}(ds:List Dt),Gt_ H xs ds->Gt_ H' xs ds
 |xs,[],h=>h
 |xs,d::ds,⟨x,r,h1,h2,h3⟩=>⟨x,r,h1,Rep.mono e d h2,Gt_.mono e ds h3⟩
end
mutual
theorem Rep.inj{H:Hp}:∀{v:V}(d e:Dt),Rep H v d->Rep H v e->d=e
 |v,.non,e,h,h'=>by
  cases h;cases e <;> first|rfl|(simp[Rep]at h')
 |v,.bl b,e,h,h'=>by
  cases h;cases e <;> simp[Rep]at h' <;> simp[h']
 |v,.int i,e,h,h'=>by
  cases h;cases e <;> simp[Rep]at h' <;> simp[h']
 |v,.str x,e,h,h'=>by
  cases h;cases e <;> simp[Rep]at h' <;> simp[h']
 |v,.tup ds,e,⟨p,xs,h1,h2,h3⟩,h'=>by
  subst h1;cases e with
  |tup es =>
   obtain⟨p',xs',g1,g2,g3⟩:=h';cases g1;rw[h2]at g2;cases g2;rw[Gt_.inj ds es h3 g3]
  |lst es =>
   obtain⟨p',xs',g1,g2,g3⟩:=h';cases g1;rw[h2]at g2;cases g2
  |_=>simp[Rep]at h'
 |v,.lst ds,e,⟨p,xs,h1,h2,h3⟩,h'=>by
  subst h1;cases e with
  |tup es =>
   obtain⟨p',xs',g1,g2,g3⟩:=h';cases g1;rw[h2]at g2;cases g2
  |lst es =>
   obtain⟨p',xs',g1,g2,g3⟩:=h';cases g1;rw[h2]at g2;cases g2;rw[Gt_.inj ds es h3 g3]
  |_=>simp[Rep]at h'
theorem Gt_.inj{H:Hp}:∀{xs:List V}(ds es:List Dt),Gt_ H xs ds->Gt_ H xs es->ds=es
 |xs,[],es,h,h'=>by
  cases h;cases es with
  |nil=>rfl
  |cons e es=>obtain⟨x,r,g,_⟩:=h';cases g
 |xs,d::ds,es,⟨x,r,h1,h2,h3⟩,h'=>by
  subst h1;cases es with
  |nil=>cases h'
  |cons e es =>obtain⟨x',r',g1,g2,g3⟩:=h';cases g1;rw[Rep.inj d e h2 g2,Gt_.inj ds es h3 g3]
end
theorem Gt_.length{H:Hp}:∀{xs:List V}{ds:List Dt},Gt_ H xs ds->xs.length=ds.length
 |xs,[],h=>by cases h;rfl
 |xs,d::ds,⟨x,r,h1,h2,h3⟩=>by subst h1;simp[Gt_.length h3]
theorem Gt_.get{H:Hp}:∀{xs:List V}{ds:List Dt}{i:Nat}{d:Dt},Gt_ H xs ds->ds[i]?=some d->∃x,xs[i]?=some x/\Rep H x d
 |xs,[],i,d,h,e=>by simp at e
 |xs,d'::ds,0,d,⟨x,r,h1,h2,h3⟩,e=>by
  subst h1;simp at e;subst e;show⟨x,rfl,h2⟩
 |xs,d'::ds,i+1,d,⟨x,r,h1,h2,h3⟩,e=>by subst h1;obtain⟨y,hy,hr⟩:=Gt_.get (i:=i) (d:=d) h3 (by simpa using e);show⟨y,by simpa using hy,hr⟩
theorem Gt_.append{H:Hp}:∀{xs:List V}{ds:List Dt}{ys:List V}{es:List Dt},Gt_ H xs ds->Gt_ H ys es->Gt_ H (xs++ys) (ds++es)
 |xs,[],ys,es,h,g=>by cases h;show g
 |xs,d::ds,ys,es,⟨x,r,h1,h2,h3⟩,g=>by subst h1;show⟨x,r++ys,rfl,h2,Gt_.append h3 g⟩
mutual
def deq:Dt->Dt->Option Bool
 | .non,.non=>some true
 | .bl a,.bl b=>some (a == b)
 | .int a,.int b=>some (a == b)
 | .str a,.str b=>some (a == b)
 | .tup xs,.tup ys=>deqs xs ys
 | .lst xs,.lst ys=>if xs.length=ys.length then deqs xs ys else some false
 |_,_=>none
def deqs:List Dt->List Dt->Option Bool
 |[],[]=>some true
 |x::xs,y::ys=>match deq x y,deqs xs ys with
  |some a,some b=>some (a && b)
  |_,_=>none
 |_,_=>some false
end
mutual
def dep:Dt->Nat
 | .tup ds=>deps ds+1
 | .lst ds=>deps ds+1
 |_=>0
def deps:List Dt->Nat
 |[]=>0
 |d::ds=>max (dep d) (deps ds)
end
def eAt(ds es:List Dt)(j:Nat):Bool:=match ds[j]?,es[j]? with
 |some d,some e=>(deq d e).getD false
 |_,_=>false
theorem b5_:∀(ds es:List Dt)(b:Bool),deqs ds es=some b->((List.range (min ds.length es.length)).all (eAt ds es) && ds.length == es.length)=b
 |[],[],b,h=>by cases h;rfl
 |[],_::_,b,h=>by cases h;simp
 |_::_,[],b,h=>by cases h;simp
 |d::ds,e::es,b,h=>by
  rw[deqs]at h;cases h1:deq d e with
  |none=>rw[h1]at h;cases h
  |some a =>
   cases h2:deqs ds es with
   |none=>rw[h1,h2]at h;cases h
   |some c =>
    rw[h1,h2]at h;cases h;rw[<-b5_ ds es c h2];simp only[A0_,Nat.succ_min_succ,List.range_succ_eq_map,Fy_,List.all_map,Bool.and_assoc];congr 1
    .simp[eAt,h1]
    .congr 1;simp
mutual
theorem jb_:∀(d:Dt)(b:Bool),deq d d=some b->b=true
 | .non,b,h=>by cases h;rfl
 | .bl a,b,h=>by simp[deq]at h;show h
 | .int a,b,h=>by simp[deq]at h;show h
 | .str a,b,h=>by simp[deq]at h;show h
 | .tup xs,b,h=>hn_ xs b h
 | .lst xs,b,h=>by rw[deq,if_pos rfl]at h;show hn_ xs b h
theorem hn_:∀(ds:List Dt)(b:Bool),deqs ds ds=some b->b=true
 |[],b,h=>by cases h;rfl
 |d::ds,b,h=>by
  rw[deqs]at h;cases h1:deq d d with
  |none=>rw[h1]at h;cases h
  |some a =>
   cases h2:deqs ds ds with
   |none=>rw[h1,h2]at h;cases h
   |some c =>rw[h1,h2]at h;cases h;rw[jb_ d a h1,hn_ ds c h2];rfl
end
def Vw(K:PySem.W.Frag)(H J:Hp):Prop:=(∀q xs,J q=some (.tup xs)->SqT K H q xs)/\∀q xs,J q=some (.lst xs)->SqL K H q xs
theorem Vw.refl:Vw K H H:=⟨λ_ _ h=>.inl (.inl h),λ_ _ h=>.inl (.inl h)⟩
mutual
theorem nk_(I:Inv X pins σ H s){J:Hp}(hJ:Vw X.K H J):∀(d e:Dt){A:Around}{x y:V}{u v:Value}{b:Bool},Rep J x d->Rep J y e->Gu_ x u->Gu_ y v->deq d e=some b->A.units+dep d<cLine->SeqAt.EqAt A s u v b
 | .non,e,A,x,y,u,v,b,hx,hy,rx,ry,hb,hu=>by
  cases e <;> first|(cases hb;cases hx;cases hy;cases rx;cases ry;show DK_ _)|(simp[deq]at hb)
 | .bl a,e,A,x,y,u,v,b,hx,hy,rx,ry,hb,hu=>by
  cases e <;> first|(cases hb;cases hx;cases hy;cases rx;cases ry;show Fq_ _ _)|(simp[deq]at hb)
 | .int a,e,A,x,y,u,v,b,hx,hy,rx,ry,hb,hu=>by
  cases e <;> first|(cases hb;cases hx;cases hy;obtain⟨t,rfl⟩:=rx;obtain⟨t',rfl⟩:=ry;show SeqAt.EqAt.int_int _ _ _ _)|(simp[deq]at hb)
 | .str a,e,A,x,y,u,v,b,hx,hy,rx,ry,hb,hu=>by
  cases e <;> first|(cases hb;cases hx;cases hy;obtain⟨t,rfl⟩:=rx;obtain⟨t',rfl⟩:=ry;show D7_ _ _ _ _)|(simp[deq]at hb)
 | .tup ds,e,A,x,y,u,v,b,hx,hy,rx,ry,hb,hu=>by
  cases e with
  |tup es =>
   obtain⟨p,xs,e1,hp,hr⟩:=id hx;obtain⟨q,ys,e2,hq,hs⟩:=id hy;subst e1 e2;cases rx;cases ry;by_cases hpq:p=q
   .subst hpq;have:=Rep.inj _ _ hx hy;cases this;rw[jb_ _ b hb];show DK_ _
   .obtain⟨its,r1,pl1,_⟩:=I.tuple (hJ.1 _ _ hp);obtain⟨its',r2,pl2,_⟩:=I.tuple (hJ.1 _ _ hq);have l1:=r1.length;have l2:=r2.length;have g1:=hr.length;have g2:=hs.length;have hu':A.in1.units+deps ds<cLine:=by have:A.units+(deps ds+1)<cLine:=hu;rw[AY_];lia
    have hb':deqs ds es=some b:=hb;rw[<-b5_ ds es b hb'];have:=SeqAt.RcAt.tuples (e:=eAt ds es) (A:=A) (s:=s) pl1 pl2 (Bz_ (C1_ _ _) hu) (λj h1 h2=>by have:=e8_ I hJ ds es hr hs r1 r2 hb' hu' j (by simpa using h1) (by simpa using h2);simpa using this);simp only[Ao_,<-l1,<-l2,g1,g2]at this;show D8_ hpq this
  |_=>simp[deq]at hb
 | .lst ds,e,A,x,y,u,v,b,hx,hy,rx,ry,hb,hu=>by
  cases e with
  |lst es =>
   obtain⟨p,xs,e1,hp,hr⟩:=id hx;obtain⟨q,ys,e2,hq,hs⟩:=id hy;subst e1 e2;cases rx;cases ry;by_cases hpq:p=q
   .subst hpq;have:=Rep.inj _ _ hx hy;cases this;rw[jb_ _ b hb];show DK_ _
   .obtain⟨its,r1,pl1,_⟩:=I.list (hJ.2 _ _ hp);obtain⟨its',r2,pl2,_⟩:=I.list (hJ.2 _ _ hq);have l1:=r1.length;have l2:=r2.length;have g1:=hr.length;have g2:=hs.length;have hu0:A.units<cLine:=Bz_ (C1_ _ _) hu;have hu':A.in1.units+deps ds<cLine:=by have:A.units+(deps ds+1)<cLine:=hu;rw[AY_];lia
    rw[deq]at hb;by_cases hl:ds.length=es.length
    .rw[if_pos hl]at hb;rw[<-b5_ ds es b hb];have:=SeqAt.RcAt.lists (e:=eAt ds es) (A:=A) (s:=s) pl1.isList pl2.isList (by simp only[Ao_];lia) hu0 (λj h1 h2=>by have:=e8_ I hJ ds es hr hs r1 r2 hb hu' j (by simpa using h1) (by simpa using h2);simpa using this);simp only[Ao_,<-l1,g1]at this;show D8_ hpq ?_;have e3:min ds.length es.length=ds.length:=o_
     rw[e3,hl];simpa[hl]using this
    .rw[if_neg hl]at hb;cases hb;show D8_ hpq (SeqAt.RcAt.lists_lengths pl1.isList pl2.isList (by simp only[Ao_,Fr_,ne_eq];lia) hu0)
  |_=>simp[deq]at hb
theorem e8_(I:Inv X pins σ H s){J:Hp}(hJ:Vw X.K H J):∀(ds es:List Dt){A:Around}{xs ys:List V}{us vs:List Value}{b:Bool},Gt_ J xs ds->Gt_ J ys es->Gn_ xs us->Gn_ ys vs->deqs ds es=some b->A.units+deps ds<cLine ->
  ∀(j:Nat)(h1:j<us.length)(h2:j<vs.length),SeqAt.EqAt A s us[j] vs[j] (eAt ds es j)
 |[],es,A,xs,ys,us,vs,b,hx,hy,rx,ry,hb,hu,j,h1,h2=>by
  cases hx;cases rx;show absurd h1 (DN_ _)
 |d::ds,es,A,xs,ys,us,vs,b,⟨x,r,e1,hd,hr⟩,hy,rx,ry,hb,hu,j,h1,h2=>by
  subst e1;cases es with
  |nil =>
   cases hy;cases ry;show absurd h2 (DN_ _)
  |cons e es =>
   obtain⟨y,r',e2,he,hs⟩:=hy;subst e2;cases rx with
   |cons rx rxs =>
    cases ry with
    |cons ry rys =>
     rw[deqs]at hb;cases g1:deq d e with
     |none=>rw[g1]at hb;cases hb
     |some a =>
      cases g2:deqs ds es with
      |none=>rw[g1,g2]at hb;cases hb
      |some c =>
       have hm:A.units+max (dep d) (deps ds)<cLine:=hu;cases j with
       |zero =>
        have:=nk_ I hJ d e (A:=A) hd he rx ry g1 o_;simpa[eAt,g1]using this
       |succ j =>have:=e8_ I hJ ds es (A:=A) hr hs rxs rys g2 o_ j (by simpa using h1) (by simpa using h2);simpa[eAt]using this
end
def MX_(K:PySem.W.Frag):R2:=λx y H Q=>∃J p q d e b,Vw K H J/\x=.ref p/\y=.ref q/\Rep J x d/\Rep J y e/\deq d e=some b/\dep d<=60/\Q (.bl b) H
theorem pM_(hK:X.K=K)(hu:X.A.units+64<cLine):OpR X (compareOp .Eq) (MX_ K):=by
 subst hK;intro pins s σ H x y v u Q I rx ry h;obtain⟨J,p,q,d,e,b,hJ,e1,e2,hx,hy,hb,hd,k⟩:=h;subst e1 e2;cases rx;cases ry;have fin:EP X pins σ Q (.bool b) s:=⟨.bl b,H,I,rfl,k⟩;cases d with
 |tup ds =>
  cases e with
  |tup es =>
   obtain⟨_,xs,z,hp,hr⟩:=hx;cases z;obtain⟨_,ys,z,hq,hs⟩:=hy;cases z;obtain⟨its,r1,pl1,_⟩:=I.tuple (hJ.1 _ _ hp);obtain⟨its',r2,pl2,_⟩:=I.tuple (hJ.1 _ _ hq);have l1:=r1.length;have l2:=r2.length;have g1:=hr.length;have g2:=hs.length;have hd':deps ds+1<=60:=hd;have hu':X.A.in1.units+deps ds<cLine:=by rw[AY_];lia
   have hb':deqs ds es=some b:=hb;show SeqAt.eq_tupleAt (e:=eAt ds es) pl1 pl2 o_ (λj h1 h2=>by have:=e8_ I hJ ds es hr hs r1 r2 hb' hu' j (by simpa using h1) (by simpa using h2);simpa using this) ?_;simp only[Ao_,<-l1,<-l2,g1,g2];rw[b5_ ds es b hb'];show fin
  |_=>simp[deq]at hb
 |lst ds =>
  cases e with
  |lst es =>
   obtain⟨_,xs,z,hp,hr⟩:=hx;cases z;obtain⟨_,ys,z,hq,hs⟩:=hy;cases z;obtain⟨its,r1,pl1,_⟩:=I.list (hJ.2 _ _ hp);obtain⟨its',r2,pl2,_⟩:=I.list (hJ.2 _ _ hq);have l1:=r1.length;have l2:=r2.length;have g1:=hr.length;have g2:=hs.length;have hd':deps ds+1<=60:=hd;have hu':X.A.in1.units+deps ds<cLine:=by rw[AY_];lia
   rw[deq]at hb;by_cases hl:ds.length=es.length
   .rw[if_pos hl]at hb;show SeqAt.eq_listAt (e:=eAt ds es) pl1.isList pl2.isList (by simp only[Ao_];lia) o_ (λj h1 h2=>by have:=e8_ I hJ ds es hr hs r1 r2 hb hu' j (by simpa using h1) (by simpa using h2);simpa using this) ?_;have e3:=b5_ ds es b hb;have e4:min ds.length es.length=ds.length:=o_
    rw[e4,hl]at e3;simp only[Ey_,Bool.and_true]at e3;simp only[Ao_,<-l1,g1,hl,e3];show fin
   .rw[if_neg hl]at hb;cases hb;show SeqAt.eq_list_lengthsAt pl1.isList pl2.isList (by simp only[Ao_,Fr_,ne_eq];lia) o_ fin
  |_=>simp[deq]at hb
 |_=>simp[Rep]at hx
def Ni_:R2:=λx y H Q=>∃p q d e b,x=.ref p/\y=.ref q/\Rep H x d/\Rep H y e/\deq d e=some b/\dep d<=60/\Q (.bl b) H
theorem nl_(hu:X.A.units+64<cLine):OpR X (compareOp .Eq) Ni_:=λpins s σ H x y v u Q I rx ry ⟨p,q,d,e,b,h⟩=>pM_ rfl hu pins s σ H x y v u Q I rx ry ⟨H,p,q,d,e,b,Vw.refl,h⟩
def Nf_(K:PySem.W.Frag):R2:=λx y H Q=>∃J p q d e b,Vw K H J/\x=.ref p/\y=.ref q/\Rep J x d/\Rep J y e/\deq d e=some b/\dep d<=60/\Q (.bl (!b)) H
theorem pN_(hK:X.K=K)(hu:X.A.units+64<cLine):OpR X (compareOp .NotEq) (Nf_ K):=by
 subst hK;intro pins s σ H x y v u Q I rx ry h;obtain⟨J,p,q,d,e,b,hJ,e1,e2,hx,hy,hb,hd,k⟩:=h;subst e1 e2;cases rx;cases ry;have fin:EP X pins σ Q (.bool (!b)) s:=⟨.bl (!b),H,I,rfl,k⟩;cases d with
 |tup ds =>
  cases e with
  |tup es =>
   obtain⟨_,xs,z,hp,hr⟩:=hx;cases z;obtain⟨_,ys,z,hq,hs⟩:=hy;cases z;obtain⟨its,r1,pl1,_⟩:=I.tuple (hJ.1 _ _ hp);obtain⟨its',r2,pl2,_⟩:=I.tuple (hJ.1 _ _ hq);have l1:=r1.length;have l2:=r2.length;have g1:=hr.length;have g2:=hs.length;have hd':deps ds+1<=60:=hd;have hu':X.A.in1.units+deps ds<cLine:=by rw[AY_];lia
   have hb':deqs ds es=some b:=hb;show SeqAt.RcNeAt.tuples (e:=eAt ds es) pl1 pl2 o_ (λj h1 h2=>by have:=e8_ I hJ ds es hr hs r1 r2 hb' hu' j (by simpa using h1) (by simpa using h2);simpa using this) _ _ _ _ ?_;simp only[Ao_,<-l1,<-l2,g1,g2];rw[b5_ ds es b hb'];show fin
  |_=>simp[deq]at hb
 |lst ds =>
  cases e with
  |lst es =>
   obtain⟨_,xs,z,hp,hr⟩:=hx;cases z;obtain⟨_,ys,z,hq,hs⟩:=hy;cases z;obtain⟨its,r1,pl1,_⟩:=I.list (hJ.2 _ _ hp);obtain⟨its',r2,pl2,_⟩:=I.list (hJ.2 _ _ hq);have l1:=r1.length;have l2:=r2.length;have g1:=hr.length;have g2:=hs.length;have hd':deps ds+1<=60:=hd;have hu':X.A.in1.units+deps ds<cLine:=by rw[AY_];lia
   rw[deq]at hb;by_cases hl:ds.length=es.length
   .rw[if_pos hl]at hb;show SeqAt.RcNeAt.lists (e:=eAt ds es) pl1.isList pl2.isList (by simp only[Ao_];lia) o_ (λj h1 h2=>by have:=e8_ I hJ ds es hr hs r1 r2 hb hu' j (by simpa using h1) (by simpa using h2);simpa using this) _ _ _ _ ?_;have e3:=b5_ ds es b hb;have e4:min ds.length es.length=ds.length:=o_
    rw[e4,hl]at e3;simp only[Ey_,Bool.and_true]at e3;simp only[Ao_,<-l1,g1,hl,e3];show fin
   .rw[if_neg hl]at hb;cases hb;show SeqAt.RcNeAt.lists_lengths pl1.isList pl2.isList (by simp only[Ao_,Fr_,ne_eq];lia) o_ _ _ _ _ fin
  |_=>simp[deq]at hb
 |_=>simp[Rep]at hx
def Na_:R2:=λx y H Q=>∃p q d e b,x=.ref p/\y=.ref q/\Rep H x d/\Rep H y e/\deq d e=some b/\dep d<=60/\Q (.bl (!b)) H
theorem iw_(hu:X.A.units+64<cLine):OpR X (compareOp .NotEq) Na_:=λpins s σ H x y v u Q I rx ry ⟨p,q,d,e,b,h⟩=>pN_ rfl hu pins s σ H x y v u Q I rx ry ⟨H,p,q,d,e,b,Vw.refl,h⟩
variable {h':Heap}
theorem Inv.turnedL{t':Nat}{ch:List Addr}(I:Inv X pins σ H s)(k:∀b o,b∉ch->s.heap.get? b=some o->h'.get? b=some o)(hf:∀b∈ch,IC_ X pins H b):Inv X pins σ H {s with heap:=h',toks:=t'}:=by
 have nit:∀b u,H b=some u->b∉ch:=λb u e z=>by rw[(hf b z).1]at e;cases e
 show I.step (g':=s.gens) (d':=s.drawn) (ch:=ch) (λb hb=>?_) (λb o _ _ hc e _=>k b o hc e) (λb o _ _ hc e _=>⟨o.slots,k b o hc e⟩) (λ_ _ _ _ n=>n)
  (λb o hc e=>⟨o,k b o hc e⟩) (λ_ _ e=>e) (λ_ _ _ e=>e) (λb ps e=>⟨#[],by rw[e];simp⟩) (λm hm=>?_) (λb u e=>?_) I.bare
 .obtain⟨g0,g1,g2,g3,g4,g5⟩:=hf b hb;show⟨g3,g1,g4,g5⟩
 .obtain⟨o,es,ep,ho,r⟩:=hm;show⟨o,es,ep,k _ o (λz=>(hf _ z).2.1 rfl) ho,r⟩
 .show(I.hok b u e).stay (λc v hc q=>k c v ?_ q) (λ_ q=>q) λ_ _ q=>q
  rcases hc with z|z
  .rw[z];show nit b u e
  .show nit c _ z
def Itz(K:PySem.W.Frag)(a b:Addr):It :=
  ⟨λi H=>∃xs ys x y,SqL K H a xs/\SqL K H b ys/\xs[i]?=some x/\ys[i]?=some y,
   λi H v H'=>∃T x y,v=.ref T/\H T=none/\H'=upd H T (.tup [x,y])/\(∀xs,SqL K H a xs->xs[i]?=some x)/\(∀ys,SqL K H b ys->ys[i]?=some y),
   λi H=>∃xs ys,SqL K H a xs/\SqL K H b ys/\(xs.length<=i\/ys.length<=i)⟩
def iZip(K:PySem.W.Frag)(ta:TA):TI:=λσ H R=>ta σ H λvs H1=>∃a b,vs=[.ref a,.ref b]/\(∃xs,SqL K H1 a xs)/\(∃ys,SqL K H1 b ys)/\R (Itz K a b) H1
variable {elts:List Expr}{kt:Nat}{tpos:Pos}
def rSum(K:PySem.W.Frag):List V->Hp->VK->Prop:=λxs H Q=>∃(p:Addr)(ns:List Int),xs=[V.ref p]/\SqL K H p (ns.map V.int)/\Q (.int ns.sum) H
def Kz_:List V->Hp->VK->Prop:=λxs H Q=>∃p ys,xs=[V.ref p]/\(H p=some (.lst ys)\/H p=some (.tup ys))/\∀l,H l=none->Q (.ref l) (upd H l (.lst ys))
theorem gf_:GM_ X (.type "list") Kz_:=by intro pins s σ H xs us Q I r h;obtain⟨p,ys,e,hp,q⟩:=h;show j0_ pins s σ H xs us Q I r ⟨p,ys,e,hp.imp (λz=>.inl (.inl z)) (λz=>.inl (.inl z)),q⟩
theorem bE_{es:List Expr}{t:TA}{p:Pos}{n:String}{r:List V->Hp->VK->Prop}(hc:GM_ X (.type n) r)(hg:Gl X x)(hm:X.mg x=none)(hv:bootBuiltins x=some (.type n))(ha:PA X (e::es) t)(hs:Gg_ (e::es)=true:=by rfl) (hn:x ≠ "__name__" := by decide) (hdb:(x == ("__debug__" : Str))=false:=by decide):
  PE X (.Call (.Name x p) (e::es) [] pos) (tCB r t):=
 have h':GW_ e=true/\Gg_ es=true:=by simpa[Gg_]using hs
 nb_ hc hg hm hv ha hn hdb (ax_ h'.1) (bN_ h'.2)
def H7_(B H:Hp):Hp:=λb=>match B b with|some _=>none|none=>H b
def IB_(B:Hp)(D:Addr)(H:Hp):Hp:=λb=>if b=D then none else H7_ B H b
variable{B:Hp}{b:Addr}
theorem bs_(h:H7_ B H b=some o):B b=none/\H b=some o:=by
 unfold H7_ at h;cases e:B b with
 |some z=>rw[e]at h;cases h
 |none=>rw[e]at h;show⟨rfl,h⟩
theorem cI_(h:B b=none):H7_ B H b=H b:=by unfold H7_;rw[h]
theorem nm_{D:Addr}(h:IB_ B D H b=some o):b≠D/\B b=none/\H b=some o:=by
 unfold IB_ at h;by_cases e:b=D
 .rw[if_pos e]at h;cases h
 .rw[if_neg e]at h;show⟨e,bs_ h⟩
theorem dK_{D:Addr}(e:b≠D)(h:B b=none):IB_ B D H b=H b:=by unfold IB_;rw[if_neg e,cI_ h]
theorem bS_:F0_ (H7_ B H) H:=λb o h=>(bs_ h).2
theorem lT_{D:Addr}:F0_ (IB_ B D H) (H7_ B H):=λb o h=>by obtain⟨h1,h2,h3⟩:=nm_ h;rw[cI_ h2];show h3
theorem ho_{D:Addr}(e:F0_ H H'):F0_ (IB_ B D H) (IB_ B D H'):=λb o h=>by obtain⟨h1,h2,h3⟩:=nm_ h;rw[dK_ h1 h2];show e _ _ h3
theorem j6_(e:F0_ H H'):F0_ (H7_ B H) (H7_ B H'):=λb o h=>by obtain⟨h1,h2⟩:=bs_ h;rw[cI_ h1];show e _ _ h2
theorem lU_{D:Addr}:IB_ B D (upd H D o)=IB_ B D H:=by
 funext b;unfold IB_ H7_;by_cases e:b=D
 .rw[if_pos e,if_pos e]
 .rw[if_neg e,if_neg e,ae_ e]
theorem nn_:H7_ (λ_=>none) H=H:=rfl
theorem c7_{J:It}{g:TG}{te:TE}{σ:St}{H:Hp}{Q:VK}(n:Nat)(B:Hp)(Pσ:St->Prop)(ds:List Dt)(hB:F0_ B H)(h0:Pσ σ)(hlen:ds.length=n)(hz:n<=1000)
  (hgo:∀i H',i<n->F0_ H H'->J.go i H') (hst:∀H',F0_ H H'->J.stop n H')
  (hs:∀D i x d σ' H' H'',H D=none->(∃o,H' D=some o)->F0_ H H'->i<n->ds[i]?=some d->J.yld i H' x H''->Pσ σ'->∀R:St->V->Hp->Prop,
   (∀σ2 v H3,Pσ σ2->F0_ H' H3->Rep (IB_ B D H3) v d->R σ2 v H3)->g x σ' H'' λσ2 H2=>te σ2 H2 λv H3=>R σ2 v H3)
  (hd:∀D H',H D=none->F0_ H H'->Rep (H7_ B H') (.ref D) (.lst ds)->Q (.ref D) H'):Ik_ J g Mc_ te σ H Q:=by
 intro D hD;have hBD:B D=none:=hB.free hD;show⟨λi m σ' H'=>m=n-i/\i<=n/\Pσ σ'/\F0_ H H'/\∃ys,H' D=some (.lst ys)/\Gt_ (IB_ B D H') ys (ds.take i)/\ys.length=i,⟨n,s_,Av_ _,h0,F0_.new hD,[],aa_,rfl,rfl⟩,?_⟩;rintro i m σ' H' ⟨rfl,hi,hp,hs',ys,hys,hr,hl⟩;by_cases hlt:i<n
 .show .inr ⟨hgo i H' hlt hs',λσ2 H2=>Pσ σ2/\F0_ H H2/\∃ys,H2 D=some (.lst ys)/\Gt_ (IB_ B D H2) ys (ds.take (i+1))/\ys.length=i+1,λσ2 H2 ⟨a,b,c⟩=>⟨n-(i+1),o_,rfl,hlt,a,b,c⟩,λx H'' hy=>?_⟩;have hdi:ds[i]?=some ds[i]:=by simp[hlen,hlt]
  simp only[Mc_,if_true];show hs D i x ds[i] σ' H' H'' hD ⟨_,hys⟩ hs' hlt hdi hy hp _ λσ2 v H3 hp2 s3 hv=>?_;show⟨ys,s3 _ _ hys,by rw[hl];show F3_ o_,hp2,(hs'.trans s3).upd hD,ys++[v],aa_,?_,by simp[hl]⟩;rw[lU_];have e:ds.take (i+1)=ds.take i++[ds[i]]:=by rw[Ct_,hdi];rfl
  rw[e];show(Gt_.mono (ho_ s3) _ hr).append ⟨v,[],rfl,hv,rfl⟩
 .have e:i=n:=o_
  subst e;show .inl ⟨hst H' hs',hd D H' hD hs' ⟨D,ys,rfl,?_,?_⟩⟩
  .rw[cI_ hBD];show hys
  .rw[AV_ o_]at hr;show Gt_.mono lT_ _ hr
theorem Gt_.of_get{xs:List V}{ds:List Dt}{x:V}(h:Gt_ H xs ds)(e:xs[i]?=some x):∃d,ds[i]?=some d/\Rep H x d:=by
 have hi:i<xs.length:=(Ai_.mp e).1;have hi':i<ds.length:=by rw[<-h.length];show hi
 obtain⟨y,hy,hr⟩:=h.get (i:=i) (d:=ds[i]) (by simp[hi']);rw[e]at hy;cases hy;show⟨ds[i],by simp[hi'],hr⟩
theorem bk_{X:Cx}{K:PySem.W.Frag}{es:List Expr}{k:Nat}{t:TGs}{n:Nat}{pos:Pos}(hK:X.K=K)(hc:X.calm=true)(h:PGs X es t)
  (hn:(assignEach es X.env).length=n:=by rfl) (hst:(assignEach es X.env).findIdx? (·.1)=none:=by rfl):PG X (.Tuple es k pos) (Me_ K n t):=hK▸rf_ hc h hn hst
def Pl2(h:Heap)(e:Addr):Prop:=∃o vs,h.get? e=some o/\o.data=.fields vs/\vs[2]?=some .none
def HS_(base:Heap)(l:List Env)(e:Addr)(cls a0 fl:Value)(h:Heap):Prop:=base.StaysIn h/\base.get? e=none/\h.FunFrames base l/\h.TracedAtW base e cls a0 fl/\Pl2 h e
abbrev Fly(base:Heap)(l:List Env)(e:Addr)(cls a0:Value)(h:Heap):Prop:=HS_ base l e cls a0 .none h
variable{cls a0 fl:Value}
theorem HS_.there{l:List Env}{e:Addr}(x:HS_ base l e cls a0 fl h):∃ob,h.get? e=some ob/\ob.cls=cls:=x.2.2.2.1.there
variable {M:Model}{E:Value->Shared->Prop}{env:Env}{outer:List Env}{L e:Addr}{Q:Unit->Shared->Prop}
theorem j7_{oe:Obj}{vs:Array Value}{head a0:Value}{hn:Bool}(fr:A.frames=some (env::outer))(ff:s.heap.FunFrames base (env::outer))(ef:env.frame=some L)(he:s.heap.get? e=some oe)(kb:base.StaysIn s.heap)(en:base.get? e=none)
  (hd:oe.data=.fields vs) (sz:1<vs.size) (h0:vs[0]?=some a0) (h2:vs[2]?=some .none) (k:∀g,HS_ base (env::outer) e oe.cls a0 (rawInt L) g->s.heap.UpToSlots g->Q () {s with heap:=g}):
  wpAny M A (do let a <-frameOf env;let pl <-entryPlaceOf L hn;let b <-EntryCells.newEntry head a .none (rawInt L) .none pl;setField (.ref e) 1 b) Q E s:=by
 have out:e∉(env::outer).filterMap (·.frame):=λz=>by obtain⟨_,o,q,nf⟩:=ff.mem z;cases he.symm.trans q;show nf _ hd
 show Ad_ (wpAny_frameOf_fun fr ff ef λg sg=>Ad_ (wpAny_entryPlaceOf λpl hp=>?_));unfold EntryCells.newEntry newFields;show Ad_ (CR_ ?_ (hp.sizeOk5 _ _ _ _ _));generalize hob:({cls:=.type "traceback",dict:=none,data:=.fields ([head,Value.ref L,.none,rawInt L,.none]++(if pl.isEmpty then List.replicate 6 Value.none else pl)).toArray}:Obj)=ob;have ge:g.get? e=some oe:=(sg.2.1 e out).trans he;have Te:g.objs.size≠e:=Di_ (Ap_ ge);have pe:=Ah_ ob ge;show CX_ pe hd sz ?_;have d3:=Dk_ hd (·.setIfInBounds 1 (Value.ref g.objs.size));have e3:=Cj_ (Obj.mapFields (·.setIfInBounds 1 (Value.ref g.objs.size))) pe (DE_ d3);have fo:ob.isFreed=false:=by rw[<-hob];rfl
 have T3:=(A4_ (g.push ob) (Obj.mapFields (·.setIfInBounds 1 (Value.ref g.objs.size))) (Ne.symm Te)).trans (AC_ g fo);have kp:∀b o,b≠e->g.get? b=some o->((g.push ob).update e (Obj.mapFields (·.setIfInBounds 1 (Value.ref g.objs.size)))).get? b=some o:=λb o ne q=>by rw[A4_ _ _ (Ne.symm ne)];show Ah_ ob q
 have nr:∀b o,s.heap.get? b=some o->(∀us,o.data≠.fields us)->b≠e:=λb o q nf z=>by rw[z]at q;cases he.symm.trans q;show nf _ hd
 have kbg:base.StaysIn g:=λb o q=>(sg.2.1 b λz=>by rw[(ff.mem z).1]at q;cases q).trans (kb b o q);have up:s.heap.UpToSlots ((g.push ob).update e (Obj.mapFields (·.setIfInBounds 1 (Value.ref g.objs.size)))):=λb o q nf=>(sg.2.2 b o q).elim λsl z=>⟨sl,kp b _ (nr b o q nf) z⟩;show k _ ⟨λb o q=>kp b o (λz=>by rw[z,en]at q;cases q) (kbg b o q),en,ff.of_keeps λb o q nf=>(up b o q nf).elim λsl z=>⟨_,z,rfl⟩,⟨_,_,g.objs.size,ob,_,e3,⟨Obj.cls_mapFields _ _,?_⟩,d3,?_,kbg.fresh,Te,T3,by rw[<-hob],?_⟩,_,_,e3,d3,?_⟩ up
 .rw[DH_ d_];show h0
 .simp[sz]
 .first|(simp;done)|(rcases hp with rfl|⟨_,_,_,_,_,_,_,rfl⟩ <;> simp)
 .rw[DH_ d_];show h2
theorem lV_{oe:Obj}{vs:Array Value}{a0:Value}(fr:A.frames=some (env::outer))(ef:env.frame=some L)(kb:base.StaysIn s.heap)(en:base.get? e=none)(ff:s.heap.FunFrames base (env::outer))(he:s.heap.get? e=some oe)(hd:oe.data=.fields vs)(h0:vs[0]?=some a0)(h2:vs[2]?=some .none)
  (h1:vs[1]?=some .none\/∃T oT ts,vs[1]?=some (.ref T)/\base.get? T=none/\T≠e/\s.heap.get? T=some oT/\oT.data=.fields ts/\ts[3]?=some .none) (k:∀g,HS_ base (env::outer) e oe.cls a0 (rawInt L) g->s.heap.UpToSlots g->Q () {s with heap:=g}):
  wpAny M A (noteFrame (.ref e) env) Q E s:=by
 unfold noteFrame;simp only[ef]
 rcases h1 with h1|⟨T,oT,ts,h1,nT,Te,hT,dT,h3⟩
 .show Ad_ (Cs_ he hd h1 ?_);rw[if_neg d_];show j7_ fr ff ef he kb en hd (Cl_.mp h1).1 h0 h2 k
 .show Ad_ (Cs_ he hd h1 ?_);rw[if_pos (show(Value.ref T != Value.none)=true by simp)];show Ad_ (Cs_ hT dT h3 ?_);rw[if_neg (show ¬ (Value.none == rawInt L)=true by simp[rawInt])];show Ad_ (CX_ hT dT (Cl_.mp h3).1 ?_);have oth:∀b,b≠T->(s.heap.update T (Obj.mapFields (·.setIfInBounds 3 Value.none))).get? b=s.heap.get? b:=λb hb=>A4_ _ _ (Ne.symm hb);have nr:∀b o,s.heap.get? b=some o->(∀us,o.data≠.fields us)->b≠T:=λb o q nf z=>by rw[z]at q;cases hT.symm.trans q;show nf _ dT
  have up:s.heap.UpToSlots (s.heap.update T (Obj.mapFields (·.setIfInBounds 3 Value.none))):=λb o q nf=>⟨o.slots,(oth b (nr b o q nf)).trans q⟩;show j7_ fr (ff.of_keeps λb o q nf=>⟨o,(oth b (nr b o q nf)).trans q,rfl⟩) ef ((oth e (Ne.symm Te)).trans he) (λb o q=>(oth b λz=>by rw[z,nT]at q;cases q).trans (kb b o q)) en hd (Cl_.mp h1).1 h0 h2 λg x1 x2=>k g x1 (up.trans x2)
theorem fA_{l:List Env}(x:HS_ base l e cls a0 fl s.heap)(k:∀g,Fly base l e cls a0 g->s.heap.UpToSlots g->Q () {s with heap:=g}):wpAny M A (setFlight (.ref e) none) Q E s:=by
 obtain⟨kb,en,ff,⟨oe,vs,T,oT,ts,he,hc,hd,h1,nT,Te,hT,dT,h3⟩,p2⟩:=x;have s3:3<ts.size:=(Cl_.mp h3).1;unfold setFlight;show Ad_ (Cs_ he hd h1 ?_);rw[if_pos (show(Value.ref T != Value.none)=true by simp)];show CX_ hT dT s3 ?_;have oth:∀b,b≠T->(s.heap.update T (Obj.mapFields (·.setIfInBounds 3 ((none:Option Addr).elim Value.none λf=>rawInt f)))).get? b=s.heap.get? b:=λb hb=>A4_ _ _ (Ne.symm hb);have nr:∀b o,s.heap.get? b=some o->(∀us,o.data≠.fields us)->b≠T:=λb o q nf z=>by rw[z]at q;cases hT.symm.trans q;show nf _ dT
 show k _ ⟨λb o q=>(oth b λz=>by rw[z,nT]at q;cases q).trans (kb b o q),en,ff.of_keeps λb o q nf=>⟨o,(oth b (nr b o q nf)).trans q,rfl⟩,⟨oe,vs,T,_,_,(oth e (Ne.symm Te)).trans he,hc,hd,h1,nT,Te,Cj_ _ hT (DE_ (Dk_ dT _)),Dk_ dT _,by simp[s3]⟩,?_⟩ λb o q nf=>⟨o.slots,(oth b (nr b o q nf)).trans q⟩;obtain⟨o,us,z1,z2,z3⟩:=p2;show⟨o,us,(oth e (Ne.symm Te)).trans z1,z2,z3⟩
theorem j8_(fr:A.frames=some (env::outer))(ef:env.frame=some L)(x:Fly base (env::outer) e cls a0 s.heap)(k:∀g,HS_ base (env::outer) e cls a0 (rawInt L) g->s.heap.UpToSlots g->Q () {s with heap:=g}):wpAny M A (noteFrame (.ref e) env) Q E s:=by obtain⟨kb,en,ff,⟨oe,vs,T,oT,ts,he,⟨hc,h0⟩,hd,h1,nT,Te,hT,dT,h3⟩,o,us,z1,z2,z3⟩:=x;subst hc;cases he.symm.trans z1;cases hd.symm.trans z2;show lV_ fr ef kb en ff he hd h0 z3 (.inr ⟨T,oT,ts,h1,nT,Te,hT,dT,h3⟩) k
theorem HS_.less(x:HS_ base (env::outer) e cls a0 fl h):HS_ base outer e cls a0 fl h:=⟨x.1,x.2.1,x.2.2.1.2.2,x.2.2.2⟩
theorem rr_(fr:A.frames=some (env::outer))(ef:env.frame=some L)(x:Fly base (env::outer) e cls a0 s.heap)(k:∀g,Fly base outer e cls a0 g->s.heap.UpToSlots g->Q () {s with heap:=g}):wpAny M A (leaving env (.ref e)) Q E s:=by unfold leaving;show Ad_ (j8_ fr ef x λg y1 y2=>fA_ (s:={s with heap:=g}) y1 λg2 z1 z2=>k g2 z1.less (y2.trans z2))
theorem oG_{h:Heap}{cls:Value}{args:List Value}(fr:A.frames=some (env::outer))(ef:env.frame=some L)(kb:base.StaysIn h)(ff:h.FunFrames base (env::outer))(x:Heap.MadeExcOf h s.heap e cls args)
  (k:∀g t,Fly base outer e cls (.ref t) g->s.heap.UpToSlots g->Q () {s with heap:=g}):wpAny M A (leaving env (.ref e)) Q E s:=by
 obtain⟨t,he,tn,ht⟩:=x.there
 have en:base.get? e=none:=by
  cases q:base.get? e with
  |none=>rfl
  |some o=>have:=kb e o q;rw[x.new]at this;cases this
 unfold leaving;show Ad_ (lV_ fr ef (λb o q=>x.keeps b o (kb b o q)) en (ff.of_keeps λb o q _=>⟨o,x.keeps b o q,rfl⟩) he rfl rfl rfl (.inl rfl) λg y1 y2=>fA_ (s:={s with heap:=g}) y1 λg2 z1 z2=>k g2 t z1.less (y2.trans z2))
def CXR(P:Program)(w:World):CXT:=λouter H s E e s' =>
 ∃(ea:Addr)(C a0:Value)(B:Heap)(H':Hp),e=.ref ea/\s'.os=s.os/\AllBare s'.gens/\Un (frs outer) [] H H' s.heap s'.heap/\HOk P w H' s'.heap /\
  Fly B outer ea C a0 s'.heap/\s.heap.get? ea=none/\(∀b o,s.heap.get? b=some o->b∉frs outer->∃u,B.get? b=some u)/\(∀b o,H' b=some o->∃u,B.get? b=some u)/\E C none H'
theorem Gy_.obj(x:Gy_ P w H h a o):∃u,h.get? a=some u:=by
 cases o with
 |lst xs=>obtain⟨_,_,_,_,e⟩:=x;show⟨_,e⟩
 |tup xs=>obtain⟨_,_,_,ob,e,_⟩:=x;show⟨_,e⟩
 |dK kvs=>obtain⟨_,_,_,_,o,_,_,e,_⟩:=x;show⟨_,e⟩
 |dT kvs=>obtain⟨_,_,_,_,o,_,_,e,_⟩:=x;show⟨_,e⟩
 |set S n=>obtain⟨o,_,_,_,e,_⟩:=x;show⟨_,e⟩
 |ins C dx fs=>obtain⟨_,_,_,e,_⟩:=x;show⟨_,e⟩
 |own y=>show x
 |xd fs=>obtain⟨_,⟨_,_,_,e,_⟩,_⟩:=x;show⟨_,e⟩
 |rng lo hi=>obtain⟨_,_,_,e⟩:=x;show⟨_,e⟩
 |frz ob u=>obtain⟨e,_⟩:=x;show⟨_,e⟩
 |tbl ps=>show⟨_,show h.get? a=some _ from x⟩
 |met f y=>show⟨_,show h.get? a=some _ from x⟩
 |ext φ=>obtain⟨_,e,_⟩:=x;show e
theorem gY_{P:Program}{w:World}{l:List Env}{H H':Hp}{h h1 h2 B:Heap}(u:Un (frs l) [] H H' h h1)(hok:HOk P w H' h1)(s1:B.StaysIn h1)(s2:B.StaysIn h2)(ff:h1.FunFrames B l)(sm:h1.UpToSlots h2)
  (b1:∀b o,h.get? b=some o->b∉frs l->∃u,B.get? b=some u) (b2:∀b o,H' b=some o->∃u,B.get? b=some u):Un (frs l) [] H H' h h2/\HOk P w H' h2:=by
 have same:∀{b o},(∃v,B.get? b=some v)->h1.get? b=some o->h2.get? b=some o:=λ{b o} ⟨v,e⟩ q=>by have:=s1 b v e;rw[q]at this;cases this;show s2 b _ e
 show⟨⟨λb o q n hb hx=>same (b1 b o q hb) (u.keep b o q n hb hx),λb o q n hb hx=>?_,u.free,λb o q hx=>?_,u.tups,u.frzs,u.tbls⟩,λa o e=>?_⟩
 .obtain⟨sl,e⟩:=u.slot b o q n hb hx;obtain⟨_,ob,e2,nf⟩:=ff.mem hb;rw[e]at e2;cases e2;obtain⟨sl',e3⟩:=sm b _ e nf;show⟨sl',e3⟩
 .by_cases hb:b∈frs l
  .obtain⟨_,ob,e2,nf⟩:=ff.mem hb;obtain⟨sl',e3⟩:=sm b _ e2 nf;show⟨_,e3⟩
  .obtain⟨v,e⟩:=b1 b o q hb;show⟨v,s2 b v e⟩
 .show(hok a o e).stay (λb v hb q=>same ?_ q) (λ_ q=>q) λ_ _ q=>q
  rcases hb with rfl|hb
  .show b2 _ _ e
  .show b2 _ _ hb
structure ExC(K:PySem.W.Frag)(C:Addr):Prop where
 obj:∀{h:Heap},K.In h->∃bm N nm q bs hdct sn sub ab col dd k0 k1 k2 k3 k5 mN,h.get? C=some (excClassObj nm q C N bs bm hdct sn sub ab col dd k0 k1 k2 k3 k5 "ValueError.__new__")/\h.Ns N mN/\mN "__init__"=none /\
  OwnTail h [.type "ValueError",.type "Exception",.type "BaseException",.type "object"] bm
theorem rs_{C:Addr}(q:PySem.W.excIn K C [.type "ValueError",.type "Exception",.type "BaseException",.type "object"] "ValueError.__new__"=true):ExC K C:=by
 show⟨λ{h} XI=>?_⟩;unfold PySem.W.excIn at q;split at q
 .rename_i dd cd sl ho;split at q
  .rename_i C' bm k0 k1 k2 k3 n k5 hm hs;simp only[Cv_,Eq_,B6_]at q;obtain⟨⟨⟨⟨⟨q1,q2⟩,q3⟩,q4⟩,q5⟩,q6⟩:=q;subst q1 q2;obtain⟨nm,bs,mro,ns,qn,hd,sn,sub,ab,col,del⟩:=cd
   dsimp only at hm q3 q5 q6
   subst hm q3;have hsl:sl = #[k0,k1,k2,k3,some (.builtin "ValueError.__new__"),k5]:=by obtain⟨l⟩:=sl;show congrArg Array.mk hs
   subst hsl;show⟨bm,ns,nm,qn,bs,hd,sn,sub,ab,col,dd,k0,k1,k2,k3,k5,_,XI _ _ ho,.of_isNs (PySem.W.isNs_of_in XI q5),PySem.W.nsMap_none_of_in XI q5 q6,PySem.W.tail_of_in XI q4⟩
  .cases q
 .cases q
theorem kY_{M:Model}{A:Around}{EE:Value->Shared->Prop}{s:Shared}{env:Env}{fv:Value}{e₀:Expr}{rest:List Expr}{cpos:Pos}{Q:Args->Shared->Prop}(he:starEach (e₀::rest) env=(false,eval e₀ env)::starEach rest env)
  (h:wpAny M A (spliced (backTo cpos (starEach (e₀::rest) env))) (λvs s'=>Q ⟨vs,[]⟩ s') EE s):wpAny M A (evalArgs fv true (backTo cpos (starEach (e₀::rest) env)) []) Q EE s:=by
 rw[he]at h⊢;show C0_ h
def Lb_(C:Addr)(E:XK)(ta:TA):TS:=λ_ σ H=>ta σ H λvs H1=>vs.length<=sizeLine/\E (.ref C) none H1
variable {N:List Str}{qual:Str}{f:Addr}{cd:Value}{s₀:Shared}{H₀:Hp}{E:XK}
theorem oH_{x:Str}{C:Addr}{np cpos pos:Pos}{e₀:Expr}{rest:List Expr}{ta:TA}(OC:ExC K C)(hm:mg x=some (.ref C))(hh:A.handled=none)(hg:Gl (ID_ (CXR P w) P w K mg base N qual scope f cd A outer s₀ H₀ E) x)
  (ha:PA (ID_ (CXR P w) P w K mg base N qual scope f cd A outer s₀ H₀ E) (e₀::rest) ta) (hd:(x == ("__debug__" : Str))=false:=by decide)
  (he:starEach (e₀::rest) (envOfC qual scope s₀.heap.objs.size f cd)=(false,eval e₀ (envOfC qual scope s₀.heap.objs.size f cd))::starEach rest (envOfC qual scope s₀.heap.objs.size f cd):=by rfl)
  (hpl:(backTo cpos (starEach rest (envOfC qual scope s₀.heap.objs.size f cd))).any (·.1)=false:=by rfl):
  PS (ID_ (CXR P w) P w K mg base N qual scope f cd A outer s₀ H₀ E) (.Raise (some (.Call (.Name x np) (e₀::rest) [] cpos)) none pos) (Lb_ C E ta):=by
 intro pins s σ H D I h;obtain⟨bm,Nn,nm,q,bs,hdct,sn,sub,ab,col,dd,k0,k1,k2,k3,k5,mN,hC,hN,hni,TL⟩:=OC.obj I.mod.kin
 show wpAny_Raise_call_subT (C:=C) (nm:=nm) (q:=q) (N:=Nn) (bs:=bs) (bm:=bm) (hdct:=hdct) (sn:=sn) (sub:=sub) (ab:=ab) (col:=col) (dd:=dd) (k0:=k0) (k1:=k1) (k2:=k2) (k3:=k3) (k5:=k5)
  F.excBase_ValueError (mN:=mN) (TL.hasType F.excBase_ValueError.hasBase) hh ?_ hni (hb_ I hg hm ⟨rfl,?_⟩ hd)
 .change(backTo cpos (starEach (e₀::rest) (envOfC qual scope s₀.heap.objs.size f cd))).any (·.1)=false;rw[he];show hpl
 have z:=ha cpos pins s σ H _ I h;show kY_ he (thn z λus s2 ⟨vs,H1,I1,r,hz,hE⟩=>⟨rfl,by rw[<-r.length];show hz,I1.bk _ _ hC,hN.keeps I1.bk,TL.keeps I1.bk,λh' e hx=>?_⟩);have hin:∀env∈(envOfC qual scope s₀.heap.objs.size f cd::outer),∀b,env.frame=some b->b∈frs (envOfC qual scope s₀.heap.objs.size f cd::outer):=λenv he b hb=>BQ_.mpr ⟨env,he,hb⟩;have stk:s2.heap.FunFrames base (envOfC qual scope s₀.heap.objs.size f cd::outer):=I1.stack;have hl:=PySem.W.funFrames_hide stk hin;show oG_ (base:=PySem.W.hideAll s2.heap (frs (envOfC qual scope s₀.heap.objs.size f cd::outer))) I1.ok.frames rfl (λb o q=>D5_ _ q) hl hx λh'' t x1 x4=>?_;have b2:∀b o,H1 b=some o->∃u,(PySem.W.hideAll s2.heap (frs (envOfC qual scope s₀.heap.objs.size f cd::outer))).get? b=some u:=λb o e=>by obtain⟨u,hu⟩:=(I1.hok b o e).obj;show⟨u,DZ_ _ hu λz=>?_⟩;rw[I1.stkFree b z]at e;cases e
 have b1:∀b o,s₀.heap.get? b=some o->b∉frs outer->∃u,(PySem.W.hideAll s2.heap (frs (envOfC qual scope s₀.heap.objs.size f cd::outer))).get? b=some u:=λb o e nb=>by
  obtain⟨u,hu⟩:=I1.base.there b o e (λz=>nomatch z);show⟨u,DZ_ _ hu λz=>?_⟩
  rcases Aq_.mp (I1.stkSub b z)with z|z
  .show absurd z (AJ_ (AM_ (Ap_ e) I1.ok.above))
  .show nb z
 obtain⟨un,ok⟩:=gY_ (l:=outer) I1.base I1.hok (λb o q=>D5_ _ q) x1.1 hl.2.2 ((Heap.UpToSlots.of_keeps hx.keeps).trans x4) b1 b2;show⟨e,.ref C,.ref t,_,H1,rfl,I1.os,I1.bare,un,ok,x1,?_,b1,b2,hE⟩;cases q:s₀.heap.get? e with
 |none=>rfl
 |some o =>obtain⟨u,hu⟩:=I1.base.there e o q (λz=>nomatch z);rw[hx.new]at hu;cases hu
theorem LV_:Ip_ (CXR P w) (ID_ (CXR P w) P w K mg base N qual scope f cd A outer s₀ H₀ E) E:=by
 intro pins σ H s e s' I hh;obtain⟨ea,C,a0,B,H',e0,os,bare,un,hok,fl,new,b1,b2,hE⟩:=hh;subst e0;show rr_ (base:=B) I.ok.frames rfl fl λh'' x1 x2=>?_;obtain⟨un2,ok2⟩:=gY_ (l:=envOfC qual scope s₀.heap.objs.size f cd::outer) un hok fl.1 x1.1 fl.2.2.1 x2 b1 b2;have J:=I.call (h':=h'') (g':=s'.gens) (d':=s'.drawn) (t':=s'.toks) (ch:=[]) un2 ok2 bare (λb z=>nomatch z);show⟨ea,C,a0,B,H',rfl,os.trans I.os,bare,J.base,ok2,x1,?_,λb o e nb=>?_,b2,hE⟩
 .cases q:s₀.heap.get? ea with
  |none=>rfl
  |some o =>obtain⟨u,hu⟩:=I.base.there ea o q (λz=>nomatch z);rw[new]at hu;cases hu
 .obtain⟨u,hu⟩:=I.base.there b o e (λz=>nomatch z);show b1 b u hu λz=>?_
  rcases Aq_.mp (I.stkSub b z)with z|z
  .show absurd z (AJ_ (AM_ (Ap_ e) I.ok.above))
  .show nb z
def JI_(P:Program)(w:World)(K:PySem.W.Frag)(mg:Str->Option Value)(base:Heap)(x:Str)(ps:List Str)(k:Nat)(sp:Sp):Prop :=
 ∃f fd,mg x=some (.ref f)/\PySem.W.keepIn K (.ref f)=true/\Is_ K fd ps []/\Jt_ P w K mg base (CXR P w) k f fd ps sp
theorem kZ_{P:Program}{w:World}{K:PySem.W.Frag}{mg:Str->Option Value}{base:Heap}{x:Str}{st:Stmt}{N ps:List Str}{k:Nat}{sp:Sp}(F:Fn0 K mg x st)(S:F8_ N ps (F1_ st))
  (hb:∀(kV doc pm:Value)(an:Option Addr)(cdv ct:Value)(us:List Value),us.length=ps.length->bindArgs (PySem.W.fnOf x x (Hj_ st) (GL_ st) (F1_ st) .none kV doc pm an cdv ct) ⟨us,[]⟩=pure (ps.zip us))
  (len:∀vs H Q E,sp vs H Q E->vs.length=ps.length)
  (hbody:∀(f:Addr)(cdv:Value)(A:Around)(outer:List Env)(s:Shared)(H:Hp)(vs:List V)(Q:VK)(E:XK),Hx_ k (A.deeper (envOfC x (F1_ st) s.heap.objs.size f cdv))->sp vs H Q E ->
   ∃t,PSs (ID_ (CXR P w) P w K mg base N x (F1_ st) f cdv A outer s H E) (GL_ st) t/\t {nx:=λ_ H'=>Q .non H',rt:=Q} (start N vs) H):JI_ P w K mg base x ps (k+1) sp:=by
 obtain⟨f,fd,F,m⟩:=F;show⟨f,fd,m,F.kp,F.binds hb,?_⟩;obtain⟨oc,od,kV,doc,pm,an,cdv,ct,osl,rfl,lk,hcd⟩:=F.ex;show LW_ lk hcd S len λA outer s H vs Q E hr hsp=>hbody f cdv A outer s H vs Q E hr hsp
abbrev Cx.suite(X:Cx)(e:Value):Cx:={X with A:=X.A.mark (some e),calm:=false,xe:=λ_ _=>False}
variable {σ:List (Option V)}
theorem Inv.suite(I:Inv X pins σ H s)(e:Value):Inv (X.suite e) pins σ H s :=
 ⟨⟨I.ok.mod,I.ok.kind,I.ok.glob,I.ok.blt,I.ok.above,I.ok.inj,I.ok.has,I.ok.cab,(λz=>nomatch z),I.ok.frames,I.ok.stk,I.ok.exf,I.ok.bs,I.ok.bsz,I.ok.noex,I.ok.exfs,I.ok.funs,I.ok.frf⟩,I.os,I.bare,I.base,I.loc,I.cell,I.free,I.freeC,I.pin,I.hok,I.len⟩
theorem Inv.unsuite{e:Value}(J:Inv (X.suite e) pins σ H s)(ok:X.Ok):Inv X pins σ H s:=⟨ok,J.os,J.bare,J.base,J.loc,J.cell,J.free,J.freeC,J.pin,J.hok,J.len⟩
def exO(C:Value)(a:Addr):HO:=.ext λh=>∃o,h.get? a=some o/\o.cls=C
theorem rt_{fs:List Addr}{h2:Heap}{ea:Addr}{C:Value}(u:Un fs [] H H' h h2)(hok:HOk P w H' h2)(new:h.get? ea=none)(hn:H' ea=none)(hob:∃o,h2.get? ea=some o/\o.cls=C):
  Un fs [] H (upd H' ea (exO C ea)) h h2/\HOk P w (upd H' ea (exO C ea)) h2:=by
 have ne:∀{b o},H' b=some o->b≠ea:=λ{b o} q z=>by rw[z,hn]at q;cases q
 have ne':∀{b o},h.get? b=some o->b≠ea:=λ{b o} q z=>by rw[z,new]at q;cases q
 show⟨⟨u.keep,u.slot,λb o q n hx=>?_,u.there,λb xs q=>?_,λb o v q=>?_,λb ps q=>?_⟩,λb o q=>?_⟩
 .rw[ae_ (ne' q)];show u.free b o q n hx
 .have z:=u.tups b xs q;rw[ae_ (ne z)];show z
 .have z:=u.frzs b o v q;rw[ae_ (ne z)];show z
 .obtain⟨m,z⟩:=u.tbls b ps q;show⟨m,by rw[ae_ (ne z)];show z⟩
 .by_cases e:b=ea
  .subst e;rw[aa_]at q;cases q;obtain⟨ob,e1,e2⟩:=hob;show⟨⟨ob,e1,e2⟩,⟨ob,e1⟩,λh1 h2 ⟨o,a,c⟩ k=>⟨o,k o a,c⟩⟩
  .rw[ae_ e]at q;show(hok b o q).stay (λ_ _ _ z=>z) (λc z=>by rw[ae_ (ne z)];show z) λc xs z=>by rw[ae_ (ne z)];show z
theorem jc_{M:Model}{A:Around}{EE:Value->Shared->Prop}{n:Str}{pos:Pos}{i:Nat}{Q:Unit->Shared->Prop}(I:Inv X pins σ H s)(hN:X.N.Nodup)(hi:X.N[i]?=some n)(hk:X.env.scope.names.lookup n=some .local)
  (h:∀s',Inv X pins (σ.set i none) H s'->Q () s'):wpAny M A (do bindName X.env n .none;unbindBehindTheSuite X.env n pos) Q EE s:=by
 obtain⟨m,hn,hl⟩:=id I.loc;have hcls:(X.env.scope.kind == .class ||(X.env.scope.kind == .module && X.env.locals != X.env.globals))=false:=by rw[I.ok.kind];rfl
 have hiσ:i<σ.length:=by rw[I.len];show(Ai_.mp hi).1
 have cne:=I.cne;show wpAny_nameGoes_keeps hk hn hcls λh' v hn' hs=>?_;obtain⟨oL,_,_,hoL,_⟩:=id hn;have old:∀{b o},X.s₀.heap.get? b=some o->h'.get? b=s.heap.get? b:=λ{b o} e=>hs.2 b (AJ_ (AM_ (Ap_ e) I.ok.above));show h _ ⟨I.ok,I.os,I.bare,⟨λb o e n hb hx=>(old e).trans (I.base.keep b o e n hb hx),λb o e n hb hx=>?_,I.base.free,λb o e hx=>?_,I.base.tups,I.base.frzs,I.base.tbls⟩,⟨_,hn',λj y v' e1 e2 e3=>?_⟩,λy c e=>?_,I.free,I.freeC,λp hp=>?_,λb ob e=>?_,by simpa using I.len⟩
 .obtain⟨sl,e1⟩:=I.base.slot b o e n hb hx;show⟨sl,(old e).trans e1⟩
 .obtain⟨o',e1⟩:=I.base.there b o e hx;show⟨o',(old e).trans e1⟩
 .by_cases hj:j=i
  .subst hj;rw[Cd_ hiσ]at e2;cases e2
  .rw[Cn_ (Ne.symm hj)]at e2;obtain⟨u',r',q⟩:=hl j y v' e1 e2 e3;show⟨u',r',?_⟩
   rcases q with⟨k,e⟩|⟨k,c,e,z⟩
   .show .inl ⟨k,?_⟩;have:y≠n:=λe=>hj (i0_ hN e1 (e▸hi));simp[this,e]
   .show .inr ⟨k,c,e,z.sameBut hs (cne y c e)⟩
 .obtain⟨w',z⟩:=I.cell y c e;show⟨w',z.sameBut hs (cne y c e)⟩
 .obtain⟨e,n,ne,nf,d⟩:=I.pin p hp;show⟨(hs.2 p.1 ne).trans e,n,ne,nf,d⟩
 .show(I.hok b ob e).stay (λc w' hc q=>(hs.2 c ?_).trans q) (λ_ q=>q) λ_ _ q=>q;intro z;have z2:=I.free;rw[<-z]at z2
  rcases hc with hc|hc
  .rw[hc,e]at z2;cases z2
  .rw[hc]at z2;cases z2
structure HnC(K:PySem.W.Frag)(C:Addr):Prop where
 ty:PySem.W.typeIn K (.ref C)=some (.type "type")
 cl:(PySem.W.clsIn K C).isSome=true
 ex:PySem.W.mroIn K C (.type "BaseException")=some true
theorem gA_{C:Addr}(X:K.In h)(e:(PySem.W.clsIn K C).isSome=true):PySem.W.Looks M h (isType (.ref C)) true:=by
 unfold PySem.W.clsIn at e;split at e
 .rename_i ho;intro A' Q' E' s' k q;unfold isType loadHead;show Ad_ (wpAny_loadPart (k _ _ (X _ _ ho)) (AA_ q))
 .cases e
theorem k0_{K:PySem.W.Frag}{prog:Program}{w:World}{A:Around}{EE:Value->Shared->Prop}{s:Shared}{ea C Py:Addr}{Q:Bool->Shared->Prop}(X:K.In s.heap)(HC:HnC K Py)(hsub:PySem.W.mroIn K C (.ref Py)=some true)
  (ho:∃o,s.heap.get? ea=some o/\o.cls=.ref C) (h:Q true s):wpAny (model prog w) A (excMatches (.ref ea) (.ref Py)) Q EE s:=by
 obtain⟨hh,g,d,t,os⟩:=s;obtain⟨ob,ho,hc⟩:=ho;have L1:=PySem.W.looks_typeIn (M:=model prog w) X HC.ty;have L2:=gA_ (M:=model prog w) X HC.cl;have L3:=Da_ (M:=model prog w) X HC.ex;have L4:PySem.W.Looks (model prog w) hh (typeOf (.ref ea)) (.ref C):=hc▸(PySem.W.Looks.ld ho).andThen .now;have L5:=Da_ (M:=model prog w) X hsub;have L6:PySem.W.Looks (model prog w) hh (isSubtype (.type "type") (.type "tuple")) false:=PySem.W.Looks.of_pure tc_notTuple;unfold excMatches isInstance isExcClass
 repeat lk
 show h
def If_.unb(D:If_)(i:Nat):If_:={nx:=λσ H=>D.nx (σ.set i none) H,rt:=D.rt,bk:=λσ H=>D.bk (σ.set i none) H,ct:=λσ H=>D.ct (σ.set i none) H}
def MS_(K:PySem.W.Frag)(Py:Addr)(sp:Sp)(ta:TA)(i:Nat)(ts:TS):TS:=λD σ H=>ta σ H λvs H1=>sp vs H1 (λ_ _=>False) λc _ H2 =>∃C,c=.ref C/\PySem.W.mroIn K C (.ref Py)=some true/\∀ea,H2 ea=none->ts (D.unb i) (σ.set i (some (.ref ea))) (upd H2 ea (exO (.ref C) ea))
theorem mD_{X:Cx}{x:Str}{ps:List Str}{k:Nat}{sp:Sp}{E:XK}{e₀:Expr}{es:List Expr}{ta:TA}{p cpos:Pos}{pins:List (Addr×Obj)}{σ:St}{H:Hp}{s:Shared}{EE:Value->Shared->Prop}{Q:Value->Shared->Prop}
  (C:JI_ X.prog X.w X.K X.mg X.base x ps k sp) (hr:Hx_ k X.A) (hg:Gl X x) (ha:PA (X.wish EE) (e₀::es) ta) (I:Inv X pins σ H s) (h:ta σ H λvs H1=>sp vs H1 (λ_ _=>False) E)
  (hE:∀H1 s1 e s',Inv X pins σ H1 s1->CXR X.prog X.w X.stack H1 s1 E e s'->EE e s') (hdb:(x == ("__debug__" : Str))=false) (he:starEach (e₀::es) X.env=(false,eval e₀ X.env)::starEach es X.env) (hpl:(backTo cpos (starEach es X.env)).any (·.1)=false):
  wpAny (model X.prog X.w) X.A (eval (.Call (.Name x p) (e₀::es) [] cpos) X.env) Q EE s:=by
 obtain⟨f,fd,hm,hkp,hb,F⟩:=C;show Ch_ (hb_ I hg hm ?_ hdb);show PySem.W.callWith_K (h₀:=X.base) I.ok.mod.kin hkp ?_ he hpl;have z:=ha cpos pins s σ H _ (I.wish EE) h;show thn z λus s1 z1=>?_;obtain⟨vs,H1,I1,r,q⟩:=z1;show⟨I1.kIn,?_⟩
 replace I1:Inv X pins σ H1 s1:=I1.unwish
 have r2:Gn_ (vs++[]) (us++[]):=r.append .nil;have q2:sp (vs++[]) H1 (λ_ _=>False) E:=by rw[AR_];show q
 have hl:(us++[]).length=ps.length:=by rw[<-r2.length];show F.len _ _ _ _ q2
 show Fp_ (Ev_ (F.run X.A X.stack s1 H1 ⟨us,[]⟩ (us++[]) (vs++[]) _ _ hr I1.env0 (hb s1 us I1.kIn hl) r2 q2) λres s' hq=>?_);cases res with
 |ok fl =>
  cases fl with
  |ret u=>obtain⟨_,_,_,_,_,_,_,z⟩:=hq;show z.elim
  |next=>show False.elim hq
  |brk=>show False.elim hq
  |cont=>show False.elim hq
 |error e=>show hE H1 s1 e s' I1 hq
abbrev calmed(A:Around):Around:={A with handled:=none}
theorem fB_:bootBuiltins "ValueError"=some (.type "ValueError"):=r_
section
variable {ps:List Str}{k:Nat}{sp:Sp}{e:Expr}{es:List Expr}{t:TA}{p:Pos}
theorem lW_(C:JI_ X.prog X.w X.K X.mg X.base x ps k sp)(hr:Hx_ k X.A)(hx:Ip_ (CXR X.prog X.w) X E)(hg:Gl X x)(ha:PA X (e::es) t)(hs:Gg_ (e::es)=true:=by rfl) (hdb:(x == ("__debug__" : Str))=false:=by decide):
  PE X (.Call (.Name x p) (e::es) [] pos) (JJ_ sp [] E t):=by
 obtain⟨f,fd,m,kp,b,F⟩:=C;have h':GW_ e=true/\Gg_ es=true:=by simpa[Gg_]using hs
 show na_ F hr hg m kp b .nil hx ha hdb (ax_ h'.1) (bN_ h'.2)
end
structure K3_(K:PySem.W.Frag)(C:Addr):Prop where
 cl:(PySem.W.clsIn K C).isSome=true
 ga:PySem.W.findIn K (.ref C) "__getattribute__"=some (some (.builtin "BaseException.__getattribute__"))
 gh:PySem.W.findIn K (.ref C) "__getattr__"=some none
 at_:PySem.W.findIn K (.ref C) "__class__"=some (some (.builtin "object.__class__"))
 get:PySem.W.specialIn K (.builtin "object.__class__") "__get__"=some (some (.builtin "getset_descriptor.__get__"))
 set:PySem.W.takesIn K (.builtin "object.__class__")=some true
 obj:PySem.W.mroIn K C (.type "object")=some true
 exc:PySem.W.mroIn K C (.type "BaseException")=some true
def KK_(x:Addr)(D:Value)(h:Heap):Prop:=∃o,h.get? x=some o/\o.cls=D
theorem KK_.ty{x:Addr}{D:Value}(p:KK_ x D h):PySem.W.Looks M h (typeOf (.ref x)) D:=by obtain⟨o,h1,h2⟩:=p;show h2▸(PySem.W.Looks.ld h1).andThen .now
theorem oI_{x D:Addr}{tp:Value}(KE:K3_ K D)(X:K.In s.heap)(p:KK_ x (.ref D) s.heap)(h:R (.ok (.ret (.ref D))) s):
  codeAny (model prog w) A (.call (.builtin "getset_descriptor.__get__") ⟨[.builtin "object.__class__",.ref x,tp],[]⟩) R s:=by
 obtain⟨hp,gs,dr,tks,oss⟩:=s;have T0:=p.ty (M:=model prog w);have T6:=Da_ (M:=model prog w) X KE.obj;show Fs_ PySem.W.KF.slot_gs.plain PySem.W.KF.entry_gs (PySem.W.KF.slot_gs.check _ _ _ _ _ _ _ _ PySem.W.KF.type_class (PySem.W.KF.args_gs _ _ _) ?_);unfold Builtin.«getset_descriptor.__get__» Builtin.Getset_descriptor.descrGet;rw[PySem.W.dga_obj];show Ad_ (AA_ ?_);unfold Builtin.Getset_descriptor.descrGetter Builtin.Getset_descriptor.descrCheckInstance Builtin.Getset_descriptor.descrNameAndClass isInstance;simp only[PySem.W.KF.owner_class]
 repeat lk
 show⟨Code.quiet_builtin _ r_,De_ PySem.W.KF.entry_class ?_⟩;unfold Builtin.«object.__class__»;unfold shownTypeOf
 repeat lk
 show h
theorem oJ_{x D:Addr}{tk:Tok}(KE:K3_ K D)(X:K.In s.heap)(p:KK_ x (.ref D) s.heap)(h:R (.ok (.ret (.ref D))) s):
  codeAny (model prog w) A (.call (.builtin "BaseException.__getattribute__") ⟨[.ref x,.str "__class__" tk],[]⟩) R s:=by
 obtain⟨hp,gs,dr,tks,oss⟩:=s;have T0:=p.ty (M:=model prog w);have T3:=DO_ (M:=model prog w) X KE.at_;have T4:=PySem.W.looks_specialIn (M:=model prog w) X KE.get;have T5:=PySem.W.looks_takesIn (M:=model prog w) X KE.set;have T7:=Da_ (M:=model prog w) X KE.exc;have kd:builtinKind "BaseException.__getattribute__"=some .slot:=r_
 have spl:splitId "BaseException.__getattribute__"=some ("BaseException","__getattribute__"):=r_
 have ha:=F.args_bexc_ga (.ref x) (.str "__class__" tk);show Fs_ F.excAttr_ValueError.ga.plain F.entry_bexc_ga ?_;simp only[checkBuiltinCall,kd,spl];unfold isInstance
 repeat (first|with_reducible show Fp_ (oI_ KE X p ?_)|lk)
 show h
theorem no_{EE:Value->Shared->Prop}{x D:Addr}{Q:Option Value->Shared->Prop}(KE:K3_ K D)(X:K.In s.heap)(p:KK_ x (.ref D) s.heap)(h:Q (some (.ref D)) {s with toks:=s.toks+1}):
  wpAny (model prog w) A (getAttr? (.ref x) "__class__") Q EE s:=by
 obtain⟨hp,gs,dr,tks,oss⟩:=s;have T0:=p.ty (M:=model prog w);have T1:=DO_ (M:=model prog w) X KE.ga;have T2:=DO_ (M:=model prog w) X KE.gh;have f3:=F.excAttr_ValueError.ga.bind (.ref x);have f5:(Value.builtin "BaseException.__getattribute__"== Value.builtin "object.__getattribute__")=false:=r_
 have f4:¬ (onTheHeap (Value.ref D) && Value.builtin "BaseException.__getattribute__"== Value.builtin "object.__getattribute__")=true:=by rw[f5,Bool.and_false];show AD_
 unfold getAttr? getAttrBy? getAttrBy;show Ad_ (wpAny_mkText (Ad_ (Dz_ ?_)));show Bh_ (Ad_ (T0.at (Ad_ (T1.at ?_))))
 dsimp only
 rw[if_neg f4];unfold getAttrByItsOwn;show Ad_ ?_;change wpAny _ _ (typeLookup (Value.ref D) "__getattr__") _ _ _;show T2.at ?_;show Ad_ (Dz_ (Bh_ ?_));change wpAny _ _ (boundAndCalled _ _ _) _ _ _;unfold boundAndCalled;rw[f3];show Ad_ (AA_ ?_);show Fp_ (oJ_ KE X p ?_);show AA_ ?_;show AA_ h
theorem jd_{x D:Addr}(KE:K3_ K D):PySem.W.KitX K (.ref x) (.ref D) (KK_ x (.ref D)) where
 ty:=λ_ _ _ p=>p.ty
 it:=λ_ _ X _=>gA_ X KE.cl
 ne:=λh tp dd its n sl X htp=>by
  show Bool.eq_false_iff.mpr λq=>?_;have e:D=tp:=Value.ref.inj (Eq_.mp q);subst e;have c:=KE.cl;unfold PySem.W.clsIn at c;split at c
  .rename_i ho;have z:=(X _ _ ho).symm.trans htp;cases z
  .cases c
 ca:=λX p k=>no_ KE X p k
def Lw_(K:PySem.W.Frag):List V->Hp->VK->Prop:=λxs H Q=>∃(ea C:Addr)(c:V)(b:Bool),xs=[.ref ea,c]/\H ea=some (exO (.ref C) ea)/\K3_ K C /\
 ((∃T,c=.ty T/\PySem.W.kitOne K (.ref C) (.type T)=some b)\/(∃D,c=.ref D/\PySem.W.kitOne K (.ref C) (.ref D)=some b)\/∃(tp:Addr)(ys:List Addr),c=.ref tp/\H tp=some (.tup (ys.map V.ref))/\PySem.W.kitAny K (.ref C) (ys.map Value.ref)=some b)/\Q (.bl b) H
theorem j9_:∀{ys:List Addr}{us:List Value},Gn_ (ys.map V.ref) us->us=ys.map Value.ref
 |[],_,.nil=>rfl
 |y::ys,_,.cons r q=>by
  cases(show _=Value.ref y from r);rw[j9_ q];rfl
theorem do_(hK:X.K=K):GM_ X (.builtin "isinstance") (Lw_ K):=by
 subst hK;intro pins s σ H xs us Q I r h;obtain⟨ea,C,c,b,rfl,he,KE,hc,q⟩:=h;obtain⟨u,w',rfl,rx,ry⟩:=HG_ r;cases(show u=Value.ref ea from rx);have ob:KK_ ea (.ref C) s.heap:=(I.hok ea _ he).1;have fin:∀tk,EP X pins σ Q (.bool b) {s with toks:=tk}:=λtk=>⟨.bl b,H,I.tok tk,rfl,q⟩
 rcases hc with⟨T,rfl,e⟩|⟨D,rfl,e⟩|⟨tp,ys,rfl,ht,e⟩
 .cases(show w'=Value.type T from ry);show PySem.W.kia_one (jd_ KE) I.kIn ob e (by intro z;cases z) fin
 .cases(show w'=Value.ref D from ry);show PySem.W.kia_one (jd_ KE) I.kIn ob e (by intro z;cases z) fin
 .cases(show w'=Value.ref tp from ry);obtain⟨its,rr,⟨⟨c0,dd,dt,sl⟩,ho,hc,n,hd⟩,hz⟩:=I.tuple (xs:=ys.map V.ref) (.inl (.inl ht))
  dsimp only at hc hd
  subst hc hd;rw[j9_ rr]at ho;show PySem.W.kia_tup (jd_ KE) I.kIn ob ho e (by intro z;cases z) fin
def Mj_(i j k:Nat)(ta:TA):TS:=λD σ H=>ta σ H λvs H1=>∃v w y,vs=[v,w,y]/\D.nx (((σ.set i (some v)).set j (some w)).set k (some y)) H1
def Itd(hi:Int)(n:Nat):It:=⟨λi _=>i<n,λi H x H'=>H'=H/\x=.int (hi-i),λi _=>n<=i⟩
def Mp_(ta:TA):TI:=λσ H R=>ta σ H λvs H1=>∃i j:Int,vs=[.int i,.int j,.int (-1)]/\(0<=j/\j<=i/\i<2 ^ 30)/\R (Itd i (i-j).toNat) H1
def Nb_:V->Option Int->Option Int->Hp->VK->Prop:=λx lo hi H Q=>∃a xs,x=.ref a/\H a=some (.lst xs)/\∀p,H p=none->Q (.ref p) (upd H p (.lst (IE_ xs lo hi)))
theorem gZ_:SlR X Nb_:=by intro pins s σ H x v vl vu lo hi sl Q I rx hs pl pu h;obtain⟨a,xs,e,hx,q⟩:=h;show ql_ pins s σ H x v vl vu lo hi sl Q I rx hs pl pu ⟨a,xs,e,.inl (.inl hx),q⟩
theorem oK_(xs:List V)(k:Nat)(h:k<=xs.length):IE_ xs (some (k:Int)) none=xs.drop k:=by unfold IE_;rw[HT.sIx_nat,HT.sIx_none,Ck_ h];show AV_ s_
theorem np_(xs:List V)(k:Nat)(h:k<=xs.length):IE_ xs none (some (k:Int))=xs.take k:=by unfold IE_;rw[HT.sIx_nat,HT.sIx_none,Ck_ h];simp
theorem oL_{body:List Stmt}{h₀:ExceptHandler}{hs:List ExceptHandler}{t:TS}(hb:∀EE,PSs (X.wish EE) body t):PS X (.Try body (h₀::hs) [] [] pos) t:=by
 intro pins s σ H D I h;show wpAny_Try_except (Bg_ (hb (λ_ _=>False) pins s σ H D (I.wish _) h) (λf s1 q=>?_) λ_ _ x=>x.elim);have q':=SP.unwish q;cases f with
 |next=>show CH_ q'
 |brk=>show q'
 |cont=>show q'
 |ret u=>show q'
theorem oM_{J:It}{g:TG}{tt:TT}{te:TE}{σ:St}{H:Hp}{Q:VK}(n:Nat)(Pσ:St->Prop)(bs:Nat->Bool)(val:Nat->V)(h0:Pσ σ)(hz:n<=1000)(hgo:∀i H',i<n->F0_ H H'->J.go i H')(hst:∀H',F0_ H H'->J.stop n H')
  (hs:∀D i x σ' H' H'',H D=none->(∃o,H' D=some o)->F0_ H H'->i<n->J.yld i H' x H''->Pσ σ'->∀(Y:St->V->Hp->Prop)(R:St->Hp->Prop),(bs i=true->∀σ2 H3,Pσ σ2->F0_ H' H3->Y σ2 (val i) H3)->(bs i=false->∀σ2 H3,Pσ σ2->F0_ H' H3->R σ2 H3) ->
   g x σ' H'' λσ2 H2=>tt σ2 H2 λb H3=>if b=true then te σ2 H3 λv H4=>Y σ2 v H4 else R σ2 H3)
  (hd:∀D H',H D=none->F0_ H H'->H' D=some (.lst (((List.range n).filter bs).map val))->Q (.ref D) H'):Ik_ J g tt te σ H Q:=by
 intro D hD;show⟨λi m σ' H'=>m=n-i/\i<=n/\Pσ σ'/\F0_ H H'/\H' D=some (.lst (((List.range i).filter bs).map val)),⟨n,s_,Av_ _,h0,F0_.new hD,aa_⟩,?_⟩;rintro i m σ' H' ⟨rfl,hi,hp,hs',hDD⟩;by_cases hlt:i<n
 .show .inr ⟨hgo i H' hlt hs',λσ2 H2=>Pσ σ2/\F0_ H H2/\H2 D=some (.lst (((List.range (i+1)).filter bs).map val)),λσ2 H2 ⟨a,b,c⟩=>⟨n-(i+1),o_,rfl,hlt,a,b,c⟩,λx H'' hy=>?_⟩;show hs D i x σ' H' H'' hD ⟨_,hDD⟩ hs' hlt hy hp _ _ (λhb σ2 H3 hp2 s3=>?_) λhb σ2 H3 hp2 s3=>?_
  .show⟨_,s3 _ _ hDD,?_,hp2,(hs'.trans s3).upd hD,?_⟩
   .rw[Aa_];have:=Bj_ bs (List.range i);rw[Bx_]at this;show F3_ o_
   .rw[aa_,BA_,A5_,As_];simp[hb]
  .show⟨hp2,hs'.trans s3,?_⟩;rw[BA_,A5_,As_];have e:[i].filter bs=[]:=by simp[hb]
   rw[e,Cu_,AR_];show s3 _ _ hDD
 .have e:i=n:=o_
  subst e;show .inl ⟨hst H' hs',hd D H' hD hs' hDD⟩
def grow(S H H':Hp):Hp:=λb=>match H b with|some _=>S b|none=>H' b
variable{S:Hp}
theorem eJ_(h:H b=some o):grow S H H' b=S b:=by unfold grow;rw[h]
theorem je_(h:H b=none):grow S H H' b=H' b:=by unfold grow;rw[h]
theorem cJ_(s:F0_ S H):F0_ S (grow S H H'):=λb o h=>by rw[eJ_ (s _ _ h)];show h
theorem jf_(s:F0_ S H)(t:F0_ H H'):F0_ (grow S H H') H':=λb o h=>by
 unfold grow at h;cases e:H b with
 |some z=>rw[e]at h;show t _ _ (s _ _ h)
 |none=>rw[e]at h;show h
theorem cC_(s:F0_ S H)(h:S a=none):F0_ S (upd H a o):=λb z e=>by rw[ae_ (ah_ e h)];show s _ _ e
theorem g0_(s:F0_ S H)(h:H a=none):F0_ (upd S a o) (upd H a o):=λb z e=>by
 by_cases q:b=a
 .subst q;rw[aa_]at e⊢;show e
 .rw[ae_ q]at e⊢;show s _ _ e
theorem bi_(s:F0_ S H)(h:H a=none):F0_ S (upd S a o):=F0_.new (s.free h)
def JB_:V->List V->Hp->VK->Prop:=λx vs H Q=>∃(l:Addr)(xs:List V)(i:Int)(y:V),x=.ref l/\vs=[.int i,y]/\H l=some (.lst xs)/\0<=i/\i.toNat<=xs.length/\xs.length<1000/\Q .non (upd H l (.lst (xs.take i.toNat++y::xs.drop i.toNat)))
theorem ka_:MtM X "list.insert" JB_:=by
 intro pins s σ H x vs v us Q I rx rv h;obtain⟨l,xs,i,y,rfl,rfl,hH,h0,h1,h2,q⟩:=h;cases rx;obtain⟨u,w,rfl,ru,rw'⟩:=rv.two;obtain⟨t,rfl⟩:=ru;obtain⟨z,its,n,r,hl,e⟩:=I.lstM hH;show DL_ F.slot_list_insert ⟨_,e,rfl⟩ F.entry_list_insert (F.args_list_insert_3 _ _ _) (AutoSeq1.list_insert_list_int_val_1 l its.toArray n i t w (by rw[fitsIndex_both (k:=i) o_ o_];decide) (by rw[Ao_];lia)) ⟨e,?_⟩;show⟨.non,_,I.lset (its':=its.take i.toNat++w::its.drop i.toNat) hH e ?_ ((r.take _).append (.cons rw' (r.drop _))) ?_,rfl,q⟩
 .dsimp only
  rw[if_neg o_,Ao_,Ck_ o_];simp;show AV_ s_
 .have:=F3_ h2;simp;lia
def Ite(K:PySem.W.Frag)(a:Addr):It :=
  ⟨λi H=>∃xs x,SqL K H a xs/\xs[i]?=some x,
   λi H v H'=>∃T x,v=.ref T/\H T=none/\H'=upd H T (.tup [.int i,x])/\(∀xs,SqL K H a xs->xs[i]?=some x),
   λi H=>∃xs,SqL K H a xs/\xs.length<=i⟩
def LG_(e it l:Addr)(i:Nat)(h:Heap):Prop:=(∃old,IsEnum h e it i old)/\h.IsListIter it l i
theorem nq_{it l:Addr}(hei:e≠it):
  KI_ P w K (.Tuple elts kt tpos) (Ite K l) [e,it] e (LG_ e it l) where
 mem:=s_
 obj:=λi h st b hb=>by
  obtain⟨⟨old,s1⟩,⟨o4,s4,c4,d4⟩⟩:=st;simp only[Aq_,Bk_,Ez_]at hb
  rcases hb with rfl|rfl
  .show⟨_,s1,λv e=>by cases(show Data.fields _=Data.cell v from e)⟩
  .show⟨o4,s4,λv e=>by rw[d4]at e;cases e⟩
 keep:=λi h h' st k=>by obtain⟨⟨old,s1⟩,s4⟩:=st;show⟨⟨old,k e s_ _ s1⟩,s4.at λo q=>k it s_ o q⟩
 item:=by
  intro X hP hw hK hc i pins s σ H E I hf st hg;subst hP hw hK;obtain⟨xs,x,hq,hx⟩:=hg;obtain⟨its,rv,p1,z1⟩:=I.list hq;obtain⟨u,hu,ru⟩:=rv.get hx;obtain⟨⟨old,s1⟩,s4⟩:=id st;show wpAny_pyNext_enum_item s1 s4 p1.isList (x:=u) (by simpa using hu) hei λh' g1 g2 g3 g4 g5=>?_;show⟨_,rfl,wpAny_letOwnedTupleGo_enum g1 λh'' k1 k2=>?_⟩
  have lt:∀b∈[e,it],b<s.heap.objs.size:=λb hb=>by
   simp only[Aq_,Bk_,Ez_]at hb
   rcases hb with rfl|rfl
   .show Ap_ s1
   .obtain⟨o,e,_⟩:=s4;show Ap_ e
  have hT:H s.heap.objs.size=none:=I.hok.fresh (Af_ _)
  have I1:Inv X pins σ (upd H s.heap.objs.size (.tup [.int i,x])) {s with heap:=s.heap.push {cls:=.type "tuple",data:=.seq #[.int i s.toks,u]}} :=
   I.laid (t':=s.toks) (λb u e=>Ah_ _ e) (Af_ _) ⟨by change 2<=sizeLine;decide,[.int i s.toks,u],.cons ⟨_,rfl⟩ (.cons ru .nil),⟨_,AC_ _ rfl,rfl,_,rfl⟩⟩
  have f1:∀b∈[e,it],IC_ X pins (upd H s.heap.objs.size (.tup [.int i,x])) b:=λb hb=>⟨by rw[ae_ (AJ_ (lt b hb))];show(hf b hb).1,(hf b hb).2⟩
  have I2:Inv X pins σ (upd H s.heap.objs.size (.tup [.int i,x])) {s with heap:=h'',toks:=s.toks+1}:=by
   show Inv.turnedL (s:={s with heap:=s.heap.push {cls:=.type "tuple",data:=.seq #[.int i s.toks,u]}}) (ch:=[e,it]) (t':=s.toks+1) I1 (λb o hb q=>?_) f1;simp only[Aq_,Bk_,Ez_,not_or]at hb;show(k2.2 b hb.1).trans ?_;by_cases hbT:b=s.heap.objs.size
   .subst hbT;have e':(s.heap.push {cls:=.type "tuple",data:=.seq #[.int i s.toks,u]}).get? s.heap.objs.size=some o:=q;rw[AC_ _ rfl]at e';cases e';show g3
   .have hb2:s.heap.get? b=some o:=by have e':(s.heap.push {cls:=.type "tuple",data:=.seq #[.int i s.toks,u]}).get? b=some o:=q;show(Dr_ _ _ _ hbT).symm.trans e'
    show g5 b o hb.1 hb.2 hb2
  show⟨.ref s.heap.objs.size,_,I2,rfl,⟨_,x,rfl,hT,rfl,λxs' h'=>by rw[I.list_inj h' hq];show hx⟩,?_,λb hb=>(f1 b hb).1⟩;show⟨⟨u,k1⟩,g2.at λo q=>(k2.2 it hei.symm).trans q⟩
 done:=by intro X hP hw hK hc i pins s σ H E I hf st hg;subst hP hw hK;obtain⟨xs,hq,he⟩:=hg;obtain⟨its,rv,p1,z1⟩:=I.list hq;obtain⟨⟨old,s1⟩,s4⟩:=id st;have l1:=rv.length;show wpAny_pyNext_enum_end (I.ok.hd hc) s1 s4 p1.isList (by simp;lia) λh' k=>⟨rfl,?_⟩;show Inv.turnedL (ch:=[e,it]) (t':=s.toks) I (λb o hb q=>?_) hf;simp only[Aq_,Bk_,Ez_,not_or]at hb;show k b o hb.2 q
 self:=λ_ _ _ _ _ st h=>by obtain⟨⟨old,s1⟩,_⟩:=st;show wpAny_pyIter_enum s1 h
def La_(K:PySem.W.Frag)(ta:TA):TI:=λσ H R=>ta σ H λvs H1=>∃a,vs=[.ref a]/\(∃xs,SqL K H1 a xs)/\R (Ite K a) H1
theorem nr_{a:Expr}{ta:TA}{p:Pos}(hK:X.K=K)(hg:Gl X "enumerate") (hm:X.mg "enumerate"=none) (ha:PA X [a] ta) (hs:Gg_ [a]=true:=by rfl):PI X (.Tuple elts kt tpos) (.Call (.Name "enumerate" p) [a] [] pos) (La_ K ta):=by
 subst hK;intro pins s σ H R I h;have h':GW_ a=true/\Gg_ []=true:=by simpa[Gg_]using hs
 show Call_ (fv_ I hg hm j3_ (BE_ (thn (ha pos pins s σ H _ I h) λus s1 ⟨vs,H1,I1,r1,q1⟩=>?_) (ax_ h'.1) (bN_ h'.2)));obtain⟨l,e,⟨xs,hx⟩,q⟩:=q1;subst e;obtain⟨u1,rfl,e1⟩:=Hk_ r1;cases e1;obtain⟨its1,rv1,p1,z1⟩:=I1.list hx;show call_enumerate_list p1.isList λh' g1 g2 g3 g4=>?_;have I2:Inv X pins σ H1 {s1 with heap:=h'}:=I1.kept (t':=s1.toks) g4;show wpAny_pyIter_enum g1 ⟨_,[s1.heap.objs.size+1,s1.heap.objs.size],_,Ite X.K l,H1,rfl,I2,nq_ (Nat.succ_ne_self _),⟨⟨_,g1⟩,g2⟩,λb hb=>?_,q⟩
 have hb':s1.heap.objs.size<=b:=by
  simp only[Aq_,Bk_,Ez_]at hb
  rcases hb with rfl|rfl <;> first|show C1_ _ _|show Af_ _
 show I1.fpOk hb' (I1.hok.fresh hb')
section
variable {κ:Type}[DecidableEq κ]
def Gw_(kvs:List (κ×V))(k:κ):Option V:=(kvs.find? λkv=>decide (kv.1=k)).map (·.2)
def G1_(kvs:List (κ×V))(k:κ)(v:V):List (κ×V):=
 if(kvs.any λkv=>decide (kv.1=k))=true then kvs.map (λkv=>if kv.1=k then(kv.1,v)else kv)else kvs++[(k,v)]
theorem aW_{p:κ×V}{r:List (κ×V)}{k:κ}(e:p.1=k):Gw_ (p::r) k=some p.2:=by simp[Gw_,B2_,e]
theorem aJ_{p:κ×V}{r:List (κ×V)}{k:κ}(e:¬ p.1=k):Gw_ (p::r) k=Gw_ r k:=by simp[Gw_,B2_,e]
theorem cf_(k:κ):∀kvs:List (κ×V),(kvs.any λkv=>decide (kv.1=k))=(Gw_ kvs k).isSome
 |[]=>rfl
 |p::r=>by
  rw[C6_];by_cases e:p.1=k
  .simp only[aW_ e,AL_ e,Bool.true_or,Option.isSome_some]
  .rw[aJ_ e,AE_ e,Bool.false_or];show cf_ k r
theorem lX_(k j:κ)(y:V):∀kvs:List (κ×V),Gw_ (kvs.map λkv=>if kv.1=k then(kv.1,y)else kv) j=(Gw_ kvs j).map λx=>if j=k then y else x
 |[]=>rfl
 |p::r=>by
  have ih:=lX_ k j y r;rw[AW_];by_cases h:p.1=k
  .rw[if_pos h];by_cases e:p.1=j
   .rw[aW_ (p:=(p.1,y)) e,aW_ e,CG_,if_pos (e.symm.trans h)]
   .rw[aJ_ (p:=(p.1,y)) e,aJ_ e,ih]
  .rw[if_neg h];by_cases e:p.1=j
   .rw[aW_ (p:=p) e,aW_ e,CG_,if_neg (λz=>h (e.trans z))]
   .rw[aJ_ (p:=p) e,aJ_ e,ih]
theorem kb_(k j:κ)(y:V):∀kvs:List (κ×V),Gw_ kvs k=none->Gw_ (kvs++[(k,y)]) j=if j=k then some y else Gw_ kvs j
 |[],_=>by
  by_cases e:k=j
  .rw[if_pos e.symm];show aW_ (p:=(k,y)) e
  .rw[if_neg (λz=>e z.symm)];show aJ_ (p:=(k,y)) e
 |p::r,hn=>by
  rw[List.cons_append];have hk:¬ p.1=k:=λz=>by rw[aW_ z]at hn;cases hn
  rw[aJ_ hk]at hn;have ih:=kb_ k j y r hn;by_cases e:p.1=j
  .rw[aW_ e,aW_ e,if_neg (λz=>hk (e.trans z))]
  .rw[aJ_ e,aJ_ e,ih]
theorem dL_(kvs:List (κ×V))(k j:κ)(y:V):Gw_ (G1_ kvs k y) j=if j=k then some y else Gw_ kvs j:=by
 unfold G1_;by_cases a:(kvs.any λkv=>decide (kv.1=k))=true
 .rw[if_pos a,lX_];rw[cf_]at a;by_cases e:j=k
  .obtain⟨x,hx⟩:=Ew_.mp a;rw[if_pos e,e,hx,CG_,if_pos rfl]
  .rw[if_neg e];cases Gw_ kvs j with
   |none=>rfl
   |some x=>rw[CG_,if_neg e]
 .rw[if_neg a];show kb_ k j y kvs ?_;rw[cf_]at a;cases q:Gw_ kvs k with
  |none=>rfl
  |some x=>rw[q]at a;show(a rfl).elim
theorem bt_(kvs:List (κ×V))(k:κ)(v:V):(G1_ kvs k v).length<=kvs.length+1:=by
 unfold G1_;split
 .rw[Aa_];lia
 .rw[Ak_,A0_,DP_];lia
theorem IY_.isSome_eq{o:Option V}{u:Option Value}(r:IY_ o u):o.isSome=u.isSome:=by
 cases o with
 |none=>cases u with
  |none=>rfl
  |some _=>show(show False from r).elim
 |some _=>cases u with
  |none=>show(show False from r).elim
  |some _=>rfl
theorem IY_.getD{o:Option V}{u:Option Value}{d:V}{d':Value}(r:IY_ o u)(rd:Gu_ d d'):Gu_ (o.getD d) (u.getD d'):=by
 cases o with
 |none=>cases u with
  |none=>show rd
  |some _=>show(show False from r).elim
 |some _=>cases u with
  |none=>show(show False from r).elim
  |some _=>show r
theorem KV.val{kvs:List (κ×V)}{vs:List (κ×Value)}(r:KV kvs vs)(k:κ):IY_ (Gw_ kvs k) (valueAt vs k):=by
 unfold KV at r
 induction r with
 |nil=>show True.intro
 | @cons p q ps qs h t ih =>
  obtain⟨h1,h2⟩:=h;by_cases e:p.1=k
  .have e':q.1=k:=h1.symm.trans e;have b:valueAt (q::qs) k=some q.2:=by simp[valueAt,B2_,e']
   rw[aW_ e,b];show h2
  .have e':¬ q.1=k:=λz=>e (h1.trans z);have b:valueAt (q::qs) k=valueAt qs k:=by simp[valueAt,B2_,e']
   rw[aJ_ e,b];show ih
theorem KV.any{kvs:List (κ×V)}{vs:List (κ×Value)}(r:KV kvs vs)(k:κ):(kvs.any λkv=>decide (kv.1=k))=vs.any λkv=>decide (kv.1=k):=by
 unfold KV at r
 induction r with
 |nil=>rfl
 |cons h t ih=>rw[C6_,C6_,ih,h.1]
theorem KV.repl{kvs:List (κ×V)}{vs:List (κ×Value)}(r:KV kvs vs)(k:κ){y:V}{u:Value}(ry:Gu_ y u):
  KV (kvs.map λkv=>if kv.1=k then(kv.1,y)else kv) (vs.map λkv=>if kv.1=k then(kv.1,u)else kv):=by
 unfold KV at r⊢
 induction r with
 |nil=>show .nil
 | @cons p q ps qs h t ih =>
  rw[AW_,AW_];show .cons ?_ ih;obtain⟨h1,h2⟩:=h;by_cases e:p.1=k
  .rw[if_pos e,if_pos (h1.symm.trans e)];show⟨h1,ry⟩
  .rw[if_neg e,if_neg (λz=>e (h1.trans z))];show⟨h1,h2⟩
theorem KV.put{kvs:List (κ×V)}{vs:List (κ×Value)}(r:KV kvs vs)(k:κ){y:V}{u:Value}(ry:Gu_ y u):KV (G1_ kvs k y) (stored vs k u):=by
 unfold G1_ stored;rw[r.any k];by_cases e:(vs.any λkv=>decide (kv.1=k))=true
 .rw[if_pos e,if_pos e];show r.repl k ry
 .rw[if_neg e,if_neg e];show FU_ r ⟨rfl,ry⟩
theorem KV.length{kvs:List (κ×V)}{vs:List (κ×Value)}(r:KV kvs vs):kvs.length=vs.length:=Fw_ r
end
theorem II_{k:Key}{u:Value}(r:Gu_ (kV k) u):(Gc_ P w).is k u=true:=by
 cases k with
 |inl i=>obtain⟨t,e⟩:=(show ∃t,u=Value.int i t from r);subst e;show kQ_ P w i t
 |inr x=>obtain⟨t,e⟩:=(show ∃t,u=Value.str x t from r);subst e;show kR_ P w x t
theorem hp_{P:Program}{w:World}:∀{ks:List Key}{us:List Value},Gn_ (ks.map kV) us->ItemsAre (Gc_ P w) ks us
 |[],_,r=>by rw[Cu_]at r;cases r;show .nil
 |k::ks,_,r=>by
  rw[AW_]at r;cases r with
  |cons h t=>show .cons (II_ h) (hp_ t)
abbrev KT(H:Hp):List (List Key×V)->List (List Key×Addr×Value)->Prop:=Paired λp q=>p.1=q.1/\H q.2.1=some (.tup (p.1.map kV))/\Gu_ p.2 q.2.2
variable{kvs:List (List Key×V)}{xs:List (List Key×Addr×Value)}
theorem KT.val(r:KT H kvs xs)(k:List Key):IY_ (Gw_ kvs k) ((atKey xs k).map (·.2)):=by
 induction r with
 |nil=>show True.intro
 | @cons p q ps qs h t ih =>
  obtain⟨h1,_,h2⟩:=h;by_cases e:p.1=k
  .have e':q.1=k:=h1.symm.trans e;have b:atKey (q::qs) k=some q.2:=by simp[atKey,B2_,e']
   rw[aW_ e,b];show h2
  .have e':¬ q.1=k:=λz=>e (h1.trans z);have b:atKey (q::qs) k=atKey qs k:=by simp[atKey,B2_,e']
   rw[aJ_ e,b];show ih
theorem KT.repl(r:KT H kvs xs)(k:List Key){y:V}{u:Value}(ry:Gu_ y u):
  KT H (kvs.map λkv=>if kv.1=k then(kv.1,y)else kv) (xs.map (putAt k u)):=by
 induction r with
 |nil=>show .nil
 | @cons p q ps qs h t ih =>
  rw[AW_,AW_];show .cons ?_ ih;obtain⟨h1,h2,h3⟩:=h;unfold putAt;by_cases e:p.1=k
  .rw[if_pos e,if_pos (h1.symm.trans e)];show⟨h1,h2,ry⟩
  .rw[if_neg e,if_neg (λz=>e (h1.trans z))];show⟨h1,h2,h3⟩
theorem KT.put(r:KT H kvs xs)(k:List Key){y:V}{u:Value}(hb:H b=some (.tup (k.map kV)))(ry:Gu_ y u):
  KT H (G1_ kvs k y) (storedH xs k b u):=by
 have e:(kvs.any λkv=>decide (kv.1=k))=(atKey xs k).isSome:=by rw[cf_,(r.val k).isSome_eq,Ds_]
 unfold G1_ storedH;rw[e];by_cases q:(atKey xs k).isSome=true
 .rw[if_pos q,if_pos q];show r.repl k ry
 .rw[if_neg q,if_neg q];show FU_ r ⟨rfl,hb,ry⟩
theorem KT.keeps(r:KT H kvs xs)(ht:∀b ys,H b=some (.tup ys)->H' b=some (.tup ys)):KT H' kvs xs :=
 Paired.mapP r λ_ _ z=>⟨z.1,ht _ _ z.2.1,z.2.2⟩
variable {h:Heap}{a:Addr}
theorem L0_{u:HO}(ok:HOk P w H h)(e:Rd H a u):Gy_ P w H h a u:=e.ok ok
theorem Ix_{kvs:List (Key×V)}(ok:HOk P w H h)(e:Rd H a (.dK kvs)):kvs.length<=sizeLine/\(a == sysModules)=false/\∃vs,KV kvs vs/\h.DictOf (Gc_ P w) a vs :=
 show Gy_ P w H h a (.dK kvs)from L0_ ok e
theorem Jg_{kvs:List (Key×V)}(ok:HOk P w H h)(e:H a=some (.dK kvs)):kvs.length<=sizeLine/\(a == sysModules)=false/\∃vs,KV kvs vs/\h.DictOf (Gc_ P w) a vs:=Ix_ ok (.inl e)
theorem kc_{ks:List Key}(ok:HOk P w H h)(e:H a=some (.tup (ks.map kV))):(tupleKind (Gc_ P w)).is h ks a:=by obtain⟨_,its,r,o,h1,h2,n,h3⟩:=(show Gy_ P w H h a (.tup (ks.map kV))from ok a _ e);show⟨o,its.toArray,n,h1,h2,h3,by simpa using hp_ r⟩
theorem JW_(ok:HOk P w H h)(e:Rd H a (.dT kvs)):kvs.length<=sizeLine/\(a == sysModules)=false /\
  ∃xs,KT H kvs xs/\h.DictOfH (tupleKind (Gc_ P w)) a xs:=by
 obtain⟨z,y,xs,r,o,es,ep,h1,h2,h3,h4,h5⟩:=(show Gy_ P w H h a (.dT kvs)from L0_ ok e);show⟨z,y,xs,r,o,es,ep,h1,h2,h3,h4,λx hx=>?_,h5⟩
 have all:∀{l:List (List Key×V)}{m:List (List Key×Addr×Value)},KT H l m->∀x∈m,(tupleKind (Gc_ P w)).is h x.1 x.2.1:=by
  intro l m q
  induction q with
  |nil=>intro x hx;show nomatch hx
  | @cons p q ps qs hq t ih =>
   intro x hx
   rcases Aq_.mp hx with e|hx
   .subst e;show kc_ ok (by rw[<-hq.1];show hq.2.1)
   .show ih x hx
 show all r x hx
theorem My_(ok:HOk P w H h)(e:H a=some (.dT kvs)):kvs.length<=sizeLine/\(a == sysModules)=false /\
  ∃xs,KT H kvs xs/\h.DictOfH (tupleKind (Gc_ P w)) a xs:=JW_ ok (.inl e)
def HC_(H:Hp)(a:Addr)(y:V)(r:Option V):Prop :=
 (∃kvs k,Rd H a (.dK kvs)/\y=kV k/\r=Gw_ kvs k)\/∃kvs k b,Rd H a (.dT kvs)/\y=.ref b/\H b=some (.tup (k.map kV))/\r=Gw_ kvs k
def Jb_(H:Hp)(a:Addr)(y v:V)(H':Hp):Prop :=
 (∃kvs k,H a=some (.dK kvs)/\y=kV k/\kvs.length<sizeLine/\H'=upd H a (.dK (G1_ kvs k v))) \/
 ∃kvs k b,H a=some (.dT kvs)/\y=.ref b/\H b=some (.tup (k.map kV))/\kvs.length<sizeLine/\H'=upd H a (.dT (G1_ kvs k v))
theorem HC_.k{kvs:List (Key×V)}{k:Key}(e:H a=some (.dK kvs)):HC_ H a (kV k) (Gw_ kvs k):=.inl ⟨kvs,k,.inl e,rfl,rfl⟩
theorem HC_.t{k:List Key}(e:H a=some (.dT kvs))(eb:H b=some (.tup (k.map kV))):HC_ H a (.ref b) (Gw_ kvs k):=.inr ⟨kvs,k,b,.inl e,rfl,eb,rfl⟩
theorem Jb_.k{kvs:List (Key×V)}{k:Key}{v:V}(e:H a=some (.dK kvs))(hl:kvs.length<sizeLine):Jb_ H a (kV k) v (upd H a (.dK (G1_ kvs k v))):=.inl ⟨kvs,k,e,rfl,hl,rfl⟩
theorem Jb_.t{k:List Key}{v:V}(e:H a=some (.dT kvs))(eb:H b=some (.tup (k.map kV)))(hl:kvs.length<sizeLine):
  Jb_ H a (.ref b) v (upd H a (.dT (G1_ kvs k v))):=.inr ⟨kvs,k,b,e,rfl,eb,hl,rfl⟩
variable {σ:St}{y v:V}{u r:Value}{o:Option V}{E:Value->Shared->Prop}
theorem Inv.big(I:Inv X pins σ H s):sysModules<s.heap.objs.size:=by have h:mainGlobals<s.heap.objs.size:=(I.mod.glob.keeps I.bk).lt;show Nat.lt_trans d_ h
theorem ns_{Q:Value->Shared->Prop}(hu:A.units+1<cLine)(I:Inv X pins σ H s)(g:HC_ H a y (some v))(ry:Gu_ y u)(h:∀w' s',Inv X pins σ H s'->Gu_ v w'->Q w' s'):
  wpAny (model X.prog X.w) A (getItem (.ref a) u) Q E s:=by
 rcases g with⟨kvs,k,e,ey,l⟩|⟨kvs,k,b,e,ey,eb,l⟩
 .subst ey;obtain⟨z,hd,vs,rel,dd⟩:=Ix_ I.hok e;obtain⟨w',hw,rw'⟩:=IY_.some_of (v:=v) (o:=valueAt vs k) (by rw[l];show rel.val k);show wpAny_getItem_of (II_ ry) dd.mapOf hw (h w' _ (I.tok _) rw')
 .subst ey;cases(show u=Value.ref b from ry);obtain⟨z,hd,xs,rel,dd⟩:=JW_ I.hok e;obtain⟨w',hw,rw'⟩:=IY_.some_of (v:=v) (o:=(atKey xs k).map (·.2)) (by rw[l];show rel.val k);obtain⟨p,hp,hp2⟩:=BL_.mp hw;show wpAny_getItem_heap (Dl_ hu) (kc_ I.hok eb) dd hp ?_;rw[hp2];show h w' _ (I.tok _) rw'
theorem d_in{Q:Value->Shared->Prop}(hu:A.units+1<cLine)(I:Inv X pins σ H s)(g:HC_ H a y o)(ry:Gu_ y u)(h:∀s',Inv X pins σ H s'->Q (.bool o.isSome) s'):
  wpAny (model X.prog X.w) A (compareOp .In u (.ref a)) Q E s:=by
 rcases g with⟨kvs,k,e,ey,l⟩|⟨kvs,k,b,e,ey,eb,l⟩
 .subst ey;obtain⟨z,hd,vs,rel,dd⟩:=Ix_ I.hok e;show wpAny_in_of (II_ ry) hd dd.mapOf ?_;rw[<-(rel.val k).isSome_eq,<-l];show h _ (I.tok _)
 .subst ey;cases(show u=Value.ref b from ry);obtain⟨z,hd,xs,rel,dd⟩:=JW_ I.hok e;show wpAny_in_heap (Dl_ hu) (kc_ I.hok eb) hd dd ?_;have q:=(rel.val k).isSome_eq;rw[Ds_]at q;rw[<-q,<-l];show h _ (I.tok _)
theorem qq_{Q:Value->Shared->Prop}(hu:A.units+1<cLine)(I:Inv X pins σ H s)(g:HC_ H a y o)(ry:Gu_ y u)(h:∀s',Inv X pins σ H s'->Q (.bool (!o.isSome)) s'):
  wpAny (model X.prog X.w) A (compareOp .NotIn u (.ref a)) Q E s:=by
 rcases g with⟨kvs,k,e,ey,l⟩|⟨kvs,k,b,e,ey,eb,l⟩
 .subst ey;obtain⟨z,hd,vs,rel,dd⟩:=Ix_ I.hok e;show wpAny_notIn_of (II_ ry) hd dd.mapOf ?_;rw[<-(rel.val k).isSome_eq,<-l];show h _ (I.tok _)
 .subst ey;cases(show u=Value.ref b from ry);obtain⟨z,hd,xs,rel,dd⟩:=JW_ I.hok e;show wpAny_notIn_heap (Dl_ hu) (kc_ I.hok eb) hd dd ?_;have q:=(rel.val k).isSome_eq;rw[Ds_]at q;rw[<-q,<-l];show h _ (I.tok _)
theorem gg_{t':Nat}{ob:HO}(I:Inv X pins σ H s)(mu:Mut (H a))(hs:Heap.SameBut a s.heap h')(he:∃q,h'.get? a=some q)(new:Gy_ X.prog X.w (upd H a ob) h' a ob):
  Inv X pins σ (upd H a ob) {s with heap:=h',toks:=t'} :=
 I.write (x:=a) (e:=a) mu (.inl rfl) (λb q hb z=>(hs.2 b hb).trans z) he new
theorem nt_{kvs:List (Key×V)}{vs:List (Key×Value)}(z:kvs.length<=sizeLine)(hd:(a == sysModules)=false)(rel:KV kvs vs)(dd:h'.DictOf (Gc_ P w) a vs):
  Gy_ P w H' h' a (.dK kvs):=⟨z,hd,vs,rel,dd⟩
theorem nu_(hu:A.units+1<cLine)(I:Inv X pins σ H s)(g:Jb_ H a y v H')(ry:Gu_ y u)(rv:Gu_ v r)(h:∀s',Inv X pins σ H' s'->Q () s'):
  wpAny (model X.prog X.w) A (setItem (.ref a) u r) Q E s:=by
 rcases g with⟨kvs,k,e,ey,l,eH⟩|⟨kvs,k,b,e,ey,eb,l,eH⟩
 .subst ey eH;obtain⟨z,hd,vs,rel,dd⟩:=Jg_ I.hok e;have hz:vs.length<=sizeLine:=by rw[<-rel.length];show z
  have hl:(G1_ kvs k v).length<=sizeLine:=by have:=bt_ kvs k v;lia
  show wpAny_setItem_pairs (hsz:=hz) (II_ ry) dd λh' dd' hs=>h _ ?_;have he:∃q,h'.get? a=some q:=let⟨q,_,_,hq,_⟩:=dd';⟨q,hq⟩;show gg_ I (by rw[e];show True.intro) hs he (nt_ hl hd (rel.put k rv) dd')
 .subst ey eH;cases(show u=Value.ref b from ry);obtain⟨z,hd,xs,rel,dd⟩:=My_ I.hok e;have hz:xs.length<=sizeLine:=by rw[<-Fw_ rel];show z
  have hl:(G1_ kvs k v).length<=sizeLine:=by have:=bt_ kvs k v;lia
  show wpAny_setItem_heap (hsz:=hz) (Dl_ hu) (kc_ I.hok eb) dd λh' dd' hs=>h _ ?_;obtain⟨q,es,ep,hq,h2,h3,h4,_,h5⟩:=dd';show gg_ I (by rw[e];show True.intro) hs ⟨q,hq⟩ ⟨hl,hd,_,(rel.put k eb rv).keeps λc ys ec=>?_,q,es,ep,hq,h2,h3,h4,h5⟩;rw[ae_ (KV_ ec e (λz=>nomatch z))];show ec
def Mf_(i:Expr):Prop:=∀ov iv,subscripted i false ov iv=operate [ov,iv] (getItem ov iv)
theorem nv_{prog:Program}{w:World}{A:Around}{E:Value->Shared->Prop}{s:Shared}{env:Env}{value slice:Expr}{pos:Pos}{T id:String}{Q:Value->Shared->Prop}
  (hl:typeLookup (.type T) "__getitem__"=pure (some (.builtin id))) (hs:Mf_ slice)
  (h:wpAny (model prog w) A (eval value env) (λo s₁=>wpAny (model prog w) A (eval slice env) (λi s₂=>s₂.TypeIs o T/\wpAny (model prog w) A (getItem o i) Q E s₂) E s₁) E s):
  wpAny (model prog w) A (eval (.Subscript value slice pos) env) Q E s:=by
 show Subscript_ (Bg_ h (λo s₁ h₁=>Bg_ h₁ (λi s₂ h₂=>?_) λ_ _ x=>x) λ_ _ x=>x);obtain⟨hT,h₂⟩:=h₂;unfold subscriptTail;show Ad_ ?_;rw[getitemInPython_of_ne hT.not_modules];show Ad_ (wpAny_specialOf hT hl ?_);have fin:wpAny (model prog w) A (subscripted slice false o i) (λr s₃=>wpAny (model prog w) A (letTemporaryGo value o r >>= λ_=>pure r) Q E s₃) E s₂:=by rw[hs o i];show wpAny_operating (Bg_ h₂ (λr s₃ h₃=>Ad_ (wpAny_letTemporaryGo (AA_ h₃))) λ_ _ x=>x)
 first
  |show AA_ (Ad_ fin)
  |show Ad_ (AA_ (Ad_ fin))
  |show Ad_ fin
theorem k1_(I:Inv X pins σ H s)(g:HC_ H a y o):s.TypeIs (.ref a) "dict" := by
 rcases g with⟨kvs,k,e,_,_⟩|⟨kvs,k,b,e,_,_,_⟩
 .obtain⟨_,_,vs,_,dd⟩:=Ix_ I.hok e;show dd.typeIs
 .obtain⟨_,_,xs,_,dd⟩:=JW_ I.hok e;show dd.typeIs
def Lm_(td ty:TE):TE:=λσ H Q=>td σ H λx H1=>ty σ H1 λy H2=>onR x λa=>∃v,HC_ H2 a y (some v)/\Q v H2
def M4_(ty td:TE):TE:=λσ H Q=>ty σ H λy H1=>td σ H1 λx H2=>onR x λa=>∃o,HC_ H2 a y o/\Q (.bl o.isSome) H2
def JK_(ty td:TE):TE:=λσ H Q=>ty σ H λy H1=>td σ H1 λx H2=>onR x λa=>∃o,HC_ H2 a y o/\Q (.bl (!o.isSome)) H2
def Li_(td ty tv:TE):TS:=λD σ H=>tv σ H λv H1=>td σ H1 λx H2=>ty σ H2 λy H3=>onR x λa=>∃H4,Jb_ H3 a y v H4/\D.nx σ H4
section
variable {o i e value:Expr}{pos':Pos}{td ty tv:TE}
theorem bl_(hu:X.A.units+1<cLine)(ho:PE X o td)(hi:PE X i ty)(hs:Mf_ i:=by intro _ _;rfl):PE X (.Subscript o i pos) (Lm_ td ty):=by intro pins s σ H Q I h;show nv_ PySem.F.slot_dict_getitem.lookup hs (thn (ho pins s σ H _ I h) λu s1 ⟨x,H1,I1,rx,q1⟩=>thn (hi pins s1 σ H1 _ I1 q1) λiv s2 ⟨y,H2,I2,ry,q9⟩=>?_);obtain⟨a,ex,v,g,q2⟩:=dn_ q9;subst ex;obtain rfl:u=Value.ref a:=rx;show⟨k1_ I2 g,ns_ hu I2 g ry λw' s3 I3 rw'=>⟨v,H2,I3,rw',q2⟩⟩
theorem ru_(hu:X.A.units+1<cLine)(hi:PE X i ty)(ho:PE X o td):PC X .In i o (M4_ ty td):=by intro pins s σ H Q I h;show thn (hi pins s σ H _ I h) λiv s1 ⟨y,H1,I1,ry,q1⟩=>thn (ho pins s1 σ H1 _ I1 q1) λu s2 ⟨x,H2,I2,rx,q9⟩=>?_;obtain⟨a,ex,ov,g,q2⟩:=dn_ q9;subst ex;obtain rfl:u=Value.ref a:=rx;show d_in hu I2 g ry λs3 I3=>⟨.bl ov.isSome,H2,I3,rfl,q2⟩
theorem nw_(hu:X.A.units+1<cLine)(hi:PE X i ty)(ho:PE X o td):PC X .NotIn i o (JK_ ty td):=by intro pins s σ H Q I h;show thn (hi pins s σ H _ I h) λiv s1 ⟨y,H1,I1,ry,q1⟩=>thn (ho pins s1 σ H1 _ I1 q1) λu s2 ⟨x,H2,I2,rx,q9⟩=>?_;obtain⟨a,ex,ov,g,q2⟩:=dn_ q9;subst ex;obtain rfl:u=Value.ref a:=rx;show qq_ hu I2 g ry λs3 I3=>⟨.bl (!ov.isSome),H2,I3,rfl,q2⟩
theorem gh_(hu:X.A.units+1<cLine)(ho:PE X o td)(hi:PE X i ty)(hv:PE X value tv)(hs:swapsWith value (some (.Subscript o i pos')) pos.line X.env=pure false):
  PS X (.Assign [.Subscript o i pos'] value pos) (Li_ td ty tv):=by
 intro pins s σ H D I h;show wpAny_Assign_Subscript (thn (hv pins s σ H _ I h) λr s1 ⟨v,H1,I1,rv,q1⟩=>thn (ho pins s1 σ H1 _ I1 q1) λu s2 ⟨x,H2,I2,rx,q2⟩=>thn (hi pins s2 σ H2 _ I2 q2) λiv s3 ⟨y,H3,I3,ry,q9⟩=>?_) hs;obtain⟨a,ex,H4,g,q3⟩:=dn_ q9;subst ex;obtain rfl:u=Value.ref a:=rx;show nu_ hu I3 g ry rv λs4 I4=>⟨σ,H4,I4,q3⟩
end
theorem oN_(h:Heap)(hb:sysModules<h.objs.size):Gy_ P w H (h.push {cls:=.type "dict",data:=.dict #[]}) h.objs.size (.dK []):=
 ⟨Av_ _,CA_.mpr (Ne.symm (AJ_ hb)),[],.nil,Heap.DictOf.new h⟩
theorem oO_(h:Heap)(hb:sysModules<h.objs.size):Gy_ P w H (h.push {cls:=.type "dict",data:=.dict #[]}) h.objs.size (.dT []):=
 ⟨Av_ _,CA_.mpr (Ne.symm (AJ_ hb)),[],.nil,_,#[],0,AC_ _ rfl,⟨rfl,rfl,rfl⟩,rfl,rfl,Bn_⟩
def KE_:TE:=λ_ H Q=>∀p,H p=none->Q (.ref p) (upd H p (.dK []))
def Ky_:TE:=λ_ H Q=>∀p,H p=none->Q (.ref p) (upd H p (.dT []))
theorem eK_:PE X (.Dict [] [] pos) KE_:=λpins s σ H Q I h =>wpAny_Dict_empty ⟨.ref s.heap.objs.size,_,I.laid (a:=s.heap.objs.size) (o:=.dK []) (t':=s.toks) (λ_ _ q=>Ah_ _ q) (Af_ _) (oN_ s.heap I.big),rfl,h _ (I.hok.fresh (Af_ _))⟩
theorem oP_:PE X (.Dict [] [] pos) Ky_:=λpins s σ H Q I h =>wpAny_Dict_empty ⟨.ref s.heap.objs.size,_,I.laid (a:=s.heap.objs.size) (o:=.dT []) (t':=s.toks) (λ_ _ q=>Ah_ _ q) (Af_ _) (oO_ s.heap I.big),rfl,h _ (I.hok.fresh (Af_ _))⟩
def G0_(kvs more:List (Key×V)):List (Key×V):=more.foldl (λacc kv=>G1_ acc kv.1 kv.2) kvs
theorem KV.merge:∀{more:List (Key×V)}{rs:List (Key×Value)}{kvs:List (Key×V)}{vs:List (Key×Value)},KV more rs->KV kvs vs->KV (G0_ kvs more) (merged vs rs):=by
 intro more rs kvs vs r;unfold KV at r
 induction r generalizing kvs vs with
 |nil=>intro q;show q
 | @cons p q ps qs h t ih =>
  intro r0;have e:KV (G1_ kvs p.1 p.2) (stored vs q.1 q.2):=by have:=r0.put p.1 h.2;rw[<-h.1];show this
  show ih e
structure M2(X:Cx)(o:Expr)(m:Str)(apos:Pos)(e f:Expr)(cpos:Pos):Prop where
 base:attributeBase o m X.env (eval o X.env)=eval o X.env
 few:((backTo cpos (starEach [e,f] X.env)).all (λx=>!x.1) && (backToKw cpos (keywordEach [] X.env)).all (λx=>x.1.isSome)
  && decide (([e,f]:List Expr).length+([]:List Keyword).length+(if([]:List Keyword).isEmpty then 0 else 1)<30))=true
 line:(apos.endLine == cpos.line)=true
 trees:backTo cpos (starEach [e,f] X.env)=[(false,eval e X.env),(false,eval f X.env)]
def IsD(H:Hp)(a:Addr):Prop:=(∃kvs,Rd H a (.dK kvs))\/∃kvs,Rd H a (.dT kvs)
variable {d:V}
def LA_(td ty tx:TE):TE:=λσ H Q=>td σ H λx H1=>∃a,x=.ref a/\IsD H1 a/\ty σ H1 λy H2=>tx σ H2 λz H3=>∃o,HC_ H3 a y o/\Q (o.getD z) H3
variable {kvs:List (Key×V)}
end L2
namespace Att
open PySem PySem.W PySem.Calls PyProof.Rows
end Att
namespace L2
open PySem PySem.Spec PyProof.Rows
variable {X:Cx}
end L2
namespace RimD
def su:Nat->(Nat->Int)->Int
 |0,_=>0
 |n+1,f=>su n f+f n
def sg(k:Nat):Int:=if k%2=0 then 1 else -1
def sk(k j:Nat):Nat:=if j<k then j else j+1
abbrev Mat:=Nat->Nat->Int
def mi(A:Mat)(k:Nat):Mat:=λi j=>A (i+1) (sk k j)
def D:Nat->Mat->Int
 |0,_=>1
 |n+1,A=>su (n+1) λk=>sg k*A 0 k*D n (mi A k)
end RimD
namespace RimM
def nf(t b:Int):Int×Int:=if b<0 then(t / -(Int.gcd t b:Int),b / -(Int.gcd t b:Int))else(t/(Int.gcd t b:Int),b/(Int.gcd t b:Int))
theorem gpos{t b:Int}(hb:b≠0):0<(Int.gcd t b:Int):=by have:=Int.gcd_pos_of_ne_zero_right t hb;lia
theorem pO_{t b:Int}(h:b<0):nf t b=nf (-t) (-b):=by
 have e:Int.gcd (-t) (-b)=Int.gcd t b:=by rw[Int.gcd_neg,FV_]
 unfold nf;rw[if_pos h,if_neg o_,e,Int.ediv_neg,Int.ediv_neg,FD_ (EA_ ..),FD_ (CS_ ..)]
theorem lY_{t b:Int}(h:0<b):nf t b=(t/(Int.gcd t b:Int),b/(Int.gcd t b:Int)):=by unfold nf;rw[if_neg o_]
structure Low(p:Int×Int):Prop where
 pos:0<p.2
 co:Int.gcd p.1 p.2=1
theorem nx_{t b:Int}(hb:b≠0):Low (nf t b)/\t*(nf t b).2=(nf t b).1*b:=by
 have key:∀{t b:Int},0<b->Low (nf t b)/\t*(nf t b).2=(nf t b).1*b:=λ{t b} h=>by
  have g:=gpos (t:=t) (b:=b) o_;rw[lY_ h];show⟨⟨Int.ediv_pos_of_pos_of_dvd h (Bt_ g) (CS_ ..),Int.gcd_ediv_gcd_ediv_gcd o_⟩,?_⟩;change t*(b/(Int.gcd t b:Int))=t/(Int.gcd t b:Int)*b;obtain⟨x,hx⟩:=EA_ (a:=t) (b:=b);obtain⟨y,hy⟩:=CS_ (a:=t) (b:=b)
  have e1:t/(Int.gcd t b:Int)=x:=by
   conv=>lhs;arg 1;rw[hx]
   show EB_ _ o_
  have e2:b/(Int.gcd t b:Int)=y:=by
   conv=>lhs;arg 1;rw[hy]
   show EB_ _ o_
  rw[e1,e2]
  conv=>lhs;arg 1;rw[hx]
  conv=>rhs;arg 2;rw[hy]
  rw[Int.mul_assoc,Int.mul_left_comm]
 rcases Int.lt_or_lt_of_ne hb with h|h
 .rw[pO_ h];obtain⟨a,e⟩:=key (t:=-t) (b:=-b) o_;show⟨a,?_⟩;rw[Int.neg_mul,Int.mul_neg]at e;lia
 .show key h
theorem ny_{p:Int×Int}(h:Low p):nf p.1 p.2=p:=by rw[lY_ h.pos,h.co];simp
end RimM
namespace RimD
open RimM
end RimD
namespace RimT
variable {α:Type}[DecidableEq α]
def J4_(p:Nat):Nat->List α->List ((Nat×Nat)×α)
 |_,[]=>[]
 |k,w::l=>((p,k),w)::J4_ p (k+1) l
def Id_:Nat->List (List α)->List ((Nat×Nat)×α)
 |_,[]=>[]
 |o,l::T=>J4_ o 0 l++Id_ (o+1) T
abbrev ends(T:List (List α)):=Id_ 0 T
def wi(T:List (List α))(e:Nat×Nat):Option α:=(T.getD e.1 [])[e.2]?
theorem g1_{p:Nat}{e:Nat×Nat}{w:α}:∀{l:List α}{k:Nat},(e,w)∈J4_ p k l↔e.1=p/\k<=e.2/\l[e.2-k]?=some w
 |[],k=>by simp[J4_]
 |a::l,k=>by
  rw[J4_,Aq_,g1_];constructor
  .rintro(h|⟨h1,h2,h3⟩)
   .cases h;simp
   .show⟨h1,o_,?_⟩;rw[show e.2-k=(e.2-(k+1))+1 by lia,CC_];show h3
  .rintro⟨h1,h2,h3⟩;by_cases z:e.2=k
   .left;rw[z,DQ_,List.getElem?_cons_zero]at h3;cases h3;show C2_ (C2_ h1 z) rfl
   .right;show⟨h1,o_,?_⟩;rw[show e.2-k=(e.2-(k+1))+1 by lia,CC_]at h3;show h3
theorem hq_{e:Nat×Nat}{w:α}:∀{T:List (List α)}{o:Nat},(e,w)∈Id_ o T↔o<=e.1/\(T.getD (e.1-o) [])[e.2]?=some w
 |[],o=>by simp[Id_]
 |l::T,o=>by
  rw[Id_,At_,g1_,hq_];constructor
  .rintro(⟨h1,h2,h3⟩|⟨h1,h2⟩)
   .show⟨o_,?_⟩;rw[h1,DQ_];show h3
   .show⟨o_,?_⟩;rw[show e.1-o=(e.1-(o+1))+1 by lia];show h2
  .rintro⟨h1,h2⟩;by_cases z:e.1=o
   .left;rw[z,DQ_]at h2;show⟨z,o_,h2⟩
   .right;show⟨o_,?_⟩;rw[show e.1-o=(e.1-(o+1))+1 by lia]at h2;show h2
variable{e:Nat×Nat}
theorem jg_{T:List (List α)}{w:α}:(e,w)∈ends T↔wi T e=some w:=by unfold ends;rw[hq_];simp[wi]
theorem lZ_(p:Nat):∀(l:List α)(k:Nat),(J4_ p k l).map (·.2)=l
 |[],_=>rfl
 |a::l,k=>by rw[J4_,AW_,lZ_ p l]
theorem hr_:∀(T:List (List α))(o:Nat),(Id_ o T).map (·.2)=T.flatten
 |[],_=>rfl
 |l::T,o=>by rw[Id_,As_,lZ_,hr_ T,A9_]
theorem ix_(p:Nat):∀(l:List α)(k:Nat),((J4_ p k l).map (·.1)).Nodup
 |[],_=>Bn_
 |a::l,k=>by
  rw[J4_,AW_,AS_];show⟨λh=>?_,ix_ p l (k+1)⟩;obtain⟨⟨e,w⟩,he,q⟩:=Ay_.mp h;have:=(g1_.mp he).2.1
  dsimp only at q
  rw[q]at this
  dsimp only at this
  lia
theorem hs_:∀(T:List (List α))(o:Nat),((Id_ o T).map (·.1)).Nodup
 |[],_=>Bn_
 |l::T,o=>by
  rw[Id_,As_,Be_];show⟨ix_ o l 0,hs_ T (o+1),λa ha b hb e=>?_⟩;subst e;obtain⟨⟨e,w⟩,he,q⟩:=Ay_.mp ha;obtain⟨⟨e',w'⟩,he',q'⟩:=Ay_.mp hb;have h1:=(g1_.mp he).1;have h2:=(hq_.mp he').1
  dsimp only at q q'
  rw[q]at h1;rw[q']at h2;lia
theorem gB_(w:α):∀l:List ((Nat×Nat)×α),(l.map (·.2)).count w=(l.filter λx=>decide (x.2=w)).length
 |[]=>rfl
 |a::l=>by
  rw[AW_,Df_,gB_ w l,Bo_];by_cases h:a.2=w
  .simp[h]
  .simp[h]
theorem l0_{T:List (List α)}{w:α}(h:T.flatten.count w=2):∃a b,(ends T).filter (λx=>decide (x.2=w))=[(a,w),(b,w)]/\a≠b/\∀e,wi T e=some w↔e=a\/e=b:=by
 have hl:((ends T).filter λx=>decide (x.2=w)).length=2:=by rw[<-gB_,hr_];show h
 have nd:(((ends T).filter λx=>decide (x.2=w)).map (·.1)).Nodup:=(hs_ T 0).sublist (List.Sublist.map _ List.filter_sublist)
 have mem:∀x,x∈(ends T).filter (λx=>decide (x.2=w))↔wi T x.1=some w/\x.2=w:=λx=>by
  rw[Bc_,Bl_];constructor
  .rintro⟨h1,h2⟩;show⟨?_,h2⟩;rw[<-jg_,<-h2];show h1
  .rintro⟨h1,h2⟩;show⟨?_,h2⟩;rw[<-jg_,<-h2]at h1;show h1
 generalize(ends T).filter (λx=>decide (x.2=w))=f at hl nd mem
 match f,hl with
 |[a,b],_ =>
  have ha:=(mem a).mp s_;have hb:=(mem b).mp s_;show⟨a.1,b.1,?_,?_,λe=>⟨λhe=>?_,?_⟩⟩
  .rw[show(a.1,w)=a from C2_ rfl ha.2.symm,show(b.1,w)=b from C2_ rfl hb.2.symm]
  .simp at nd;show nd
  .have:=(mem (e,w)).mpr ⟨he,rfl⟩
   rcases Aq_.mp this with z|z
   .show .inl (by rw[<-z])
   .show .inr (by rw[<-Ag_.mp z])
  .rintro(rfl|rfl)
   .show ha.1
   .show hb.1
def Tw(T:List (List α)):Prop:=∀w,w∈T.flatten->T.flatten.count w=2
theorem pP_{T:List (List α)}{w:α}(h:wi T e=some w):w∈T.flatten:=by rw[<-hr_ T 0];show Ay_.mpr ⟨_,jg_.mpr h,rfl⟩
def JS_(T:List (List α))(a b:Nat×Nat):Prop:=a≠b/\∃w,wi T a=some w/\wi T b=some w
theorem JS_.symm{T:List (List α)}{a b:Nat×Nat}(h:JS_ T a b):JS_ T b a:=⟨λe=>h.1 e.symm,h.2.elim λw q=>⟨w,q.2,q.1⟩⟩
theorem qr_{T:List (List α)}(h:Tw T){a:Nat×Nat}{w:α}(ha:wi T a=some w):∃b,JS_ T a b:=by
 obtain⟨x,y,_,ne,all⟩:=l0_ (h w (pP_ ha))
 rcases(all a).mp ha with e|e
 .show⟨y,e▸ne,w,ha,(all y).mpr (.inr rfl)⟩
 .show⟨x,λz=>ne (by rw[<-z,e]),w,ha,(all x).mpr (.inl rfl)⟩
theorem g2_{T:List (List α)}(h:Tw T){a b c:Nat×Nat}(hb:JS_ T a b)(hc:JS_ T a c):b=c:=by
 obtain⟨n1,w,a1,b1⟩:=hb;obtain⟨n2,w',a2,c2⟩:=hc;rw[a1]at a2;cases a2;obtain⟨x,y,_,ne,all⟩:=l0_ (h w (pP_ a1))
 rcases(all a).mp a1 with e|e <;> rcases(all b).mp b1 with e1|e1 <;> rcases(all c).mp c2 with e2|e2 <;> subst e <;> subst e1 <;> subst e2 <;> first|rfl|show absurd rfl n1|show absurd rfl n2
def rl(T:List (List α))(p:Nat):Nat:=(T.getD p []).length
def IsC(T:List (List α))(P:Nat)(c:Nat×Nat):Prop:=c.1<T.length/\c.2<rl T c.1+(if c.1<P then 1 else 0)
theorem qs_{T:List (List α)}(h:e.2<rl T e.1):∃w,wi T e=some w:=⟨_,Ab_ h⟩
theorem IJ_{T:List (List α)}{w:α}(h:wi T e=some w):e.2<rl T e.1/\e.1<T.length:=by
 have h1:e.2<rl T e.1:=(Ai_.mp h).1;show⟨h1,?_⟩
 rcases Nat.lt_or_ge e.1 T.length with z|z
 .show z
 .unfold rl at h1;rw[Ac_,B0_ z]at h1;simp at h1
def nx(T:List (List α))(P:Nat)(c m:Nat×Nat):Nat×Nat :=
 if c.2=rl T c.1 then((c.1+P-1)%P,0)else if m.1<P then(m.1,m.2+1)else(m.1,(m.2+1)%rl T m.1)
def Nx(T:List (List α))(P:Nat)(c c':Nat×Nat):Prop:=(c.2=rl T c.1/\c'=((c.1+P-1)%P,0))\/(c.2<rl T c.1/\∃m,JS_ T c m/\c'=if m.1<P then(m.1,m.2+1)else(m.1,(m.2+1)%rl T m.1))
variable{P:Nat}
theorem nx_c{T:List (List α)}(hP:0<P)(hPT:P<=T.length){c c':Nat×Nat}(hc:IsC T P c)(h:Nx T P c c'):IsC T P c':=by
 rcases h with⟨h1,rfl⟩|⟨h1,m,⟨_,w,_,hm⟩,rfl⟩
 .have:=Ce_ (c.1+P-1) hP;show⟨by change(c.1+P-1)%P<_;lia,by change 0<_;simp only[this,if_true];lia⟩
 .obtain⟨a,b⟩:=IJ_ hm;split
  .rename_i z;show⟨b,by change m.2+1<_;simp only[z,if_true];lia⟩
  .show⟨b,?_⟩;have:=Ce_ (m.2+1) (show 0<rl T m.1 by lia);show AM_ this (C1_ _ _)
theorem qt_{m a b:Nat}(ha:a<m)(hb:b<m)(h:(a+1)%m=(b+1)%m):a=b:=by
 by_cases z1:a+1=m <;> by_cases z2:b+1=m
 .lia
 .rw[z1,Nat.mod_self,Cw_ o_]at h;lia
 .rw[z2,Nat.mod_self,Cw_ o_]at h;lia
 .rw[Cw_ o_,Cw_ o_]at h;lia
theorem oQ_{a b:Nat}(ha:a<P)(hb:b<P)(h:(a+P-1)%P=(b+P-1)%P):a=b:=by
 have e:∀x,x<P->(x+P-1)%P=if x=0 then P-1 else x-1:=λx hx=>by
  by_cases z:x=0
  .rw[if_pos z,z,DR_,Cw_ o_]
  .rw[if_neg z,show x+P-1=(x-1)+P by lia,Nat.add_mod_right,Cw_ o_]
 rw[e a ha,e b hb]at h;split at h <;> split at h <;> lia
theorem pQ_{T:List (List α)}(h:Tw T)(hP:0<P){c d x:Nat×Nat}(hc:IsC T P c)(hd:IsC T P d)(h1:Nx T P c x)(h2:Nx T P d x):c=d:=by
 have post:∀{c:Nat×Nat},IsC T P c->c.2=rl T c.1->c.1<P:=λ{c} hc e=>by
  have:=hc.2;split at this
  .assumption
  .lia
 rcases h1 with⟨a1,a2⟩|⟨a1,m,am,a2⟩ <;> rcases h2 with⟨b1,b2⟩|⟨b1,m',bm,b2⟩
 .rw[a2]at b2;have e:=oQ_ (post hc a1) (post hd b1) (congrArg Prod.fst b2);show C2_ e (by rw[a1,b1,e])
 .exfalso;rw[a2]at b2;have lt:=Ce_ (c.1+P-1) hP;split at b2
  .have:=congrArg Prod.snd b2;dsimp only at this;lia
  .have:=congrArg Prod.fst b2;dsimp only at this;lia
 .exfalso;rw[b2]at a2;have lt:=Ce_ (d.1+P-1) hP;split at a2
  .have:=congrArg Prod.snd a2;dsimp only at this;lia
  .have:=congrArg Prod.fst a2;dsimp only at this;lia
 .rw[a2]at b2;obtain⟨_,w,_,wm⟩:=id am;obtain⟨_,w',_,wm'⟩:=id bm;have l1:=(IJ_ wm).1;have l2:=(IJ_ wm').1
  have e:m=m':=by
   split at b2 <;> split at b2
   .have e1:=congrArg Prod.fst b2;have e2:=congrArg Prod.snd b2;dsimp only at e1 e2;show C2_ e1 o_
   .have e1:=congrArg Prod.fst b2;dsimp only at e1;lia
   .have e1:=congrArg Prod.fst b2;dsimp only at e1;lia
   .have e1:=congrArg Prod.fst b2;have e2:=congrArg Prod.snd b2;dsimp only at e1 e2;rw[<-e1]at e2 l2;show C2_ e1 (qt_ l1 l2 e2)
  subst e;show g2_ h am.symm bm.symm
def corners(T:List (List α))(P:Nat):List (Nat×Nat):=(List.range T.length).flatMap λp=>(List.range (rl T p+(if p<P then 1 else 0))).map λk=>(p,k)
theorem e9_{T:List (List α)}{c:Nat×Nat}:c∈corners T P↔IsC T P c:=by
 unfold corners IsC;rw[List.mem_flatMap];constructor
 .rintro⟨p,hp,hc⟩;obtain⟨k,hk,rfl⟩:=Ay_.mp hc;show⟨AX_.mp hp,AX_.mp hk⟩
 .rintro⟨h1,h2⟩;show⟨c.1,AX_.mpr h1,Ay_.mpr ⟨c.2,AX_.mpr h2,rfl⟩⟩
inductive Way(T:List (List α))(P:Nat):List (Nat×Nat)->Nat×Nat->Prop
 |one {c d}:Nx T P c d->Way T P [c] d
 |more {l c d}:Way T P l c->Nx T P c d->Way T P (l++[c]) d
variable{d:Nat×Nat}
theorem l1_{T:List (List α)}{l:List (Nat×Nat)}(w:Way T P l d):l≠[]:=by
 cases w with
 |one _=>simp
 |more _ _=>simp
theorem l2_{β:Type}{l m:List β}{c:β}(h:l≠[])(e:(l++m).head?=some c):l.head?=some c:=by
 cases l with
 |nil=>show absurd rfl h
 |cons a r=>show e
theorem iy_{β:Type}[DecidableEq β]:∀{l m:List β},l.Nodup->(∀x∈l,x∈m)->l.length<=m.length
 |[],_,_,_=>Av_ _
 |a::l,m,nd,h=>by
  rw[AS_]at nd
  have:=iy_ (l:=l) (m:=m.erase a) nd.2 λx hx=>by
   have hne:x≠a:=λe=>by subst e;show nd.1 hx
   show(List.mem_erase_of_ne hne).mpr (h x (Aj_ _ hx))
  have ha:=h a Al_;rw[List.length_erase_of_mem ha]at this;have:0<m.length:=EY_ ha;simp only[A0_];lia
theorem jh_{T:List (List α)}(h:Tw T)(hP:0<P)(hPT:P<=T.length){c:Nat×Nat}:∀{l:List (Nat×Nat)}{d:Nat×Nat},Way T P l d->l.head?=some c->IsC T P c->IsC T P d/\(∀x∈l,IsC T P x)/\(∀x∈l,x=c\/∃y∈l,Nx T P y x)
  /\ ∃z∈l,Nx T P z d:=by
 intro l d w
 induction w with
 | @one a b hn =>
  intro hc ic;cases hc;show⟨nx_c hP hPT ic hn,λx hx=>by rw[Ag_.mp hx];show ic,λx hx=>.inl (Ag_.mp hx),c,s_,hn⟩
 | @more l' x y w hn ih =>
  intro hc ic;have hc':l'.head?=some c:=l2_ (l1_ w) hc;obtain⟨i1,i2,i3,z,hz,i4⟩:=ih hc' ic;show⟨nx_c hP hPT i1 hn,λq hq=>?_,λq hq=>?_,x,s_,hn⟩
  .rcases At_.mp hq with q'|q'
   .show i2 q q'
   .rw[Ag_.mp q'];show i1
  .rcases At_.mp hq with q'|q'
   .show(i3 q q').imp id λ⟨y,hy,e⟩=>⟨y,Ba_ _ hy,e⟩
   .rw[Ag_.mp q'];show .inr ⟨z,Ba_ _ hz,i4⟩
theorem qu_{T:List (List α)}(h:Tw T)(hP:0<P)(hPT:P<=T.length){c:Nat×Nat}{l:List (Nat×Nat)}(w:Way T P l d)(hc:l.head?=some c)(ic:IsC T P c)(nd:l.Nodup)(hd:d≠c):d∉l:=λhm=>by
 obtain⟨i1,i2,i3,z,hz,i4⟩:=jh_ h hP hPT w hc ic
 have key:∀{l:List (Nat×Nat)}{d:Nat×Nat},Way T P l d->l.head?=some c->l.Nodup->d∈l->d=c:=by
  intro l d w
  induction w with
  | @one a b hn =>
   intro hc nd hm;cases hc;show Ag_.mp hm
  | @more l' x y w hn ih =>
   intro hc nd hm;have hc':l'.head?=some c:=l2_ (l1_ w) hc;obtain⟨j1,j2,j3,z,hz,j4⟩:=jh_ h hP hPT w hc' ic;rw[Be_]at nd;have xnew:x∉l':=λq=>nd.2.2 x q x s_ rfl
   rcases At_.mp hm with q|q
   .rcases j3 y q with e|⟨u,hu,e⟩
    .show e
    .have:u=x:=pQ_ h hP (j2 u hu) j1 e hn;show absurd (this▸hu) xnew
   .have e:=Ag_.mp q;subst e
    have:z=y:=pQ_ h hP (j2 z hz) j1 j4 hn;show absurd (this▸hz) xnew
 show hd (key w hc nd hm)
theorem qv_{T:List (List α)}(h:Tw T)(hP:0<P)(hPT:P<=T.length){c:Nat×Nat}{l:List (Nat×Nat)}(w:Way T P l d)(hc:l.head?=some c)(ic:IsC T P c)(nd:l.Nodup):l.length<=(corners T P).length :=
 iy_ nd λx hx=>e9_.mpr ((jh_ h hP hPT w hc ic).2.1 x hx)
def ins(l:List α)(k:Nat)(w:α):List α:=l.take k++w::l.drop k
theorem gi_(l:List α)(k:Nat)(w:α):(ins l k w).length=l.length+1:=by unfold ins;simp only[Ak_,Aw_,A0_,Bs_];lia
theorem nz_(l:List α)(k:Nat)(w x:α):(ins l k w).count x=l.count x+if w=x then 1 else 0:=by
 unfold ins;rw[B7_,Df_];have:=A1_ k l;have e:l.count x=(l.take k).count x+(l.drop k).count x:=by rw[<-B7_,this]
 rw[e];by_cases h:w=x
 .simp[h];lia
 .simp[h]
def GJ_(T:List (List α))(c:Nat×Nat)(w:α):List (List α):=T.set c.1 (ins (T.getD c.1 []) c.2 w)
theorem ht_(x:α)(l':List α):∀(T:List (List α))(p:Nat),p<T.length->(T.set p l').flatten.count x+(T.getD p []).count x=T.flatten.count x+l'.count x
 |[],p,h=>absurd h s_
 |l::T,0,h=>by
  simp only[D9_,A9_,B7_,FE_];lia
 |l::T,p+1,h=>by have:=ht_ x l' T p (by simpa using h);simp only[Ea_,A9_,B7_,FF_];lia
theorem k2_(l':List α):∀(T:List (List α))(p:Nat),p<T.length->(T.set p l').flatten.length+(T.getD p []).length=T.flatten.length+l'.length
 |[],p,h=>absurd h s_
 |l::T,0,h=>by
  simp only[D9_,A9_,Ak_,FE_];lia
 |l::T,p+1,h=>by have:=k2_ l' T p (by simpa using h);simp only[Ea_,A9_,Ak_,FF_];lia
theorem dM_{T:List (List α)}{c:Nat×Nat}(h:c.1<T.length)(w x:α):(GJ_ T c w).flatten.count x=T.flatten.count x+if w=x then 1 else 0:=by have:=ht_ x (ins (T.getD c.1 []) c.2 w) T c.1 h;rw[nz_]at this;unfold GJ_;lia
theorem hu_{T:List (List α)}{c:Nat×Nat}(h:c.1<T.length)(w:α):(GJ_ T c w).flatten.length=T.flatten.length+1:=by have:=k2_ (ins (T.getD c.1 []) c.2 w) T c.1 h;rw[gi_]at this;unfold GJ_;lia
theorem aI_(T:List (List α))(c:Nat×Nat)(w:α):(GJ_ T c w).length=T.length:=by unfold GJ_;simp
theorem g3_{T:List (List α)}{c:Nat×Nat}(w:α)(p:Nat):rl T p<=rl (GJ_ T c w) p:=by
 unfold GJ_ rl;rw[Ac_,Ac_,BR_];by_cases h:c.1=p
 .subst h;by_cases h2:c.1<T.length
  .simp only[if_true,h2,Option.getD_some,gi_];rw[Ac_];lia
  .simp[h2,B0_ (CK_.mp h2)]
 .simp[h]
structure Gr(P W:Nat)(T:List (List Nat)):Prop where
 len:P<=T.length
 most:T.length<=P+10
 two:∀w,w<W->T.flatten.count w=2
 lt:∀w∈T.flatten,w<W
 ne:∀p,P<=p->p<T.length->0<rl T p
 tot:T.flatten.length=2*W
variable{T:List (List Nat)}
theorem Gr.tw{W:Nat}(g:Gr P W T):Tw T:=λw h=>g.two w (g.lt w h)
theorem oR_(P:Nat):Gr P 0 (List.replicate P []):=by
 have e:(List.replicate P ([]:List Nat)).flatten=[]:=by
  induction P with
  |zero=>rfl
  |succ n ih=>rw[List.replicate_succ,A9_,ih];rfl
 show⟨s_,s_,λw h=>absurd h o_,λw h=>(by rw[e]at h;cases h),λp h1 h2=>(by simp at h2;lia),(by rw[e];rfl)⟩
theorem hv_{c:Nat×Nat}(h:c.1<T.length){w x:Nat}(hx:x∈(GJ_ T c w).flatten):x=w\/x∈T.flatten:=by
 by_cases e:x=w
 .show .inl e
 .right;have:=CL_.mpr hx;rw[dM_ h,if_neg (λz=>e z.symm)]at this;show CL_.mp o_
theorem qw_{W:Nat}{c:Nat×Nat}(g:Gr P W T)(hc:c.1<T.length)(h:T.length<P+10):Gr P (W+1) (GJ_ T c W++[[W]]):=by
 have fl:(GJ_ T c W++[[W]]).flatten=(GJ_ T c W).flatten++[W]:=by rw[BN_];simp
 show⟨by simp[aI_];have:=g.len;lia,by simp[aI_];lia,λw hw=>?_,λw hw=>?_,λp h1 h2=>?_,?_⟩
 .rw[fl,B7_,dM_ hc];by_cases e:w=W
  .subst e;have:T.flatten.count w=0:=Eb_.mpr λz=>absurd (g.lt w z) o_;simp[this]
  .have:=g.two w o_;rw[if_neg (λz=>e z.symm),this];rw[Eb_.mpr λz=>e (Ag_.mp z)]
 .rw[fl]at hw
  rcases At_.mp hw with hw|hw
  .rcases hv_ hc hw with e|e
   .lia
   .have:=g.lt w e;lia
  .have:=Ag_.mp hw;lia
 .simp only[Ak_,aI_,CV_]at h2;by_cases e:p<T.length
  .have:=g.ne p h1 e;have a:=g3_ (T:=T) (c:=c) W p;unfold rl at a⊢;rw[Ac_,AH_ (by rw[aI_];show e),<-Ac_];unfold rl at this;lia
  .have e:p=T.length:=o_
   subst e;unfold rl;rw[Ac_,AI_ (by rw[aI_];show Af_ _),aI_];simp
 .rw[fl,Ak_,hu_ hc,g.tot];simp;lia
theorem rv_{W:Nat}{c:Nat×Nat}(g:Gr P W T)(hc:c.1<T.length)(hd:d.1<T.length):Gr P (W+1) (GJ_ (GJ_ T c W) d W):=by
 have hd':d.1<(GJ_ T c W).length:=by rw[aI_];show hd
 show⟨by rw[aI_,aI_];show g.len,by rw[aI_,aI_];show g.most,λw hw=>?_,λw hw=>?_,λp h1 h2=>?_,?_⟩
 .rw[dM_ hd',dM_ hc];by_cases e:w=W
  .subst e;have:T.flatten.count w=0:=Eb_.mpr λz=>absurd (g.lt w z) o_;simp[this]
  .rw[if_neg (λz=>e z.symm),g.two w o_]
 .rcases hv_ hd' hw with e|e
  .lia
  .rcases hv_ hc e with e|e
   .lia
   .have:=g.lt w e;lia
 .rw[aI_,aI_]at h2;have:=g.ne p h1 h2;have a:=g3_ (T:=T) (c:=c) W p;have b:=g3_ (T:=GJ_ T c W) (c:=d) W p;lia
 .rw[hu_ hd',hu_ hc,g.tot];lia
theorem k3_{T:List (List α)}:(corners T P).length<=T.flatten.length+P:=by
 have key:∀n,n<=T.length->((List.range n).flatMap λp=>(List.range (rl T p+(if p<P then 1 else 0))).map λk=>(p,k)).length<=(T.take n).flatten.length+min n P:=λn=>by
  induction n with
  |zero=>intro _;simp
  |succ n ih =>
   intro h;have i:=ih o_;have e:T[n]?=some T[n]:=Ab_ o_;rw[BA_,FG_,Ak_,Ct_,e,BN_,Ak_];have r:rl T n=T[n].length:=by unfold rl;rw[Ac_,e];rfl
   simp only[List.flatMap_cons,List.flatMap_nil,AR_,Aa_,Bx_,Option.toList_some,A9_,List.flatten_nil,r];split <;> lia
 have:=key T.length (Af_ _);rw[Bp_]at this;unfold corners;lia
theorem Gr.corners{W:Nat}(g:Gr P W T):(corners T P).length<=2*W+P:=by have:=k3_ (T:=T) (P:=P);rw[g.tot]at this;show this
end RimT
namespace L2
open PySem PySem.Spec PyProof.Rows
variable{K:PySem.W.Frag}
theorem dN_{X:Cx}(hK:X.K=K):IxR X (Mg_ K):=hK▸pH_
variable{pos:Pos}
theorem hw_{X:Cx}{x:Str}{C:Addr}(hm:X.mg x=some (.ref C))(hg:Gl X x)(hd:(x == ("__debug__" : Str))=false:=by decide):PE X (.Name x pos) (tC (.ref C)):=kS_ hg hm rfl hd
def HT_(n:Nat):List V:=(List.range n).map λi:Nat=>V.int (i:Int)
def Ju_(ta:TA):TE:=λσ H Q=>ta σ H λvs H1=>∃n:Nat,vs=[.int (n:Int)]/\n<=1000/\∀l,H1 l=none->Q (.ref l) (upd H1 l (.lst (HT_ n)))
theorem l3_:∀{xs:List V}{us:List Value},xs.length=us.length->(∀(j:Nat) x u,xs[j]?=some x->us[j]?=some u->Gu_ x u)->Gn_ xs us
 |[],[],_,_=>.nil
 |[],_::_,h,_=>by simp at h
 |_::_,[],h,_=>by simp at h
 |x::xs,u::us,h,k=>.cons (k 0 x u rfl rfl) (l3_ (by simpa using h) λj y v e e'=>k (j+1) y v (by simpa using e) (by simpa using e'))
theorem kd_{X:Cx}{a:Expr}{ta:TA}{p p' pos':Pos}(hc:X.calm=true)(hg:Gl X "list") (hm:X.mg "list"=none) (hg':Gl X "range") (hm':X.mg "range"=none) (ha:PA X [a] ta) (hs:Gg_ [a]=true:=by rfl):
  PE X (.Call (.Name "list" p) [.Call (.Name "range" p') [a] [] pos'] [] pos) (Ju_ ta):=by
 have h':GW_ a=true:=by simpa[Gg_]using hs
 intro pins s σ H Q I h;show Ch_ (fv_ I hg hm e6_ ?_ d_ d_);show BE_ ?_ (ax_ rfl) rfl;rw[ax_ (e:=.Call (.Name "range" p') [a] [] pos') (es:=[]) rfl];change wpAny _ _ (spliced ((false,eval (.Call (.Name "range" p') [a] [] pos') X.env)::backTo pos (starEach [] X.env))) _ _ s;show CJ_ ?_;show Call_ (fv_ I hg' hm' boot_range (BE_ (thn (ha pos' pins s σ H _ I h) λus s1 ⟨vs,H1,I1,r1,q1⟩=>?_) (ax_ h') rfl));obtain⟨n,e,n1,q⟩:=q1;subst e;cases r1 with
 |cons r rr =>
  cases rr;obtain⟨t,rfl⟩:=r;show call_range_1 ?_;show El_ ?_;have I2:Inv X pins σ H1 {s1 with heap:=s1.heap.push {cls:=.type "range",data:=.fields #[.int 0 s1.toks,.int (n:Int) t,.int 1 (s1.toks+1)]},toks:=s1.toks+1+1}:=I1.kept λb o e=>Ah_ _ e;show call_list_range (n:=n) (I2.ok.hd hc) (IsRange.new ..) (small_one o_ o_ o_ o_) (by rw[rangeSize_one];split <;> lia) o_ λh2 tk acc c hk hS hacc=>?_;show⟨.ref _,_,I2.laid (t':=tk) hk (Af_ _) (show Gy_ X.prog X.w _ h2 _ (.lst (HT_ n))from⟨?_,acc.toList,c,l3_ ?_ ?_,by simpa using hS⟩),rfl,q _ (I2.hok.fresh (Af_ _))⟩
  .show A6_ (F3_ (by simp[HT_];lia))
  .simp[HT_,hacc.1]
  .intro j x u hx hu;have hj:j<n:=by have:=(Ai_.mp hx).1;simpa[HT_]using this
   have hx':x=V.int (j:Int):=by rw[HT_,Ae_,D2_ hj]at hx;show(Ar_ hx).symm
   obtain⟨tk',rfl⟩:=hacc.2 j u (by simpa using hu);rw[hx'];show⟨tk',by rw[Cx_,Int.mul_one]⟩
open PySem.W
def Hg_{α:Type}(lt:Nat->Nat->Bool)(n:Nat):KasT α->Option α
 | .ret a=>some a
 | .ask i j k=>if i<n/\j<n then Hg_ lt n (k (lt i j))else none
theorem nA_{α:Type}{ask:Nat->Nat->(Bool->Shared->Prop)->Shared->Prop}{lt:Nat->Nat->Bool}{n:Nat}{Q:α->Shared->Prop}{s:Shared}(hc:∀i j (C:Bool->Shared->Prop),i<n->j<n->C (lt i j) s->ask i j C s):
  ∀(t:KasT α){p:α},Hg_ lt n t=some p->Q p s->t.kasWp ask Q s
 | .ret a,p,e,q=>by
  cases e;show q
 | .ask i j k,p,e,q=>by
  unfold Hg_ at e;split at e
  .rename_i h;show hc i j _ h.1 h.2 (nA_ hc (k (lt i j)) e q)
  .cases e
variable {X:Cx}{pins:List (Addr×Obj)}{σ:St}{H:Hp}{s:Shared}
theorem rw_{h:Heap}{a:Addr}{m m':Str->Option Value}(x:h.Ns a m)(y:h.Ns a m'):m=m':=by obtain⟨o,es,ep,ho,hd,_,hf⟩:=x;obtain⟨o',es',ep',ho',hd',_,hf'⟩:=y;rw[ho]at ho';cases ho';rw[hd]at hd';cases hd';funext z;rw[<-hf z,hf' z]
theorem Inv.keeps(I:Inv X pins σ H s){m:Str->Option Value}{h':Heap}(F:Fr X.base X.env.locals h' m)(N:News X.base X.env.locals h' (Gv_ X.base s.heap X.env.locals)):
  ∀b o,b≠X.env.locals->s.heap.get? b=some o->h'.get? b=some o:=λb o hb e=>by
 cases q:X.base.get? b with
 |some u =>
  have z:=I.bk b u q;rw[e]at z;cases z;show F.keep b _ q
 |none=>show(N (b,o) (dH_ hb q e)).1
theorem Inv.led{H':Hp}{t':Nat}(I:Inv X pins σ H s){m:Str->Option Value}(hn:s.heap.Ns X.env.locals m){h':Heap}(F:Fr X.base X.env.locals h' m)(N:News X.base X.env.locals h' (Gv_ X.base s.heap X.env.locals))
  (free:∀b o,s.heap.get? b=some o->H b=none->H' b=none) (old:∀b o,H b=some o->H' b=some o) (new:∀b o,H' b=some o->H b=none->Gy_ X.prog X.w H' h' b o):Inv X pins σ H' {s with heap:=h',toks:=t'}:=by
 have kp:=I.keeps F N;show I.step (g':=s.gens) (d':=s.drawn) (ch:=[]) (λ_ z=>nomatch z) (λb o hb _ _ e _=>kp b o hb e) (λb o hb _ _ e _=>⟨o.slots,kp b o hb e⟩) (λb o _ e n=>free b o e n) (λb o _ e=>?_) (λb xs q=>old b _ q) (λb o u q=>old b _ q) (λb ps q=>⟨#[],by simpa using old b _ q⟩) (λm' hm=>?_) ?_ I.bare
 .by_cases hb:b=X.env.locals
  .subst hb;obtain⟨o',_,_,ho',_⟩:=F.ns;show⟨o',ho'⟩
  .show⟨o,kp b o hb e⟩
 .rw[rw_ hm hn];show F.ns
 .intro b o e;cases q:H b with
  |none=>show new b o e q
  |some u =>
   have z:=old b u q;rw[e]at z;cases z;show(I.hok b o q).stay (λc v hc r=>kp c v (λw=>?_) r) (λc r=>old c _ r) λc xs r=>old c _ r
   rcases hc with rfl|hc
   .rw[w,I.free]at q;cases q
   .rw[w,I.free]at hc;cases hc
theorem ke_{ys:List V}{its:List Value}(r:Gn_ ys its)(is:List Nat):Gn_ (is.map λi=>ys.getD i .non) (is.map λi=>its.getD i Value.none):=by
 induction is with
 |nil=>show .nil
 |cons i is ih =>
  show .cons ?_ ih;change Gu_ (ys.getD i .non) (its.getD i Value.none);rw[Ac_,Ac_];have hl:=r.length;cases e:ys[i]? with
  |none =>
   have:ys.length<=i:=Co_.mp e;rw[Co_.mpr o_];show rfl
  |some x =>obtain⟨u,hu,ru⟩:=r.get e;rw[hu];show ru
variable{P:Program}{h:Heap}
theorem KR_{w:World}{a:Addr}{o:HO}(x:Gy_ P w H h a o):∃ob,h.get? a=some ob:=by
 cases o with
 |lst xs=>obtain⟨_,_,_,_,e⟩:=x;show⟨_,e⟩
 |tup xs=>obtain⟨_,_,_,ob,e,_⟩:=x;show⟨_,e⟩
 |dK kvs=>obtain⟨_,_,_,_,ob,_,_,e,_⟩:=x;show⟨_,e⟩
 |dT kvs=>obtain⟨_,_,_,_,ob,_,_,e,_⟩:=x;show⟨_,e⟩
 |set S n=>obtain⟨ob,_,_,_,e,_⟩:=x;show⟨_,e⟩
 |ins C dx fs=>obtain⟨_,_,_,e,_⟩:=x;show⟨_,e⟩
 |own y=>show x
 |xd fs=>obtain⟨_,⟨ob,_,_,e,_⟩,_⟩:=x;show⟨_,e⟩
 |rng lo hi=>obtain⟨_,_,_,e⟩:=x;show⟨_,e⟩
 |frz ob u=>show⟨_,x.1⟩
 |tbl ps=>show⟨_,show h.get? a=some _ from x⟩
 |met f y=>show⟨_,show h.get? a=some _ from x⟩
 |ext φ=>show x.2.1
theorem nB_{Q:VK}{p:Addr}{ys:List V}{lt:Nat->Nat->Bool}{κ:SortKind}{pm:Array Nat}(I:Inv X pins σ H s)(hq:SqL X.K H p ys)(h2:2<=ys.length)(h64:ys.length<64)
  (kind:∀(its:List Value)(s':Shared),Gn_ ys its->Inv X pins σ H s'->∀C:SortKind->Shared->Prop,C κ s'->wpAny (model X.prog X.w) X.A.in1.in1 (keyKind' its.toArray) C (λ_ _=>False) s')
  (less:∀(its:List Value)(s':Shared)(i j:Nat),Gn_ ys its->Inv X pins σ H s'->i<ys.length->j<ys.length->∀C:Bool->Shared->Prop,C (lt i j) s'->wpAny (model X.prog X.w) X.A.in1.in1 (keyLt' κ (its.getD i Value.none) (its.getD j Value.none)) C (λ_ _=>False) s')
  (run:Hg_ lt ys.length (kas_sort ys.length)=some pm) (hz:pm.size<=1000) (q:∀l,H l=none->Q (.ref l) (upd H l (.lst (pm.toList.map λi=>ys.getD i .non)))):
  wpAny (model X.prog X.w) X.A (call (.builtin "sorted") [.ref p]) (EP X pins σ Q) X.xe s:=by
 obtain⟨its,rv,pl,_⟩:=I.list hq;have hl:=rv.length;obtain⟨m,hn,_⟩:=id I.loc;have F0:Fr X.base X.env.locals s.heap m:=⟨hn,I.bk,Au_ I.ok.bsz I.ok.above⟩;show kat_sorted F0 bR_ pl.isList o_ o_ λD e1 h1 F1 N1 lt1=>?_;have N1':News X.base X.env.locals h1 (Gv_ X.base s.heap X.env.locals):=λz hz'=>N1 z (Aj_ _ hz');have ND:=N1 (D,_) Al_;have fr:∀b o,s.heap.get? b=some o->b≠D:=λb o e w=>by subst w;show absurd (lt1 (b,o) (dH_ ND.2.1 ND.2.2 e)) (BK_ _)
 have HD:H D=none:=by
  cases w:H D with
  |none=>rfl
  |some u =>obtain⟨o,g⟩:=KR_ (I.hok D u w);show absurd rfl (fr D o g)
 have I1:Inv X pins σ H {s with heap:=h1,toks:=s.toks}:=I.led hn F1 N1' (λ_ _ _ n=>n) (λ_ _ w=>w) (λb o w n=>by rw[w]at n;cases n);show kind its _ rv I1 _ ?_;rw[<-hl];show nA_ (lt:=lt) (n:=ys.length) (λi j C hi hj hC=>less its _ i j rv I1 hi hj C hC) _ run ?_;show KasFin.intro F1 N1 (.head λz hz' w=>?_) λh2' c F2 N2=>?_
 .show absurd (lt1 z hz') (by rw[w];show BK_ _)
 .have N2':News X.base X.env.locals h2' (Gv_ X.base s.heap X.env.locals):=λz hz'=>N2 z (Aj_ _ hz');have hD:=(N2 (D,_) Al_).1;show⟨.ref D,upd H D (.lst (pm.toList.map λi=>ys.getD i .non)),I.led (t':=s.toks) hn F2 N2' (λb o e n=>by rw[ae_ (fr b o e)];show n) (λb o e=>by rw[ae_ (ah_ e HD)];show e) (λb o e n=>?_),rfl,q D HD⟩;by_cases hb:b=D
  .subst hb;rw[aa_]at e;cases e;show⟨A6_ (F3_ (by simp;lia)),_,c,ke_ rv _,hD⟩
  .rw[ae_ hb,n]at e;cases e
open HT
open PySem.SeqAt
open PySem.AutoSeq1 (wpAny_loadPart')
open PySem.MeetsSeq PySem.MeetsSeq2 PySem.MeetsSeq3
variable {prog:Program}{w:World}{A:Around}{E:Value->Shared->Prop}
theorem bu_{α β:Type}{lt:Nat->Nat->Bool}{N:Nat}{f:α->KasT β}:∀(t:KasT α){a:α},Hg_ lt N t=some a->Hg_ lt N (t.bind f)=Hg_ lt N (f a)
 | .ret b,a,e=>by cases e;rfl
 | .ask i j k,a,e=>by
  unfold Hg_ at e;change(if i<N/\j<N then Hg_ lt N ((k (lt i j)).bind f)else none)=_;split at e
  .rename_i h;rw[if_pos h];show bu_ (k (lt i j)) e
  .cases e
section
variable {lt:Nat->Nat->Bool}{N:Nat}
def Pm(N:Nat)(p:Array Nat):Prop:=p.Perm (List.toArray (List.range N))
theorem Pm.below{p:Array Nat}(h:Pm N p)(h0:0<N)(i:Nat):p.getD i 0<N:=by
 by_cases hi:i<p.size
 .have e:p.getD i 0=p[i]:=by simp[Array.getD,hi]
  have m:p[i]∈(List.range N):=by
   have:p[i]∈p.toList:=s_
   show(Bd_.mp h).mem_iff.mp this
  rw[e];show AX_.mp m
 .have e:p.getD i 0=0:=by simp[Array.getD,hi]
  rw[e];show h0
theorem k4_{p:Array Nat}(h:Pm N p)(h0:0<N):∀(f n:Nat),∃m,Hg_ lt N (kas_asc p f n)=some m
 |0,n=>⟨n,rfl⟩
 |f+1,n=>by
  unfold kas_asc Hg_;rw[if_pos ⟨h.below h0 _,h.below h0 _⟩];cases lt (p.getD n 0) (p.getD (n-1) 0)with
  |true=>show⟨n,rfl⟩
  |false=>show k4_ h h0 f (n+1)
variable{p:Array Nat}
theorem Pm.rev(h:Pm N p)(i j:Nat):Pm N (kas_rev p i j):=(mirror_perm _ _ _ _).trans h
theorem g4_(h0:0<N):∀(f:Nat)(p:Array Nat)(n q:Nat),Pm N p->∃r,Hg_ lt N (kas_desc f p n q)=some r/\Pm N r.1
 |0,p,n,q,h=>⟨_,rfl,h⟩
 |f+1,p,n,q,h=>by
  unfold kas_desc Hg_;rw[if_pos ⟨h.below h0 _,h.below h0 _⟩];cases lt (p.getD n 0) (p.getD (n-1) 0)with
  |true =>
   simp only[if_true];split
   .show g4_ h0 f _ _ _ (h.rev _ _)
   .show g4_ h0 f _ _ _ h
  |false =>
   simp only[BF_,CO_];unfold Hg_;rw[if_pos ⟨h.below h0 _,h.below h0 _⟩];cases lt (p.getD (n-1) 0) (p.getD n 0)with
   |true=>show⟨_,rfl,h⟩
   |false=>show g4_ h0 f _ _ _ h
theorem kf_(h0:0<N){n r:Nat}(h:Pm N p):∃z,Hg_ lt N (kas_tail3 n r p)=some z/\Pm N z.2:=by obtain⟨m,hm⟩:=k4_ (lt:=lt) (h.rev 0 n) h0 (r-n) n;unfold kas_tail3;show⟨_,(bu_ _ hm).trans rfl,h.rev 0 n⟩
theorem gC_(h0:0<N){n r:Nat}(h:Pm N p):∃z,Hg_ lt N (kas_descPart n r p)=some z/\Pm N z.2:=by
 obtain⟨d,hd,hp⟩:=g4_ (lt:=lt) h0 (r-(n+1)) p (n+1) 0 h;unfold kas_descPart;rw[bu_ _ hd];split
 .show kf_ h0 (hp.rev _ _)
 .show kf_ h0 hp
theorem nC_(h0:0<N){r:Nat}(h:Pm N p):∃z,Hg_ lt N (kas_count r p)=some z/\Pm N z.2:=by
 obtain⟨m,hm⟩:=k4_ (lt:=lt) h h0 (r-1) 1;unfold kas_count;rw[bu_ _ hm];split
 .show⟨_,rfl,h⟩
 .split
  .unfold Hg_;rw[if_pos ⟨h.below h0 _,h.below h0 _⟩];cases lt (p.getD 0 0) (p.getD (m-1) 0)with
   |true=>show⟨_,rfl,h⟩
   |false=>show gC_ h0 (h.rev _ _)
  .show gC_ h0 h
theorem hx_(h0:0<N){p:Array Nat}(h:Pm N p)(k:Nat):∀(f l r:Nat),∃m,Hg_ lt N (kas_place p k f l r)=some m
 |0,l,r=>⟨l,rfl⟩
 |f+1,l,r=>by
  unfold kas_place;split
  .show⟨l,rfl⟩
  .unfold Hg_;rw[if_pos ⟨h.below h0 _,h.below h0 _⟩];cases lt (p.getD k 0) (p.getD ((l+r)/2) 0)with
   |true=>show hx_ h0 h k f l _
   |false=>show hx_ h0 h k f _ r
theorem nD_(h0:0<N):∀(f:Nat)(p:Array Nat)(k:Nat),Pm N p->∃z,Hg_ lt N (kas_bin f p k)=some z/\Pm N z
 |0,p,k,h=>⟨p,rfl,h⟩
 |f+1,p,k,h=>by obtain⟨l,hl⟩:=hx_ (lt:=lt) h0 h k k 0 k;unfold kas_bin;rw[bu_ _ hl];show nD_ h0 f _ _ ((FW_ _ _ _).trans h)
theorem oS_(h0:0<N):∃z,Hg_ lt N (kas_sort N)=some z/\Pm N z:=by
 obtain⟨r,hr,hp⟩:=nC_ (lt:=lt) h0 (r:=N) (p:=List.toArray (List.range N)) (Array.Perm.refl _);unfold kas_sort;rw[bu_ _ hr];split
 .show nD_ h0 _ _ _ hp
 .show⟨_,rfl,hp⟩
end
theorem fC_{J:It}{g:TG}{tt:TT}{te:TE}{σ:St}{H:Hp}{Q:VK}(n:Nat)(B:Hp)(Pσ:St->Prop)(bs:Nat->Bool)(val:Nat->Dt)(hB:F0_ B H)(h0:Pσ σ)(hz:n<=1000)(hgo:∀i H',i<n->F0_ H H'->J.go i H')(hst:∀H',F0_ H H'->J.stop n H')
  (hs:∀D i x σ' H' H'',H D=none->(∃o,H' D=some o)->F0_ H H'->i<n->J.yld i H' x H''->Pσ σ'->∀(Y:St->V->Hp->Prop)(R:St->Hp->Prop),(bs i=true->∀σ2 v H3,Pσ σ2->F0_ H' H3->Rep (IB_ B D H3) v (val i)->Y σ2 v H3)->(bs i=false->∀σ2 H3,Pσ σ2->F0_ H' H3->R σ2 H3) ->
   g x σ' H'' λσ2 H2=>tt σ2 H2 λb H3=>if b=true then te σ2 H3 λv H4=>Y σ2 v H4 else R σ2 H3)
  (hd:∀D H',H D=none->F0_ H H'->Rep (H7_ B H') (.ref D) (.lst (((List.range n).filter bs).map val))->Q (.ref D) H'):Ik_ J g tt te σ H Q:=by
 intro D hD;have hBD:B D=none:=hB.free hD;show⟨λi m σ' H'=>m=n-i/\i<=n/\Pσ σ'/\F0_ H H'/\∃ys,H' D=some (.lst ys)/\Gt_ (IB_ B D H') ys (((List.range i).filter bs).map val),⟨n,s_,Av_ _,h0,F0_.new hD,[],aa_,rfl⟩,?_⟩;rintro i m σ' H' ⟨rfl,hi,hp,hs',ys,hys,hr⟩;have hl:ys.length<=i:=by rw[hr.length,Aa_];have:=Bj_ bs (List.range i);rw[Bx_]at this;show this
 by_cases hlt:i<n
 .show .inr ⟨hgo i H' hlt hs',λσ2 H2=>Pσ σ2/\F0_ H H2/\∃ys,H2 D=some (.lst ys)/\Gt_ (IB_ B D H2) ys (((List.range (i+1)).filter bs).map val),λσ2 H2 ⟨a,b,c⟩=>⟨n-(i+1),o_,rfl,hlt,a,b,c⟩,λx H'' hy=>?_⟩;show hs D i x σ' H' H'' hD ⟨_,hys⟩ hs' hlt hy hp _ _ (λhb σ2 v H3 hp2 s3 hv=>?_) λhb σ2 H3 hp2 s3=>?_
  .show⟨ys,s3 _ _ hys,F3_ o_,hp2,(hs'.trans s3).upd hD,ys++[v],aa_,?_⟩;rw[lU_,BA_,A5_,As_];have e:([i].filter bs).map val=[val i]:=by simp[hb]
   rw[e];show(Gt_.mono (ho_ s3) _ hr).append ⟨v,[],rfl,hv,rfl⟩
  .show⟨hp2,hs'.trans s3,ys,s3 _ _ hys,?_⟩;rw[BA_,A5_,As_];have e:([i].filter bs).map val=[]:=by simp[hb]
   rw[e,AR_];show Gt_.mono (ho_ s3) _ hr
 .have e:i=n:=o_
  subst e;show .inl ⟨hst H' hs',hd D H' hD hs' ⟨D,ys,rfl,?_,Gt_.mono lT_ _ hr⟩⟩;rw[cI_ hBD];show hys
theorem Inv.frm(I:Inv X pins σ H s):∃m,s.heap.Ns X.env.locals m/\Fr X.base X.env.locals s.heap m:=by obtain⟨m,hn,_⟩:=id I.loc;show⟨m,hn,hn,I.bk,Au_ I.ok.bsz I.ok.above⟩
theorem Inv.led_new{X:Cx}{pins:List (Addr×Obj)}{σ:St}{H:Hp}{s:Shared}{t':Nat}{m:Str->Option Value}{h':Heap}{D:Addr}{o:HO}{ob:Obj}(I:Inv X pins σ H s)(hn:s.heap.Ns X.env.locals m)(F:Fr X.base X.env.locals h' m)
  (N:News X.base X.env.locals h' ((D,ob)::Gv_ X.base s.heap X.env.locals)) (lt1:∀q∈Gv_ X.base s.heap X.env.locals,q.1<D) (new:Gy_ X.prog X.w (upd H D o) h' D o):H D=none/\Inv X pins σ (upd H D o) {s with heap:=h',toks:=t'}:=by
 have ND:=N (D,ob) Al_;have fr:∀b o,s.heap.get? b=some o->b≠D:=λb o e w=>by subst w;show absurd (lt1 (b,o) (dH_ ND.2.1 ND.2.2 e)) (BK_ _)
 have HD:H D=none:=by
  cases w:H D with
  |none=>rfl
  |some u =>obtain⟨o',g⟩:=KR_ (I.hok D u w);show absurd rfl (fr D o' g)
 show⟨HD,I.led hn F (λz hz'=>N z (Aj_ _ hz')) (λb o' e n=>by rw[ae_ (fr b o' e)];show n) (λb o' e=>by rw[ae_ (ah_ e HD)];show e) (λb o' e n=>?_)⟩;by_cases hb:b=D
 .subst hb;rw[aa_]at e;cases e;show new
 .rw[ae_ hb,n]at e;cases e
def LC_:List V->Hp->VK->Prop:=λvs H Q=>∃(p:Addr)(ns:List Int),vs=[.ref p]/\H p=some (.lst (ns.map V.int))/\ns.length<64/\∀(l:Addr)(zs:List Int),H l=none->zs.Perm ns->zs.Pairwise (· <= ·)->Q (.ref l) (upd H l (.lst (zs.map V.int)))
theorem gD_:∀{us:List Value}{ns:List Int},IntsAre us ns->Gn_ (ns.map V.int) us
 |_,_,.nil=>.nil
 |_,_,.cons n t h=>.cons ⟨t,rfl⟩ (gD_ h)
theorem iz_:GM_ X (.builtin "sorted") LC_:=by intro pins s σ H xs us Q I r h;obtain⟨p,ns,rfl,hp,h64,q⟩:=h;obtain⟨u,rfl,e⟩:=Hk_ r;cases e;obtain⟨its,rv,pl,_⟩:=I.list (.inl (.inl hp));obtain⟨m,hn,F0⟩:=I.frm;show kso_sorted F0 bR_ pl.isList (mz_ rv) h64 λD vs' zs c h' F N lt1 hz hlz hpm hpw _=>?_;have hD:=(N (D,_) Al_).1;obtain⟨HD,I2⟩:=I.led_new (t':=s.toks) (o:=.lst (zs.map V.int)) hn F N lt1 ⟨A6_ (F3_ (by rw[Aa_];lia)),vs',c,gD_ hz,hD⟩;show⟨.ref D,_,I2,rfl,q D zs HD hpm hpw⟩
theorem MG_{a:Addr}{v:Value}{n:Nat}{P:PySem.Fin->Shared->Prop}(ho:s.heap.get? a=some (seqObj "list" #[v] n))
  (h:∀h' c,(∀b o,b≠a->s.heap.get? b=some o->h'.get? b=some o)->h'.get? a=some (seqObj "list" #[v] c)->P (.done (.ret .none)) {s with heap:=h'}):wpAny (model prog w) A (Builtin.«list.sort» ⟨[.ref a],[]⟩) P E s:=by
 have s1:=BU_ s.heap a (Obj.mapSeq λ_=>(#[]:Array Value));obtain⟨e1,o1⟩:∃e1,(s.heap.update a (Obj.mapSeq λ_=>(#[]:Array Value))).get? a=some (seqObj "list" #[] e1):=⟨_,Dg_ ho λ_=>#[]⟩;rw[list_sort_plain];show Ad_ (FN_ ho rfl (Ad_ (C7_ ho rfl (Ad_ (Dx_ o1 rfl (Ad_ (E9_ (Ad_ (C8_ (Bh_ ?_) (Av_ _))) ?_)))) ?_ (Av_ _))))
 .dsimp only
  have lt2:(#[v]:Array Value).size<2:=by change 1<2;decide
  rw[if_pos lt2];show Ad_ (AA_ ?_);rw[if_pos lt2];have k3:∀b o,(s.heap.update a (Obj.mapSeq λ_=>(#[]:Array Value))).get? b=some o->(((s.heap.update a (Obj.mapSeq λ_=>(#[]:Array Value))).push (seqObj "tuple" #[v] 0)).push (seqObj "list" #[] 0)).get? b=some o:=λb o e=>Ah_ _ (Ah_ _ e);have o3:=k3 _ _ o1;have st:failedOf (SortSt.mk' general' ((#[v]:Array Value).zip #[v]) #[] 7 none)=none:=rfl;have ar:(arrOf (SortSt.mk' general' ((#[v]:Array Value).zip #[v]) #[] 7 none)).map (λx=>x.snd)=#[v]:=by rw[show arrOf (SortSt.mk' general' ((#[v]:Array Value).zip #[v]) #[] 7 none)=(#[v]:Array Value).zip #[v]from rfl];simp
  show Ad_ (AA_ (a:=((),SortSt.mk' general' ((#[v]:Array Value).zip #[v]) #[] 7 none)) ?_);show Ad_ (Dx_ o3 rfl (Ad_ (C7_ o3 rfl ?_ (Av_ _) ?_)))
  .dsimp only
   rw[ar,if_neg s_];obtain⟨c2,o4⟩:∃c2,((((s.heap.update a (Obj.mapSeq λ_=>(#[]:Array Value))).push (seqObj "tuple" #[v] 0)).push (seqObj "list" #[] 0)).update a (Obj.mapSeq λ_=>(#[v]:Array Value))).get? a=some (seqObj "list" #[v] c2):=⟨_,Dg_ o3 λ_=>#[v]⟩;show AA_ (h _ c2 (λb o hb e=>?_) o4);rw[A4_ _ _ (Ne.symm hb)];show k3 b o ?_;rw[A4_ _ _ (Ne.symm hb)];show e
  .rw[ar];show(show 1<=sizeLine+1 from Nat.le_add_left 1 _)
 .show(show 1<=sizeLine from A6_ (F3_ d_))
 .show(show 1<=sizeLine from A6_ (F3_ d_))
theorem KT_{l:Addr}{v:Value}{Q:Value->Shared->Prop}(hl:s.heap.IsList l #[v])
  (h:∀D h' c,s.heap.objs.size<=D->(∀b o,s.heap.get? b=some o->h'.get? b=some o)->h'.get? D=some (seqObj "list" #[v] c)->Q (.ref D) {s with heap:=h'}):wpAny (model prog w) A (call (.builtin "sorted") [.ref l]) Q E s:=by
 show Er_ FX_ FO_ FP_ (args_sorted1 _) ?_;unfold Builtin.«sorted»;have z1:(#[v]:Array Value).size<=sizeLine:=(show 1<=sizeLine from A6_ (F3_ d_));show Ad_ (m:=checkCount "sorted" 1 1 _) (AA_ (Ad_ (FQ_ hl (Ad_ (C8_ ?_ z1)) z1)));have hz:((s.heap.push (seqObj "list" #[] 0)).update s.heap.objs.size (Obj.mapSeq λx=>x ++ #[v])).objs.size=s.heap.objs.size+1:=by rw[EC_,size_push']
 have kp:∀b o,s.heap.get? b=some o->(((s.heap.push (seqObj "list" #[] 0)).update s.heap.objs.size (Obj.mapSeq λx=>x ++ #[v])).push (seqObj "list" #[v] 0)).get? b=some o:=λb o q=>by have hlt:=Ap_ q;show Ah_ _ ?_;rw[A4_ _ _ (Di_ hlt)];show Ah_ _ q
 have ho:=AC_ ((s.heap.push (seqObj "list" #[] 0)).update s.heap.objs.size (Obj.mapSeq λx=>x ++ #[v])) (o:=seqObj "list" #[v] 0) rfl;show Ad_ (Bh_ (Cy_ D3_ ⟨_,ho,rfl⟩ DS_ (MG_ (n:=0) ho λh' c k2 hD=>⟨_,rfl,AA_ ⟨_,rfl,h _ h' c ?_ (λb o e=>k2 b o ?_ (kp b o e)) hD⟩⟩) (Fa_ _)))
 .change s.heap.objs.size<=((s.heap.push (seqObj "list" #[] 0)).update s.heap.objs.size (Obj.mapSeq λx=>x ++ #[v])).objs.size;rw[hz];show EX_ _
 .have:=Ap_ e;change b≠((s.heap.push (seqObj "list" #[] 0)).update s.heap.objs.size (Obj.mapSeq λx=>x ++ #[v])).objs.size;rw[hz];show AJ_ (Bw_ this)
def Lo_:List V->Hp->VK->Prop:=λvs H Q=>∃(p:Addr)(y:V),vs=[.ref p]/\H p=some (.lst [y])/\∀l,H l=none->Q (.ref l) (upd H l (.lst [y]))
theorem iA_:GM_ X (.builtin "sorted") Lo_:=by intro pins s σ H xs us Q I r h;obtain⟨p,y,rfl,hp,q⟩:=h;obtain⟨u,rfl,e⟩:=Hk_ r;cases e;obtain⟨its,rv,pl,_⟩:=I.list (.inl (.inl hp));obtain⟨v,rfl,ry⟩:=Hk_ rv;show KT_ pl.isList λD h' c hD kp ho=>?_;show⟨.ref D,_,I.laid (t':=s.toks) kp hD (show Gy_ X.prog X.w _ h' _ (.lst [y])from⟨(show 1<=sizeLine from A6_ (F3_ d_)),[v],c,rv,ho⟩),rfl,q _ (I.hok.fresh hD)⟩
variable {h₀:Heap}{L a:Addr}{m:Str->Option Value}{news:List (Addr×Obj)}{vs:List Value}
abbrev Im_:List (Str×Value):=[(Str.ofString "reverse",.bool true)]
def Kx_(a:Addr)(before:Nat)(st:SortSt):Sem PySem.Fin:=do
 let out:=(arrOf st).map (·.2)
 let moved:=(<-seqEpoch a) != before
 Builtin.List.listUpdate (.ref a) λ_=>out.reverse
 if let some x:=failedOf st then rule "list.sort.comparison-raised";throw x
 if moved then rule "list.sort.modified";raiseError "ValueError" "list modified during sort"
 ret .none
def JO_(a:Addr)(xs:Array Value)(before:Nat):Sem PySem.Fin:=do
 let two:=xs.zip xs
 rule "list.sort.reverse"
 let kd <-if xs.size<2 then pure general' else keyKind' xs
 let((),st) <-(if xs.size<2 then pure ()else sortRuns').run (SortSt.mk' kd two.reverse #[] 7 none)
 Kx_ a before st
theorem ji_(a:Addr):Builtin.«list.sort» ⟨[.ref a],Im_⟩=(Builtin.List.listItems (.ref a) >>= λxs=>Builtin.List.listUpdate (.ref a) (λ_=>#[]) >>= λ_=>seqEpoch a >>= λbefore=>newTuple xs.toList >>= λheld=>newList [] >>= λstore=>holding [held,store] (JO_ a xs before)):=rfl
theorem qx_(xs:List Value):((List.toArray xs).zip (List.toArray xs)).reverse=(List.toArray xs.reverse).zip (List.toArray xs.reverse):=by have e:=kat_pairs (ks:=xs) (vs:=xs) true rfl;rw[if_pos rfl]at e;show e
theorem oT_{n:Nat}{P:PySem.Fin->Shared->Prop}(F0:Fr h₀ L s.heap m)(N0:News h₀ L s.heap news)(got:s.heap.get? a=some (seqObj "list" vs.toArray n)) (aL:a≠L) (a0:h₀.get? a=none) (na:∀q∈news,q.1≠a) (two:2<=vs.length) (few:vs.length<64)
  (ask:∀c h',Fr h₀ L h' m->News h₀ L h' ((a,seqObj "list" #[] c)::news)->wpAny (model prog w) A (keyKind' vs.toArray) (λκ s1=>(kas_sort vs.length).kasWp (kas_ask prog w A κ vs.reverse) (λp s2=>KasFin h₀ L m a c ((p.toList.map λi=>vs.reverse.getD i Value.none).reverse) (λs3=>P (.done (.ret .none)) s3) s2) s1) (λ_ _=>False) {s with heap:=h'}):
  wpAny (model prog w) A (Builtin.«list.sort» ⟨[.ref a],Im_⟩) P E s:=by
 have lt:=Ap_ got;have b1:=BU_ s.heap a (Obj.mapSeq λ_=>(#[]:Array Value));obtain⟨c,got1⟩:∃c,(s.heap.update a (Obj.mapSeq λ_=>(#[]:Array Value))).get? a=some (seqObj "list" #[] c):=⟨_,Dg_ got λ_=>#[]⟩;have F1:=((kas_fr F0 b1 aL a0).push (seqObj "tuple" vs.toArray 0)).push (seqObj "list" #[] 0);have N1:=(kas_news N0 b1 na).grown (h':=((s.heap.update a (Obj.mapSeq λ_=>(#[]:Array Value))).push (seqObj "tuple" vs.toArray 0)).push (seqObj "list" #[] 0)) λb x e=>Ah_ _ (Ah_ _ e)
 have N2:News h₀ L (((s.heap.update a (Obj.mapSeq λ_=>(#[]:Array Value))).push (seqObj "tuple" vs.toArray 0)).push (seqObj "list" #[] 0)) ((a,seqObj "list" #[] c)::news):=λq hq=>by
  rcases Aq_.mp hq with rfl|hq
  .show⟨Ah_ _ (Ah_ _ got1),aL,a0⟩
  .show N1 q hq
 have asked:=ask c _ F1 N2;have big:64<=sizeLine:=by rw[Bv_];decide
 rw[ji_];show Ad_ (FN_ got rfl (Ad_ (C7_ got rfl (Ad_ (Dx_ got1 rfl (Ad_ (E9_ (Ad_ (C8_ (Bh_ ?_) (Av_ _))) (by change vs.length<=_;lia))))) (by rw[Ao_];lia) (Av_ _))));change wpAny (model prog w) A (JO_ a vs.toArray c) P E {s with heap:=((s.heap.update a (Obj.mapSeq λ_=>(#[]:Array Value))).push (seqObj "tuple" vs.toArray 0)).push (seqObj "list" #[] 0)};unfold JO_
 dsimp only
 have n2:¬ vs.toArray.size<2:=by rw[Ao_];lia
 rw[if_neg n2,if_neg n2,qx_];show Ad_ (CZ_ (Ad_ (Bg_ asked (λκ s0 hk=>?_) λ_ _ x=>x.elim)));have rl:vs.reverse.length=vs.length:=D1_
 show Ad_ (Bg_ (kat_run (ks:=vs.reverse) (vs:=vs.reverse) (Q:=λst s1=>∃p:Array Nat,p.size=vs.length/\arrOf st=p.map (kas_item (vs.reverse.toArray.zip vs.reverse.toArray))/\failedOf st=none/\KasFin h₀ L m a c ((p.toList.map λi=>vs.reverse.getD i Value.none).reverse) (λs2=>P (.done (.ret .none)) s2) s1)
  rfl o_ o_ (λp st s1 x1 x2 x3 x4=>⟨p,by rw[x1,rl],x2,x3,x4⟩) (by rw[rl];show hk)) ?_ λ_ _ e=>e)
 rintro⟨⟨⟩,st⟩ s1 ⟨p,hp,har,hf,news1,g,F2,N3,U,k⟩;obtain⟨pre,post,e0,hg,x1,x2⟩:=U.split;rw[e0]at N3;have now:=N3 (a,seqObj "list" #[] c) (AQ_ _ (.head _));have out:=kat_snds (ks:=vs.reverse) (vs:=vs.reverse) rfl har;have outr:((arrOf st).map (·.2)).reverse=List.toArray ((p.toList.map λi=>vs.reverse.getD i Value.none).reverse):=by rw[out];simp
 unfold Kx_
 dsimp only
 rw[outr];have sz:(List.toArray ((p.toList.map λi=>vs.reverse.getD i Value.none).reverse)).size=vs.length:=by rw[Ao_,D1_,Aa_,AZ_,hp]
 have b2:=BU_ s1.heap a (Obj.mapSeq λ_=>List.toArray ((p.toList.map λi=>vs.reverse.getD i Value.none).reverse));obtain⟨c2,got2⟩:∃c2,(s1.heap.update a (Obj.mapSeq λ_=>List.toArray ((p.toList.map λi=>vs.reverse.getD i Value.none).reverse))).get? a=some (seqObj "list" (List.toArray ((p.toList.map λi=>vs.reverse.getD i Value.none).reverse)) c2):=⟨_,Dg_ now.1 λ_=>List.toArray ((p.toList.map λi=>vs.reverse.getD i Value.none).reverse)⟩;show Ad_ (Dx_ now.1 rfl (Ad_ (C7_ now.1 rfl ?_ (Av_ _) (by rw[sz];lia))));rw[hf];simp only[bne_self_eq_false,BF_,CO_];show AA_ (k _ c2 (kas_fr F2 b2 now.2.1 now.2.2) ?_);rw[hg];show news_set N3 x1 x2 b2 got2
theorem kg_(x:Value):argsOk "sorted" ⟨[x],Im_⟩:=by unfold argsOk;kernel_rfl
theorem mE_(x:Value):argsOk "list.sort" ⟨[x],Im_⟩:=by unfold argsOk;kernel_rfl
theorem mF_{l:Addr}{Q:Value->Shared->Prop}(F0:Fr h₀ L s.heap m)(N0:News h₀ L s.heap news)(isl:s.heap.IsList l vs.toArray)(two:2<=vs.length)(few:vs.length<64)
  (ask:∀D c h',Fr h₀ L h' m->News h₀ L h' ((D,seqObj "list" #[] c)::news)->(∀q∈news,q.1<D)->wpAny (model prog w) A.in1.in1 (keyKind' vs.toArray) (λκ s1=>(kas_sort vs.length).kasWp (kas_ask prog w A.in1.in1 κ vs.reverse) (λp s2=>KasFin h₀ L m D c ((p.toList.map λi=>vs.reverse.getD i Value.none).reverse) (λs3=>Q (.ref D) s3) s2) s1) (λ_ _=>False) {s with heap:=h'}):
  wpAny (model prog w) A (call (.builtin "sorted") [.ref l] Im_) Q E s:=by
 have big:64<=sizeLine:=by rw[Bv_];decide
 show call_function_entry_kw FX_ FO_ FP_ (kg_ _) ?_;unfold Builtin.«sorted»;show Ad_ (m:=checkCount "sorted" 1 1 _) (AA_ (Ad_ (FQ_ isl (Ad_ (C8_ ?_ o_)) o_)));have sz:((s.heap.push (seqObj "list" #[] 0)).update s.heap.objs.size (Obj.mapSeq (· ++ vs.toArray))).objs.size=s.heap.objs.size+1:=(EC_ ..).trans (size_push' ..);obtain⟨hx,ex⟩:∃hx,hx=(s.heap.push (seqObj "list" #[] 0)).update s.heap.objs.size (Obj.mapSeq (· ++ vs.toArray)):=⟨_,rfl⟩;rw[<-ex]at sz;have got:(hx.push (seqObj "list" vs.toArray 0)).get? (s.heap.objs.size+1)=some (seqObj "list" vs.toArray 0):=by rw[<-sz];show AC_ _ rfl
 have kp:∀b o,s.heap.get? b=some o->(hx.push (seqObj "list" vs.toArray 0)).get? b=some o:=λb o q=>by have hb:=Ap_ q;rw[Dr_ _ _ _ (by rw[sz];show AJ_ (Bw_ hb)),ex,FH_ _ _ _ _ (AJ_ hb),Dr_ _ _ _ (AJ_ hb)];show q
 have hL:=F0.ns.lt;change wpAny _ _ _ _ _ {s with heap:=((s.heap.push (seqObj "list" #[] 0)).update s.heap.objs.size (Obj.mapSeq (· ++ vs.toArray))).push (seqObj "list" vs.toArray 0)};rw[<-ex,sz];show Ad_ (Bh_ (wpAny_call_entry_kw D3_ ⟨_,got,rfl⟩ DS_ ?body (mE_ _)))
 case body =>change wpAny (model prog w) A.in1.in1 (Builtin.«list.sort» ⟨[.ref (s.heap.objs.size+1)],Im_⟩) _ _ _;show oT_ (s:={s with heap:=hx.push (seqObj "list" vs.toArray 0)}) (F0.kept kp) (N0.grown kp) got (Di_ (Bw_ hL)) (DI_ (Au_ F0.above (Nat.le_succ_of_le (A6_ hL)))) (λq hq=>AJ_ (Bw_ (Ap_ (N0 q hq).1))) two few λc h' F' N'=>?_;show Bg_ (ask _ c h' F' N' λq hq=>Bw_ (Ap_ (N0 q hq).1)) (λκ s1 hk=>?_) λ_ _ x=>x;rw[kat_ask_eq (vs:=vs.reverse) rfl]at hk⊢;show kas_wp_mono hk λp s2 hk2=>hk2.mono λs3 hq=>⟨_,rfl,AA_ ⟨_,rfl,hq⟩⟩
theorem mG_{Q:VK}{p:Addr}{ys:List V}{lt:Nat->Nat->Bool}{κ:SortKind}{pm:Array Nat}(I:Inv X pins σ H s)(hq:SqL X.K H p ys)(h2:2<=ys.length)(h64:ys.length<64)
  (kind:∀(its:List Value)(s':Shared),Gn_ ys its->Inv X pins σ H s'->∀C:SortKind->Shared->Prop,C κ s'->wpAny (model X.prog X.w) X.A.in1.in1 (keyKind' its.toArray) C (λ_ _=>False) s')
  (less:∀(its:List Value)(s':Shared)(i j:Nat),Gn_ ys.reverse its->Inv X pins σ H s'->i<ys.length->j<ys.length->∀C:Bool->Shared->Prop,C (lt i j) s'->wpAny (model X.prog X.w) X.A.in1.in1 (keyLt' κ (its.getD i Value.none) (its.getD j Value.none)) C (λ_ _=>False) s')
  (run:Hg_ lt ys.length (kas_sort ys.length)=some pm) (hz:pm.size<=1000) (q:∀l,H l=none->Q (.ref l) (upd H l (.lst (pm.toList.map λi=>ys.reverse.getD i .non).reverse))):
  wpAny (model X.prog X.w) X.A (call (.builtin "sorted") [.ref p] Im_) (EP X pins σ Q) X.xe s:=by
 obtain⟨its,rv,pl,_⟩:=I.list hq;have hl:=rv.length;obtain⟨m,hn,F0⟩:=I.frm;show mF_ F0 bR_ pl.isList o_ o_ λD e1 h1 F1 N1 lt1=>?_;have N1':News X.base X.env.locals h1 (Gv_ X.base s.heap X.env.locals):=λz hz'=>N1 z (Aj_ _ hz');have ND:=N1 (D,_) Al_;have fr:∀b o,s.heap.get? b=some o->b≠D:=λb o e w=>by subst w;show absurd (lt1 (b,o) (dH_ ND.2.1 ND.2.2 e)) (BK_ _)
 have HD:H D=none:=by
  cases w:H D with
  |none=>rfl
  |some u =>obtain⟨o,g⟩:=KR_ (I.hok D u w);show absurd rfl (fr D o g)
 have I1:Inv X pins σ H {s with heap:=h1,toks:=s.toks}:=I.led hn F1 N1' (λ_ _ _ n=>n) (λ_ _ w=>w) (λb o w n=>by rw[w]at n;cases n);have rvr:Gn_ ys.reverse its.reverse:=rv.reverse;show kind its _ rv I1 _ ?_;rw[<-hl];show nA_ (lt:=lt) (n:=ys.length) (λi j C hi hj hC=>less its.reverse _ i j rvr I1 hi hj C hC) _ run ?_;show KasFin.intro F1 N1 (.head λz hz' w=>?_) λh2' c F2 N2=>?_
 .show absurd (lt1 z hz') (by rw[w];show BK_ _)
 .have N2':News X.base X.env.locals h2' (Gv_ X.base s.heap X.env.locals):=λz hz'=>N2 z (Aj_ _ hz');have hD:=(N2 (D,_) Al_).1;show⟨.ref D,upd H D (.lst (pm.toList.map λi=>ys.reverse.getD i .non).reverse),I.led (t':=s.toks) hn F2 N2' (λb o e n=>by rw[ae_ (fr b o e)];show n) (λb o e=>by rw[ae_ (ah_ e HD)];show e) (λb o e n=>?_),rfl,q D HD⟩;by_cases hb:b=D
  .subst hb;rw[aa_]at e;cases e;show⟨A6_ (F3_ (by simp;lia)),_,c,(ke_ rvr _).reverse,hD⟩
  .rw[ae_ hb,n]at e;cases e
def MZ_(T:String):V->Prop
 | .int _=>T = "int"
 | .str _=>T = "str"
 |_=>False
theorem hy_(T:String)(I:Inv X pins σ H s):∀{ys:List V}{its:List Value},Gn_ ys its->(∀y∈ys,∃a x z,y=.ref a/\H a=some (.tup [x,z])/\MZ_ T x) ->
  ∃fs,KatTups s.heap its fs/\fs.length=its.length/\∀v∈fs,Looks (model X.prog X.w) s.heap (typeOf v) (.type T)
 |[],_,.nil,_=>⟨[],.nil,rfl,λv hv=>nomatch hv⟩
 |y::ys,_,.cons r1 r2,h=>by
  obtain⟨fs,t,hl,hf⟩:=hy_ T I r2 λy hy=>h y (Aj_ _ hy);obtain⟨a,x,z,rfl,ha,fx⟩:=h _ Al_;cases r1;obtain⟨zs,rz,⟨ob,ho,hcl,n,hd⟩,_⟩:=I.tuple (.inl (.inl ha));obtain⟨u,w',rfl,ru,rw'⟩:=HG_ rz;show⟨u::fs,.cons ho hcl hd rfl t,by simp[hl],λv hv=>?_⟩
  rcases Aq_.mp hv with rfl|hv
  .cases x with
   |int i=>obtain⟨t,rfl⟩:=ru;cases fx;show .now
   |str i=>obtain⟨t,rfl⟩:=ru;cases fx;show .now
   |_=>show absurd fx (by simp[MZ_])
  .show hf v hv
theorem kh_(I:Inv X pins σ H s){a b:Addr}{x1 x2 y1 y2:V}{d1 d2 e1 e2:Dt}{b1 b2:Bool}{C:Bool->Shared->Prop}{A:Around}{E:Value->Shared->Prop}(hu:A.units+60<cLine)
  (ha:H a=some (.tup [x1,x2])) (hb:H b=some (.tup [y1,y2])) (r1:Rep H x1 d1) (r2:Rep H x2 d2) (q1:Rep H y1 e1) (q2:Rep H y2 e2) (h1:deq d1 e1=some b1) (h2:deq d2 e2=some b2) (z1:dep d1<=50) (z2:dep d2<=50)
  (c1:b1=false->∀u v,Gu_ x1 u->Gu_ y1 v->wpAny (model X.prog X.w) A (oneLt' true u v) C (λ_ _=>False) s)
  (c2:b1=true->b2=false->∀u v,Gu_ x2 u->Gu_ y2 v->wpAny (model X.prog X.w) A (oneLt' false u v) C (λ_ _=>False) s)
  (c3:b1=true->b2=true->C false s):wpAny (model X.prog X.w) A (keyLt' (tuples' true) (.ref a) (.ref b)) C E s:=by
 obtain⟨zs,rz,⟨ob,ho,hcl,n,hd⟩,_⟩:=I.tuple (.inl (.inl ha));obtain⟨u1,u2,rfl,ru1,ru2⟩:=HG_ rz;obtain⟨ws,rw,⟨ob',ho',hcl',n',hd'⟩,_⟩:=I.tuple (.inl (.inl hb));obtain⟨v1,v2,rfl,rv1,rv2⟩:=HG_ rw;show kat_lt ho hd ho' hd' ?_;show kat_cons (nk_ I Vw.refl d1 e1 r1 q1 ru1 rv1 h1 o_ _ _ _ _ ?_);cases b1 with
 |false=>show kat_no (c1 rfl _ _ ru1 rv1)
 |true =>
  show kat_yes (kat_cons (nk_ I Vw.refl d2 e2 r2 q2 ru2 rv2 h2 o_ _ _ _ _ ?_));cases b2 with
  |false=>show kat_no (c2 rfl rfl _ _ ru2 rv2)
  |true=>show kat_yes (kat_nil (c3 rfl rfl))
def I3_(ta:TA):TE:=λσ H Q=>ta σ H λvs H1=>∃(p x y:Addr)(c d:Int×Int),vs=[.ref p]/\H1 p=some (.lst [.ref x,.ref y])/\H1 x=some (.tup [.int c.1,.int c.2])/\H1 y=some (.tup [.int d.1,.int d.2])/\∀l zs,H1 l=none->(zs=[V.ref x,V.ref y]\/zs=[V.ref y,V.ref x])->Q (.ref l) (upd H1 l (.lst zs))
theorem oU_{p:Array Nat}(h:Pm 2 p):p.toList=[0,1]\/p.toList=[1,0]:=by
 have e:=Bd_.mp h;have hl:p.toList.length=2:=by simpa using e.length_eq
 match hp:p.toList,hl with
 |[a,b],_ =>
  rw[hp]at e;have m0:=e.mem_iff (a:=0);have m1:=e.mem_iff (a:=1);have ma:=e.mem_iff (a:=a);have mb:=e.mem_iff (a:=b);simp[List.range,List.range.loop]at m0 m1 ma mb
  rcases ma with rfl|rfl <;> rcases mb with rfl|rfl <;> simp_all
theorem ki_{X:Cx}(hu:X.A.units+64<cLine){pins:List (Addr×Obj)}{s:Shared}{σ:St}{H:Hp}{p x y:Addr}{c d:Int×Int}{Q:VK}(I:Inv X pins σ H s)(hp:H p=some (.lst [.ref x,.ref y]))(hx:H x=some (.tup [.int c.1,.int c.2]))(hy:H y=some (.tup [.int d.1,.int d.2]))
  (q:∀l zs,H l=none->(zs=[V.ref x,V.ref y]\/zs=[V.ref y,V.ref x])->Q (.ref l) (upd H l (.lst zs))):wpAny (model X.prog X.w) X.A (call (.builtin "sorted") [.ref p] Im_) (EP X pins σ Q) X.xe s:=by
 have all:∀z∈[V.ref x,V.ref y],∃(a:Addr)(e:Int×Int),z=.ref a/\H a=some (.tup [.int e.1,.int e.2]):=λz hz=>by
  rcases Aq_.mp hz with rfl|hz
  .show⟨x,c,rfl,hx⟩
  .rw[Ag_.mp hz];show⟨y,d,rfl,hy⟩
 let lt:Nat->Nat->Bool:=λi j=>let e:=if i=0 then d else c;let f:=if j=0 then d else c;if e.1=f.1 then(if e.2=f.2 then false else decide (e.2<f.2))else decide (e.1<f.1)
 obtain⟨pm,hr,hpm⟩:=oS_ (lt:=lt) (N:=2) d_;have pz:pm.size=2:=by simpa using(Bd_.mp hpm).length_eq
 show mG_ (lt:=lt) (κ:=tuples' true) (pm:=pm) I (.inl (.inl hp)) (Af_ _) (by change 2<64;decide) ?kind ?less hr o_ λl nl=>q l _ nl ?_
 case kind =>
  intro its s' rv I' C hC;obtain⟨fs,t,hf,lk⟩:=hy_ "int" I' rv λz hz=>by obtain⟨a,e,rfl,ha⟩:=all z hz;show⟨a,_,_,rfl,ha,rfl⟩
  have hl:=rv.length;have hl2:fs.length=2:=by rw[hf,<-hl];rfl
  show kat_kind t o_ lk d_ hC
 case less =>
  intro its s' i j rv I' hi hj C hC;have u2:X.A.in1.in1.units+60<cLine:=by rw[AY_,AY_];lia
  have pick:∀i,i<2->∃a,its.getD i Value.none=.ref a/\H a=some (.tup [.int (if i=0 then d else c).1,.int (if i=0 then d else c).2]):=λi hi=>by
   obtain⟨u,w',rfl,ru,rw'⟩:=HG_ (show Gn_ [V.ref y,V.ref x] its from rv);cases ru;cases rw'
   match i,hi with
   |0,_=>show⟨y,rfl,hy⟩
   |1,_=>show⟨x,rfl,hx⟩
  obtain⟨a,ea,ha⟩:=pick i hi;obtain⟨b,eb,hb⟩:=pick j hj;rw[ea,eb];have hlt:lt i j=if(if i=0 then d else c).1=(if j=0 then d else c).1 then(if(if i=0 then d else c).2=(if j=0 then d else c).2 then false else decide ((if i=0 then d else c).2<(if j=0 then d else c).2))else decide ((if i=0 then d else c).1<(if j=0 then d else c).1):=rfl;rw[hlt]at hC;generalize(if i=0 then d else c)=e at*;generalize(if j=0 then d else c)=f at*;show kh_ I' u2 ha hb (d1:=.int e.1) (d2:=.int e.2) (e1:=.int f.1) (e2:=.int f.2) (b1:=decide (e.1=f.1)) (b2:=decide (e.2=f.2)) rfl rfl rfl rfl (by rw[deq];rfl) (by rw[deq];rfl) (by simp[dep]) (by simp[dep]) (λh u v ru rv=>?_) (λh1 h2 u v ru rv=>?_) (λh1 h2=>?_)
  .obtain⟨t,rfl⟩:=ru;obtain⟨t',rfl⟩:=rv;rw[if_neg (BB_ h)]at hC;show oneLt_int hC
  .obtain⟨t,rfl⟩:=ru;obtain⟨t',rfl⟩:=rv;rw[if_pos (AN_ h1),if_neg (BB_ h2)]at hC;show kat_one _ _ (lt_int hC)
  .rw[if_pos (AN_ h1),if_pos (AN_ h2)]at hC;show hC
 .rcases oU_ hpm with e|e <;> rw[e]
  .show .inl rfl
  .show .inr rfl
theorem mH_{a:Expr}{ta:TA}{p cp kp:Pos}{k:Nat}(hu:X.A.units+64<cLine)(hg:Gl X "sorted") (hm:X.mg "sorted"=none) (ha:PA X [a] ta) (hs:Gg_ [a]=true:=by rfl):
  PE X (.Call (.Name "sorted" p) [a] [⟨some "reverse",.Constant (.bool true) k cp,kp⟩] pos) (I3_ ta):=by
 have h':GW_ a=true:=by simpa[Gg_]using hs
 intro pins s σ H Q I h;show Ch_ (fv_ I hg hm bB_ ?_ d_ d_);show callWith_kw (thn (ha pos pins s σ H _ I h) λus s1 ⟨vs,H1,I1,r1,q1⟩=>?_) (by rw[ax_ h'];rfl) (by rw[ax_ h'];rfl) rfl rfl;obtain⟨p,x,y,c,d,rfl,hp,hx,hy,q⟩:=q1;obtain⟨u,rfl,e⟩:=Hk_ r1;cases e;show kws_cons (thn (HN_ pins s1 σ H1 (λv H2=>v=.bl true/\H2=H1) I1 ⟨rfl,rfl⟩) λv s2 ⟨z,H2,I2,r2,e1,e2⟩=>?_);subst e1 e2;cases r2;show kws_nil (ki_ hu I2 hp hx hy q)
def LH_:R2:=λx y H Q=>∃i n,x=.str i/\y=.int n/\MulOk i n/\Q (.str (Txt.mul i n)) H
theorem iB_:OpR X (binaryOp .Mult) LH_:=by intro pins s σ H x y v u Q I rx ry h;obtain⟨i,n,rfl,rfl,ok,q⟩:=h;obtain⟨t,rfl⟩:=rx;obtain⟨t',rfl⟩:=ry;show SB.mul ok λt' k=>⟨.str (Txt.mul i n),H,I.tok _,⟨_,rfl⟩,q⟩
theorem nE_(i j:Str):(i++j).length=i.length+j.length:=by change(i.cps++j.cps).size=_;rw[Array.size_append];rfl
def M7_:V->Option Int->Option Int->Hp->VK->Prop:=λx lo hi H Q=>∃z:Str,x=.str z/\z.length<=sizeLine/\∀y:Str,y.length<=z.length->(∀c∈y.cps.toList,c∈z.cps.toList)->Q (.str y) H
theorem nF_{v:Value}{o:Option Int}(h:IsPart v o):∃l:Option (Int×Tok),v=partValue l/\l.map (·.1)=o:=by
 cases h with
 |none=>show⟨none,rfl,rfl⟩
 |int i t=>show⟨some (i,t),rfl,rfl⟩
theorem pR_:SlR X M7_:=by
 intro pins s σ H x v vl vu lo hi sl Q I rx hs pl pu h;obtain⟨z,rfl,hz,q⟩:=h;obtain⟨t,rfl⟩:=rx;obtain⟨l,rfl,el⟩:=nF_ pl;obtain⟨u,rfl,eu⟩:=nF_ pu;show⟨"str",_,F.slot_str_getitem.lookup,Ep_ _ _ _,?_⟩;show wpAny_getItem_str_slice (l:=l) (u:=u) (st:=none) hs rfl ?_;have le:=sliceIndices_le (l.map (·.1)) (u.map (·.1)) z.length;unfold sliceMade;by_cases hc:(((none:Option (Int×Tok)).map (·.1)).getD 1 == 1 && (slicePicked z l u none).length == z.length)=true
 .rw[if_pos hc];show⟨.str z,H,I,⟨_,rfl⟩,q z (Af_ _) λ_ h=>h⟩
 .rw[if_neg hc];have hl:(⟨((slicePicked z l u none).filterMap (z.cps[·]?)).toArray⟩:Str).length<=z.length:=by change(((slicePicked z l u none).filterMap (z.cps[·]?)).toArray).size<=_;rw[Ao_];show Au_ (Cz_ _ _) le
  show⟨Au_ hl hz,.str _,H,I.tok _,⟨_,rfl⟩,q _ hl λc hc=>?_⟩;have hc2:c∈(slicePicked z l u none).filterMap (z.cps[·]?):=by simpa using hc
  obtain⟨i,_,hi⟩:=BQ_.mp hc2;show Array.mem_toList_iff.mpr (Array.mem_of_getElem? hi)
def JA_:V->List V->Hp->VK->Prop:=λx vs H Q=>∃(a:Addr)(kvs:List (Key×V))(k:Key)(z:V),x=.ref a/\vs=[kV k,z]/\H a=some (.dK kvs)/\kvs.length<1000/\(∀v,Gw_ kvs k=some v->Q v H)/\(Gw_ kvs k=none->Q z (upd H a (.dK (G1_ kvs k z))))
theorem dO_:MtR X "dict.setdefault" JA_:=by
 intro pins s σ H x xs v us Q I rx r h;obtain⟨a,kvs,k,z,rfl,rfl,e,hz,h1,h2⟩:=h;cases rx;obtain⟨u,w',rfl,ru,rw'⟩:=HG_ r;obtain⟨_,hd,vs,rel,dd⟩:=Jg_ I.hok e;have hl:vs.length<=sizeLine:=by rw[<-rel.length];show A6_ (F3_ (A6_ hz))
 show ED_ BD_ dd.typeIs DY_ (DT_ _ _ _) (kt_meets_setdefault (Gc_ X.prog X.w) a (II_ ru) hd w') ⟨vs,dd,hl,λv hv=>?_,λhn h' dd' hs=>?_⟩
 .have rv:=rel.val k;rw[hv]at rv;cases e2:Gw_ kvs k with
  |none=>rw[e2]at rv;cases rv
  |some y =>rw[e2]at rv;show⟨y,H,I.tok _,rv,h1 y e2⟩
 .have rv:=rel.val k;rw[hn]at rv;cases e2:Gw_ kvs k with
  |some y=>rw[e2]at rv;cases rv
  |none =>
   have he:∃q,h'.get? a=some q:=let⟨q,_,_,hq,_⟩:=dd';⟨q,hq⟩;have pl:(G1_ kvs k z).length<=sizeLine:=by have:=bt_ kvs k z;have:=F3_ (n:=1000) (Af_ _);lia
   show⟨z,_,gg_ (t':=s.toks+1) I (by rw[e];show True.intro) hs he (nt_ pl hd (rel.put k rw') dd'),rw',h2 e2⟩
def Idv(d:Addr)(ob:Obj)(kvs:List (Key×V)):It :=
 ⟨λi H=>H d=some (.frz ob (.dK kvs))/\i<kvs.length,λi H x H'=>H'=H/\∃k,kvs[i]?=some (k,x),λi H=>H d=some (.frz ob (.dK kvs))/\kvs.length<=i⟩
def Idk(d:Addr)(ob:Obj)(kvs:List (Key×V)):It :=
 ⟨λi H=>H d=some (.frz ob (.dK kvs))/\i<kvs.length,λi H x H'=>H'=H/\∃k v,kvs[i]?=some (k,v)/\x=kV k,λi H=>H d=some (.frz ob (.dK kvs))/\kvs.length<=i⟩
theorem b6_{α β:Type}{F:α->β->Prop}:∀{l:List α}{m:List β}{i:Nat}{a:α}{b:β},Paired F l m->l[i]?=some a->m[i]?=some b->F a b
 |_,_,_,_,_,.nil,h,_=>by cases h
 |_,_,0,_,_,.cons x _,h1,h2=>by cases h1;cases h2;show x
 |_,_,i+1,_,_,.cons _ r,h1,h2=>b6_ (i:=i) r h1 h2
variable{d:Addr}{ob:Obj}{kvs:List (Key×V)}{es0:Array DictEntry}{ep:Nat}
theorem fD_(ok:HOk P w H h)(e:H d=some (.frz ob (.dK kvs)))(hd:ob.data=.dict es0 ep):∃vs,KV kvs vs/\h.DictAt (Gc_ P w) d vs ep:=by obtain⟨g,_,_,vs,rel,o,es,ep',ho,r1,r2,r3⟩:=(show Gy_ P w H h d (.frz ob (.dK kvs))from ok d _ e);rw[g]at ho;cases ho;rw[hd]at r2;cases r2;show⟨vs,rel,ob,es0,g,r1,hd,r3⟩
theorem nG_{tg:Expr}{it:Addr}(hob:ob.data=.dict es0 ep):
  KI_ P w K tg (Idv d ob kvs) [it] it (λi h=>h.IsValIter it d i kvs.length ep) where
 mem:=s_
 obj:=λi h st b hb=>by
  have e:b=it:=by simpa using hb
  subst e;obtain⟨o,e,c,dd⟩:=st;show⟨o,e,λv z=>by rw[dd]at z;cases z⟩
 keep:=λi h h' st k=>let⟨o,e,r⟩:=st;⟨o,k it s_ o e,r⟩
 item:=by intro X hP hw hK hc i pins s σ H E I hf st hg;subst hP hw hK;obtain⟨e,hi⟩:=hg;obtain⟨vs,rel,da⟩:=fD_ I.hok e hob;have hl:kvs.length=vs.length:=rel.length;obtain⟨f0,f1,f2,f3,f4,f5⟩:=hf it s_;have hx:vs[i]?=some (vs[i]'o_):=Ab_ _;have hk:kvs[i]?=some (kvs[i]):=Ab_ _;obtain⟨e1,e2⟩:=b6_ rel hk hx;rw[hl]at st;show wpAny_pyNext_values_item st da (k:=(vs[i]'o_).1) (v:=(vs[i]'o_).2) hx λh' st' sb=>?_;have I1:Inv X pins σ H {s with heap:=h'}:=I.turned (t':=s.toks) (λb o hb e=>(sb.2 b hb).trans e) f0 f1 f3 f4 f5;rw[<-hl]at st';obtain⟨o,e,c,dd⟩:=id st';show⟨_,rfl,JU_ (s:={s with heap:=h'}) e c dd d_ ⟨(kvs[i]).2,H,I1,e2,⟨rfl,(kvs[i]).1,hk⟩,st',λb hb=>(hf b hb).1⟩⟩
 done:=by intro X hP hw hK hc i pins s σ H E I hf st hg;subst hP hw hK;obtain⟨e,hi⟩:=hg;obtain⟨vs,rel,da⟩:=fD_ I.hok e hob;have hl:kvs.length=vs.length:=rel.length;obtain⟨f0,f1,f2,f3,f4,f5⟩:=hf it s_;rw[hl]at st;show wpAny_pyNext_values_end (I.ok.hd hc) st da (B0_ o_) λh' eb=>⟨rfl,I.turned (t':=s.toks) (λb o hb e=>eb b o hb e) f0 f1 f3 f4 f5⟩
 self:=λ_ _ _ _ _ st h=>wpAny_pyIter_valiter st h
theorem nH_{tg:Expr}{it:Addr}(hob:ob.data=.dict es0 ep):
  KI_ P w K tg (Idk d ob kvs) [it] it (λi h=>h.IsKeyIter it d i kvs.length ep) where
 mem:=s_
 obj:=λi h st b hb=>by
  have e:b=it:=by simpa using hb
  subst e;obtain⟨o,e,c,dd⟩:=st;show⟨o,e,λv z=>by rw[dd]at z;cases z⟩
 keep:=λi h h' st k=>let⟨o,e,r⟩:=st;⟨o,k it s_ o e,r⟩
 item:=by
  intro X hP hw hK hc i pins s σ H E I hf st hg;subst hP hw hK;obtain⟨e,hi⟩:=hg;obtain⟨vs,rel,da⟩:=fD_ I.hok e hob;have hl:kvs.length=vs.length:=rel.length;obtain⟨f0,f1,f2,f3,f4,f5⟩:=hf it s_;have hx:vs[i]?=some (vs[i]'o_):=Ab_ _;have hk:kvs[i]?=some (kvs[i]):=Ab_ _;obtain⟨e1,e2⟩:=b6_ rel hk hx;rw[hl]at st;show wpAny_pyNext_dict_item st da (k:=(vs[i]'o_).1) (v:=(vs[i]'o_).2) hx λkey h' kis st' sb=>?_;have I1:Inv X pins σ H {s with heap:=h'}:=I.turned (t':=s.toks) (λb o hb e=>(sb.2 b hb).trans e) f0 f1 f3 f4 f5;rw[<-hl]at st';obtain⟨o,e,c,dd⟩:=id st'
  have rk:Gu_ (kV (kvs[i]).1) key:=by
   rw[e1]
   rcases aL_ kis with⟨j,t,ek,ev⟩|⟨y,t,ek,ev⟩
   .rw[ek];show⟨t,ev⟩
   .rw[ek];show⟨t,ev⟩
  show⟨_,rfl,JU_ (s:={s with heap:=h'}) e c dd d_ ⟨kV (kvs[i]).1,H,I1,rk,⟨rfl,(kvs[i]).1,(kvs[i]).2,hk,rfl⟩,st',λb hb=>(hf b hb).1⟩⟩
 done:=by intro X hP hw hK hc i pins s σ H E I hf st hg;subst hP hw hK;obtain⟨e,hi⟩:=hg;obtain⟨vs,rel,da⟩:=fD_ I.hok e hob;have hl:kvs.length=vs.length:=rel.length;obtain⟨f0,f1,f2,f3,f4,f5⟩:=hf it s_;rw[hl]at st;show wpAny_pyNext_dict_end (I.ok.hd hc) st da (B0_ o_) λh' eb=>⟨rfl,I.turned (t':=s.toks) (λb o hb e=>eb b o hb e) f0 f1 f3 f4 f5⟩
 self:=λ_ _ _ _ _ st h=>wpAny_pyIter_keyiter st h
theorem Inv.freeze(I:Inv X pins σ H s)(e:H d=some (.dK kvs)):∃ob es0 ep,ob.data=.dict es0 ep/\s.heap.get? d=some ob/\Inv X pins σ (upd H d (.frz ob (.dK kvs))) s:=by obtain⟨z,hd,vs,rel,dd⟩:=Jg_ I.hok e;obtain⟨ob,es,ep,ho,r1,r2,r3⟩:=id dd;show⟨ob,es,ep,r2,ho,?_⟩;have:=gg_ (h':=s.heap) (t':=s.toks) (ob:=.frz ob (.dK kvs)) I (by rw[e];show True.intro) ⟨rfl,λ_ _=>rfl⟩ ⟨ob,ho⟩ ⟨ho,z,hd,vs,rel,dd⟩;show this
def iDK(td:TE):TI:=λσ H R=>td σ H λx H1=>∃(d:Addr)(kvs:List (Key×V)),x=.ref d/\H1 d=some (.dK kvs)/\∀ob,R (Idk d ob kvs) (upd H1 d (.frz ob (.dK kvs)))
theorem oV_{tg l:Expr}{td:TE}(hl:PE X l td):PI X tg l (iDK td):=by
 intro pins s σ H R I h;show thn (hl pins s σ H _ I h) λv s1 ⟨x,H1,I1,r1,q1⟩=>?_;obtain⟨d,kvs,e,hd,q⟩:=q1;subst e;cases r1;obtain⟨ob,es0,ep,hob,ho,I2⟩:=I1.freeze hd;obtain⟨_,hsys,_⟩:=Jg_ I1.hok hd;obtain⟨vs,rel,da⟩:=fD_ (kvs:=kvs) I2.hok aa_ hob;show wpAny_pyIter_dict hsys da ?_;rw[<-show kvs.length=vs.length from rel.length];show⟨s1.heap.objs.size,[s1.heap.objs.size],_,_,upd H1 d (.frz ob (.dK kvs)),rfl,I2.kept (t':=s1.toks) λb o e=>Ah_ _ e,nH_ hob,⟨_,AC_ _ rfl,rfl,rfl⟩,λb hb=>?_,q ob⟩;have e:b=s1.heap.objs.size:=by simpa using hb
 subst e;show I2.fpOk (Af_ _) (I2.hok.fresh (Af_ _))
def iDV(td:TE):TI:=λσ H R=>td σ H λx H1=>∃(d:Addr)(kvs:List (Key×V)),x=.ref d/\H1 d=some (.dK kvs)/\∀ob,R (Idv d ob kvs) (upd H1 d (.frz ob (.dK kvs)))
theorem nI_{K:PySem.W.Frag}{a:Addr}{xs:List V}{g:TG}{tb:TS}{D:If_}{σ:St}{H:Hp}(Pv:Nat->St->Hp->Prop)(h0:Pv 0 σ H)(hl:∀i σ H,i<=xs.length->Pv i σ H->SqL K H a xs)
  (hs:∀i x T σ H,xs[i]?=some x->Pv i σ H->H T=none->g (.ref T) σ (upd H T (.tup [.int i,x])) λσ2 H2=>tb {D with nx:=Pv (i+1),ct:=Pv (i+1),bk:=D.nx} σ2 H2) (hd:∀σ H,Pv xs.length σ H->D.nx σ H):Iv_ (Ite K a) g tb D σ H:=by
 show⟨λi m σ H=>m=xs.length-i/\i<=xs.length/\Pv i σ H,⟨xs.length,s_,Av_ _,h0⟩,?_⟩;rintro i m σ H ⟨rfl,hi,p⟩;have q:=hl i σ H hi p;by_cases hlt:i<xs.length
 .show .inr ⟨⟨xs,xs[i],q,by simp[hlt]⟩,Pv (i+1),λσ' H' p'=>⟨xs.length-(i+1),o_,rfl,hlt,p'⟩,λx H' y=>?_⟩;obtain⟨T,y,rfl,hT,rfl,hy⟩:=y;show hs i y T σ H (hy xs q) p hT
 .have e:i=xs.length:=o_
  subst e;show .inl ⟨⟨xs,q,Af_ _⟩,hd σ H p⟩
def Mu_(t:TGs):TG:=λv σ H Q=>∃(a:Addr)(x y:V),v=.ref a/\H a=some (.lst [x,y])/\t [x,y] σ H Q
end L2
namespace RimT
variable {S:Type}[DecidableEq S]
structure Net(S:Type) where
 posts:List S
 rows:List (S×List S)
 worths:List (S×(Int×Int))
def Net.all(N:Net S):List S:=(N.rows.map (·.2)).flatten
structure G4_(N:Net S):Prop where
 nd:(N.rows.map (·.1)).Nodup
 two:∀x∈N.all,N.all.count x=2
 few:N.rows.length<=16
 tot:N.all.length<=30
 pl:N.posts.length<=6
 wl:N.worths.length<=15
def GG_(ns ws:Nat->S)(T:List (List Nat))(ord:List Nat):List (S×List S):=ord.map λp=>(ns p,(T.getD p []).map ws)
theorem nJ_{α:Type}{l m:List (List α)}(h:l.Perm m):l.flatten.Perm m.flatten:=by
 induction h with
 |nil=>show .nil
 |cons x _ ih=>rw[A9_,A9_];show ih.append_left x
 |swap x y l=>rw[A9_,A9_,A9_,A9_,<-AG_,<-AG_];show List.perm_append_comm.append_right _
 |trans _ _ h1 h2=>show h1.trans h2
theorem iC_{α:Type}(d:α)(l:List α):(List.range l.length).map (λi=>l.getD i d)=l:=by
 apply EE_
 .simp
 .intro i h1 h2;simp[h2]
theorem l4_{ns ws:Nat->S}{T:List (List Nat)}{ord:List Nat}(h:ord.Perm (List.range T.length)):(((GG_ ns ws T ord).map (·.2)).flatten).Perm (T.flatten.map ws):=by
 have e:(GG_ ns ws T ord).map (·.2)=(ord.map λp=>T.getD p []).map λl=>l.map ws:=by unfold GG_;rw[AT_,AT_];rfl
 rw[e,<-List.map_flatten];show List.Perm.map _ ?_;have h2:=h.map λp=>T.getD p [];rw[iC_]at h2;show nJ_ h2
theorem fE_{α β:Type}[DecidableEq α][DecidableEq β]{f:α->β}{x:α}:∀{l:List α},(∀a∈l,f a=f x->a=x)->(l.map f).count (f x)=l.count x
 |[],_=>rfl
 |a::l,h=>by
  rw[AW_,Df_,Df_,fE_ λa ha=>h a (Aj_ _ ha)];congr 1;by_cases e:a=x
  .subst e;simp
  .have:f a≠f x:=λz=>e (h a Al_ z);simp[e,this]
theorem rx_{P W:Nat}{T:List (List Nat)}(g:Gr P W T){ns ws:Nat->S}{ord:List Nat}(h:ord.Perm (List.range T.length))(hP:P<=6)(hW:W<=15)
  (hn:∀a b,a<T.length->b<T.length->ns a=ns b->a=b) (hw:∀a b,a<W->b<W->ws a=ws b->a=b) {ps:List S} {wo:List (S×(Int×Int))} (hps:ps.length<=6) (hwo:wo.length<=15):G4_ (⟨ps,GG_ ns ws T ord,wo⟩:Net S):=by
 have al:=l4_ (ns:=ns) (ws:=ws) h;have e:((GG_ ns ws T ord).map (·.1))=ord.map ns:=by unfold GG_;rw[AT_];rfl
 show⟨?_,λx hx=>?_,?_,?_,hps,hwo⟩
 .change((GG_ ns ws T ord).map (·.1)).Nodup;rw[e];unfold List.Nodup;rw[B8_];show EF_ (λ{a b} ha hb ne z=>ne (hn a b (AX_.mp (h.mem_iff.mp ha)) (AX_.mp (h.mem_iff.mp hb)) z)) (h.nodup_iff.mpr List.nodup_range)
 .have hx':x∈T.flatten.map ws:=al.mem_iff.mp hx;obtain⟨w,hw1,rfl⟩:=Ay_.mp hx';change(((GG_ ns ws T ord).map (·.2)).flatten).count (ws w)=2;rw[al.count_eq,fE_ λa ha z=>hw a w (g.lt a ha) (g.lt w hw1) z];show g.two w (g.lt w hw1)
 .change(GG_ ns ws T ord).length<=16;unfold GG_;have:=h.length_eq;rw[Bx_]at this;rw[Aa_];have:=g.most;lia
 .change(((GG_ ns ws T ord).map (·.2)).flatten).length<=30;rw[al.length_eq,Aa_,g.tot];lia
abbrev End(S:Type):=S×Nat
def Ii_:List (S×List (End S))->S->End S->List (S×List (End S))
 |[],w,e=>[(w,[e])]
 | (k,es)::r,w,e=>if k=w then(k,es++[e])::r else(k,es)::Ii_ r w e
theorem fF_{w:S}{e:End S}:∀{a:List (S×List (End S))},(∀kv∈a,kv.1≠w)->Ii_ a w e=a++[(w,[e])]
 |[],_=>rfl
 | (k,es)::r,h=>by have:k≠w:=h (k,es) Al_;rw[Ii_,if_neg this,fF_ λkv hkv=>h kv (Aj_ _ hkv)];rfl
theorem bT_{w:S}{e:End S}:∀{a:List (S×List (End S))},(∃kv∈a,kv.1=w)->∃i es,a[i]?=some (w,es)/\(∀j kv,j<i->a[j]?=some kv->kv.1≠w)/\Ii_ a w e=a.set i (w,es++[e])
 |[],h=>by obtain⟨kv,hkv,_⟩:=h;cases hkv
 | (k,es)::r,h=>by
  by_cases hk:k=w
  .subst hk;show⟨0,es,rfl,λj kv hj=>absurd hj o_,by rw[Ii_,if_pos rfl];rfl⟩
  .obtain⟨i,es',h1,h2,h3⟩:=bT_ (w:=w) (e:=e) (a:=r) (by
    obtain⟨kv,hkv,hw⟩:=h
    rcases Aq_.mp hkv with rfl|hkv
    .show absurd hw hk
    .show⟨kv,hkv,hw⟩)
   show⟨i+1,es',h1,λj kv hj hkv=>?_,by rw[Ii_,if_neg hk,h3];rfl⟩;cases j with
   |zero=>cases hkv;show hk
   |succ j=>show h2 j kv o_ hkv
def Gx_(p:S):Nat->List S->List (S×End S)
 |_,[]=>[]
 |k,w::ws=>(w,(p,k))::Gx_ p (k+1) ws
def occ(rows:List (S×List S)):List (S×End S):=(rows.map λr=>Gx_ r.1 0 r.2).flatten
def Gq_(l:List (S×End S)):List (S×List (End S)):=l.foldl (λa x=>Ii_ a x.1 x.2) []
theorem cH_(l:List (S×End S))(x:S×End S):Gq_ (l++[x])=Ii_ (Gq_ l) x.1 x.2:=by unfold Gq_;rw[En_];rfl
theorem jj_{w:S}{e:End S}{kv:S×List (End S)}:∀{a:List (S×List (End S))},kv∈Ii_ a w e->(kv.1=w/\((∃es,(w,es)∈a/\kv.2=es++[e])\/((∀x∈a,x.1≠w)/\kv.2=[e])))\/kv∈a
 |[],h=>by
  have:=Ag_.mp h;subst this;show .inl ⟨rfl,.inr ⟨λx hx=>(by cases hx),rfl⟩⟩
 | (k,es)::r,h=>by
  by_cases hk:k=w
  .subst hk;rw[Ii_,if_pos rfl]at h
   rcases Aq_.mp h with h|h
   .subst h;show .inl ⟨rfl,.inl ⟨es,Al_,rfl⟩⟩
   .show .inr (Aj_ _ h)
  .rw[Ii_,if_neg hk]at h
   rcases Aq_.mp h with h|h
   .subst h;show .inr Al_
   .rcases jj_ h with⟨e1,e2⟩|h
    .show .inl ⟨e1,?_⟩
     rcases e2 with⟨es',h1,h2⟩|⟨h1,h2⟩
     .show .inl ⟨es',Aj_ _ h1,h2⟩
     .show .inr ⟨λx hx=>?_,h2⟩
      rcases Aq_.mp hx with rfl|hx
      .show hk
      .show h1 x hx
    .show .inr (Aj_ _ h)
theorem dp_{w:S}{e:End S}:∀{a:List (S×List (End S))},(Ii_ a w e).map (·.1)=if(∃kv∈a,kv.1=w)then a.map (·.1)else a.map (·.1)++[w]
 |[]=>by simp[Ii_]
 | (k,es)::r=>by
  by_cases hk:k=w
  .subst hk;rw[Ii_,if_pos rfl,if_pos ⟨(k,es),Al_,rfl⟩];rfl
  .rw[Ii_,if_neg hk,AW_,dp_ (a:=r)];by_cases hr:∃kv∈r,kv.1=w
   .rw[if_pos hr,if_pos (by obtain⟨kv,h1,h2⟩:=hr;show⟨kv,Aj_ _ h1,h2⟩)];rfl
   .rw[if_neg hr,if_neg (λ⟨kv,h1,h2⟩=>by
     rcases Aq_.mp h1 with rfl|h1
     .show hk h2
     .show hr ⟨kv,h1,h2⟩)]
    rfl
theorem bj_:∀(n:Nat)(l:List (S×End S)),l.length=n->((Gq_ l).map (·.1)).Nodup/\(∀kv∈Gq_ l,kv.2=(l.filter λx=>decide (x.1=kv.1)).map (·.2))/\(∀x∈l,∃kv∈Gq_ l,kv.1=x.1)/\(∀kv∈Gq_ l,∃x∈l,x.1=kv.1)
 |0,l,h=>by
  have:=AB_ h;subst this;show⟨Bn_,λkv hkv=>(by cases hkv),λx hx=>(by cases hx),λkv hkv=>(by cases hkv)⟩
 |n+1,l,h=>by
  obtain⟨m,x,rfl⟩:∃m x,l=m++[x]:=by show⟨l.dropLast,l.getLast (λe=>by rw[e]at h;cases h),(Bf_ _).symm⟩
  have hm:m.length=n:=by simpa using h
  obtain⟨h1,h2,h3,h4⟩:=bj_ n m hm;rw[cH_]
  have fe:∀w,((m++[x]).filter λy=>decide (y.1=w))=(m.filter λy=>decide (y.1=w))++(if x.1=w then[x]else[]):=λw=>by
   rw[A5_];by_cases e:x.1=w
   .simp[e]
   .simp[e]
  show⟨?_,λkv hkv=>?_,λy hy=>?_,λkv hkv=>?_⟩
  .rw[dp_];by_cases hc:∃kv∈Gq_ m,kv.1=x.1
   .rw[if_pos hc];show h1
   .rw[if_neg hc];show Be_.mpr ⟨h1,s_,λa ha b hb e=>?_⟩;obtain⟨kv,hkv,rfl⟩:=Ay_.mp ha;show hc ⟨kv,hkv,by rw[e];show Ag_.mp hb⟩
  .rw[fe,As_]
   rcases jj_ hkv with⟨e1,e2⟩|hkv'
   .rw[e1,if_pos rfl]
    rcases e2 with⟨es,h5,h6⟩|⟨h5,h6⟩
    .rw[h6];have:=h2 _ h5;simp only at this;rw[this];rfl
    .rw[h6];have:(m.filter λy=>decide (y.1=x.1))=[]:=by show Cf_.mpr λy hy z=>?_;obtain⟨kv2,h7,h8⟩:=h3 y hy;show h5 kv2 h7 (h8.trans (AN_ z))
     rw[this];rfl
   .by_cases e:x.1=kv.1
    .
     exfalso;obtain⟨i,es,g1,g2,g3⟩:=bT_ (w:=x.1) (e:=x.2) (a:=Gq_ m) ⟨kv,hkv',e.symm⟩;rw[g3]at hkv;obtain⟨j,hj,ej⟩:=Az_.mp hkv;rw[BO_]at hj;have hji:(Gq_ m)[j]?=some ((Gq_ m)[j]):=Ab_ hj;have hi:i<(Gq_ m).length:=(Ai_.mp g1).1;by_cases hij:i=j
     .subst hij;rw[Fb_]at ej;have e9:kv.2=es++[x.2]:=by rw[<-ej]
      obtain⟨j2,hj2,ej2⟩:=Az_.mp hkv';have k1:((Gq_ m).map (·.1))[j2]?=((Gq_ m).map (·.1))[i]?:=by rw[Ae_,Ae_,Ab_ hj2,ej2,g1];change some kv.1=some x.1;rw[e]
      have:=(Bb_ (by rw[Aa_];show hj2) h1).mp k1;subst this;rw[Ab_ hj2,ej2]at g1;have e10:=congrArg Prod.snd (Ar_ g1);rw[e9]at e10;have:=congrArg List.length e10;simp at this
     .rw[FI_ hij]at ej;have k1:((Gq_ m).map (·.1))[j]?=((Gq_ m).map (·.1))[i]?:=by rw[Ae_,Ae_,hji,ej,g1];change some kv.1=some x.1;rw[e]
      show hij ((Bb_ (by rw[Aa_];show hj) h1).mp k1).symm
    .rw[if_neg e];rw[h2 kv hkv'];simp
  .by_cases hc:∃kv∈Gq_ m,kv.1=y.1
   .have hk:y.1∈(Ii_ (Gq_ m) x.1 x.2).map (·.1):=by
     rw[dp_];obtain⟨kv,g1,g2⟩:=hc;have:y.1∈(Gq_ m).map (·.1):=Ay_.mpr ⟨kv,g1,g2⟩;split
     .show this
     .show Ba_ _ this
    obtain⟨kv,g1,g2⟩:=Ay_.mp hk;show⟨kv,g1,g2⟩
   .rcases At_.mp hy with hy|hy
    .show absurd (h3 y hy) hc
    .have e:=Ag_.mp hy;subst e;have hk:y.1∈(Ii_ (Gq_ m) y.1 y.2).map (·.1):=by rw[dp_,if_neg hc];show AQ_ _ (Ag_.mpr rfl)
     obtain⟨kv,g1,g2⟩:=Ay_.mp hk;show⟨kv,g1,g2⟩
  .rcases jj_ hkv with⟨e1,_⟩|hkv'
   .show⟨x,AQ_ _ (Ag_.mpr rfl),e1.symm⟩
   .obtain⟨y,g1,g2⟩:=h4 kv hkv';show⟨y,Ba_ _ g1,g2⟩
theorem gj_(p:S):∀(ws:List S)(k:Nat),(Gx_ p k ws).map (·.1)=ws
 |[],_=>rfl
 |w::ws,k=>by rw[Gx_,AW_,gj_ p ws (k+1)]
theorem gk_(rows:List (S×List S)):(occ rows).map (·.1)=(rows.map (·.2)).flatten:=by unfold occ;rw[List.map_flatten,AT_];congr 1;show BV_ λr _=>gj_ r.1 r.2 0
def GP_(N:Net S):List (S×List (End S)):=Gq_ (occ N.rows)
theorem jk_(N:Net S):((GP_ N).map (·.1)).Nodup:=(bj_ _ _ rfl).1
theorem iD_(w:S):∀l:List (S×End S),((l.filter λx=>decide (x.1=w)).map (·.2)).length=(l.map (·.1)).count w
 |[]=>rfl
 |x::l=>by
  have ih:=iD_ w l;rw[AW_,Df_,<-ih];by_cases e:x.1=w
  .simp[e]
  .simp[e]
theorem jl_{N:Net S}(ok:G4_ N){kv:S×List (End S)}(h:kv∈GP_ N):∃a b,kv.2=[a,b]:=by
 obtain⟨_,h2,_,h4⟩:=bj_ _ (occ N.rows) rfl;have hl:kv.2.length=2:=by rw[h2 kv h,iD_,gk_];obtain⟨x,x1,x2⟩:=h4 kv h;show ok.two kv.1 ?_;change kv.1∈(N.rows.map (·.2)).flatten;rw[<-gk_,<-x2];show Ay_.mpr ⟨x,x1,rfl⟩
 match hk:kv.2,hl with
 |[a,b],_=>show⟨a,b,rfl⟩
end RimT
namespace L2
open PySem PyProof.Rows PySem.W
structure Lto(lt:Nat->Nat->Bool)(N:Nat):Prop where
 as:∀x y,lt x y=true->lt y x=false
 tr:∀x y z,lt y x=false->lt z y=false->lt z x=false
def So(lt:Nat->Nat->Bool)(p:Array Nat)(b:Nat):Prop:=∀i j,i<j->j<b->lt (p.getD j 0) (p.getD i 0)=false
def Fa(lt:Nat->Nat->Bool)(p:Array Nat)(b:Nat):Prop:=∀i j,i<j->j<b->lt (p.getD i 0) (p.getD j 0)=false
section
variable {lt:Nat->Nat->Bool}{N:Nat}
variable{p:Array Nat}
theorem Pm.size(h:Pm N p):p.size=N:=by have:=(Bd_.mp h).length_eq;simpa using this
variable{n:Nat}
theorem So.more(O:Lto lt N)(h:So lt p n)(h1:1<=n)(e:lt (p.getD n 0) (p.getD (n-1) 0)=false):So lt p (n+1):=λi j hij hj=>by
 by_cases c:j<n
 .show h i j hij c
 .have:j=n:=o_
  subst this;by_cases d:i=j-1
  .subst d;show e
  .show O.tr _ _ _ (h i (j-1) o_ o_) e
theorem Fa.more(O:Lto lt N)(h:Fa lt p n)(h1:1<=n)(e:lt (p.getD (n-1) 0) (p.getD n 0)=false):Fa lt p (n+1):=λi j hij hj=>by
 by_cases c:j<n
 .show h i j hij c
 .have:j=n:=o_
  subst this;by_cases d:i=j-1
  .subst d;show e
  .show O.tr _ _ _ e (h i (j-1) o_ o_)
theorem nK_(O:Lto lt N){p:Array Nat}(h:Pm N p)(h0:0<N):∀(f n:Nat),1<=n->So lt p n->∃m,Hg_ lt N (kas_asc p f n)=some m/\So lt p m/\n<=m/\m<=n+f/\(m<n+f->lt (p.getD m 0) (p.getD (m-1) 0)=true)
 |0,n,h1,hs=>⟨n,rfl,hs,Af_ _,Af_ _,λx=>absurd x o_⟩
 |f+1,n,h1,hs=>by
  unfold kas_asc Hg_;rw[if_pos ⟨h.below h0 _,h.below h0 _⟩];cases e:lt (p.getD n 0) (p.getD (n-1) 0)with
  |true=>show⟨n,rfl,hs,Af_ _,o_,λ_=>e⟩
  |false =>obtain⟨m,a,b,c,d,g⟩:=nK_ O h h0 f (n+1) o_ (hs.more O h1 e);show⟨m,a,b,o_,o_,λx=>g o_⟩
def Es(lt:Nat->Nat->Bool)(p:Array Nat)(a b:Nat):Prop:=∀i j,a<=i->i<b->a<=j->j<b->lt (p.getD i 0) (p.getD j 0)=false
theorem Lto.rf(O:Lto lt N)(x:Nat):lt x x=false:=by
 cases e:lt x x with
 |false=>rfl
 |true=>show e.symm.trans (O.as x x e)
theorem Es.one(O:Lto lt N):Es lt p n (n+1):=λi j a b c d=>by rw[show i=j by lia];show O.rf _
theorem gl_{a:Nat}(hn:n<=p.size)(k:Nat):(kas_rev p a n).getD k 0=if a<=k/\k<n then p.getD (a+n-1-k) 0 else p.getD k 0:=by have q:=Db_ (xs:=p) (i:=a) (j:=n) hn k;change(mirror p a n ((n-a)/2)).getD k 0=_;rw[A7_,q];split <;> rw[A7_]
theorem Fa.seg{a:Nat}(hn:n<=p.size)(h:Fa lt p n)(e:Es lt p a n):Fa lt (kas_rev p a n) n:=λi j hij hj=>by
 rw[gl_ hn,gl_ hn];by_cases ci:a<=i/\i<n
 .rw[if_pos ci,if_pos ⟨o_,hj⟩];show e _ _ o_ o_ o_ o_
 .rw[if_neg ci];split <;> show h _ _ o_ o_
theorem jm_(O:Lto lt N)(h0:0<N):∀(f:Nat)(p:Array Nat)(n q:Nat),Pm N p->q+1<=n->n+f<=N->Fa lt p n->Es lt p (n-(q+1)) n->∃z,Hg_ lt N (kas_desc f p n q)=some z/\Pm N z.1/\Fa lt z.1 z.2.1/\Es lt z.1 (z.2.1-(z.2.2+1)) z.2.1/\n<=z.2.1/\z.2.1<=n+f
 |0,p,n,q,h,h1,_,hs,he=>⟨(p,n,q),rfl,h,hs,he,Af_ _,Af_ _⟩
 |f+1,p,n,q,h,h1,hN,hs,he=>by
  have sz:=h.size;unfold kas_desc Hg_;rw[if_pos ⟨h.below h0 _,h.below h0 _⟩];cases e:lt (p.getD n 0) (p.getD (n-1) 0)with
  |true =>
   simp only[if_true];split
   .have er:∀k,¬ (n-(q+1)<=k/\k<n)->(kas_rev p (n-(q+1)) n).getD k 0=p.getD k 0:=λk hk=>by rw[gl_ o_,if_neg hk]
    obtain⟨z,a,b,c,d,g⟩:=jm_ O h0 f (kas_rev p (n-(q+1)) n) (n+1) 0 (h.rev _ _) o_ o_ ((hs.seg o_ he).more O o_ (by rw[er n o_,gl_ o_,if_pos ⟨o_,o_⟩];show O.tr _ _ _ (O.as _ _ e) (he _ _ o_ o_ o_ o_))) (Es.one O);show⟨z,a,b,c,d,o_,o_⟩
   .obtain⟨z,a,b,c,d,g⟩:=jm_ O h0 f p (n+1) 0 h o_ o_ (hs.more O o_ (O.as _ _ e)) (Es.one O);show⟨z,a,b,c,d,o_,o_⟩
  |false =>
   simp only[BF_,CO_];unfold Hg_;rw[if_pos ⟨h.below h0 _,h.below h0 _⟩];cases e2:lt (p.getD (n-1) 0) (p.getD n 0)with
   |true=>show⟨(p,n,q),rfl,h,hs,he,Nat.le_refl _,by dsimp only;lia⟩
   |false =>
    simp only[BF_,CO_]
    obtain⟨z,a,b,c,d,g⟩:=jm_ O h0 f p (n+1) (q+1) h o_ o_ (hs.more O o_ e2) (λi j hi hi' hj hj'=>by
     have le:∀k,n+1-(q+1+1)<=k->k<n+1->lt (p.getD k 0) (p.getD (n-1) 0)=false/\lt (p.getD (n-1) 0) (p.getD k 0)=false:=λk k1 k2=>by
      by_cases kn:k=n
      .rw[kn];show⟨e,e2⟩
      .show⟨he _ _ o_ o_ o_ o_,he _ _ o_ o_ o_ o_⟩
     show O.tr _ _ _ (le j hj hj').2 (le i hi hi').1)
    show⟨z,a,b,c,d,o_,o_⟩
theorem pS_(hn:n<=p.size){k:Nat}(hk:k<n):(kas_rev p 0 n).getD k 0=p.getD (n-1-k) 0:=by have q:=Db_ (xs:=p) (i:=0) (j:=n) hn k;rw[if_pos ⟨Av_ _,hk⟩]at q;change(mirror p 0 n ((n-0)/2)).getD k 0=_;rw[A7_,A7_,q];congr 2;lia
theorem Fa.rev(hn:n<=p.size)(h:Fa lt p n):So lt (kas_rev p 0 n) n:=λi j hij hj=>by rw[pS_ hn hj,pS_ hn o_];show h _ _ o_ o_
theorem hz_(O:Lto lt N)(h0:0<N)(h:Pm N p)(h1:1<=n)(hN:n<N)(hf:Fa lt p (n+1)):∃z,Hg_ lt N (kas_descPart n N p)=some z/\Pm N z.2/\So lt z.2 z.1/\1<=z.1/\z.1<=N:=by
 obtain⟨z,hz,b,c,d,g1,g2⟩:=jm_ O h0 (N-(n+1)) p (n+1) 0 h o_ o_ hf (Es.one O);have sz:=b.size;have tl:∀{p:Array Nat},Pm N p->Fa lt p z.2.1->∃y,Hg_ lt N (kas_tail3 z.2.1 N p)=some y/\Pm N y.2/\So lt y.2 y.1/\1<=y.1/\y.1<=N:=λ{p} hp fp=>by obtain⟨m',hm',hs',h1',hN',_⟩:=nK_ O (hp.rev 0 z.2.1) h0 (N-z.2.1) z.2.1 o_ (fp.rev (by rw[hp.size];lia));show⟨(m',kas_rev p 0 z.2.1),?_,hp.rev 0 _,hs',by dsimp only;lia,by dsimp only;lia⟩;unfold kas_tail3;rw[bu_ _ hm'];rfl
 unfold kas_descPart;rw[bu_ _ hz];split
 .show tl (b.rev _ _) (c.seg o_ d)
 .show tl b c
theorem oW_(O:Lto lt N)(h0:0<N)(h:Pm N p):∃z,Hg_ lt N (kas_count N p)=some z/\Pm N z.2/\So lt z.2 z.1/\1<=z.1/\z.1<=N:=by
 obtain⟨m,hm,hs,h1,hN,hx⟩:=nK_ O h h0 (N-1) 1 (Af_ _) λi j a b=>absurd a o_;have sz:=h.size;unfold kas_count;rw[bu_ _ hm];split
 .show⟨_,rfl,h,hs,h1,by dsimp only;lia⟩
 .rename_i c;have cm:m≠N:=λe=>c (by rw[e];show Ey_ N);have e:=hx o_;split
  .unfold Hg_;rw[if_pos ⟨h.below h0 _,h.below h0 _⟩];cases t:lt (p.getD 0 0) (p.getD (m-1) 0)with
   |true=>show⟨_,rfl,h,hs,h1,by dsimp only;lia⟩
   |false =>
    have ff:Fa lt p m:=λi j hij hj=>by
     have a1:lt (p.getD (m-1) 0) (p.getD j 0)=false:=by
      by_cases c:j=m-1
      .rw[c];show O.rf _
      .show hs _ _ o_ o_
     have a2:lt (p.getD i 0) (p.getD 0 0)=false:=by
      by_cases c:i=0
      .rw[c];show O.rf _
      .show hs _ _ o_ o_
     show O.tr _ _ _ (O.tr _ _ _ a1 t) a2
    have es:Es lt p 0 m:=λi j _ hi _ hj=>by
     rcases Eo_ i j with c|c|c
     .show ff i j c hj
     .rw[c];show O.rf _
     .show hs j i c hi
    show hz_ O h0 (h.rev 0 m) h1 o_ ((ff.seg o_ es).more O h1 ?_);rw[gl_ o_,gl_ o_,if_pos ⟨o_,o_⟩,if_neg o_,show 0+m-1-(m-1)=0 by lia];show O.tr _ _ _ (O.as _ _ e) t
  .have m1:m=1:=o_
   subst m1;show hz_ O h0 h (Af_ _) o_ (Fa.more O (n:=1) (λi j a b=>absurd a o_) (Af_ _) (O.as _ _ e))
theorem jn_(O:Lto lt N)(h0:0<N){p:Array Nat}(h:Pm N p){k:Nat}(hs:So lt p k):∀(f l r:Nat),l<=r->r<=k->r<=l+f->(∀i,i<l->lt (p.getD k 0) (p.getD i 0)=false)->(∀i,r<=i->i<k->lt (p.getD i 0) (p.getD k 0)=false) ->
  ∃m,Hg_ lt N (kas_place p k f l r)=some m/\m<=k/\(∀i,i<m->lt (p.getD k 0) (p.getD i 0)=false)/\∀i,m<=i->i<k->lt (p.getD i 0) (p.getD k 0)=false
 |0,l,r,a,b,c,u,v=>⟨l,rfl,o_,u,λi hi hk=>v i o_ hk⟩
 |f+1,l,r,a,b,c,u,v=>by
  unfold kas_place;split
  .show⟨l,rfl,o_,u,λi hi hk=>v i o_ hk⟩
  .unfold Hg_;rw[if_pos ⟨h.below h0 _,h.below h0 _⟩];cases e:lt (p.getD k 0) (p.getD ((l+r)/2) 0)with
   |true =>
    show jn_ O h0 h hs f l _ o_ o_ o_ u λi hi hk=>?_;by_cases q:i=(l+r)/2
    .subst q;show O.as _ _ e
    .show O.tr _ _ _ (O.as _ _ e) (hs _ _ o_ hk)
   |false =>
    show jn_ O h0 h hs f _ r o_ b o_ (λi hi=>?_) v;by_cases q:i=(l+r)/2
    .subst q;show e
    .show O.tr _ _ _ (hs _ _ o_ o_) e
theorem pT_{k l:Nat}(hk:k<p.size)(hl:l<=k)(i:Nat):(bubble p k (k-l)).getD i 0=if i=l then p.getD k 0 else if l<i/\i<=k then p.getD (i-1) 0 else p.getD i 0:=by
 have q:=EQ_ (xs:=p) hk (k-l) o_ i;rw[show k-(k-l)=l by lia]at q;rw[A7_,q];by_cases a:i=l
 .rw[if_pos a,if_pos a,A7_]
 .rw[if_neg a,if_neg a];by_cases b:l<i/\i<=k
  .rw[if_pos b,if_pos b,A7_]
  .rw[if_neg b,if_neg b,A7_]
theorem pU_(O:Lto lt N)(h0:0<N):∀(f:Nat)(p:Array Nat)(k:Nat),Pm N p->So lt p k->k+f=N->∃z,Hg_ lt N (kas_bin f p k)=some z/\Pm N z/\So lt z N
 |0,p,k,h,hs,e=>by
  have q:k=N:=o_
  rw[q]at hs;show⟨p,rfl,h,hs⟩
 |f+1,p,k,h,hs,e=>by
  obtain⟨l,hl,hk,u,v⟩:=jn_ O h0 h hs k 0 k o_ o_ o_ (λi hi=>absurd hi o_) λi hi hk=>absurd hi o_;unfold kas_bin;rw[bu_ _ hl];show pU_ O h0 f _ _ ((FW_ _ _ _).trans h) (λi j hij hj=>?_) o_;have sz:=h.size;rw[pT_ o_ hk,pT_ o_ hk];by_cases a:j=l
  .rw[if_pos a,if_neg o_,if_neg o_];show u i o_
  .rw[if_neg a];by_cases b:i=l
   .rw[if_pos b,if_pos ⟨o_,o_⟩];show v _ o_ o_
   .rw[if_neg b];by_cases c:l<j
    .rw[if_pos ⟨c,o_⟩];by_cases d:l<i
     .rw[if_pos ⟨d,o_⟩];show hs _ _ o_ o_
     .rw[if_neg o_];show hs _ _ o_ o_
    .rw[if_neg o_,if_neg o_];show hs _ _ o_ o_
theorem qy_(O:Lto lt N)(h0:0<N):∃z,Hg_ lt N (kas_sort N)=some z/\Pm N z/\So lt z N:=by
 obtain⟨r,hr,hp,hs,h1,hN⟩:=oW_ O h0 (p:=List.toArray (List.range N)) (Array.Perm.refl _);unfold kas_sort;rw[bu_ _ hr];split
 .rename_i c;rw[show max r.1 1=r.1 by lia];show pU_ O h0 _ _ _ hp hs o_
 .have e:r.1=N:=o_
  rw[e]at hs;show⟨_,rfl,hp,hs⟩
theorem So.list{z:Array Nat}(hp:Pm N z)(hs:So lt z N):z.toList.Pairwise λi j=>lt j i=false:=by
 rw[B1_];intro i j hi hj hij;have sz:=hp.size;have hi':i<z.size:=by simpa using hi
 have hj':j<z.size:=by simpa using hj
 have q:=hs i j hij o_;have ei:z.getD i 0=z.toList[i]:=by simp[Array.getD,hi']
 have ej:z.getD j 0=z.toList[j]:=by simp[Array.getD,hj']
 rw[ei,ej]at q;show q
end
theorem hA_{α:Type}{R:α->α->Prop}(as:∀x y,R x y->R y x->x=y):∀{a b:List α},a.Perm b->a.Pairwise R->b.Pairwise R->a=b
 |[],b,p,_,_=>by rw[List.nil_perm.mp p]
 |x::a,[],p,_,_=>absurd p.length_eq s_
 |x::a,y::b,p,ha,hb=>by
  have ha':=CM_.mp ha;have hb':=CM_.mp hb
  have e:x=y:=by
   have m1:x∈y::b:=p.mem_iff.mp Al_;have m2:y∈x::a:=p.mem_iff.mpr Al_
   rcases Aq_.mp m1 with e|m1
   .show e
   .rcases Aq_.mp m2 with e|m2
    .show e.symm
    .show as x y (ha'.1 y m2) (hb'.1 x m1)
  subst e;rw[hA_ as (List.Perm.cons_inv p) ha'.2 hb'.2]
open PySem.Spec
def sLe(a b:Str):Prop:=¬ b.cps.toList<a.cps.toList
theorem sLe.trans{a b c:Str}(h:sLe a b)(h2:sLe b c):sLe a c:=D4_.mpr (List.le_trans (D4_.mp h) (D4_.mp h2))
theorem qz_{a b:Str}(h:a.cps.toList=b.cps.toList):a=b:=by
 cases a;cases b;simpa using h
theorem sLe.antisymm{a b:Str}(h:sLe a b)(h2:sLe b a):a=b:=qz_ (List.le_antisymm (D4_.mp h) (D4_.mp h2))
theorem kj_:∀(p:Str)(l:List Str),risingS p l=true->(p::l).Pairwise sLe
 |p,[],_=>CD_ _ _
 |p,x::r,h=>by
  have h':(!ltCps x.cps.toList p.cps.toList && risingS x r)=true:=h;rw[Cv_]at h';have ih:=kj_ x r h'.2;have px:sLe p x:=by have:=h'.1;rw[ltCps_eq]at this;simpa[sLe]using this
  show CM_.mpr ⟨λy hy=>?_,ih⟩
  rcases Aq_.mp hy with rfl|hy
  .show px
  .show px.trans ((CM_.mp ih).1 y hy)
theorem gE_:∀{l:List Str},sortedS l=true->l.Pairwise sLe
 |[],_=>.nil
 |x::r,h=>kj_ x r h
theorem c8_:∀{us:List Value}{ns:List Str},StrsAre us ns->Gn_ (ns.map V.str) us
 |_,_,.nil=>.nil
 |_,_,.cons n t h=>.cons ⟨t,rfl⟩ (c8_ h)
theorem iE_:∀{us:List Value}{ns:List Str},Gn_ (ns.map V.str) us->StrsAre us ns
 |_,[],.nil=>.nil
 |_,n::ns,.cons r1 r2=>by obtain⟨t,rfl⟩:=r1;show .cons n t (iE_ r2)
def KD_:List V->Hp->VK->Prop:=λvs H Q=>∃(p:Addr)(ns:List Str),vs=[.ref p]/\H p=some (.lst (ns.map V.str))/\ns.length<64/\∀l (zs:List Str),H l=none->zs.Perm ns->zs.Pairwise sLe->Q (.ref l) (upd H l (.lst (zs.map V.str)))
theorem nL_{h₀ h:Heap}{L:Addr}:∀q∈Gv_ h₀ h L,q.1<h.objs.size:=λq hq=>Ap_ (bR_ q hq).1
theorem iF_{X:Cx}:GM_ X (.builtin "sorted") KD_:=by
 intro pins s σ H xs us Q I r h;obtain⟨p,ns,rfl,hp,h64,q⟩:=h;obtain⟨u,rfl,e⟩:=Hk_ r;cases e;obtain⟨its,rv,pl,_⟩:=I.list (.inl (.inl hp));obtain⟨m,hn,F0⟩:=I.frm;have hl:its.length<64:=by rw[<-rv.length,Aa_];show h64
 show sorted_N_str F0 bR_ pl.isList (iE_ rv) hl λh' vs' zs c F N hz hpm hs=>?_;have hD:=(N (s.heap.objs.size+1,_) Al_).1;have hlz:=hpm.length_eq;obtain⟨HD,I2⟩:=I.led_new (t':=s.toks) (o:=.lst (zs.map V.str)) hn F N (λz hz=>Bw_ (nL_ z hz)) ⟨A6_ (F3_ (by rw[Aa_];lia)),vs',c,c8_ hz,hD⟩;show⟨.ref _,_,I2,rfl,q _ zs HD hpm (gE_ hs)⟩
def Js_:List V->Hp->VK->Prop:=λvs H Q=>∃(d:Addr)(kvs:List (Key×V))(ns:List Str),vs=[.ref d]/\H d=some (.dK kvs)/\kvs.map (λq=>q.1)=ns.map (λn=>(Sum.inr n:Key))/\ns.length<64 /\
 ∀l (zs:List Str),H l=none->zs.Perm ns->zs.Pairwise sLe->Q (.ref l) (upd H l (.lst (zs.map V.str)))
theorem fa_:∀{us:List Value}{ns:List Str},us.length=ns.length->(∀(j:Nat)(v:Value)(n:Str),us[j]?=some v->ns[j]?=some n->∃t,v=.str n t)->StrsAre us ns
 |[],[],_,_=>.nil
 |[],_::_,e,_=>nomatch e
 |_::_,[],e,_=>nomatch e
 |u::us,n::ns,e,h=>by obtain⟨t,rfl⟩:=h 0 u n rfl rfl;show .cons n t (fa_ (by simpa using e) λj v x hv hx=>h (j+1) v x hv hx)
theorem k5_{X:Cx}(hc:X.calm=true):GM_ X (.builtin "sorted") Js_:=by
 intro pins s σ H xs us Q I r h;obtain⟨d,kvs,ns,rfl,hd,hk,h64,q⟩:=h;obtain⟨u,rfl,e⟩:=Hk_ r;cases e;obtain⟨hsz,hsys,vs,rel,dd⟩:=Jg_ I.hok hd;obtain⟨m,hn,F0⟩:=I.frm;obtain⟨ep,hat⟩:=dd.dictAt;have hl:kvs.length=vs.length:=rel.length;have hl2:kvs.length=ns.length:=by simpa using congrArg List.length hk
 show kdu_sorted (kdl_dict (knd:=Gc_ X.prog X.w) (kvs:=vs) (ep:=ep) hsys) (I.ok.hd hc) F0 bR_ hat o_ λD h' tk us F N l1 hlu hv=>?_
 have hS:StrsAre us ns:=fa_ o_ λj v n ev en=>by
  obtain⟨k,x,ekx,kis⟩:=hv j v ev;have hj:j<ns.length:=(Ai_.mp en).1;obtain⟨e1,_⟩:=b6_ rel (Ab_ (show j<kvs.length by lia)) ekx;have e2:(kvs.map (λq=>q.1))[j]?=(ns.map (λn=>(Sum.inr n:Key)))[j]?:=by rw[hk]
  rw[Ae_,Ae_,en,Ab_ (show j<kvs.length by lia)]at e2;have e3:k=Sum.inr n:=e1.symm.trans (Ar_ e2);subst e3;have kis':In_ (Sum.inr n) v=true:=kis
  rcases aL_ kis' with⟨i,t,ek,ev⟩|⟨y,t,ek,ev⟩
  .cases ek
  .cases ek;show⟨t,ev⟩
 have hL:=N (D,_) Al_;have hoL:h'.get? D=some (seqObj "list" us.toArray 0):=hL.1;show Cy_ D3_ ⟨_,hoL,rfl⟩ DS_ (list_sort_treeK strKind_oneLt hoL hS.keysOf (λv₁ v₂ rest e=>keyKind_strs (by rw[<-e];show hS)) o_ λst' hp hs=>⟨_,rfl,?_⟩) (Fa_ _);obtain⟨zs,hz,hpm,hss⟩:=sorted_out_str hS hp hs;obtain⟨c,hD⟩:=sortedHeap_at (out:=(arrOf st').map (·.2)) hoL;have old:∀b o,b≠D->h'.get? b=some o->(sortedHeap h' D us ((arrOf st').map (·.2))).get? b=some o:=λb o hb e=>(sortedHeap_old hb (Ap_ e)).trans e
 have F2:Fr X.base X.env.locals (sortedHeap h' D us ((arrOf st').map (·.2))) m:=by
  show⟨?_,λb x e=>old b x (λw=>?_) (F.keep b x e),F.above⟩
  .obtain⟨o,es,ep',ho,r1,r2,r3⟩:=F.ns;show⟨o,es,ep',old _ _ (Ne.symm hL.2.1) ho,r1,r2,r3⟩
  .rw[w,hL.2.2]at e;cases e
 have N2:News X.base X.env.locals (sortedHeap h' D us ((arrOf st').map (·.2))) ((D,seqObj "list" ((arrOf st').map (·.2)) c)::Gv_ X.base s.heap X.env.locals):=λz hz'=>by
  rcases Aq_.mp hz' with rfl|hz'
  .show⟨hD,hL.2⟩
  .have:=N z (Aj_ _ hz');show⟨old _ _ (AJ_ (l1 z hz')) this.1,this.2⟩
 have hlz:=hpm.length_eq;obtain⟨HD,I2⟩:=I.led_new (t':=tk) (o:=.lst (zs.map V.str)) hn F2 N2 l1 ⟨A6_ (F3_ (by rw[Aa_];lia)),_,c,c8_ hz,hD⟩;show⟨.ref D,_,I2,rfl,q D zs HD hpm (gE_ hss)⟩
end L2
namespace PySem
open Sem (wp)
theorem k6_:typeLookup (.type "list") "keys"=pure none:=am_miss_of_fast r_
theorem jo_{prog:Program}{w:World}{A:Around}{E:Value->Shared->Prop}{s:Shared}{a:Addr}{o:Obj}{xs:Array Value}{k:Nat}{name:Str}{Q:Option Value->Shared->Prop}
  (hx:s.heap.get? a=some o) (hc:o.cls=.type "list") (hdat:o.data=.seq xs k) (hd:o.dict=none) (hmiss:typeLookup (.type "list") name=pure none) (hname:(["__module__","__name__","__qualname__","__doc__","__annotations__"]:List Str).contains name=false) (hA:A.handled=none)
  (h:∀h' tk,(∀b ob,s.heap.get? b=some ob->h'.get? b=some ob)->Q none {s with heap:=h',toks:=tk}) (hsz:name.length+100<=sizeLine:=by size_fits):
  wpAny (model prog w) A (getAttr? (.ref a) name) Q E s:=by
 obtain⟨c,dct,dat,sl⟩:=o;simp only at hc hdat hd;subst hc hdat hd;obtain⟨hp,g,d,tk,os⟩:=s;have hT:∀tk',(⟨hp,g,d,tk',os⟩:Shared).TypeIs (.ref a) "list" := λ_=>⟨_,hx,rfl⟩;have f1:=sub_AttributeError;have f3:=F.slot_list_getattribute.lookup;have f4:=F.slot_list_getattribute.bind (.ref a);have f5:=am_list_getattr_none;unfold getAttr? getAttrBy? getAttrBy
 repeat (any_goals (first|assumption|show hT _|((with_reducible change wpAny _ _ (call (Value.builtin "list.__getattribute__") _ _) _ _ _);show DL_ F.slot_list_getattribute (hT _) am_entry_list_getattribute (F.args_list_getattribute_2 _ _) (meets_getattribute_miss_list a xs k sl name _ hmiss hname hsz) ⟨hx,hA,λh' tk' e hx'=>?_⟩)|wp_step))
 obtain⟨t',u',he⟩:=hx'.there;change wpAny _ _ (getattributeRaised _ _ _ _ _ _ _) _ _ _;unfold getattributeRaised
 repeat (any_goals (first|assumption|wp_step))
 show h _ _ hx'.keeps
namespace F
theorem rim_entry_dict_update_loop:entryFor table "dict.update.loop"=some Builtin.«dict.update.loop»:=entryFor_of_tree (by kernel_rfl)
theorem rim_plain_dict_update_loop:plainId "dict.update.loop"=true:=r_
end F
section
variable {prog:Program}{w:World}{K:Type}[DecidableEq K]{knd:KeyKind prog w K}{A:Around}{R:Result->Shared->Prop}
theorem en_{d it p:Addr}{its:Array Value}{h0:Heap}(hh:A.handled=none)(hdi:d≠it)(hp:h0.IsList p its)(hpi:p≠it)(hpd:p≠d):
  ∀(ps:List (K×Value))(i:Nat)(j:Int)(D:List (K×Value))(s:Shared),its.size=i+ps.length->D.length+ps.length<=1000->s.heap.IsListIter it p i->s.heap.DictOf knd d D ->
   (∀b o,b≠it->b≠d->h0.get? b=some o->s.heap.get? b=some o) ->
   (∀m q,ps[m]?=some q->∃(a:Addr)(kv:Value)(o:Obj)(n:Nat),its[i+m]?=some (.ref a)/\a≠it/\a≠d/\h0.get? a=some o/\o.cls=.type "tuple" /\ o.data=.seq #[kv,q.2] n/\knd.is q.1 kv=true) ->
   (∀h' tk,(∀b o,b≠it->b≠d->h0.get? b=some o->h'.get? b=some o)->h'.DictOf knd d (merged D ps)->R (.ok (.ret .none)) {s with heap:=h',toks:=tk}) ->
   codeAny (model prog w) A (.builtin "dict.update.loop" ⟨[.ref d,.ref it,rawInt j,.none],[]⟩) R s
 |[],i,j,D,s,hz,hl,hi,hD,hk,hit,hR=>by
  obtain⟨op,hop,hpr⟩:=id hp;have hp':s.heap.IsList p its:=⟨op,hk p op hpi hpd hop,hpr⟩;show De_ F.rim_entry_dict_update_loop ?_;rw[C3_ F.rim_plain_dict_update_loop _];change wpAny _ A.in1 (pyNext (.ref it) >>= _) _ _ s;show Ad_ (E5_ hh hi hp' (Array.getElem?_eq_none (by simp at hz;lia)) λh' eb=>?_);change wpAny _ A.in1 (Builtin.Dict.addKeywords d [] >>= _) _ _ _;show Ad_ (AA_ (AA_ (hR h' s.toks (λb o h1 h2 e=>eb b o h1 (hk b o h1 h2 e)) (hD.extBut eb hdi))))
 |q::ps,i,j,D,s,hz,hl,hi,hD,hk,hit,hR=>by
  obtain⟨op,hop,hpr⟩:=id hp;have hp':s.heap.IsList p its:=⟨op,hk p op hpi hpd hop,hpr⟩;obtain⟨a,kv,o,n,e1,a1,a2,ho,hc,hd,kis⟩:=hit 0 q rfl;show De_ F.rim_entry_dict_update_loop ?_;rw[C3_ F.rim_plain_dict_update_loop _];change wpAny _ A.in1 (pyNext (.ref it) >>= _) _ _ s;show Ad_ (Dv_ hi hp' e1 λh1 hi1 sb=>?_);have ho1:h1.get? a=some o:=(sb.2 a a1).trans (hk a o a1 a2 ho);have hT:({s with heap:=h1}:Shared).TypeIs (.ref a) "tuple" := ⟨_,ho1,hc⟩;change wpAny _ A.in1 (holding [Value.ref a] _ >>= _) _ _ _;show Ad_ (Bh_ ?_);show Ad_ ?_;show wpAny_tryCatch ?_;unfold Builtin.Dict.pairItems;show Ad_ (wpAny_typeOf hT ?_);rw[if_pos d_];show Ad_ (Fc_ ho1 hd ?_);show AA_ ?_;change wpAny _ A.in1 (holding [kv,q.2] (dictSet d kv q.2)) _ _ _;show Bh_ ?_;have hD1:({s with heap:=h1}:Shared).heap.DictOf knd d D:=hD.sameBut sb hdi;show wpAny_dictSet_pairs kis hD1 (λh2 hD2 sb2=>?_) (by simp at hl;rw[Bv_];lia);show AA_ ⟨Eg_ F.rim_plain_dict_update_loop _,?_⟩;have sl:=stored_length_le D q.1 q.2;show en_ hh hdi hp hpi hpd ps (i+1) (j+1) (stored D q.1 q.2) {s with heap:=h2,toks:=s.toks+1} (by simp at hz;lia) (by simp at hl;lia) ?_ hD2 (λb o h1' h2' e=>?_) (λm r e=>?_) λh' tk k3 hD3=>?_
  .obtain⟨oi,hoi,hir⟩:=hi1;show⟨oi,(sb2.2 it (Ne.symm hdi)).trans hoi,hir⟩
  .show(sb2.2 b h2').trans ((sb.2 b h1').trans (hk b o h1' h2' e))
  .obtain⟨a',kv',o',n',z1,z2⟩:=hit (m+1) r e;show⟨a',kv',o',n',by rw[show i+1+m=i+(m+1) by lia];show z1,z2⟩
  .show hR h' tk k3 hD3
end
end PySem
namespace L2
open PySem PySem.Spec PyProof.Rows PySem.W
variable {X:Cx}{pins:List (Addr×Obj)}{σ:St}{H:Hp}{s:Shared}
theorem l5_(I:Inv X pins σ H s):∀{kvs:List (Key×V)}{ys:List V}{its:List Value},Gn_ ys its->ys.length=kvs.length->(∀(i:Nat)(q:Key×V),kvs[i]?=some q->∃a,ys[i]?=some (.ref a)/\H a=some (.tup [kV q.1,q.2])) ->
  ∃ps:List (Key×Value),KV kvs ps/\ps.length=its.length/\∀(m:Nat)(q:Key×Value),ps[m]?=some q->∃(a:Addr)(kv:Value)(o:Obj)(n:Nat),its[m]?=some (.ref a)/\H a≠none/\s.heap.get? a=some o/\o.cls=.type "tuple" /\ o.data=.seq #[kv,q.2] n/\(Gc_ X.prog X.w).is q.1 kv=true
 |[],[],_,.nil,_,_=>⟨[],.nil,rfl,λm q e=>by simp at e⟩
 |[],_::_,_,_,e,_=>nomatch e
 |_::_,[],_,_,e,_=>nomatch e
 |kv::kvs,y::ys,_,.cons r1 r2,e,h=>by
  obtain⟨ps,rel,hl,hp⟩:=l5_ I r2 (by simpa using e) λi q hq=>h (i+1) q hq;obtain⟨a,ea,ha⟩:=h 0 kv rfl;cases ea;cases r1;obtain⟨zs,rz,⟨ob,ho,hcl,n,hd⟩,_⟩:=I.tuple (.inl (.inl ha));obtain⟨u1,u2,rfl,ru1,ru2⟩:=HG_ rz;show⟨(kv.1,u2)::ps,.cons ⟨rfl,ru2⟩ rel,by simp[hl],λm q hq=>?_⟩;cases m with
  |zero =>
   cases hq;show⟨a,u1,ob,n,rfl,(by rw[ha];show Option.some_ne_none _),ho,hcl,hd,II_ ru1⟩
  |succ m=>show hp m q hq
def Kq_:List V->Hp->VK->Prop:=λvs H Q=>∃(p:Addr)(ys:List V)(kvs:List (Key×V)),vs=[.ref p]/\H p=some (.lst ys)/\ys.length=kvs.length/\kvs.length<=900/\(∀(i:Nat)(q:Key×V),kvs[i]?=some q->∃a,ys[i]?=some (.ref a)/\H a=some (.tup [kV q.1,q.2])) /\
 ∀l,H l=none->Q (.ref l) (upd H l (.dK (G0_ [] kvs)))
theorem kk_{K:Type}[DecidableEq K]:∀(ps D:List (K×Value)),(merged D ps).length<=D.length+ps.length
 |[],D=>Af_ _
 |q::ps,D=>by have a:=kk_ ps (stored D q.1 q.2);have b:=stored_length_le D q.1 q.2;change(merged (stored D q.1 q.2) ps).length<=_;rw[A0_];lia
theorem eL_(hc:X.calm=true):GM_ X (.type "dict") Kq_:=by
 intro pins s σ H xs us Q I r h;obtain⟨p,ys,kvs,rfl,hp,hl,hz,hk,q⟩:=h;obtain⟨u,rfl,e⟩:=Hk_ r;cases e;obtain⟨_,its,c,rv,hop⟩:=(show Gy_ X.prog X.w H s.heap p (.lst ys)from I.hok p _ hp);obtain⟨ps,rel,pl,hit⟩:=l5_ I rv hl hk;have hh:=I.ok.hd hc;have hlt:∀{b:Addr}{o:Obj},s.heap.get? b=some o->b<s.heap.objs.size:=λe=>Ap_ e;show callType_codes (Q₁:=λobj s₁=>obj=.ref s.heap.objs.size/\s₁={s with heap:=s.heap.push {cls:=.type "dict",data:=.dict #[]}}) F.kt_called_dict (F.kt_typeCall_dict_1 _) F.entry_dict_init (kt_code_dict_new _ ⟨rfl,rfl⟩) ?_;rintro obj s₁ ⟨rfl,rfl⟩;have hnew:(s.heap.push {cls:=.type "dict",data:=.dict #[]}).DictOf (Gc_ X.prog X.w) s.heap.objs.size []:=Heap.DictOf.new s.heap;show⟨hnew.typeIs,F.args_dict_init_2 _ _,?_⟩;unfold Builtin.«dict.__init__»;show Ad_ ?_;unfold Builtin.Dict.selfAndRest;show Ad_ (Fd_ hnew.typeIs ?_);change wpAny _ _ (pure (s.heap.objs.size,[Value.ref p])) _ _ _;show AA_ ?_;change wpAny _ _ (Builtin.Dict.updateFrom "dict.__init__" s.heap.objs.size (.ref p) [] .none) _ _ _;unfold Builtin.Dict.updateFrom;have hop1:(s.heap.push {cls:=.type "dict",data:=.dict #[]}).get? p=some (seqObj "list" its.toArray c):=Ah_ _ hop;have hT:({s with heap:=s.heap.push {cls:=.type "dict",data:=.dict #[]}}:Shared).TypeIs (.ref p) "list" := ⟨_,hop1,rfl⟩;show Ad_ (wpAny_typeOf hT ?_);rw[if_pos d_];show Ad_ (jo_ hop1 rfl rfl rfl k6_ r_ hh λh1 tk k1=>?_);rw[if_pos Option.isNone_none];show Ad_ (CZ_ ?_);have hop2:=k1 _ _ hop1;have dsz:s.heap.objs.size<h1.objs.size:=by obtain⟨od,_,_,hod,_⟩:=hnew;show Ap_ (k1 _ _ hod)
 show Ad_ (Ek_ (items:=its.toArray) ⟨_,hop2,rfl,c,rfl⟩ ?_);show AA_ ⟨Eg_ F.rim_plain_dict_update_loop _,?_⟩;have below:∀{b:Addr}{o:Obj},s.heap.get? b=some o->b≠h1.objs.size/\b≠s.heap.objs.size:=λe=>⟨AJ_ (Nat.lt_trans (hlt e) dsz),AJ_ (hlt e)⟩;have rl:kvs.length=ps.length:=rel.length;show en_ (A:=X.A.in1) (knd:=Gc_ X.prog X.w) (its:=its.toArray) (h0:=s.heap) (p:=p) hh (AJ_ dsz) ⟨_,hop,rfl,c,rfl⟩ (below hop).1 (below hop).2 ps 0 0 [] _ (by simp;lia) (by simp;lia) ?_ ?_ (λb o b1 b2 e=>?_) (λm q hq=>?_) λh' tk' k3 hD3=>?_
 .show⟨_,AC_ h1 rfl,rfl,rfl⟩
 .obtain⟨od,es,ep,hod,dr⟩:=hnew;show⟨od,es,ep,Ah_ _ (k1 _ _ hod),dr⟩
 .show Ah_ _ (k1 _ _ (Ah_ _ e))
 .obtain⟨a,kv,o,n,e1,_,ho,z⟩:=hit m q hq;show⟨a,kv,o,n,by simpa using e1,(below ho).1,(below ho).2,ho,z⟩
 .have rm:KV (G0_ [] kvs) (merged [] ps):=KV.merge rel .nil;have ml:=kk_ ps [];have mz:(G0_ [] kvs).length<=sizeLine:=by rw[show(G0_ [] kvs).length=(merged [] ps).length from rm.length];show A6_ (F3_ (by simp at ml;lia))
  show⟨rfl,.ref _,_,I.laid (a:=s.heap.objs.size) (o:=.dK (G0_ [] kvs)) (t':=tk') (λb o e=>k3 b o (below e).1 (below e).2 e) (Af_ _) (nt_ mz (CA_.mpr (Ne.symm (AJ_ I.big))) rm hD3),rfl,q _ (I.hok.fresh (Af_ _))⟩
variable {prog:Program}{w:World}{A:Around}{R:Result->Shared->Prop}
def Lj_(kvs more:List (List Key×V)):List (List Key×V):=more.foldl (λacc kv=>G1_ acc kv.1 kv.2) kvs
def LB_(H:Hp)(p:Addr)(kvs:List (List Key×V)):Prop:=∃ys,H p=some (.lst ys)/\ys.length=kvs.length/\∀(i:Nat)(q:List Key×V),kvs[i]?=some q->∃a b,ys[i]?=some (.ref a)/\H a=some (.tup [.ref b,q.2])/\H b=some (.tup (q.1.map kV))
def Ms_:V->List V->Hp->VK->Prop:=λx vs H Q=>∃(a p:Addr)(kvs0 kvs:List (List Key×V)),x=.ref a/\vs=[.ref p]/\H a=some (.dT kvs0)/\LB_ H p kvs/\kvs0.length+kvs.length<=900/\Q .non (upd H a (.dT (Lj_ kvs0 kvs)))
def KJ_:V->List V->Hp->VK->Prop:=λx vs H Q=>∃(l:Addr)(xs:List Str)(t:Str)(j:Nat),x=.ref l/\vs=[.str t]/\H l=some (.lst (xs.map V.str))/\xs.length<=1000/\xs[j]?=some t/\(∀m,m<j->xs[m]?≠some t)/\Q (.int j) H
def Lg_(t u:TS):TS:=λD σ H=>∀kk:St->Hp->Prop,(∀σ' H',u D σ' H'->kk σ' H')->t {D with nx:=kk} σ H
theorem af_{st:Stmt}{rest:List Stmt}{t u:TS}(h1:PS X st t)(h2:PSs X rest u):PSs X (st::rest) (Lg_ t u):=λpins s σ H D I h=>ag_ h1 h2 pins s σ H D I (h (u D) λ_ _ q=>q)
theorem qA_{t u:TS}{D:If_}(h:∀kk:St->Hp->Prop,(∀σ' H',u D σ' H'->kk σ' H')->t {D with nx:=kk} σ H):Lg_ t u D σ H:=h
theorem ry_{kk u:St->Hp->Prop}(h:∀σ' H',u σ' H'->kk σ' H')(q:u σ H):kk σ H:=h _ _ q
theorem Mz_{A G:Prop}(h:A->G)(a:A):G:=h a
variable{K:PySem.W.Frag}
theorem pV_{CX:CXT}{P:Program}{mg:Str->Option Value}{base:Heap}{N:List Str}{q:Str}{sc:Scope}{f:Addr}{cd:Value}{o:List Env}{E:XK}:(ID_ CX P w K mg base N q sc f cd A o s H E).K=K:=rfl
abbrev SHP:=St->Hp->Prop
theorem bU_{lo:Int}{n:Nat}{g:TG}{tb:TS}{nx bk ct:SHP}{rt:VK}{σ:St}{H:Hp}(Pv:Nat->St->Hp->Prop)(h0:Pv 0 σ H)
  (hs:∀(i:Nat) σ H,i<n->∀(kk kb:SHP),(∀σ' H',Pv (i+1) σ' H'->kk σ' H')->(∀σ' H',nx σ' H'->kb σ' H')->∀G:Prop,((g (.int (lo+i)) σ H λσ2 H2=>tb ⟨kk,rt,kb,kk⟩ σ2 H2)->G)->Pv i σ H->G) (hd:∀σ H,Pv n σ H->nx σ H):Iv_ (Itr lo n) g tb ⟨nx,rt,bk,ct⟩ σ H :=
 i8_ Pv h0 (λi σ H hi p=>hs i σ H hi _ _ (λ_ _ q=>q) (λ_ _ q=>q) _ id p) hd
theorem bF_{K:PySem.W.Frag}{a:Addr}{xs:List V}{g:TG}{tb:TS}{nx bk ct:SHP}{rt:VK}{σ:St}{H:Hp}(Pv:Nat->St->Hp->Prop)(h0:Pv 0 σ H)(hl:∀i σ H,i<=xs.length->Pv i σ H->SqL K H a xs)
  (hs:∀(i:Nat) x σ H,xs[i]?=some x->∀(kk kb:SHP),(∀σ' H',Pv (i+1) σ' H'->kk σ' H')->(∀σ' H',nx σ' H'->kb σ' H')->∀G:Prop,((g x σ H λσ2 H2=>tb ⟨kk,rt,kb,kk⟩ σ2 H2)->G)->Pv i σ H->G) (hd:∀σ H,Pv xs.length σ H->nx σ H):Iv_ (Itl K a) g tb ⟨nx,rt,bk,ct⟩ σ H :=
 nh_ Pv h0 hl (λi x σ H hx p=>hs i x σ H hx _ _ (λ_ _ q=>q) (λ_ _ q=>q) _ id p) hd
theorem oX_{K:PySem.W.Frag}{a:Addr}{xs:List V}{g:TG}{tb:TS}{nx bk ct:SHP}{rt:VK}{σ:St}{H:Hp}(Pv:Nat->St->Hp->Prop)(h0:Pv 0 σ H)(hl:∀i σ H,i<=xs.length->Pv i σ H->SqL K H a xs)
  (hs:∀(i:Nat) x T σ H,xs[i]?=some x->∀(kk kb:SHP),(∀σ' H',Pv (i+1) σ' H'->kk σ' H')->(∀σ' H',nx σ' H'->kb σ' H')->∀G:Prop,((g (.ref T) σ (upd H T (.tup [.int i,x])) λσ2 H2=>tb ⟨kk,rt,kb,kk⟩ σ2 H2)->G)->Pv i σ H->H T=none->G) (hd:∀σ H,Pv xs.length σ H->nx σ H):Iv_ (Ite K a) g tb ⟨nx,rt,bk,ct⟩ σ H :=
 nI_ Pv h0 hl (λi x T σ H hx p hT=>hs i x T σ H hx _ _ (λ_ _ q=>q) (λ_ _ q=>q) _ id p hT) hd
theorem oY_{c:TT}{tb:TS}{nx bk ct:SHP}{rt:VK}{σ:St}{H:Hp}(Pv:St->Hp->Prop)(μ:St->Hp->Nat)(h0:Pv σ H)
  (hs:∀σ H,∀kb:SHP,(∀σ' H',nx σ' H'->kb σ' H')->∀G:Prop,((c σ H λb H1=>if b=true then ∃N:St->Hp->Prop,(∀σ' H',N σ' H'->∃m',m'<μ σ H/\m'=μ σ' H'/\Pv σ' H')/\tb ⟨N,rt,kb,N⟩ σ H1 else kb σ H1)->G)->Pv σ H->G):JD_ c tb ⟨nx,rt,bk,ct⟩ σ H :=
 hh_ Pv μ h0 λσ H p=>hs σ H nx (λ_ _ q=>q) _ id p
def Idi(d:Addr)(ob:Obj)(kvs:List (Key×V)):It :=
 ⟨λi H=>H d=some (.frz ob (.dK kvs))/\i<kvs.length,λi H x H'=>∃T k v,x=.ref T/\H T=none/\kvs[i]?=some (k,v)/\H'=upd H T (.tup [kV k,v]),λi H=>H d=some (.frz ob (.dK kvs))/\kvs.length<=i⟩
theorem mI_{P:Program}{elts:List Expr}{kt:Nat}{tpos:Pos}{d it:Addr}{ob:Obj}{kvs:List (Key×V)}{es0:Array DictEntry}{ep:Nat}(hob:ob.data=.dict es0 ep):
  KI_ P w K (.Tuple elts kt tpos) (Idi d ob kvs) [it] it (λi h=>∃ok ov,IsItemIter h it d i kvs.length ep ok ov) where
 mem:=s_
 obj:=λi h st b hb=>by
  have e:b=it:=by simpa using hb
  subst e;obtain⟨ok,ov,e⟩:=st;show⟨_,e,λv z=>by cases(show Data.fields _=Data.cell v from z)⟩
 keep:=λi h h' st k=>let⟨ok,ov,e⟩:=st;⟨ok,ov,k it s_ _ e⟩
 item:=by
  intro X hP hw hK hc i pins s σ H E I hf st hg;subst hP hw hK;obtain⟨e,hi⟩:=hg;obtain⟨vs,rel,da⟩:=fD_ I.hok e hob;have hl:kvs.length=vs.length:=rel.length;have hx:vs[i]?=some (vs[i]'o_):=Ab_ _;have hk:kvs[i]?=some (kvs[i]):=Ab_ _;obtain⟨e1,e2⟩:=b6_ rel hk hx;obtain⟨ok,ov,st⟩:=st;rw[hl]at st;show wpAny_pyNext_items_item st da (k:=(vs[i]'o_).1) (v:=(vs[i]'o_).2) hx λkey h' kis g1 g3 g4 g5=>?_;show⟨_,rfl,wpAny_letOwnedTupleGo_items (s:={s with heap:=h'}) g1 λh'' k1 k2=>?_⟩
  have rk:Gu_ (kV (kvs[i]).1) key:=by
   rw[e1]
   rcases aL_ kis with⟨j,t,ek,ev⟩|⟨y,t,ek,ev⟩
   .rw[ek];show⟨t,ev⟩
   .rw[ek];show⟨t,ev⟩
  have lt:it<s.heap.objs.size:=Ap_ st;have hT:H s.heap.objs.size=none:=I.hok.fresh (Af_ _)
  have I1:Inv X pins σ (upd H s.heap.objs.size (.tup [kV (kvs[i]).1,(kvs[i]).2])) {s with heap:=s.heap.push {cls:=.type "tuple",data:=.seq #[key,(vs[i]'o_).2]}} :=
   I.laid (t':=s.toks) (λb u e=>Ah_ _ e) (Af_ _) ⟨by change 2<=sizeLine;decide,[key,(vs[i]'o_).2],.cons rk (.cons e2 .nil),⟨_,AC_ _ rfl,rfl,_,rfl⟩⟩
  have f1:∀b∈[it],IC_ X pins (upd H s.heap.objs.size (.tup [kV (kvs[i]).1,(kvs[i]).2])) b:=λb hb=>by have e:b=it:=Ag_.mp hb;show⟨by rw[ae_ (e▸AJ_ lt)];show(hf b hb).1,(hf b hb).2⟩
  have I2:Inv X pins σ (upd H s.heap.objs.size (.tup [kV (kvs[i]).1,(kvs[i]).2])) {s with heap:=h''}:=by
   show Inv.turnedL (s:={s with heap:=s.heap.push {cls:=.type "tuple",data:=.seq #[key,(vs[i]'o_).2]}}) (ch:=[it]) (t':=s.toks) I1 (λb o hb q=>?_) f1;simp only[Ag_]at hb;show(k2.2 b hb).trans ?_;by_cases hbT:b=s.heap.objs.size
   .subst hbT;have e':(s.heap.push {cls:=.type "tuple",data:=.seq #[key,(vs[i]'o_).2]}).get? s.heap.objs.size=some o:=q;rw[AC_ _ rfl]at e';cases e';show g3
   .have hb2:s.heap.get? b=some o:=by have e':(s.heap.push {cls:=.type "tuple",data:=.seq #[key,(vs[i]'o_).2]}).get? b=some o:=q;show(Dr_ _ _ _ hbT).symm.trans e'
    show g5 b o hb hb2
  show⟨.ref s.heap.objs.size,_,I2,rfl,⟨_,_,_,rfl,hT,hk,rfl⟩,?_,λb hb=>(f1 b hb).1⟩;rw[hl];show⟨_,_,k1⟩
 done:=by intro X hP hw hK hc i pins s σ H E I hf st hg;subst hP hw hK;obtain⟨e,hi⟩:=hg;obtain⟨vs,rel,da⟩:=fD_ I.hok e hob;have hl:kvs.length=vs.length:=rel.length;obtain⟨f0,f1,f2,f3,f4,f5⟩:=hf it s_;obtain⟨ok,ov,st⟩:=st;rw[hl]at st;show wpAny_pyNext_items_end (I.ok.hd hc) st da (B0_ o_) λh' eb=>⟨rfl,I.turned (t':=s.toks) (λb o hb e=>eb b o hb e) f0 f1 f3 f4 f5⟩
 self:=λ_ _ _ _ _ st h=>let⟨_,_,e⟩:=st;kcp_self e h
def iDI(td:TE):TI:=λσ H R=>td σ H λx H1=>∃(d:Addr)(kvs:List (Key×V)),x=.ref d/\H1 d=some (.dK kvs)/\∀ob,R (Idi d ob kvs) (upd H1 d (.frz ob (.dK kvs)))
abbrev M1_:=St->Hp->Prop
theorem rz_{d:Addr}{ob:Obj}{kvs:List (Key×V)}{g:TG}{tb:TS}{nx bk ct:M1_}{rt:VK}{σ:St}{H:Hp}(Pv:Nat->St->Hp->Prop)(h0:Pv 0 σ H)(hl:∀i σ H,i<=kvs.length->Pv i σ H->H d=some (.frz ob (.dK kvs)))
  (hs:∀(i:Nat) k x T σ H,kvs[i]?=some (k,x)->H T=none->∀(kk kb:M1_),(∀σ' H',Pv (i+1) σ' H'->kk σ' H')->(∀σ' H',nx σ' H'->kb σ' H')->∀G:Prop,((g (.ref T) σ (upd H T (.tup [kV k,x])) λσ2 H2=>tb ⟨kk,rt,kb,kk⟩ σ2 H2)->G)->Pv i σ H->G) (hd:∀σ H,Pv kvs.length σ H->nx σ H):Iv_ (Idi d ob kvs) g tb ⟨nx,rt,bk,ct⟩ σ H:=by
 show⟨λi m σ H=>m=kvs.length-i/\i<=kvs.length/\Pv i σ H,⟨kvs.length,s_,Av_ _,h0⟩,?_⟩;rintro i m σ H ⟨rfl,hi,p⟩;have q:=hl i σ H hi p;by_cases hlt:i<kvs.length
 .show .inr ⟨⟨q,hlt⟩,Pv (i+1),λσ' H' p'=>⟨kvs.length-(i+1),o_,rfl,hlt,p'⟩,λx H' y=>?_⟩;obtain⟨T,k,v,rfl,hT,hk,rfl⟩:=y;show hs i k v T σ H hk hT _ _ (λ_ _ q=>q) (λ_ _ q=>q) _ id p
 .have e:i=kvs.length:=o_
  subst e;show .inl ⟨⟨q,Af_ _⟩,hd σ H p⟩
def NX(K:PySem.W.Frag)(H:Hp):Prop:=∀a o,K.lookup a=some o->H a=none
def Mv_(K:PySem.W.Frag)(t:TE):TE:=λσ H Q=>t σ H λv H'=>NX K H'->Q v H'
def MU_(K:PySem.W.Frag):List V->Hp->VK->Prop:=λxs H Q=>∃a ys,xs=[.ref a,.ty "tuple"]/\SqT K H a ys/\Q (.bl true) H
theorem oZ_(hK:X.K=K):GM_ X (.builtin "isinstance") (MU_ K):=by subst hK;intro pins s σ H xs us Q I r h;obtain⟨a,ys,rfl,hS,q⟩:=h;obtain⟨u,w',rfl,rx,ry⟩:=HG_ r;cases(show w'=Value.type "tuple"from ry);cases(show u=Value.ref a from rx);obtain⟨its,rr,⟨ob,ho,hc,_⟩,hz⟩:=I.tuple hS;show FC_ ho hc ⟨.bl true,H,I,rfl,q⟩
end L2
namespace RimM
structure Is(p:Int×Int)(t b:Int):Prop where
 low:Low p
 ne:b≠0
 eq:p.1*b=t*p.2
theorem MI_{t b:Int}(h:b≠0):Is (nf t b) t b:=⟨(nx_ h).1,h,(nx_ h).2.symm⟩
theorem kl_{t b:Int}(hb:b≠0):(nf t b).1.natAbs<=t.natAbs/\(nf t b).2.natAbs<=b.natAbs:=by
 have key:∀{t b:Int},0<b->(nf t b).1.natAbs<=t.natAbs/\(nf t b).2.natAbs<=b.natAbs:=λ{t b} h=>by rw[lY_ h];show⟨by have:=Es_ t (Int.gcd t b:Int);lia,by have:=Es_ b (Int.gcd t b:Int);lia⟩
 rcases Int.lt_or_lt_of_ne hb with h|h
 .rw[pO_ h];have:=key (t:=-t) (b:=-b) o_;lia
 .show key h
end RimM
namespace RimT
theorem hB_{α:Type}:∀{a b:List α},a.Nodup->b.Nodup->(∀x,x∈a↔x∈b)->a.Perm b
 |[],b,_,_,h=>by
  have:b=[]:=List.eq_nil_iff_forall_not_mem.mpr λx hx=>absurd ((h x).mpr hx) Bk_;rw[this]
 |x::a,b,na,nb,h=>by
  obtain⟨s,t,rfl⟩:=List.append_of_mem ((h x).mp Al_);obtain⟨n1,n2⟩:=AS_.mp na;have p:(x::(s++t)).Perm (s++x::t):=List.perm_middle.symm;obtain⟨m1,m2⟩:=AS_.mp (p.nodup_iff.mpr nb);show(List.Perm.cons x (hB_ n2 m2 λy=>?_)).trans p;have hy:=h y;rw[<-p.mem_iff,Aq_,Aq_]at hy;constructor
  .intro hm;show(hy.mp (.inr hm)).resolve_left λz=>n1 (z▸hm)
  .intro hm;show(hy.mpr (.inr hm)).resolve_left λz=>m1 (z▸hm)
section
variable {S:Type}[DecidableEq S]
structure Hh_(N:Net S):Prop where
 pnd:N.posts.Nodup
 pin:∀p∈N.posts,p∈N.rows.map (·.1)
 p0:0<N.posts.length
variable (d0:S)
variable {d0}
end
end RimT
namespace RimM
def Ws(p:Int×Int):Prop:=Low p/\0<p.1/\p.1<=1000/\p.2<=1000
theorem MH_{t b:Int}(t0:0<t)(t1:t<=1000)(b0:0<b)(b1:b<=1000):Ws (nf t b):=by
 have h:=MI_ (t:=t) (b:=b) o_;have hp:=h.low.pos;have ha:=kl_ (t:=t) (b:=b) o_;have h1:0<(nf t b).1:=by have e:=h.eq;have h3:0<t*(nf t b).2:=EZ_ t0 hp;rw[<-e]at h3;show Int.pos_of_mul_pos_left h3 b0
 show⟨h.low,h1,o_,o_⟩
end RimM
namespace RimT
open RimM
variable {S:Type}[DecidableEq S]
def cf(x y:S)(e:S×S×Int):Int:=(if x=e.1/\y=e.1 then e.2.2 else 0)-(if x=e.1/\y=e.2.1 then e.2.2 else 0)+(if x=e.2.1/\y=e.2.1 then e.2.2 else 0)-(if x=e.2.1/\y=e.1 then e.2.2 else 0)
def sm(E:List (S×S×Int))(x y:S):Int:=(E.map (cf x y)).sum
end RimT
namespace L2
open PySem PySem.Spec PyProof.Rows PySem.W
variable {X:Cx}{pins:List (Addr×Obj)}{σ:St}{H:Hp}{s:Shared}
def Ld_(H:Hp)(p:Addr)(kvs:List (Key×V)):Prop:=∃ys,H p=some (.lst ys)/\ys.length=kvs.length/\∀(i:Nat)(q:Key×V),kvs[i]?=some q->∃a,ys[i]?=some (.ref a)/\H a=some (.tup [kV q.1,q.2])
def Mm_:V->List V->Hp->VK->Prop:=λx vs H Q=>∃(a p:Addr)(kvs0 kvs:List (Key×V)),x=.ref a/\vs=[.ref p]/\H a=some (.dK kvs0)/\Ld_ H p kvs/\kvs0.length+kvs.length<=900/\Q .non (upd H a (.dK (G0_ kvs0 kvs)))
def Lp_(k1 v1 k2 v2:TE):TE:=λσ H Q=>∀p,H p=none->k1 σ (upd H p (.dT [])) λx1 H1=>v1 σ H1 λy1 H2=>k2 σ H2 λx2 H3=>v2 σ H3 λy2 H4=>∃a b ka kb,x1=.ref a/\x2=.ref b/\H4 a=some (.tup (ka.map kV))/\H4 b=some (.tup (kb.map kV))/\H4 p=some (.dT [])/\Q (.ref p) (upd H4 p (.dT (G1_ (G1_ [] ka y1) kb y2)))
def eLe(a b:Str×Nat):Prop:=if a.1=b.1 then a.2<=b.2 else sLe a.1 b.1
def eLt(e f:Str×Nat):Bool:=if e.1=f.1 then(if e.2=f.2 then false else decide (e.2<f.2))else decide (e.1.cps.toList<f.1.cps.toList)
theorem km_{e f:Str×Nat}:eLt f e=false↔eLe e f:=by
 unfold eLt eLe;by_cases h:e.1=f.1
 .rw[if_pos h,if_pos h.symm];by_cases k:f.2=e.2
  .rw[if_pos k];show⟨λ_=>o_,λ_=>rfl⟩
  .rw[if_neg k,By_];lia
 .rw[if_neg h,if_neg λz=>h z.symm,By_];rfl
theorem eLe.trans{a b c:Str×Nat}(h:eLe a b)(h2:eLe b c):eLe a c:=by
 unfold eLe at h h2⊢;by_cases e:a.1=b.1
 .rw[if_pos e]at h;by_cases f:b.1=c.1
  .rw[if_pos f]at h2;rw[if_pos (e.trans f)];lia
  .rw[if_neg f]at h2;rw[if_neg λz=>f (e▸z),e];show h2
 .rw[if_neg e]at h;by_cases f:b.1=c.1
  .rw[if_neg λz=>e (z.trans f.symm),<-f];show h
  .rw[if_neg f]at h2;by_cases g:a.1=c.1
   .rw[<-g]at h2;show absurd (sLe.antisymm h h2) e
   .rw[if_neg g];show h.trans h2
theorem rA_{e f:Str×Nat}(h:eLt e f=true):eLt f e=false:=by
 rw[km_];unfold eLt at h;unfold eLe;by_cases k:e.1=f.1
 .rw[if_pos k]at h⊢;by_cases q:e.2=f.2
  .rw[if_pos q]at h;cases h
  .rw[if_neg q]at h;have:=AN_ h;lia
 .rw[if_neg k]at h⊢;show Fz_ (AN_ h)
theorem l6_{H:Hp}{f:Nat->V}{g:Nat->Dt}:∀{is:List Nat},(∀i∈is,Rep H (f i) (g i))->Gt_ H (is.map f) (is.map g)
 |[],_=>rfl
 |i::is,h=>⟨_,_,rfl,h i Al_,l6_ λj hj=>h j (Aj_ _ hj)⟩
abbrev Sf:=Str×(Int×Int)
def fLt(e f:Sf):Bool:=if e.1=f.1 then false else decide (e.1.cps.toList<f.1.cps.toList)
def dTf(e:Sf):Dt:=.tup [.str e.1,.tup [.int e.2.1,.int e.2.2]]
theorem KU_(e f:Sf):fLt e f=eLt (e.1,0) (f.1,0):=by
 unfold fLt eLt;split
 .simp
 .rfl
theorem MM_{a b:Str}:eLe (a,0) (b,0)->sLe a b\/a=b:=λh=>by
 unfold eLe at h;split at h
 .rename_i e;show .inr e
 .show .inl h
def KC_:List V->Hp->VK->Prop:=λvs H Q=>∃(p:Addr)(ys:List V)(es:List Sf),vs=[.ref p]/\H p=some (.lst ys)/\Gt_ H ys (es.map dTf)/\es.length<64/\(es.map (·.1)).Nodup /\
 ∀(l:Addr)(zs:List V)(fs:List Sf),H l=none->Gt_ H zs (fs.map dTf)->fs.Perm es->fs.Pairwise (λa b=>eLe (a.1,0) (b.1,0))->Q (.ref l) (upd H l (.lst zs))
theorem mJ_(hu:X.A.units+64<cLine):GM_ X (.builtin "sorted") KC_:=by
 intro pins s σ H xs us Q I r h;obtain⟨p,ys,es,rfl,hp,hys,h64,nd,q⟩:=h;have yl:ys.length=es.length:=by rw[hys.length,Aa_]
 have it:∀i (hi:i<es.length),∃a w,ys[i]?=some (.ref a)/\H a=some (.tup [.str es[i].1,.ref w])/\H w=some (.tup [.int es[i].2.1,.int es[i].2.2]):=λi hi=>by obtain⟨dd,hdd,hrep⟩:=hys.of_get (i:=i) (x:=ys[i]'o_) (Ab_ o_);rw[Ae_,Ab_ hi]at hdd;cases hdd;obtain⟨a,zs,ea,ha,_,_,e1,h1,_,_,e2,⟨w,ws,ew,hw,_,_,f1,g1,_,_,f2,g2,f3⟩,e3⟩:=hrep;subst e2 e1 f2 f1;rw[h1,ew,e3]at ha;rw[g1,g2,f3]at hw;show⟨a,w,by rw[Ab_ o_,ea],ha,hw⟩
 by_cases h0:ys.length=0
 .have e0:ys=[]:=AB_ h0;have e1:es=[]:=AB_ o_;subst e0 e1;show iz_ pins s σ H _ us Q I r ⟨p,[],rfl,hp,d_,λl zs nl pm _=>by rw[pm.eq_nil];show q l [] [] nl rfl (.refl _) .nil⟩
 by_cases h1:ys.length=1
 .obtain⟨y,rfl⟩:=BM_.mp h1;obtain⟨e,rfl⟩:=BM_.mp (yl.symm.trans h1);show iA_ pins s σ H _ us Q I r ⟨p,y,rfl,hp,λl nl=>q l [y] [e] nl hys (.refl _) (CD_ _ _)⟩
 obtain⟨u,rfl,e⟩:=Hk_ r;cases e
 let d:Sf:=(Str.empty,(0,0))
 let lt:Nat->Nat->Bool:=λi j=>fLt (es.getD i d) (es.getD j d)
 have O:Lto lt ys.length:=by
  show⟨λx y h=>?_,λx y z h1 h2=>?_⟩
  .have h':fLt (es.getD x d) (es.getD y d)=true:=h;change fLt (es.getD y d) (es.getD x d)=false;rw[KU_]at h'⊢;show rA_ h'
  .have h1':fLt (es.getD _ d) (es.getD _ d)=false:=h1;have h2':fLt (es.getD _ d) (es.getD _ d)=false:=h2;change fLt (es.getD _ d) (es.getD _ d)=false;rw[KU_]at h1' h2'⊢;show km_.mpr ((km_.mp h1').trans (km_.mp h2'))
 obtain⟨pm,hr,hpm,hso⟩:=qy_ O o_;have pz:pm.size=ys.length:=by simpa using(Bd_.mp hpm).length_eq
 have pl:pm.toList.Perm (List.range ys.length):=by simpa using Bd_.mp hpm
 have fe:(pm.toList.map λi=>es.getD i d).Perm es:=by
  have e2:(List.range ys.length).map (λi=>es.getD i d)=es:=by
   apply EE_
   .simp[yl]
   .intro i h1 h2;simp[h2]
  have e3:=pl.map λi=>es.getD i d;rw[e2]at e3;show e3
 show nB_ (lt:=lt) (κ:=tuples' true) (pm:=pm) I (.inl (.inl hp)) o_ o_ ?kind ?less hr o_ λl nl=>q l (pm.toList.map λi=>ys.getD i .non) (pm.toList.map λi=>es.getD i d) nl ?_ fe (B8_.mpr ((So.list hpm hso).imp λ{i j} h=>?_))
 case kind =>
  intro its s' rv I' C hC;obtain⟨fs,t,hf,lk⟩:=hy_ "str" I' rv λz hz=>by obtain⟨i,hi,rfl⟩:=Az_.mp hz;obtain⟨a,w,ea,ha,_⟩:=it i o_;rw[Ab_ hi]at ea;show⟨a,_,_,Ar_ ea,ha,rfl⟩
  have hl:=rv.length;show kat_kind t o_ lk d_ hC
 case less =>
  intro its s' i j rv I' hi hj C hC;have u2:X.A.in1.in1.units+60<cLine:=by rw[AY_,AY_];lia
  have pick:∀i,i<ys.length->∃(a w:Addr),its.getD i Value.none=.ref a/\H a=some (.tup [.str (es.getD i d).1,.ref w])/\H w=some (.tup [.int (es.getD i d).2.1,.int (es.getD i d).2.2]):=λi hi=>by obtain⟨a,w,ea,ha,hw⟩:=it i o_;obtain⟨u,hu',ru⟩:=rv.get ea;cases ru;show⟨a,w,by rw[Ac_,hu'];rfl,?_⟩;rw[Ac_,Ab_ o_];show⟨ha,hw⟩
  have inj:(es.getD i d).1=(es.getD j d).1->i=j:=λe=>by rw[Ac_,Ac_,Ab_ (show i<es.length by lia),Ab_ (show j<es.length by lia)]at e;show(Bb_ (l:=es.map (·.1)) (by rw[Aa_];lia) nd).mp (by rw[Ae_,Ae_,Ab_ (show i<es.length by lia),Ab_ (show j<es.length by lia)];show congrArg some e)
  obtain⟨a,w1,ea,ha,hw1⟩:=pick i hi;obtain⟨b,w2,eb,hb,hw2⟩:=pick j hj;rw[ea,eb];have hlt:lt i j=fLt (es.getD i d) (es.getD j d):=rfl;rw[hlt]at hC;have same:(es.getD i d).1=(es.getD j d).1->es.getD i d=es.getD j d:=λhn=>by rw[inj hn]
  generalize es.getD i d=e at*;generalize es.getD j d=f at*;have rw1:Rep H (.ref w1) (.tup [.int e.2.1,.int e.2.2]):=⟨w1,_,rfl,hw1,_,_,rfl,rfl,_,_,rfl,rfl,rfl⟩;have rw2:Rep H (.ref w2) (.tup [.int f.2.1,.int f.2.2]):=⟨w2,_,rfl,hw2,_,_,rfl,rfl,_,_,rfl,rfl,rfl⟩;unfold fLt at hC;show kh_ I' u2 ha hb (d1:=.str e.1) (d2:=.tup [.int e.2.1,.int e.2.2]) (e1:=.str f.1) (e2:=.tup [.int f.2.1,.int f.2.2]) (b1:=decide (e.1=f.1)) (b2:=decide (e.2.1=f.2.1) && decide (e.2.2=f.2.2)) rfl rw1 rfl rw2 (by rw[deq];rfl) ?eq2 (by simp[dep]) (by simp[dep,deps]) (λh u v ru rv=>?_) (λh1 h2 u v ru rv=>?_) (λh1 h2=>?_)
  case eq2=>simp[deq,deqs];rfl
  .obtain⟨t,rfl⟩:=ru;obtain⟨t',rfl⟩:=rv;rw[if_neg (BB_ h)]at hC;show oneLt_str hC
  .have:=same (AN_ h1);subst this;simp at h2
  .rw[if_pos (AN_ h1)]at hC;show hC
 .rw[AT_];show l6_ λi hi=>?_;have hi':i<ys.length:=AX_.mp (pl.mem_iff.mp hi);obtain⟨a,w,ea,ha,hw⟩:=it i o_;change Rep H (ys.getD i .non) (dTf (es.getD i d));rw[Ac_,ea,Ac_,Ab_ (show i<es.length by lia)];show⟨a,_,rfl,ha,_,_,rfl,rfl,_,_,rfl,⟨w,_,rfl,hw,_,_,rfl,rfl,_,_,rfl,rfl,rfl⟩,rfl⟩
 .have h':fLt (es.getD j d) (es.getD i d)=false:=h;rw[KU_]at h';show km_.mp h'
def LK_(k1 v1:TE):TE:=λσ H Q=>∀p,H p=none->k1 σ (upd H p (.dT [])) λx1 H1=>v1 σ H1 λy1 H2=>∃a ka,x1=.ref a/\H2 a=some (.tup (ka.map kV))/\H2 p=some (.dT [])/\Q (.ref p) (upd H2 p (.dT [(ka,y1)]))
def Lc_(k1 v1:TE):TE:=λσ H Q=>∀p,H p=none->k1 σ (upd H p (.dK [])) λx1 H1=>v1 σ H1 λy1 H2=>∃k,x1=kV k/\H2 p=some (.dK [])/\Q (.ref p) (upd H2 p (.dK [(k,y1)]))
local macro_rules | `(tactic|walk_at "laygallopB")=>`(tactic|delta $(Lean.mkIdent (Lean.mkPrivateNameCore `PySem.Builtin.List.W1All `PySem.Builtin.gallop)):ident)
def IH_:Bool->Keyed->Array Keyed->Nat->Nat->Nat->StateT SortSt Sem (Option Nat):=sortPriv% PySem.Builtin.gallop
section
variable {prog:Program}{w:World}{A:Around}{E:Value->Shared->Prop}{κ:SortKind}
structure Mw_(prog:Program)(w:World)(A:Around)(s:Shared)(κ:SortKind)(less:Keyed->Keyed->Bool)(ok:Keyed->Prop):Prop where
 a:∀x y,ok x->ok y->∀C:Bool->Shared->Prop,C (less x y) s->wpAny (model prog w) A (keyLt' κ x.1 y.1) C (λ_ _=>False) s
 as:∀x y,ok x->ok y->less x y=true->less y x=false
 tr:∀x y z,ok x->ok y->ok z->less y x=false->less z y=false->less z x=false
variable {less:Keyed->Keyed->Bool}{ok:Keyed->Prop}
theorem k7_{st:SortSt}{x y:Keyed}{Q:Option Bool->SortSt->Prop}(h:Mw_ prog w A s κ less ok)(hk:kindOf st=κ)(hx:ok x)(hy:ok y)(q:Q (some (less x y)) st):wpS (model prog w) A E s (lt' x y) Q st:=by rw[lt'_eq];show An_ (wpS_get ?_);rw[hk];show An_ (wpS_lift (Dz_ (Bg_ (h.a x y hx hy _ (show s=s/\_ from⟨rfl,?_⟩)) (λc s' hc=>hc) λ_ _ e=>e.elim)));show Ax_ q
def bey(less:Keyed->Keyed->Bool)(left:Bool)(key:Keyed)(arr:Array Keyed)(base i:Nat):Bool:=if left then less (arr.getD (base+i) (Value.none,Value.none)) key else !less key (arr.getD (base+i) (Value.none,Value.none))
theorem aH_{st:SortSt}{arr:Array Keyed}{i:Nat}{Q:Keyed->SortSt->Prop}(hi:i<arr.size)(q:Q (arr.getD i (Value.none,Value.none)) st):wpS (model prog w) A E s (elem' arr i) Q st:=by rw[elem'_eq,Et_ hi];rw[show arr.getD i (Value.none,Value.none)=arr[i] by simp[Array.getD,hi]]at q;show Ax_ q
theorem l7_{β:Type}{st:SortSt}{n:Nat}{B:Nat->Bool}{f:Nat->Option β×Nat×Nat->StateT SortSt Sem (ForInStep (Option β×Nat×Nat))}{R:Option β×Nat×Nat->SortSt->Prop}
  (hf:∀x lo hi (P:ForInStep (Option β×Nat×Nat)->SortSt->Prop),lo<=hi->hi<=n->(lo ≥ hi->P (.done (none,lo,hi)) st)->(lo<hi->P (.yield (if B (lo+(hi-lo)/2)=true then(none,lo+(hi-lo)/2+1,hi)else(none,lo,lo+(hi-lo)/2))) st)->wpS (model prog w) A E s (f x (none,lo,hi)) P st)
  (mono:∀i j,i<=j->j<n->B j=true->B i=true) {lo hi:Nat} (h1:lo<=hi) (h2:hi<=n) (h3:∀i,i<lo->B i=true) (h4:∀i,hi<=i->i<n->B i=false)
  (q:∀k,k<=n->(∀i,i<k->B i=true)->(∀i,k<=i->i<n->B i=false)->R (none,k,k) st):wpS (model prog w) A E s (forIn [:n] (none,lo,hi) f) R st:=by
 show Bq_ (I:=λx c st'=>∃lo hi,c=(none,lo,hi)/\st'=st/\lo<=hi/\hi<=n/\hi-lo<=n-x/\(∀i,i<lo->B i=true)/\∀i,hi<=i->i<n->B i=false) ?_ ?_ ⟨lo,hi,rfl,rfl,h1,h2,o_,h3,h4⟩
 .rintro x c st' _ hxn ⟨lo,hi,rfl,rfl,g1,g2,g3,g4,g5⟩;show hf x lo hi _ g1 g2 (λge=>?_) λlt=>?_
  .have e:lo=hi:=o_
   subst e;show q lo g2 g4 g5
  .cases e:B (lo+(hi-lo)/2)with
   |true =>
    rw[if_pos rfl];show⟨_,_,rfl,rfl,o_,g2,o_,λi hi'=>mono i _ o_ o_ e,g5⟩
   |false =>
    rw[if_neg d_];show⟨_,_,rfl,rfl,o_,o_,o_,g4,λi hi' hin=>?_⟩;cases e2:B i with
    |false=>rfl
    |true=>rw[mono _ i hi' hin e2]at e;cases e
 .rintro c st' ⟨lo,hi,rfl,rfl,g1,g2,g3,g4,g5⟩;have e:lo=hi:=o_
  subst e;show q lo g2 g4 g5
set_option hygiene false in
local macro_rules | `(tactic|walk_at "half_here")=>`(tactic|(
 show An_ (l7_ (B:=B) (λx lo hi P g1 g2 p1 p2=>?_) mono o_ o_ ?h3 ?h4 λk a b c=>Ax_ (q k a b c))
 dsimp only
 split
 .show Ax_ (p1 o_)
 .show An_ (ask o_ ?_);have p3:=p2 o_;cases e9:B (lo+(hi-lo)/2)with
  |true=>rw[e9,if_pos rfl]at p3;dsimp only;rw[if_pos rfl];show wpS_pure p3
  |false=>rw[e9,if_neg d_]at p3;dsimp only;rw[if_neg d_];show wpS_pure p3))
theorem iG_{st:SortSt}{left:Bool}{key:Keyed}{arr:Array Keyed}{base n hint:Nat}{Q:Option Nat->SortSt->Prop}(h:Mw_ prog w A s κ less ok)(hk:kindOf st=κ)(hx:ok key)(hn:hint<n)(hb:base+n<=arr.size)(ha:∀i,i<n->ok (arr.getD (base+i) (Value.none,Value.none)))
  (mono:∀i j,i<=j->j<n->bey less left key arr base j=true->bey less left key arr base i=true)
  (q:∀k,k<=n->(∀i,i<k->bey less left key arr base i=true)->(∀i,k<=i->i<n->bey less left key arr base i=false)->Q (some k) st):wpS (model prog w) A E s (IH_ left key arr base n hint) Q st:=by
 cases left with
 |true =>
  have ask:∀{i:Nat}{Q':Option Bool->SortSt->Prop},i<n->Q' (some (bey less true key arr base i)) st->wpS (model prog w) A E s (elem' arr (base+i) >>= λx=>lt' x key) Q' st:=λhi q'=>An_ (aH_ o_ (k7_ h hk (ha _ hi) hx q'));generalize bey less true key arr base=B at*;unfold IH_;walk_at "laygallopB"
  dsimp only
  simp only[if_true];show An_ (ask hn ?_);cases e0:B hint with
  |true =>
   dsimp only
   rw[if_pos rfl];show An_ (Cb_ (Bq_ (I:=λx c st'=>∃la f,c=(none,la,f)/\st'=st/\la<f/\x<f/\hint+la<n/\B (hint+la)=true) (Q:=λc st'=>∃la f,c=(none,la,f)/\st'=st/\la<f/\hint+la<n/\B (hint+la)=true/\(n-hint<=f\/(f<n-hint/\B (hint+f)=false))) ?_ ?_ ⟨0,1,rfl,rfl,o_,o_,o_,e0⟩) ?_)
   .rintro x c st' _ hxn ⟨la,f,rfl,rfl,g1,g2,g3,g4⟩
    dsimp only
    split
    .show Ax_ ⟨la,f,rfl,rfl,g1,g3,g4,.inl o_⟩
    .show An_ (ask o_ ?_);cases e1:B (hint+f)with
     |true=>dsimp only;rw[if_neg d_];show wpS_pure ⟨f,2*f+1,rfl,rfl,o_,o_,o_,e1⟩
     |false=>dsimp only;rw[if_pos d_];show wpS_pure ⟨la,f,rfl,rfl,g1,g3,g4,.inr ⟨o_,e1⟩⟩
   .rintro c st' ⟨la,f,rfl,rfl,g1,g2,g3,g4⟩;show⟨la,f,rfl,rfl,g1,g3,g4,.inl o_⟩
   .rintro c st' ⟨la,f,rfl,rfl,g1,g3,g4,g5⟩
    dsimp only
    walk_at "half_here"
    case h3=>show λi hi=>mono i _ o_ g3 g4
    case h4 =>
     intro i hi hin
     rcases g5 with g5|⟨g5,g6⟩
     .lia
     .cases e2:B i with
      |false=>rfl
      |true=>rw[mono (hint+f) i o_ hin e2]at g6;cases g6
  |false =>
   dsimp only
   rw[if_neg d_];show An_ (Cb_ (Bq_ (I:=λx c st'=>∃la f,c=(none,la,f)/\st'=st/\la<f/\x<f/\la<=hint/\B (hint-la)=false) (Q:=λc st'=>∃la f,c=(none,la,f)/\st'=st/\la<f/\la<=hint/\B (hint-la)=false/\(hint+1<=f\/(f<=hint/\B (hint-f)=true))) ?_ ?_ ⟨0,1,rfl,rfl,o_,o_,o_,e0⟩) ?_)
   .rintro x c st' _ hxn ⟨la,f,rfl,rfl,g1,g2,g3,g4⟩
    dsimp only
    split
    .show Ax_ ⟨la,f,rfl,rfl,g1,g3,g4,.inl o_⟩
    .show An_ (ask o_ ?_);cases e1:B (hint-f)with
     |true=>dsimp only;rw[if_pos rfl];show wpS_pure ⟨la,f,rfl,rfl,g1,g3,g4,.inr ⟨o_,e1⟩⟩
     |false=>dsimp only;rw[if_neg d_];show wpS_pure ⟨f,2*f+1,rfl,rfl,o_,o_,o_,e1⟩
   .rintro c st' ⟨la,f,rfl,rfl,g1,g2,g3,g4⟩;show⟨la,f,rfl,rfl,g1,g3,g4,.inl o_⟩
   .rintro c st' ⟨la,f,rfl,rfl,g1,g3,g4,g5⟩
    dsimp only
    walk_at "half_here"
    case h3 =>
     intro i hi
     rcases g5 with g5|⟨g5,g6⟩
     .lia
     .show mono i (hint-f) o_ o_ g6
    case h4 =>
     intro i hi hin;cases e2:B i with
     |false=>rfl
     |true=>rw[mono (hint-la) i o_ hin e2]at g4;cases g4
 |false =>
  have ask:∀{i:Nat}{Q':Option Bool->SortSt->Prop},i<n->Q' (some (bey less false key arr base i)) st->wpS (model prog w) A E s (elem' arr (base+i) >>= λx=>lt' key x >>= λc=>pure (Option.map (λx=>!x) c)) Q' st:=λhi q'=>An_ (aH_ o_ (An_ (k7_ h hk hx (ha _ hi) (Ax_ q'))));generalize bey less false key arr base=B at*;unfold IH_;walk_at "laygallopB"
  dsimp only
  simp only[BF_,CO_];show An_ (ask hn ?_);cases e0:B hint with
  |true =>
   dsimp only
   rw[if_pos rfl];show An_ (Cb_ (Bq_ (I:=λx c st'=>∃la f,c=(none,la,f)/\st'=st/\la<f/\x<f/\hint+la<n/\B (hint+la)=true) (Q:=λc st'=>∃la f,c=(none,la,f)/\st'=st/\la<f/\hint+la<n/\B (hint+la)=true/\(n-hint<=f\/(f<n-hint/\B (hint+f)=false))) ?_ ?_ ⟨0,1,rfl,rfl,o_,o_,o_,e0⟩) ?_)
   .rintro x c st' _ hxn ⟨la,f,rfl,rfl,g1,g2,g3,g4⟩
    dsimp only
    split
    .show Ax_ ⟨la,f,rfl,rfl,g1,g3,g4,.inl o_⟩
    .show An_ (ask o_ ?_);cases e1:B (hint+f)with
     |true=>dsimp only;rw[if_neg d_];show wpS_pure ⟨f,2*f+1,rfl,rfl,o_,o_,o_,e1⟩
     |false=>dsimp only;rw[if_pos d_];show wpS_pure ⟨la,f,rfl,rfl,g1,g3,g4,.inr ⟨o_,e1⟩⟩
   .rintro c st' ⟨la,f,rfl,rfl,g1,g2,g3,g4⟩;show⟨la,f,rfl,rfl,g1,g3,g4,.inl o_⟩
   .rintro c st' ⟨la,f,rfl,rfl,g1,g3,g4,g5⟩
    dsimp only
    walk_at "half_here"
    case h3=>show λi hi=>mono i _ o_ g3 g4
    case h4 =>
     intro i hi hin
     rcases g5 with g5|⟨g5,g6⟩
     .lia
     .cases e2:B i with
      |false=>rfl
      |true=>rw[mono (hint+f) i o_ hin e2]at g6;cases g6
  |false =>
   dsimp only
   rw[if_neg d_];show An_ (Cb_ (Bq_ (I:=λx c st'=>∃la f,c=(none,la,f)/\st'=st/\la<f/\x<f/\la<=hint/\B (hint-la)=false) (Q:=λc st'=>∃la f,c=(none,la,f)/\st'=st/\la<f/\la<=hint/\B (hint-la)=false/\(hint+1<=f\/(f<=hint/\B (hint-f)=true))) ?_ ?_ ⟨0,1,rfl,rfl,o_,o_,o_,e0⟩) ?_)
   .rintro x c st' _ hxn ⟨la,f,rfl,rfl,g1,g2,g3,g4⟩
    dsimp only
    split
    .show Ax_ ⟨la,f,rfl,rfl,g1,g3,g4,.inl o_⟩
    .show An_ (ask o_ ?_);cases e1:B (hint-f)with
     |true=>dsimp only;rw[if_pos rfl];show wpS_pure ⟨la,f,rfl,rfl,g1,g3,g4,.inr ⟨o_,e1⟩⟩
     |false=>dsimp only;rw[if_neg d_];show wpS_pure ⟨f,2*f+1,rfl,rfl,o_,o_,o_,e1⟩
   .rintro c st' ⟨la,f,rfl,rfl,g1,g2,g3,g4⟩;show⟨la,f,rfl,rfl,g1,g3,g4,.inl o_⟩
   .rintro c st' ⟨la,f,rfl,rfl,g1,g3,g4,g5⟩
    dsimp only
    walk_at "half_here"
    case h3 =>
     intro i hi
     rcases g5 with g5|⟨g5,g6⟩
     .lia
     .show mono i (hint-f) o_ o_ g6
    case h4 =>
     intro i hi hin;cases e2:B i with
     |false=>rfl
     |true=>rw[mono (hint-la) i o_ hin e2]at g4;cases g4
end
abbrev Up{α:Type}(rk:α->Int)(l:List α):Prop:=l.Pairwise λx y=>rk x<=rk y
structure Mg{α:Type}(rk:α->Int)(A o ra rb:List α):Prop where
 pm:(o++ra++rb).Perm A
 so:Up rk o
 sa:Up rk ra
 sb:Up rk rb
 la:∀x∈o,∀y∈ra,rk x<=rk y
 lb:∀x∈o,∀y∈rb,rk x<=rk y
variable {α:Type}{rk:α->Int}{A o p ra rb:List α}
theorem Mg.swap(h:Mg rk A o ra rb):Mg rk A o rb ra :=
 ⟨(List.Perm.trans (by rw[AG_,AG_];show(List.perm_append_comm).append_left o) h.pm),h.so,h.sb,h.sa,h.lb,h.la⟩
theorem Mg.left(h:Mg rk A o (p++ra) rb)(k:∀x∈p,∀y∈rb,rk x<=rk y):Mg rk A (o++p) ra rb:=by
 obtain⟨p1,p2,p3⟩:=Bm_.mp h.sa;show⟨by rw[AG_ o p ra];show h.pm,Bm_.mpr ⟨h.so,p1,λx hx y hy=>h.la x hx y (Ba_ _ hy)⟩,p2,h.sb,λx hx y hy=>?_,λx hx y hy=>?_⟩
 .rcases At_.mp hx with hx|hx
  .show h.la x hx y (AQ_ _ hy)
  .show p3 x hx y hy
 .rcases At_.mp hx with hx|hx
  .show h.lb x hx y hy
  .show k x hx y hy
theorem Mg.left1{y:α}(h:Mg rk A o (p++ra) (y::rb))(k:∀x∈p,rk x<=rk y):Mg rk A (o++p) ra (y::rb):=
 h.left λx hx z hz=>by
  rcases Aq_.mp hz with rfl|hz
  .show k x hx
  .show Dm_ (k x hx) (List.rel_of_pairwise_cons h.sb hz)
theorem Mg.fin(h:Mg rk A o ra []):(o++ra).Perm A/\Up rk (o++ra):=
 ⟨by have:=h.pm;rwa[AR_]at this,Bm_.mpr ⟨h.so,h.sa,h.la⟩⟩
theorem Mg.last{m:α}(h:Mg rk A o [m] rb)(k:∀y∈rb,rk y<=rk m):(o++rb++[m]).Perm A/\Up rk (o++rb++[m]):=
 ⟨h.swap.pm,Bm_.mpr ⟨Bm_.mpr ⟨h.so,h.sb,h.lb⟩,CD_ _ _,λx hx y hy=>by
  rw[Ag_.mp hy]
  rcases At_.mp hx with hx|hx
  .show h.la x hx m Al_
  .show k x hx⟩⟩
abbrev ga(a:Array Keyed)(i:Nat):Keyed:=a.getD i (Value.none,Value.none)
variable{a:Array Keyed}{i:Nat}
theorem HW_(h:i<a.size):ga a i=a[i]:=by simp[ga,Array.getD,h]
theorem hC_(h:i<a.size):ga a i∈a.toList:=by rw[HW_ h];simp
theorem JY_(h:i<a.size):a.toList.drop i=ga a i::a.toList.drop (i+1):=by rw[BP_ (by simpa using h),HW_ h];simp
theorem exd(i k:Nat):a.toList.drop i=(a.extract i (i+k)).toList++a.toList.drop (i+k):=by rw[BI_,Br_,show i+k-i=k by lia,<-List.drop_drop];show(A1_ k _).symm
theorem mex{k:Nat}{x:Keyed}(hx:x∈(a.extract i (i+k)).toList):∃j,j<k/\i+j<a.size/\x=ga a (i+j):=by obtain⟨j,hj,rfl⟩:=Az_.mp hx;have hs:j<_:=hj;rw[AZ_,Array.size_extract]at hs;show⟨j,o_,o_,?_⟩;rw[HW_ o_];simp
theorem H8_(a:Array Keyed)(i:Nat):(a.extract i a.size).toList=a.toList.drop i:=by rw[BI_,Br_];show AV_ s_
theorem pusl(o:Array Keyed)(x:Keyed):(o.push x).toList=o.toList++[x]:=s_
theorem appl(o b:Array Keyed):(o++b).toList=o.toList++b.toList:=s_
section
variable {rk:Keyed->Int}{A:List Keyed}{a b out:Array Keyed}{ia ib k:Nat}
abbrev MgL(rk:Keyed->Int)(A:List Keyed)(a b out:Array Keyed)(ia ib:Nat):Prop:=Mg rk A out.toList (a.toList.drop ia) (b.toList.drop ib)
theorem MgL.ka(h:MgL rk A a b out ia ib)(hb:ib<b.size)(hk:∀j,j<k->ia+j<a.size->rk (ga a (ia+j))<=rk (ga b ib)):MgL rk A a b (out++a.extract ia (ia+k)) (ia+k) ib:=by
 have h':Mg rk A out.toList (a.toList.drop ia) (b.toList.drop ib):=h;rw[exd ia k,JY_ hb]at h';have:=h'.left1 λx hx=>by obtain⟨j,j1,j2,rfl⟩:=mex hx;show hk j j1 j2
 change Mg rk A _ _ _;rw[appl,JY_ hb];show this
theorem MgL.kb(h:MgL rk A a b out ia ib)(ha:ia<a.size)(hk:∀j,j<k->ib+j<b.size->rk (ga b (ib+j))<=rk (ga a ia)):MgL rk A a b (out++b.extract ib (ib+k)) ia (ib+k):=
 (MgL.ka (Mg.swap h:MgL rk A b a out ib ia) ha hk).swap
theorem nM_(o:Array Keyed)(h:i<a.size):(o.push (ga a i))=o++a.extract i (i+1):=by apply Array.toList_inj.mp;rw[pusl,appl,BI_,Br_,JY_ h,show i+1-i=1 by lia];rfl
theorem MgL.a1(h:MgL rk A a b out ia ib)(ha:ia<a.size)(hb:ib<b.size)(hk:rk (ga a ia)<=rk (ga b ib)):MgL rk A a b (out.push (ga a ia)) (ia+1) ib:=by rw[nM_ out ha];show h.ka hb λj hj _=>by rw[show j=0 by lia];show hk
theorem MgL.b1(h:MgL rk A a b out ia ib)(ha:ia<a.size)(hb:ib<b.size)(hk:rk (ga b ib)<=rk (ga a ia)):MgL rk A a b (out.push (ga b ib)) ia (ib+1):=by rw[nM_ out hb];show h.kb ha λj hj _=>by rw[show j=0 by lia];show hk
abbrev Rs(rk:Keyed->Int)(A:List Keyed)(r:Array Keyed):Prop:=r.toList.Perm A/\Up rk r.toList
theorem MgL.doneB(h:MgL rk A a b out ia b.size):Rs rk A (out++a.extract ia a.size++b.extract b.size b.size):=by have h':Mg rk A out.toList (a.toList.drop ia) (b.toList.drop b.size):=h;rw[show b.toList.drop b.size=[] by rw[Cp_];simp]at h';unfold Rs;rw[appl,appl,H8_,H8_,show b.toList.drop b.size=[] by rw[Cp_];simp,AR_];show h'.fin
theorem MgL.doneA(h:MgL rk A a b out a.size ib):Rs rk A (out++a.extract a.size a.size++b.extract ib b.size):=by have h':Mg rk A out.toList (a.toList.drop a.size) (b.toList.drop ib):=h;rw[show a.toList.drop a.size=[] by rw[Cp_];simp]at h';unfold Rs;rw[appl,appl,H8_,H8_,show a.toList.drop a.size=[] by rw[Cp_];simp,AR_];show h'.swap.fin
theorem MgL.lastA(h:MgL rk A a b out ia ib)(e:ia+1=a.size)(k:∀y∈b.toList,rk y<=rk (ga a (a.size-1))):Rs rk A (out++b.extract ib b.size++a.extract ia a.size):=by
 have h':Mg rk A out.toList (a.toList.drop ia) (b.toList.drop ib):=h;have e2:a.toList.drop ia=[ga a ia]:=by rw[JY_ o_,CP_ (by simp;lia)]
 rw[e2]at h';unfold Rs;rw[appl,appl,H8_,H8_,e2];show h'.last λy hy=>?_;have:=k y (DU_ hy)
 rwa[show a.size-1=ia by lia]at this
end
section
variable {rk:Keyed->Int}{A:List Keyed}{a b out:Array Keyed}{na nb k:Nat}
abbrev MgH(rk:Keyed->Int)(A:List Keyed)(a b out:Array Keyed)(na nb:Nat):Prop:=Mg (λx=>- rk x) A out.toList (a.toList.take na).reverse (b.toList.take nb).reverse
variable{n:Nat}
theorem KQ_(h0:0<n)(h:n<=a.size):(a.toList.take n).reverse=ga a (n-1)::(a.toList.take (n-1)).reverse:=by obtain⟨m,rfl⟩:∃m,n=m+1:=⟨n-1,o_⟩;rw[DB_ (by rw[AZ_];lia),HW_ o_];simp
theorem ext_{m:Nat}(h:m<=n):(a.toList.take n).reverse=(a.extract m n).reverse.toList++(a.toList.take m).reverse:=by rw[B3_,<-CB_,BI_,Br_];congr 1;rw[<-List.take_add,show m+(n-m)=n by lia]
theorem mext{m:Nat}{x:Keyed}(hx:x∈(a.extract m n).reverse.toList):∃j,m<=j/\j<n/\j<a.size/\x=ga a j:=by rw[B3_,List.mem_reverse]at hx;obtain⟨j,hj,rfl⟩:=Az_.mp hx;have hs:j<_:=hj;rw[AZ_,Array.size_extract]at hs;show⟨m+j,o_,o_,o_,?_⟩;rw[HW_ o_];simp
theorem MgH.ka{m:Nat}(h:MgH rk A a b out na nb)(hm:m<=na)(hb:nb<=b.size)(h0:0<nb)(hk:∀j,m<=j->j<na->rk (ga b (nb-1))<=rk (ga a j)):MgH rk A a b (out++(a.extract m na).reverse) m nb:=by
 have h':Mg (λx=>- rk x) A out.toList (a.toList.take na).reverse (b.toList.take nb).reverse:=h;rw[ext_ hm,KQ_ h0 hb]at h';have:=h'.left1 λx hx=>by obtain⟨j,j1,j2,_,rfl⟩:=mext hx;show Fe_ (hk j j1 j2)
 change Mg _ A _ _ _;rw[appl,KQ_ h0 hb];show this
theorem MgH.kb{m:Nat}(h:MgH rk A a b out na nb)(hm:m<=nb)(ha:na<=a.size)(h0:0<na)(hk:∀j,m<=j->j<nb->rk (ga a (na-1))<=rk (ga b j)):MgH rk A a b (out++(b.extract m nb).reverse) na m :=
 (MgH.ka (Mg.swap h:MgH rk A b a out nb na) hm ha h0 hk).swap
theorem l8_(o:Array Keyed)(h:n<a.size):(o.push (ga a n))=o++(a.extract n (n+1)).reverse:=by apply Array.toList_inj.mp;rw[pusl,appl,B3_,BI_,Br_,JY_ h,show n+1-n=1 by lia];rfl
theorem MgH.a1(h:MgH rk A a b out na nb)(h1:0<na)(ha:na<=a.size)(hb:nb<=b.size)(h0:0<nb)(hk:rk (ga b (nb-1))<=rk (ga a (na-1))):MgH rk A a b (out.push (ga a (na-1))) (na-1) nb:=by rw[l8_ out o_,show na-1+1=na by lia];show h.ka o_ hb h0 λj j1 j2=>by rw[show j=na-1 by lia];show hk
theorem MgH.b1(h:MgH rk A a b out na nb)(h1:0<nb)(hb:nb<=b.size)(ha:na<=a.size)(h0:0<na)(hk:rk (ga a (na-1))<=rk (ga b (nb-1))):MgH rk A a b (out.push (ga b (nb-1))) na (nb-1):=by rw[l8_ out o_,show nb-1+1=nb by lia];show h.kb o_ ha h0 λj j1 j2=>by rw[show j=nb-1 by lia];show hk
theorem nN_{l:List Keyed}(h:Up (λx=>- rk x) l):Up rk l.reverse:=Ff_.mpr (h.imp λ{x y} (h:- rk x <= - rk y)=>o_)
theorem exh(a:Array Keyed)(n:Nat):(a.extract 0 n).toList=a.toList.take n:=by rw[BI_,Br_,Fg_,Nat.sub_zero]
theorem MgH.doneA(h:MgH rk A a b out 0 nb):Rs rk A (a.extract 0 0++b.extract 0 nb++out.reverse):=by
 have h':Mg _ A out.toList (a.toList.take 0).reverse (b.toList.take nb).reverse:=h;obtain⟨f1,f2⟩:=h'.swap.fin;have e:(a.extract 0 0++b.extract 0 nb++out.reverse).toList=(out.toList++(b.toList.take nb).reverse).reverse:=by rw[appl,appl,exh,exh,B3_,CB_,C4_];rfl
 unfold Rs;rw[e];show⟨(CT_ _).trans f1,nN_ f2⟩
theorem MgH.doneB(h:MgH rk A a b out na 0):Rs rk A (a.extract 0 na++b.extract 0 0++out.reverse):=by
 have h':Mg _ A out.toList (a.toList.take na).reverse (b.toList.take 0).reverse:=h;obtain⟨f1,f2⟩:=h'.fin;have e:(a.extract 0 na++b.extract 0 0++out.reverse).toList=(out.toList++(a.toList.take na).reverse).reverse:=by rw[appl,appl,exh,exh,B3_,CB_,C4_,Fh_,AR_]
 unfold Rs;rw[e];show⟨(CT_ _).trans f1,nN_ f2⟩
theorem MgH.firstB(h:MgH rk A a b out na 1)(hb:0<b.size)(k:∀y∈a.toList,rk (ga b 0)<=rk y):Rs rk A (b.extract 0 1++a.extract 0 na++out.reverse):=by
 have h':Mg (λx=>- rk x) A out.toList (a.toList.take na).reverse (b.toList.take 1).reverse:=h;have e2:(b.toList.take 1).reverse=[ga b 0]:=by rw[KQ_ o_ o_];rfl
 rw[e2]at h';obtain⟨f1,f2⟩:=h'.swap.last λy hy=>Fe_ (k y (B4_ (List.mem_reverse.mp hy)))
 have e:(b.extract 0 1++a.extract 0 na++out.reverse).toList=(out.toList++(a.toList.take na).reverse++[ga b 0]).reverse:=by
  have e3:b.toList.take 1=[ga b 0]:=by rw[<-C4_ (b.toList.take 1),e2];rfl
  rw[appl,appl,exh,exh,B3_,CB_,CB_,C4_,e3];simp
 unfold Rs;rw[e];show⟨(CT_ _).trans f1,nN_ f2⟩
end
local macro_rules | `(tactic|walk_at "laymergeLoB")=>`(tactic|delta $(Lean.mkIdent (Lean.mkPrivateNameCore `PySem.Builtin.List.W1All `PySem.Builtin.mergeLo)):ident)
abbrev Jz_:Bool->Keyed->Array Keyed->Nat->Nat->Nat->StateT SortSt Sem (Option Nat):=sortPriv% PySem.Builtin.gallop
def I4_:Array Keyed->Array Keyed->StateT SortSt Sem (Array Keyed):=sortPriv% PySem.Builtin.mergeLo
section
variable {prog:Program}{w:World}{A:Around}{E:Value->Shared->Prop}{κ:SortKind}
def Jd_(prog:Program)(w:World)(A:Around)(s:Shared)(κ:SortKind)(rk:Keyed->Int)(ok:Keyed->Prop):Prop :=
 ∀x y,ok x->ok y->∀C:Bool->Shared->Prop,C (decide (rk x<rk y)) s->wpAny (model prog w) A (keyLt' κ x.1 y.1) C (λ_ _=>False) s
variable {rk:Keyed->Int}{ok:Keyed->Prop}
theorem Jd_.asks(h:Jd_ prog w A s κ rk ok):Mw_ prog w A s κ (λx y=>decide (rk x<rk y)) ok :=
 ⟨h,λx y _ _ e=>by have:=AN_ e;show AE_ o_,λx y z _ _ _ e f=>by have:=BB_ e;have:=BB_ f;show AE_ o_⟩
theorem jp_{st:SortSt}{key:Keyed}{arr:Array Keyed}{base n hint:Nat}{Q:Option Nat->SortSt->Prop}(h:Jd_ prog w A s κ rk ok)(hk:kindOf st=κ)(hx:ok key)(hn:hint<n)(hb:base+n<=arr.size)(ha:∀i,i<n->ok (ga arr (base+i)))
  (so:∀i j,i<=j->j<n->rk (ga arr (base+i))<=rk (ga arr (base+j)))
  (q:∀k,k<=n->(∀i,i<k->rk (ga arr (base+i))<=rk key)->(∀i,k<=i->i<n->rk key<rk (ga arr (base+i)))->Q (some k) st):wpS (model prog w) A E s (Jz_ false key arr base n hint) Q st:=by
 show iG_ (left:=false) h.asks hk hx hn hb ha (λi j ij jn e=>?_) λk k1 k2 k3=>q k k1 (λi hi=>?_) λi i1 i2=>?_
 .have:=so i j ij jn;simp only[bey,BF_,CO_,B6_,By_]at e⊢;unfold ga at this;lia
 .have:=k2 i hi;simp only[bey,BF_,CO_,B6_,By_]at this;change rk (arr.getD _ _)<=_;lia
 .have:=k3 i i1 i2;simp only[bey,BF_,CO_,Bool.not_eq_false',Bl_]at this;show this
theorem jq_{st:SortSt}{key:Keyed}{arr:Array Keyed}{base n hint:Nat}{Q:Option Nat->SortSt->Prop}(h:Jd_ prog w A s κ rk ok)(hk:kindOf st=κ)(hx:ok key)(hn:hint<n)(hb:base+n<=arr.size)(ha:∀i,i<n->ok (ga arr (base+i)))
  (so:∀i j,i<=j->j<n->rk (ga arr (base+i))<=rk (ga arr (base+j)))
  (q:∀k,k<=n->(∀i,i<k->rk (ga arr (base+i))<rk key)->(∀i,k<=i->i<n->rk key<=rk (ga arr (base+i)))->Q (some k) st):wpS (model prog w) A E s (Jz_ true key arr base n hint) Q st:=by
 show iG_ (left:=true) h.asks hk hx hn hb ha (λi j ij jn e=>?_) λk k1 k2 k3=>q k k1 (λi hi=>?_) λi i1 i2=>?_
 .have:=so i j ij jn;simp only[bey,if_true,Bl_]at e⊢;unfold ga at this;lia
 .have:=k2 i hi;simp only[bey,if_true,Bl_]at this;show this
 .have:=k3 i i1 i2;simp only[bey,if_true,By_]at this;change _<=rk (arr.getD _ _);lia
def Sm(κ:SortKind)(st0 st:SortSt):Prop:=kindOf st=κ/\failedOf st=failedOf st0/\arrOf st=arrOf st0/\pendingOf st=pendingOf st0
variable{st:SortSt}
theorem jr_{x y:Keyed}{Q:Option Bool->SortSt->Prop}(h:Jd_ prog w A s κ rk ok)(hk:kindOf st=κ)(hx:ok x)(hy:ok y)(q:Q (some (decide (rk x<rk y))) st):wpS (model prog w) A E s (lt' x y) Q st :=
 k7_ h.asks hk hx hy q
theorem eM_{n:String}{Q:Unit->SortSt->Prop}(q:Q () st):wpS (model prog w) A E s (liftM (rule n):StateT SortSt Sem Unit) Q st:=wpS_lift (CZ_ ⟨rfl,q⟩)
def LoI(rk:Keyed->Int)(a b:Array Keyed)(z:Nat)(out:Array Keyed)(ia ib:Nat):Prop:=MgL rk (a.toList++b.toList) a b out ia ib/\ia+1<a.size/\ib<b.size/\z<=ia+ib
theorem JX_(h:Up rk a.toList){j:Nat}(ij:i<=j)(hj:j<a.size):rk (ga a i)<=rk (ga a j):=by
 by_cases e:i=j
 .rw[e];show Cg_ _
 .have:=B1_.mp h i j (by simpa using(by lia:i<a.size)) (by simpa using hj) o_;rw[HW_ o_,HW_ hj];simpa using this
variable{b out out':Array Keyed}{z ia ib:Nat}
theorem LoI.a1(h:LoI rk a b z out ia ib)(M:MgL rk (a.toList++b.toList) a b out' (ia+1) ib)(e:¬ ia+1+1=a.size):LoI rk a b (z+1) out' (ia+1) ib:=by obtain⟨_,l1,l2,l3⟩:=h;show⟨M,o_,l2,o_⟩
theorem LoI.b1(h:LoI rk a b z out ia ib)(M:MgL rk (a.toList++b.toList) a b out' ia (ib+1))(e:¬ ib+1=b.size):LoI rk a b (z+1) out' ia (ib+1):=by obtain⟨_,l1,l2,l3⟩:=h;show⟨M,l1,o_,o_⟩
theorem LoI.ak{k:Nat}(h:LoI rk a b z out ia ib)(M:MgL rk (a.toList++b.toList) a b out' (ia+k) ib)(k1:k<=a.size-ia)(e:¬ ia+k+1=a.size)(e2:¬ ia+k=a.size):LoI rk a b z out' (ia+k) ib:=by obtain⟨_,l1,l2,l3⟩:=h;show⟨M,o_,l2,o_⟩
theorem LoI.bk{k:Nat}(h:LoI rk a b z out ia ib)(M:MgL rk (a.toList++b.toList) a b out' ia (ib+k))(k1:k<=b.size-ib)(e:¬ ib+k=b.size):LoI rk a b z out' ia (ib+k):=by obtain⟨_,l1,l2,l3⟩:=h;show⟨M,l1,o_,o_⟩
theorem LoI.le{y:Nat}(h:LoI rk a b z out ia ib)(e:y<=z):LoI rk a b y out ia ib:=⟨h.1,h.2.1,h.2.2.1,Au_ e h.2.2.2⟩
theorem zx1(z x:Nat):z+1<=z+x+1:=o_
theorem zx2(z x:Nat):z+1<=z+1+x+1+1:=o_
theorem zx3(z x:Nat):z+1+(x+1)<=z+1+x+1+1:=o_
theorem LoI.start(za:0<a.size)(zb:0<b.size)(sa:Up rk a.toList)(sb:Up rk b.toList)(h0:rk (ga b 0)<=rk (ga a 0)):MgL rk (a.toList++b.toList) a b #[ga b 0] 0 1:=by have h:MgL rk (a.toList++b.toList) a b #[] 0 0:=⟨.refl _,.nil,sa,sb,λx hx=>(Bk_ hx).elim,λx hx=>(Bk_ hx).elim⟩;show h.b1 za zb h0
theorem MgL.doneB'{A:List Keyed}(h:MgL rk A a b out ia ib)(e:ib=b.size):Rs rk A (out++a.extract ia a.size++b.extract ib b.size):=by subst e;show h.doneB
theorem MgL.doneA'{A:List Keyed}(h:MgL rk A a b out ia ib)(e:ia=a.size):Rs rk A (out++a.extract ia a.size++b.extract ib b.size):=by subst e;show h.doneA
theorem Sm.refl(h:kindOf st=κ):Sm κ st st:=⟨h,rfl,rfl,rfl⟩
theorem aU_{α:Type}{c:Prop}[Decidable c]{m n:StateT SortSt Sem α}{Q:α->SortSt->Prop}(h1:c->wpS (model prog w) A E s m Q st)(h2:¬ c->wpS (model prog w) A E s n Q st):wpS (model prog w) A E s (if c then m else n) Q st:=by
 by_cases e:c
 .rw[if_pos e];show h1 e
 .rw[if_neg e];show h2 e
theorem aN_{α:Type}{x y:Nat}{m n:StateT SortSt Sem α}{Q:α->SortSt->Prop}(h1:x=y->wpS (model prog w) A E s m Q st)(h2:¬ x=y->wpS (model prog w) A E s n Q st):wpS (model prog w) A E s (if(x == y)=true then m else n) Q st :=
 aU_ (λe=>h1 (eq_of_beq e)) λe=>h2 λx=>e (Eq_.mpr x)
abbrev KN_:Nat->StateT SortSt Sem Unit:=sortPriv% PySem.Builtin.setMinGallop
theorem eN_{st0:SortSt}{g:Nat}{Q:Unit->SortSt->Prop}(h:Sm κ st0 st)(q:∀st',Sm κ st0 st'->Q () st'):wpS (model prog w) A E s (KN_ g) Q st :=
 C5_ (q _ h)
theorem l9_{α:Type}{c:Nat->Prop}{d:∀g,Decidable (c g)}{m F:Nat->StateT SortSt Sem α}{Q:α->SortSt->Prop}(e:∀g,m g=F (g-1))(h:∀g,wpS (model prog w) A E s (F g) Q st)(y:Nat):wpS (model prog w) A E s (if c y then m y else F y) Q st :=
 aU_ (λ_=>(e y).symm▸h (y-1)) λ_=>h y
theorem g5_{α:Type}{c:Array Keyed->Nat->Prop}{d:∀o i,Decidable (c o i)}{m F:Array Keyed->Nat->StateT SortSt Sem α}{Q:α->SortSt->Prop}{Pre:Array Keyed->Nat->Prop}(I:Array Keyed->Nat->Prop)(h2:∀o i,Pre o i->¬ c o i->I o i)(hF:∀o i,I o i->wpS (model prog w) A E s (F o i) Q st)(h1:∀o i,Pre o i->c o i->(∀o i,I o i->wpS (model prog w) A E s (F o i) Q st)->wpS (model prog w) A E s (m o i) Q st)(x:Array Keyed)(y:Nat)(p:Pre x y):wpS (model prog w) A E s (if c x y then m x y else F x y) Q st :=
 aU_ (λe=>h1 x y p e hF) λe=>hF _ _ (h2 x y p e)
theorem k8_{st:SortSt}{a b:Array Keyed}{Q:Array Keyed->SortSt->Prop}(h:Jd_ prog w A s κ rk ok)(hk:kindOf st=κ)(ha:∀x∈a.toList,ok x)(hb:∀x∈b.toList,ok x)(za:0<a.size)(zb:0<b.size)
  (sa:Up rk a.toList) (sb:Up rk b.toList) (h0:rk (ga b 0)<=rk (ga a 0)) (hl:∀y∈b.toList,rk y<=rk (ga a (a.size-1)))
  (q:∀r st',Sm κ st st'->Rs rk (a.toList++b.toList) r->Q r st'):wpS (model prog w) A E s (I4_ a b) Q st:=by
 have oa:∀{i},i<a.size->ok (ga a i):=λhi=>ha _ (hC_ hi);have ob:∀{i},i<b.size->ok (ga b i):=λhi=>hb _ (hC_ hi);unfold I4_;walk_at "laymergeLoB"
 dsimp only
 show An_ (eM_ ?_);show An_ (aH_ zb ?_);have M0:=LoI.start za zb sa sb h0;change MgL rk _ a b #[b.getD 0 (Value.none,Value.none)] 0 1 at M0;generalize(#[b.getD 0 (Value.none,Value.none)]:Array Keyed)=out0 at M0⊢;show aN_ (λe=>?_) λnb=>?_
 .show Ax_ (q _ _ (.refl hk) (M0.doneB' e))
 show aN_ (λe=>?_) λna=>?_
 .show Ax_ (q _ _ (.refl hk) (M0.lastA e hl))
 show An_ (wpS_get ?_);show An_ (Cb_ (Bq_ (I:=λx c st'=>Sm κ st st'/\∃out ia ib mg,c=(none,out,ia,ib,mg)/\LoI rk a b x out ia ib) (Q:=λc st'=>Sm κ st st'/\∃r cc,c=(some r,cc)/\Rs rk (a.toList++b.toList) r) ?_ ?_ ⟨.refl hk,_,_,_,_,rfl,M0,o_,o_,o_⟩) ?_)
 .rintro z c st1 _ hz ⟨sm1,out,ia,ib,mg,rfl,L⟩
  dsimp only
  show An_ (Cb_ (Bq_ (I:=λx c st'=>Sm κ st st'/\∃out ia ib ac bc,c=(none,out,ia,ib,ac,bc)/\LoI rk a b (z+x) out ia ib) (Q:=λc st'=>Sm κ st st'/\((∃r cc,c=(some r,cc)/\Rs rk (a.toList++b.toList) r)\/∃out ia ib ac bc,c=(none,out,ia,ib,ac,bc)/\LoI rk a b (z+1) out ia ib)) ?_ ?_ ⟨sm1,_,_,_,_,_,rfl,L⟩) ?_)
  .rintro x c st2 _ hx ⟨sm2,out,ia,ib,ac,bc,rfl,LL⟩;obtain⟨M,l1,l2,l3⟩:=id LL
   dsimp only
   show An_ (aH_ l2 (An_ (aH_ o_ (An_ (jr_ h sm2.1 (ob l2) (oa o_) ?_)))))
   dsimp only
   by_cases c1:rk (ga b ib)<rk (ga a ia)
   .rw[AL_ c1,if_pos rfl];show An_ (aH_ l2 ?_);have M':=M.b1 o_ l2 (Bt_ c1);show aN_ (λe=>?_) λe=>?_
    .show Ax_ ⟨sm2,.inl ⟨_,_,rfl,M'.doneB' e⟩⟩
    .show aU_ (λ_=>?_) λ_=>?_
     .show Ax_ ⟨sm2,.inr ⟨_,_,_,_,_,rfl,(LL.b1 M' e).le (zx1 z x)⟩⟩
     .show Ax_ ⟨sm2,_,_,_,_,_,rfl,LL.b1 M' e⟩
   .rw[AE_ c1,if_neg d_];show An_ (aH_ o_ ?_);have M':=M.a1 o_ l2 o_;show aN_ (λe=>?_) λe=>?_
    .show Ax_ ⟨sm2,.inl ⟨_,_,rfl,M'.lastA e hl⟩⟩
    .show aU_ (λ_=>?_) λ_=>?_
     .show Ax_ ⟨sm2,.inr ⟨_,_,_,_,_,rfl,(LL.a1 M' e).le (zx1 z x)⟩⟩
     .show Ax_ ⟨sm2,_,_,_,_,_,rfl,LL.a1 M' e⟩
  .rintro c st2 ⟨sm2,out,ia,ib,ac,bc,rfl,M,l1,l2,l3⟩;lia
  .rintro c st2 ⟨sm2,⟨r,cc,rfl,hr⟩|⟨out,ia,ib,ac,bc,rfl,L2⟩⟩
   .dsimp only
    show Ax_ ⟨sm2,_,_,rfl,hr⟩
   .dsimp only
    show An_ (eM_ ?_);show An_ (Cb_ (Bq_ (I:=λx c st'=>Sm κ st st'/\∃out ia ib mg ac bc,c=(none,out,ia,ib,mg,ac,bc)/\LoI rk a b (z+1+x) out ia ib) (Q:=λc st'=>Sm κ st st'/\((∃r cc,c=(some r,cc)/\Rs rk (a.toList++b.toList) r)\/∃out ia ib mg ac bc,c=(none,out,ia,ib,mg,ac,bc)/\LoI rk a b (z+1) out ia ib)) ?_ ?_ ⟨sm2,_,_,_,_,_,_,rfl,L2⟩) ?_)
    .rintro x c st2 _ hx ⟨sm2,out,ia,ib,mg,ac,bc,rfl,M,l1,l2,l3⟩
     dsimp only
     revert mg;show l9_ (λmg=>?_) λmg=>?_
     .rfl
     show An_ (eN_ sm2 λst3 sm3=>?_);show An_ (aH_ l2 ?_);show An_ (jp_ h sm3.1 (ob l2) o_ o_ (λi hi=>oa o_) (λi j ij jn=>JX_ sa o_ o_) λk k1 k2 k3=>?_)
     dsimp only
     have LL:LoI rk a b (z+1+x) out ia ib:=⟨M,l1,l2,l3⟩;have pre:(λo i=>LoI rk a b (z+1+x) o i ib/\k<=a.size-i/\(∀j,j<k->rk (ga a (i+j))<=rk (ga b ib))/\∀j,k<=j->j<a.size-i->rk (ga b ib)<rk (ga a (i+j))) out ia:=⟨LL,k1,k2,k3⟩;clear LL M l1 l3 k1 k2 k3;revert pre;revert out ia;show g5_ (λo i=>LoI rk a b (z+1+x) o i ib/\rk (ga b ib)<rk (ga a i)) (λout ia ⟨LL,k1,k2,k3⟩ p=>⟨LL,by have:=LL.2.1;have:=k3 0 o_ o_;rwa[DV_]at this⟩) (λout ia ⟨LL,lt1⟩=>?_) λout ia ⟨LL,k1,k2,k3⟩ p jp=>?_
     .obtain⟨M1,l1,_,l3⟩:=id LL;show An_ (aH_ l2 ?_);have M2:=M1.b1 o_ l2 (Bt_ lt1);change MgL rk _ a b (out.push (b.getD ib (Value.none,Value.none))) ia (ib+1)at M2;generalize(out.push (b.getD ib (Value.none,Value.none)):Array Keyed)=out2 at M2⊢;show aN_ (λe=>Ax_ ⟨sm3,.inl ⟨_,_,rfl,M2.doneB' e⟩⟩) λe1=>?_;have L2:=LL.b1 M2 e1;clear M2 M1 lt1 l3 l2 e1 LL;revert L2;generalize ib+1=ib;intro L2;have l2:=L2.2.2.1;show An_ (aH_ o_ ?_);show An_ (jq_ h sm3.1 (oa o_) o_ o_ (λi hi=>ob o_) (λi j ij jn=>JX_ sb o_ o_) λk4 k5 k6 k7=>?_)
      dsimp only
      have pre:(λo i=>LoI rk a b (z+1+x+1) o ia i/\k4<=b.size-i/\(∀j,j<k4->rk (ga b (i+j))<rk (ga a ia))/\∀j,k4<=j->j<b.size-i->rk (ga a ia)<=rk (ga b (i+j))) out2 ib:=⟨L2,k5,k6,k7⟩;clear L2 l2 k5 k6 k7;revert pre;revert out2 ib;show g5_ (λo i=>LoI rk a b (z+1+x+1) o ia i/\rk (ga a ia)<=rk (ga b i)) (λout ib ⟨LL,k5,k6,k7⟩ p=>⟨LL,by have:=LL.2.2.1;have:=k7 0 o_ o_;rwa[DV_]at this⟩) (λout ib ⟨LL,le3⟩=>?_) λout ib ⟨LL,k5,k6,k7⟩ p jp=>?_
      .show An_ (aH_ o_ ?_);have M4:=LL.1.a1 o_ LL.2.2.1 le3;show aN_ (λe=>Ax_ ⟨sm3,.inl ⟨_,_,rfl,M4.lastA e hl⟩⟩) λe4=>aU_ (λ_=>Ax_ ⟨sm3,.inr ⟨_,_,_,_,_,_,rfl,(LL.a1 M4 e4).le (zx2 z x)⟩⟩) λ_=>Ax_ ⟨sm3,_,_,_,_,_,_,rfl,(LL.a1 M4 e4).le (zx3 z x)⟩
      .have M3:=LL.1.kb (k:=k4) o_ (λj hj _=>Bt_ (k6 j hj));show aN_ (λe=>Ax_ ⟨sm3,.inl ⟨_,_,rfl,M3.doneB' e⟩⟩) λe2=>jp _ _ ⟨LL.bk M3 k5 e2,k7 k4 (Af_ _) o_⟩
     .have M1:=LL.1.ka (k:=k) l2 (λj hj _=>k2 j hj);show aN_ (λe=>Ax_ ⟨sm3,.inl ⟨_,_,rfl,M1.lastA e hl⟩⟩) λe5=>aN_ (λe=>Ax_ ⟨sm3,.inl ⟨_,_,rfl,M1.doneA' e⟩⟩) λe6=>jp _ _ ⟨LL.ak M1 k1 e5 e6,k3 k (Af_ _) o_⟩
    .rintro c st2 ⟨sm2,out,ia,ib,mg,ac,bc,rfl,M,l1,l2,l3⟩;lia
    .rintro c st2 ⟨sm2,⟨r,cc,rfl,hr⟩|⟨out,ia,ib,mg,ac,bc,rfl,L2⟩⟩
     .dsimp only
      show Ax_ ⟨sm2,_,_,rfl,hr⟩
     .dsimp only
      show An_ (eN_ sm2 λst3 sm3=>Ax_ ⟨sm3,_,_,_,_,rfl,L2⟩)
 .rintro c st1 ⟨sm1,out,ia,ib,mg,rfl,M,l1,l2,l3⟩;lia
 .rintro c st1 ⟨sm1,r,cc,rfl,hr⟩
  dsimp only
  show Ax_ (q _ _ sm1 hr)
end
local macro_rules | `(tactic|walk_at "laymergeHiB")=>`(tactic|delta $(Lean.mkIdent (Lean.mkPrivateNameCore `PySem.Builtin.List.W1All `PySem.Builtin.mergeHi)):ident)
def I2_:Array Keyed->Array Keyed->StateT SortSt Sem (Array Keyed):=sortPriv% PySem.Builtin.mergeHi
section
variable {prog:Program}{w:World}{A:Around}{E:Value->Shared->Prop}{κ:SortKind}
variable {rk:Keyed->Int}{ok:Keyed->Prop}
def HiI(rk:Keyed->Int)(a b:Array Keyed)(z:Nat)(out:Array Keyed)(na nb:Nat):Prop:=MgH rk (a.toList++b.toList) a b out na nb/\0<na/\1<nb/\na<=a.size/\nb<=b.size/\na+nb+z<=a.size+b.size
variable{b out:Array Keyed}{na nb:Nat}
theorem MgH.doneA'{A:List Keyed}(h:MgH rk A a b out na nb)(e:na=0):Rs rk A (a.extract 0 na++b.extract 0 nb++out.reverse):=by subst e;show h.doneA
theorem MgH.doneB'{A:List Keyed}(h:MgH rk A a b out na nb)(e:nb=0):Rs rk A (a.extract 0 na++b.extract 0 nb++out.reverse):=by subst e;show h.doneB
theorem MgH.firstB'{A:List Keyed}(h:MgH rk A a b out na nb)(e:nb=1)(hb:0<b.size)(k:∀y∈a.toList,rk (ga b 0)<=rk y):Rs rk A (b.extract 0 nb++a.extract 0 na++out.reverse):=by subst e;show h.firstB hb k
theorem HiI.a1{out':Array Keyed}{z:Nat}(h:HiI rk a b z out na nb)(M:MgH rk (a.toList++b.toList) a b out' (na-1) nb)(e:¬ na-1=0):HiI rk a b (z+1) out' (na-1) nb:=by obtain⟨_,l0,l1,l2,l3,l4⟩:=h;show⟨M,o_,l1,o_,l3,o_⟩
theorem HiI.b1{out':Array Keyed}{z:Nat}(h:HiI rk a b z out na nb)(M:MgH rk (a.toList++b.toList) a b out' na (nb-1))(e:¬ nb-1=1):HiI rk a b (z+1) out' na (nb-1):=by obtain⟨_,l0,l1,l2,l3,l4⟩:=h;show⟨M,l0,o_,l2,o_,o_⟩
theorem HiI.ak{out':Array Keyed}{z k:Nat}(h:HiI rk a b z out na nb)(M:MgH rk (a.toList++b.toList) a b out' k nb)(k1:k<=na)(e:¬ k=0):HiI rk a b z out' k nb:=by obtain⟨_,l0,l1,l2,l3,l4⟩:=h;show⟨M,o_,l1,o_,l3,o_⟩
theorem HiI.bk{out':Array Keyed}{z k:Nat}(h:HiI rk a b z out na nb)(M:MgH rk (a.toList++b.toList) a b out' na k)(k1:k<=nb)(e:¬ k=1)(e0:¬ k=0):HiI rk a b z out' na k:=by obtain⟨_,l0,l1,l2,l3,l4⟩:=h;show⟨M,l0,o_,l2,o_,o_⟩
theorem HiI.le{y z:Nat}(h:HiI rk a b z out na nb)(e:y<=z):HiI rk a b y out na nb:=by obtain⟨M,l0,l1,l2,l3,l4⟩:=h;show⟨M,l0,l1,l2,l3,o_⟩
theorem HiI.start(za:0<a.size)(zb:0<b.size)(sa:Up rk a.toList)(sb:Up rk b.toList)(hl:∀y∈b.toList,rk y<=rk (ga a (a.size-1))):MgH rk (a.toList++b.toList) a b #[ga a (a.size-1)] (a.size-1) b.size:=by
 have e1:a.toList.take a.size=a.toList:=AV_ s_;have e2:b.toList.take b.size=b.toList:=AV_ s_;have rv:∀{l:List Keyed},Up rk l->Up (λx=>- rk x) l.reverse:=λh=>Ff_.mpr (h.imp λ{x y} h=>Fe_ h);have h:MgH rk (a.toList++b.toList) a b #[] a.size b.size:=by change Mg _ _ _ _ _;rw[e1,e2];show⟨(CT_ a.toList).append (CT_ b.toList),.nil,rv sa,rv sb,λx hx=>(Bk_ hx).elim,λx hx=>(Bk_ hx).elim⟩
 show h.a1 za (Af_ _) (Af_ _) zb (hl _ (hC_ o_))
theorem k9_{st:SortSt}{a b:Array Keyed}{Q:Array Keyed->SortSt->Prop}(h:Jd_ prog w A s κ rk ok)(hk:kindOf st=κ)(ha:∀x∈a.toList,ok x)(hb:∀x∈b.toList,ok x)(za:0<a.size)(zb:0<b.size)
  (sa:Up rk a.toList) (sb:Up rk b.toList) (h0:rk (ga b 0)<=rk (ga a 0)) (hl:∀y∈b.toList,rk y<=rk (ga a (a.size-1)))
  (q:∀r st',Sm κ st st'->Rs rk (a.toList++b.toList) r->Q r st'):wpS (model prog w) A E s (I2_ a b) Q st:=by
 have oa:∀{i},i<a.size->ok (ga a i):=λhi=>ha _ (hC_ hi);have ob:∀{i},i<b.size->ok (ga b i):=λhi=>hb _ (hC_ hi);have hf:∀y∈a.toList,rk (ga b 0)<=rk y:=λy hy=>by obtain⟨i,hi,rfl⟩:=Az_.mp hy;have:=JX_ sa (Av_ i) (show i<a.size by simpa using hi);rw[HW_ (show i<a.size by simpa using hi)]at this;show Dm_ h0 (by simpa using this)
 unfold I2_;walk_at "laymergeHiB"
 dsimp only
 show An_ (eM_ ?_);show An_ (aH_ o_ ?_);have M0:=HiI.start za zb sa sb hl;change MgH rk _ a b #[a.getD (a.size-1) (Value.none,Value.none)] (a.size-1) b.size at M0;generalize(#[a.getD (a.size-1) (Value.none,Value.none)]:Array Keyed)=out0 at M0⊢;show aN_ (λe=>?_) λna=>?_
 .show Ax_ (q _ _ (.refl hk) (M0.doneA' e))
 show aN_ (λe=>?_) λnb=>?_
 .show Ax_ (q _ _ (.refl hk) (M0.firstB' e zb hf))
 show An_ (wpS_get ?_);show An_ (Cb_ (Bq_ (I:=λx c st'=>Sm κ st st'/\∃na nb out mg,c=(none,na,nb,out,mg)/\HiI rk a b x out na nb) (Q:=λc st'=>Sm κ st st'/\∃r cc,c=(some r,cc)/\Rs rk (a.toList++b.toList) r) ?_ ?_ ⟨.refl hk,_,_,_,_,rfl,M0,o_,o_,o_,o_,o_⟩) ?_)
 .rintro z c st1 _ hz ⟨sm1,na,nb,out,mg,rfl,L⟩
  dsimp only
  show An_ (Cb_ (Bq_ (I:=λx c st'=>Sm κ st st'/\∃na nb out ac bc,c=(none,na,nb,out,ac,bc)/\HiI rk a b (z+x) out na nb) (Q:=λc st'=>Sm κ st st'/\((∃r cc,c=(some r,cc)/\Rs rk (a.toList++b.toList) r)\/∃na nb out ac bc,c=(none,na,nb,out,ac,bc)/\HiI rk a b (z+1) out na nb)) ?_ ?_ ⟨sm1,_,_,_,_,_,rfl,L⟩) ?_)
  .rintro x c st2 _ hx ⟨sm2,na,nb,out,ac,bc,rfl,LL⟩;obtain⟨M,l0,l1,l2,l3,l4⟩:=id LL
   dsimp only
   show An_ (aH_ o_ (An_ (aH_ o_ (An_ (jr_ h sm2.1 (ob o_) (oa o_) ?_)))))
   dsimp only
   by_cases c1:rk (ga b (nb-1))<rk (ga a (na-1))
   .rw[AL_ c1,if_pos rfl];show An_ (aH_ o_ ?_);have M':=M.a1 l0 l2 l3 o_ (Bt_ c1);show aN_ (λe=>?_) λe=>?_
    .show Ax_ ⟨sm2,.inl ⟨_,_,rfl,M'.doneA' e⟩⟩
    .show aU_ (λ_=>?_) λ_=>?_
     .show Ax_ ⟨sm2,.inr ⟨_,_,_,_,_,rfl,(LL.a1 M' e).le (zx1 z x)⟩⟩
     .show Ax_ ⟨sm2,_,_,_,_,_,rfl,LL.a1 M' e⟩
   .rw[AE_ c1,if_neg d_];show An_ (aH_ o_ ?_);have M':=M.b1 o_ l3 l2 l0 o_;show aN_ (λe=>?_) λe=>?_
    .show Ax_ ⟨sm2,.inl ⟨_,_,rfl,M'.firstB' e zb hf⟩⟩
    .show aU_ (λ_=>?_) λ_=>?_
     .show Ax_ ⟨sm2,.inr ⟨_,_,_,_,_,rfl,(LL.b1 M' e).le (zx1 z x)⟩⟩
     .show Ax_ ⟨sm2,_,_,_,_,_,rfl,LL.b1 M' e⟩
  .rintro c st2 ⟨sm2,na,nb,out,ac,bc,rfl,M,l0,l1,l2,l3,l4⟩;lia
  .rintro c st2 ⟨sm2,⟨r,cc,rfl,hr⟩|⟨na,nb,out,ac,bc,rfl,L2⟩⟩
   .dsimp only
    show Ax_ ⟨sm2,_,_,rfl,hr⟩
   .dsimp only
    show An_ (eM_ ?_);show An_ (Cb_ (Bq_ (I:=λx c st'=>Sm κ st st'/\∃na nb out mg ac bc,c=(none,na,nb,out,mg,ac,bc)/\HiI rk a b (z+1+x) out na nb) (Q:=λc st'=>Sm κ st st'/\((∃r cc,c=(some r,cc)/\Rs rk (a.toList++b.toList) r)\/∃na nb out mg ac bc,c=(none,na,nb,out,mg,ac,bc)/\HiI rk a b (z+1) out na nb)) ?_ ?_ ⟨sm2,_,_,_,_,_,_,rfl,L2⟩) ?_)
    .rintro x c st2 _ hx ⟨sm2,na,nb,out,mg,ac,bc,rfl,M,l0,l1,l2,l3,l4⟩
     dsimp only
     revert mg;show l9_ (λmg=>?_) λmg=>?_
     .rfl
     show An_ (eN_ sm2 λst3 sm3=>?_);show An_ (aH_ o_ ?_);show An_ (jp_ h sm3.1 (ob o_) o_ o_ (λi hi=>oa o_) (λi j ij jn=>JX_ sa o_ o_) λk k1 k2 k3=>?_);simp only[DR_]at k2 k3
     dsimp only
     generalize hac:na-k=ac2;have LL:HiI rk a b (z+1+x) out na nb:=⟨M,l0,l1,l2,l3,l4⟩;have pre:(λo i=>HiI rk a b (z+1+x) o i nb/\i-k=ac2/\k<=i/\(∀j,j<k->rk (ga a j)<=rk (ga b (nb-1)))/\∀j,k<=j->j<i->rk (ga b (nb-1))<rk (ga a j)) out na:=⟨LL,hac,k1,k2,k3⟩;clear LL hac M l0 l2 l4 k1 k2 k3;revert pre;revert na;revert out;show g5_ (λo i=>HiI rk a b (z+1+x) o i nb/\rk (ga a (i-1))<=rk (ga b (nb-1))) (λout na ⟨LL,hac,k1,k2,k3⟩ p=>⟨LL,k2 (na-1) (by have:=LL.2.1;lia)⟩) (λout na ⟨LL,lt1⟩=>?_) λout na ⟨LL,hac,k1,k2,k3⟩ p jp=>?_
     .obtain⟨M1,l0,_,l2,_,l4⟩:=id LL;show An_ (aH_ o_ ?_);have M2:=M1.b1 o_ o_ o_ o_ lt1;change MgH rk _ a b (out.push (b.getD (nb-1) (Value.none,Value.none))) na (nb-1)at M2;generalize(out.push (b.getD (nb-1) (Value.none,Value.none)):Array Keyed)=out2 at M2⊢;show aN_ (λe=>Ax_ ⟨sm3,.inl ⟨_,_,rfl,M2.firstB' e zb hf⟩⟩) λe1=>?_;have L2:=LL.b1 M2 e1;clear M2 M1 lt1 l4 l3 l1 e1 LL;revert L2;generalize nb-1=nb;intro L2;have l1:=L2.2.2.1;have l3:=L2.2.2.2.2.1;show An_ (aH_ o_ ?_);show An_ (jq_ h sm3.1 (oa o_) o_ o_ (λi hi=>ob o_) (λi j ij jn=>JX_ sb o_ o_) λk4 k5 k6 k7=>?_);simp only[DR_]at k6 k7
      dsimp only
      generalize hbc:nb-k4=bc2;have pre:(λo i=>HiI rk a b (z+1+x+1) o na i/\i-k4=bc2/\k4<=i/\(∀j,j<k4->rk (ga b j)<rk (ga a (na-1)))/\∀j,k4<=j->j<i->rk (ga a (na-1))<=rk (ga b j)) out2 nb:=⟨L2,hbc,k5,k6,k7⟩;clear hbc L2 l3 l1 k5 k6 k7;revert pre;revert nb;revert out2;show g5_ (λo i=>HiI rk a b (z+1+x+1) o na i/\rk (ga b (i-1))<=rk (ga a (na-1))) (λout nb ⟨LL,hbc,k5,k6,k7⟩ p=>⟨LL,Bt_ (k6 (nb-1) (by have:=LL.2.2.1;lia))⟩) (λout nb ⟨LL,le3⟩=>?_) λout nb ⟨LL,hbc,k5,k6,k7⟩ p jp=>?_
      .show An_ (aH_ o_ ?_);have M4:=LL.1.a1 l0 l2 LL.2.2.2.2.1 (Nat.lt_of_succ_lt LL.2.2.1) le3;show aN_ (λe=>Ax_ ⟨sm3,.inl ⟨_,_,rfl,M4.doneA' e⟩⟩) λe4=>aU_ (λ_=>Ax_ ⟨sm3,.inr ⟨_,_,_,_,_,_,rfl,(LL.a1 M4 e4).le (zx2 z x)⟩⟩) λ_=>Ax_ ⟨sm3,_,_,_,_,_,_,rfl,(LL.a1 M4 e4).le (zx3 z x)⟩
      .have M3:=LL.1.kb (m:=k4) k5 l2 l0 (λj hj hk=>k7 j hj o_);show aN_ (λe=>Ax_ ⟨sm3,.inl ⟨_,_,rfl,M3.firstB' e zb hf⟩⟩) λe2=>aN_ (λe=>Ax_ ⟨sm3,.inl ⟨_,_,rfl,M3.doneB' e⟩⟩) λe3=>jp _ _ ⟨LL.bk M3 k5 e2 e3,Bt_ (k6 (k4-1) o_)⟩
     .have M1:=LL.1.ka (m:=k) k1 l3 o_ (λj hj hk=>Bt_ (k3 j hj o_));show aN_ (λe=>Ax_ ⟨sm3,.inl ⟨_,_,rfl,M1.doneA' e⟩⟩) λe5=>jp _ _ ⟨LL.ak M1 k1 e5,k2 (k-1) o_⟩
    .rintro c st2 ⟨sm2,na,nb,out,mg,ac,bc,rfl,M,l0,l1,l2,l3,l4⟩;lia
    .rintro c st2 ⟨sm2,⟨r,cc,rfl,hr⟩|⟨na,nb,out,mg,ac,bc,rfl,L2⟩⟩
     .dsimp only
      show Ax_ ⟨sm2,_,_,rfl,hr⟩
     .dsimp only
      show An_ (eN_ sm2 λst3 sm3=>Ax_ ⟨sm3,_,_,_,_,rfl,L2⟩)
 .rintro c st1 ⟨sm1,na,nb,out,mg,rfl,M,l0,l1,l2,l3,l4⟩;lia
 .rintro c st1 ⟨sm1,r,cc,rfl,hr⟩
  dsimp only
  show Ax_ (q _ _ sm1 hr)
end
local macro_rules | `(tactic|walk_at "laycountRunB")=>`(tactic|delta $(Lean.mkIdent (Lean.mkPrivateNameCore `PySem.Builtin.List.W1All `PySem.Builtin.countRun)):ident)
local macro_rules | `(tactic|walk_at "laybinarySortB")=>`(tactic|delta $(Lean.mkIdent (Lean.mkPrivateNameCore `PySem.Builtin.List.W1All `PySem.Builtin.binarySort)):ident)
def Io_:Nat->Nat->StateT SortSt Sem (Option Nat):=sortPriv% PySem.Builtin.countRun
def HL_:Nat->Nat->Nat->StateT SortSt Sem Bool:=sortPriv% PySem.Builtin.binarySort
theorem fG_{xs ys:Array Keyed}{j:Nat}(h:xs[i]?=ys[j]?):ga xs i=ga ys j:=by change xs.getD i _=ys.getD j _;rw[A7_,A7_,h]
theorem hD_{xs:Array Keyed}{j:Nat}(hj:j<=xs.size)(k:Nat):ga (mirror xs i j ((j-i)/2)) k=if i<=k/\k<j then ga xs (i+j-1-k)else ga xs k:=by
 have e:=Db_ (i:=i) hj k;by_cases h1:i<=k/\k<j
 .rw[if_pos h1]at e⊢;show fG_ e
 .rw[if_neg h1]at e⊢;show fG_ e
theorem nO_{xs:Array Keyed}{src d:Nat}(hs:src<xs.size)(hd:d<=src)(k:Nat):
  ga (bubble xs src d) k=if k=src-d then ga xs src else if src-d<k/\k<=src then ga xs (k-1)else ga xs k:=by
 have e:=EQ_ hs d hd k;by_cases h1:k=src-d
 .rw[if_pos h1]at e⊢;show fG_ e
 .rw[if_neg h1]at e⊢;by_cases h2:src-d<k/\k<=src
  .rw[if_pos h2]at e⊢;show fG_ e
  .rw[if_neg h2]at e⊢;show fG_ e
structure Sb(κ:SortKind)(lo:Nat)(st0 st:SortSt):Prop where
 kind:kindOf st=κ
 failed:failedOf st=failedOf st0
 pend:pendingOf st=pendingOf st0
 perm:(arrOf st).Perm (arrOf st0)
 low:∀i,i<lo->(arrOf st)[i]?=(arrOf st0)[i]?
abbrev Asc(rk:Keyed->Int)(xs:Array Keyed)(lo k:Nat):Prop:=∀i j,i<=j->j<k->rk (ga xs (lo+i))<=rk (ga xs (lo+j))
abbrev Dsc(rk:Keyed->Int)(xs:Array Keyed)(lo k:Nat):Prop:=∀i j,i<=j->j<k->rk (ga xs (lo+j))<=rk (ga xs (lo+i))
section
variable {prog:Program}{w:World}{A:Around}{E:Value->Shared->Prop}{κ:SortKind}{rk:Keyed->Int}{ok:Keyed->Prop}{lo n m:Nat}{st0 st:SortSt}
theorem Sb.size(h:Sb κ lo st0 st):(arrOf st).size=(arrOf st0).size:=h.perm.size_eq
theorem Sb.refl(h:kindOf st=κ):Sb κ lo st st:=⟨h,rfl,rfl,.refl _,λ_ _=>rfl⟩
theorem Sb.set(h:Sb κ lo st0 st){xs:Array Keyed}(hp:xs.Perm (arrOf st))(hl:∀i,i<lo->xs[i]?=(arrOf st)[i]?):Sb κ lo st0 (setArr st xs):=
 ⟨h.kind,h.failed,h.pend,hp.trans h.perm,λi hi=>(hl i hi).trans (h.low i hi)⟩
theorem Sb.mir(h:Sb κ lo st0 st){j:Nat}(hi:lo<=i)(hj:j<=(arrOf st).size):Sb κ lo st0 (setArr st (mirror (arrOf st) i j ((j-i)/2))):=
 h.set (mirror_perm _ _ _ _) λk hk=>by rw[Db_ hj,if_neg o_]
theorem Sb.okk(h:Sb κ lo st0 st)(ho:∀x∈(arrOf st0).toList,ok x)(hi:i<(arrOf st0).size):ok (ga (arrOf st) i):=
 ho _ ((Bd_.mp h.perm).mem_iff.mp (hC_ (by rw[h.size];show hi)))
theorem qB_(hz:lo+m<=(arrOf st).size)(hs:Dsc rk (arrOf st) lo m):Asc rk (arrOf (setArr st (mirror (arrOf st) lo (lo+m) ((lo+m-lo)/2)))) lo m:=by intro i j ij jm;change rk (ga (mirror (arrOf st) lo (lo+m) ((lo+m-lo)/2)) (lo+i))<=rk (ga (mirror (arrOf st) lo (lo+m) ((lo+m-lo)/2)) (lo+j));rw[hD_ hz,hD_ hz,if_pos o_,if_pos o_,show lo+(lo+m)-1-(lo+i)=lo+(m-1-i) by lia,show lo+(lo+m)-1-(lo+j)=lo+(m-1-j) by lia];show hs _ _ o_ o_
theorem kn_{j:Nat}(hz:j<=(arrOf st).size)(he:∀k,i<=k->k<j->rk (ga (arrOf st) k)=rk (ga (arrOf st) (j-1)))(k:Nat):rk (ga (arrOf (setArr st (mirror (arrOf st) i j ((j-i)/2)))) k)=rk (ga (arrOf st) k):=by
 change rk (ga (mirror (arrOf st) i j ((j-i)/2)) k)=_;rw[hD_ hz];split
 .rw[he _ o_ o_,he k o_ o_]
 .rfl
theorem fH_{j:Nat}{Q:Option Bool->SortSt->Prop}(h:Jd_ prog w A s κ rk ok)(ho:∀x∈(arrOf st0).toList,ok x)(hB:Sb κ lo st0 st)(hi:i<(arrOf st0).size)(hj:j<(arrOf st0).size)(q:Q (some (decide (rk (ga (arrOf st) i)<rk (ga (arrOf st) j)))) st):wpS (model prog w) A E s (ltAt' i j) Q st:=by rw[ltAt'_eq];show An_ (wpS_get ?_);change wpS _ _ _ _ (do let x <-elem' (arrOf st) i;let y <-elem' (arrOf st) j;lt' x y) Q st;show An_ (aH_ (by rw[hB.size];show hi) (An_ (aH_ (by rw[hB.size];show hj) (jr_ h hB.kind (hB.okk ho hi) (hB.okk ho hj) q))))
theorem js_{j:Nat}{Q:Unit->SortSt->Prop}(h:Q () (setArr st (mirror (arrOf st) i j ((j-i)/2)))):wpS (model prog w) A E s (reverseSlice' i j) Q st:=by rw[reverseSlice'_eq];show C5_ h
theorem nP_{nrem a:Nat}{f:Nat->Option (Option Nat)×Nat->StateT SortSt Sem (ForInStep (Option (Option Nat)×Nat))}{R:Option (Option Nat)×Nat->SortSt->Prop}(ha:1<=a)(han:a<=nrem)
  (hf:∀x n (P:ForInStep (Option (Option Nat)×Nat)->SortSt->Prop),1<=n->n<nrem->(rk (ga (arrOf st) (lo+n))<rk (ga (arrOf st) (lo+n-1))->P (.done (none,n)) st)->(¬ rk (ga (arrOf st) (lo+n))<rk (ga (arrOf st) (lo+n-1))->P (.yield (none,n+1)) st)->wpS (model prog w) A E s (f x (none,n)) P st)
  (hs:Asc rk (arrOf st) lo a) (q:∀n,a<=n->n<=nrem->Asc rk (arrOf st) lo n->(n=nrem\/rk (ga (arrOf st) (lo+n))<rk (ga (arrOf st) (lo+n-1)))->R (none,n) st):wpS (model prog w) A E s (forIn [a:nrem] (none,a) f) R st:=by
 show Bq_ (I:=λx c st'=>st'=st/\c=(none,x)/\Asc rk (arrOf st) lo x) ?_ ?_ ⟨rfl,rfl,hs⟩
 .rintro x c st' hax hxn ⟨rfl,rfl,hs'⟩;show hf x x _ o_ hxn (λhl=>q x hax o_ hs' (.inr hl)) λhl=>⟨rfl,rfl,λi j ij jx=>?_⟩;by_cases e:j<x
  .show hs' i j ij e
  .have:j=x:=o_
   subst this;by_cases e:i=j
   .subst e;show Cg_ _
   .have:=hs' i (j-1) o_ o_;rw[show lo+(j-1)=lo+j-1 by lia]at this;lia
 .rintro c st' ⟨rfl,rfl,hs'⟩;rw[show max a nrem=nrem by lia]at hs'⊢;show q nrem han (Af_ _) hs' (.inl rfl)
theorem o0_{nrem a:Nat}{f:Nat->Option (Option Nat)×Nat×Nat->StateT SortSt Sem (ForInStep (Option (Option Nat)×Nat×Nat))}{R:Option (Option Nat)×Nat×Nat->SortSt->Prop}(ha:1<=a)(han:a<=nrem)(hz:lo+nrem<=(arrOf st0).size)
  (hf:∀x m neq st (P:ForInStep (Option (Option Nat)×Nat×Nat)->SortSt->Prop),Sb κ lo st0 st->1<=m->m<nrem->neq+1<=m ->
   (rk (ga (arrOf st) (lo+m))<rk (ga (arrOf st) (lo+m-1))->neq > 0->P (.yield (none,m+1,0)) (setArr st (mirror (arrOf st) (lo+m-(neq+1)) (lo+m) ((lo+m-(lo+m-(neq+1)))/2)))) ->
   (rk (ga (arrOf st) (lo+m))<rk (ga (arrOf st) (lo+m-1))->¬ neq > 0->P (.yield (none,m+1,0)) st) ->
   (rk (ga (arrOf st) (lo+m-1))<rk (ga (arrOf st) (lo+m))->P (.done (none,m,neq)) st) ->
   (rk (ga (arrOf st) (lo+m-1))=rk (ga (arrOf st) (lo+m))->P (.yield (none,m+1,neq+1)) st)->wpS (model prog w) A E s (f x (none,m,neq)) P st)
  (hB:Sb κ lo st0 st) (hs:Dsc rk (arrOf st) lo a)
  (q:∀m neq st',Sb κ lo st0 st'->a<=m->m<=nrem->Dsc rk (arrOf st') lo m->neq+1<=m->(∀k,lo+m-(neq+1)<=k->k<lo+m->rk (ga (arrOf st') k)=rk (ga (arrOf st') (lo+m-1)))->R (none,m,neq) st'):wpS (model prog w) A E s (forIn [a:nrem] (none,a,0) f) R st:=by
 show Bq_ (I:=λx c st'=>∃neq,c=(none,x,neq)/\Sb κ lo st0 st'/\Dsc rk (arrOf st') lo x/\neq+1<=x/\(∀k,lo+x-(neq+1)<=k->k<lo+x->rk (ga (arrOf st') k)=rk (ga (arrOf st') (lo+x-1)))) ?_ ?_ ⟨0,rfl,hB,hs,ha,λk h1 h2=>by rw[show k=lo+a-1 by lia]⟩
 .rintro x c st' hax hxn ⟨neq,rfl,hB',hs',hq,he⟩;have hsz:lo+x<=(arrOf st').size:=by rw[hB'.size];lia
  have step1:∀xs:Array Keyed,(∀k,rk (ga xs k)=rk (ga (arrOf st') k))->rk (ga (arrOf st') (lo+x))<=rk (ga (arrOf st') (lo+x-1))->Dsc rk xs lo (x+1):=by
   intro xs hk hl i j ij hj;rw[hk,hk];by_cases e:j<x
   .show hs' i j ij e
   .have:j=x:=o_
    subst this;by_cases e:i=j
    .subst e;show Cg_ _
    .have:=hs' i (j-1) o_ o_;rw[show lo+(j-1)=lo+j-1 by lia]at this;lia
  show hf x x neq st' _ hB' o_ hxn hq (λh1 h2=>?_) (λh1 h2=>?_) (λh1=>?_) λh1=>?_
  .show⟨0,rfl,hB'.mir o_ hsz,step1 _ (kn_ hsz he) (Bt_ h1),o_,λk k1 k2=>by rw[show k=lo+(x+1)-1 by lia]⟩
  .show⟨0,rfl,hB',step1 _ (λ_=>rfl) (Bt_ h1),o_,λk k1 k2=>by rw[show k=lo+(x+1)-1 by lia]⟩
  .show q x neq st' hB' hax o_ hs' hq he
  .show⟨neq+1,rfl,hB',step1 _ (λ_=>rfl) o_,o_,λk k1 k2=>?_⟩;rw[show lo+(x+1)-1=lo+x by lia,<-h1];by_cases e:k=lo+x
   .rw[e,h1]
   .show he k o_ o_
 .rintro c st' ⟨neq,rfl,hB',hs',hq,he⟩;rw[show max a nrem=nrem by lia]at*;show q nrem neq st' hB' han (Af_ _) hs' hq he
set_option hygiene false in
local macro_rules | `(tactic|walk_at "cr_asc")=>`(tactic|(
 show An_ (ask o_ o_ ?_)
 dsimp only
 show aU_ (λe=>Ax_ (p1 (AN_ e))) λe=>Ax_ (p2 (λx=>e (AL_ x)))))
set_option hygiene false in
local macro_rules | `(tactic|walk_at "cr_t3")=>`(tactic|(
 show An_ (js_ ?_);have hB5:=hB4.mir (i:=lo) (j:=lo+m) (Af_ _) (by rw[hB4.size];lia);have hs5:=qB_ (rk:=rk) (by rw[hB4.size];lia) hs4;have ask:=λ{i j:Nat}{Q:Option Bool->SortSt->Prop}=>fH_ (E:=E) (i:=i) (j:=j) (Q:=Q) h ho hB5;show An_ (nP_ (rk:=rk) (lo:=lo) o_ o_ (λx n P n1 n2 p1 p2=>?_) hs5 λn n1 n2 n3 n4=>Ax_ (q n _ hB5 o_ n2 n3));walk_at "cr_asc"))
set_option hygiene false in
local macro_rules | `(tactic|walk_at "cr_desc")=>`(tactic|(
 show An_ (eM_ ?_);show An_ (o0_ (rk:=rk) (lo:=lo) o_ o_ hn (λx m neq st P hB m1 m2 m3 p1 p2 p3 p4=>?_) hB3 hs3 λm neq st4 hB4 m1 m2 hs4 m3 he4=>?_)
 .have ask:=λ{i j:Nat}{Q:Option Bool->SortSt->Prop}=>fH_ (E:=E) (i:=i) (j:=j) (Q:=Q) h ho hB
  dsimp only
  show An_ (ask o_ o_ ?_)
  dsimp only
  show aU_ (λe=>aU_ (λe2=>An_ (js_ (Ax_ (p1 (AN_ e) e2)))) λe2=>Ax_ (p2 (AN_ e) e2)) λe=>?_;have e:=λx=>e (AL_ x);show An_ (ask o_ o_ ?_)
  dsimp only
  show aU_ (λe2=>Ax_ (p3 (AN_ e2))) λe2=>Ax_ (p4 (Int.le_antisymm (Int.not_lt.mp e) (Int.not_lt.mp λx=>e2 (AL_ x))))
 .dsimp only
  show aU_ (λe=>?_) λe=>?_
  .show An_ (js_ ?_);have hz4:lo+m<=(arrOf st4).size:=by rw[hB4.size];lia
   have hs4:Dsc rk (arrOf (setArr st4 (mirror (arrOf st4) (lo+m-(neq+1)) (lo+m) ((lo+m-(lo+m-(neq+1)))/2)))) lo m:=λi j ij jm=>by rw[kn_ hz4 he4,kn_ hz4 he4];show hs4 i j ij jm
   have hB4:=hB4.mir (i:=lo+m-(neq+1)) (j:=lo+m) o_ hz4;walk_at "cr_t3"
  .walk_at "cr_t3"))
theorem rB_{nrem:Nat}{Q:Option Nat->SortSt->Prop}(h:Jd_ prog w A s κ rk ok)(ho:∀x∈(arrOf st0).toList,ok x)(hB:Sb κ lo st0 st)(hn:lo+nrem<=(arrOf st0).size)(h1:1<=nrem)
  (q:∀m st',Sb κ lo st0 st'->1<=m->m<=nrem->Asc rk (arrOf st') lo m->Q (some m) st'):wpS (model prog w) A E s (Io_ lo nrem) Q st:=by
 have ask:=λ{i j:Nat}{Q:Option Bool->SortSt->Prop}=>fH_ (E:=E) (i:=i) (j:=j) (Q:=Q) h ho hB;unfold Io_;walk_at "laycountRunB"
 dsimp only
 show An_ (nP_ (rk:=rk) (lo:=lo) (Af_ 1) h1 (λx n P n1 n2 p1 p2=>?_) (λi j ij hj=>by rw[show i=j by lia];show Cg_ _) λn n1 n2 hsn hor=>?_)
 .walk_at "cr_asc"
 dsimp only
 show aN_ (λe=>Ax_ (q n _ hB n1 n2 hsn)) λe=>?_;have hlt:=hor.resolve_left e;show aU_ (λe2=>?_) λe2=>?_
 .show An_ (ask o_ o_ ?_)
  dsimp only
  show aU_ (λe3=>Ax_ (q n _ hB n1 n2 hsn)) λe3=>?_;have e3:¬ rk (ga (arrOf st) lo)<rk (ga (arrOf st) (lo+n-1)):=λx=>e3 (AL_ x);have hz:lo+n<=(arrOf st).size:=by rw[hB.size];lia
  have hall:∀k,lo<=k->k<lo+n->rk (ga (arrOf st) k)=rk (ga (arrOf st) (lo+n-1)):=λk k1 k2=>by have a1:=hsn 0 (k-lo) o_ o_;have a2:=hsn (k-lo) (n-1) o_ o_;rw[show lo+(k-lo)=k by lia]at a1 a2;rw[show lo+(n-1)=lo+n-1 by lia]at a2;rw[DV_]at a1;lia
  show An_ (js_ ?_);have hB3:=hB.mir (i:=lo) (j:=lo+n) (Af_ _) hz
  have hs3:Dsc rk (arrOf (setArr st (mirror (arrOf st) lo (lo+n) ((lo+n-lo)/2)))) lo (n+1):=λi j ij jm=>by
   rw[kn_ hz hall,kn_ hz hall];by_cases j1:j<n
   .rw[hall (lo+j) o_ o_,hall (lo+i) o_ o_];show Cg_ _
   .have:j=n:=o_
    subst this;by_cases e:i=j
    .subst e;show Cg_ _
    .rw[hall (lo+i) o_ o_];show Bt_ hlt
  walk_at "cr_desc"
 .have hB3:=hB
  have hs3:Dsc rk (arrOf st) lo (n+1):=λi j ij jm=>by
   by_cases e:i=j
   .subst e;show Cg_ _
   .have i0:i=0:=o_
    have j1:j=1:=o_
    subst i0 j1;have n1:n=1:=o_
    subst n1;have:=hlt;rw[show lo+1-1=lo by lia]at this;show Bt_ this
  walk_at "cr_desc"
theorem rC_{xs:Array Keyed}{k l:Nat}(hz:lo+k<xs.size)(hl:l<=k)(hs:Asc rk xs lo k)(bl:∀i,i<l->rk (ga xs (lo+i))<=rk (ga xs (lo+k)))(br:∀i,l<=i->i<k->rk (ga xs (lo+k))<rk (ga xs (lo+i))):
  Asc rk (bubble xs (lo+k) (lo+k-(lo+l))) lo (k+1):=by
 have v:∀i,i<=k->ga (bubble xs (lo+k) (lo+k-(lo+l))) (lo+i)=if i=l then ga xs (lo+k)else if l<i then ga xs (lo+(i-1))else ga xs (lo+i):=λi ik=>by
  rw[nO_ hz o_];by_cases c:i=l
  .rw[if_pos o_,if_pos c]
  .rw[if_neg o_,if_neg c];by_cases d:l<i
   .rw[if_pos o_,if_pos d,show lo+i-1=lo+(i-1) by lia]
   .rw[if_neg o_,if_neg d]
 intro i j ij jk;rw[v i o_,v j o_]
 rcases Eo_ j l with c|c|c
 .rw[if_neg o_,if_neg o_,if_neg o_,if_neg o_];show hs i j ij o_
 .rw[if_pos c];by_cases d:i=l
  .rw[if_pos d];show Cg_ _
  .rw[if_neg d,if_neg o_];show bl i o_
 .rw[if_neg (show ¬ j=l by lia),if_pos c]
  rcases Eo_ i l with d|d|d
  .rw[if_neg o_,if_neg o_];show hs i (j-1) o_ o_
  .rw[if_pos d];show Bt_ (br _ o_ o_)
  .rw[if_neg o_,if_pos d];show hs _ _ o_ o_
theorem rD_{n ok0:Nat}{Q:Bool->SortSt->Prop}(h:Jd_ prog w A s κ rk ok)(ho:∀x∈(arrOf st0).toList,ok x)(hB:Sb κ lo st0 st)(hn:lo+n<=(arrOf st0).size)(hok:ok0<=n)(hs:Asc rk (arrOf st) lo ok0)
  (q:∀st',Sb κ lo st0 st'->Asc rk (arrOf st') lo n->Q true st'):wpS (model prog w) A E s (HL_ lo n ok0) Q st:=by
 unfold HL_;walk_at "laybinarySortB"
 dsimp only
 show An_ (Cb_ (Bq_ (I:=λk c st'=>c=(none,())/\Sb κ lo st0 st'/\Asc rk (arrOf st') lo (min k n)) (Q:=λc st'=>c=(none,())/\Sb κ lo st0 st'/\Asc rk (arrOf st') lo n) ?_ ?_ ⟨rfl,hB,?_⟩) ?_)
 .rintro k c st1 k0 kn ⟨rfl,hB1,hs1⟩;rw[Ck_ (A6_ kn)]at hs1;show An_ (l7_ (B:=λi=>!decide (rk (ga (arrOf st1) (lo+k))<rk (ga (arrOf st1) (lo+i)))) (λx l r P g1 g2 p1 p2=>?_) (λi j ij jk e=>?_) (Av_ k) (Af_ k) (λi hi=>absurd hi (DN_ i)) (λi i1 i2=>o_) λl lk bl br=>?_)
  .dsimp only
   show aU_ (λe=>Ax_ (p1 e)) λe=>?_;have p2:=p2 o_;rw[show l+(r-l)/2=(l+r)/2 by lia]at p2;show An_ (fH_ h ho hB1 o_ o_ ?_)
   dsimp only
   show aU_ (λe2=>?_) λe2=>?_
   .rw[e2,if_neg d_]at p2;show Ax_ p2
   .rw[Bool.eq_false_iff.mpr e2,if_pos d_]at p2;show Ax_ p2
  .have:=hs1 i j ij jk;simp only[B6_,By_]at e⊢;lia
  .have hz:lo+k<(arrOf st1).size:=by rw[hB1.size];lia
   change wpS _ _ _ _ (moveDown' (lo+k) (lo+l) >>= λ_=>pure (ForInStep.yield (none,()))) _ _;rw[moveDown'_eq];show An_ (C5_ (Ax_ ⟨rfl,hB1.set (FW_ _ _ _) (λi hi=>by rw[EQ_ hz _ o_,if_neg o_,if_neg o_]),?_⟩));rw[Ck_ (show k+1<=n by lia)];show rC_ hz lk hs1 (λi hi=>?_) λi i1 i2=>?_
   .have:=bl i hi;simp only[B6_,By_]at this;lia
   .have:=br i i1 i2;simp only[Bool.not_eq_false',Bl_]at this;show this
 .rintro c st1 ⟨e,hB1,hs1⟩;rw[EG_ (show n<=max (max ok0 1) n by lia)]at hs1;show⟨e,hB1,hs1⟩
 .intro i j ij jm;by_cases c:ok0=0
  .rw[show i=j by lia];show Cg_ _
  .show hs i j ij o_
 .rintro c st1 ⟨rfl,hB1,hs1⟩;show Ax_ (q st1 hB1 hs1)
end
local macro_rules | `(tactic|walk_at "laymergeAtB")=>`(tactic|delta $(Lean.mkIdent (Lean.mkPrivateNameCore `PySem.Builtin.List.W1All `PySem.Builtin.mergeAt)):ident)
def IW_:Nat->StateT SortSt Sem Bool:=sortPriv% PySem.Builtin.mergeAt
def gl(l:List Keyed)(i:Nat):Keyed:=l.getD i (Value.none,Value.none)
variable{l:List Keyed}
theorem HU_(h:i<l.length):gl l i=l[i]:=by simp[gl,h]
theorem Jh_{v:Keyed}(h:v∈l):∃i,i<l.length/\v=gl l i:=by obtain⟨i,hi,rfl⟩:=Az_.mp h;show⟨i,hi,(HU_ hi).symm⟩
theorem J9_(a:Array Keyed)(i:Nat):ga a i=gl a.toList i:=by unfold ga gl;rw[A7_,Ac_,BZ_]
theorem pW_{P x T:List Keyed}(h:i<x.length):gl (P++x++T) (P.length+i)=gl x i:=by unfold gl;rw[Ac_,Ac_,AG_,AI_ o_,show P.length+i-P.length=i by lia,AH_ h]
theorem Jj_{rk:Keyed->Int}(h:Up rk l){j:Nat}(ij:i<=j)(hj:j<l.length):rk (gl l i)<=rk (gl l j):=by
 by_cases e:i=j
 .rw[e];show Cg_ _
 .rw[HU_ hj,HU_ o_];show B1_.mp h i j o_ hj o_
def Pd:Nat->List (List Keyed)->List (Nat×Nat×Nat)->Prop
 |_,[],[]=>True
 |lo,r::rs,p::ps=>p.1=lo/\p.2.1=r.length/\Pd (lo+r.length) rs ps
 |_,_,_=>False
theorem Pd.length:∀{lo:Nat}{rs:List (List Keyed)}{ps:List (Nat×Nat×Nat)},Pd lo rs ps->ps.length=rs.length
 |_,[],[],_=>rfl
 |_,_::_,_::_,h=>by rw[A0_,A0_,Pd.length h.2.2]
 |_,[],_::_,h=>h.elim
 |_,_::_,[],h=>h.elim
theorem Pd.at:∀(i lo:Nat)(rs:List (List Keyed))(ps:List (Nat×Nat×Nat)),Pd lo rs ps->i+1<rs.length->∃R x y R2 pw pw2,rs=R++x::y::R2/\R.length=i/\ps[i]?=some (lo+R.flatten.length,x.length,pw)/\ps[i+1]?=some (lo+R.flatten.length+x.length,y.length,pw2) /\
  ∀z:List Keyed,z.length=x.length+y.length->Pd lo (R++z::R2) ((ps.set i (lo+R.flatten.length,x.length+y.length,pw)).eraseIdx (i+1))
 |0,lo,rs,ps,h,hi=>by
  match rs,ps,h,hi with
  |x::y::R2,p::q::ps,h,hi =>
   obtain⟨h1,h2,h3,h4,h5⟩:=h;obtain⟨p1,p2,p3⟩:=p;obtain⟨q1,q2,q3⟩:=q;simp only at h1 h2 h3 h4;subst h1 h2 h3 h4;show⟨[],x,y,R2,p3,q3,rfl,rfl,rfl,rfl,λz hz=>⟨rfl,hz.symm,by rw[hz,<-FA_];show h5⟩⟩
  |[],_,_,hi=>simp at hi
  |[_],_,_,hi=>simp at hi
  |_::_::_,[],h,_=>show h.elim
  |_::_::_,[_],h,_=>show h.2.2.elim
 |i+1,lo,rs,ps,h,hi=>by
  match rs,ps,h,hi with
  |r::rs,p::ps,h,hi =>
   obtain⟨h1,h2,h3⟩:=h;obtain⟨R,x,y,R2,pw,pw2,e1,e2,e3,e4,e5⟩:=Pd.at i (lo+r.length) rs ps h3 (by simpa using hi);have el:lo+(r::R).flatten.length=lo+r.length+R.flatten.length:=by rw[A9_,Ak_,FA_]
   show⟨r::R,x,y,R2,pw,pw2,by rw[e1];rfl,by rw[A0_,e2],?_,?_,λz hz=>?_⟩
   .rw[el,CC_];show e3
   .rw[el,CC_];show e4
   .rw[el];show⟨h1,h2,e5 z hz⟩
  |[],_,_,hi=>simp at hi
  |_::_,[],h,_=>show h.elim
theorem Pd.snoc{n pw:Nat}:∀{lo:Nat}{rs:List (List Keyed)}{ps:List (Nat×Nat×Nat)}{r:List Keyed},Pd lo rs ps->n=r.length->Pd lo (rs++[r]) (ps++[(lo+rs.flatten.length,n,pw)])
 |_,[],[],r,_,e=>⟨rfl,e,trivial⟩
 |lo,x::rs,p::ps,r,h,e=>by
  have:=Pd.snoc (pw:=pw) h.2.2 e;show⟨h.1,h.2.1,?_⟩;rw[A9_,Ak_,<-FA_];show this
 |_,[],_::_,_,h,_=>h.elim
 |_,_::_,[],_,h,_=>h.elim
theorem Pd.pow{f:Nat×Nat×Nat->Nat×Nat×Nat}(hf:∀p,(f p).1=p.1/\(f p).2.1=p.2.1):∀{i lo:Nat}{rs:List (List Keyed)}{ps:List (Nat×Nat×Nat)},Pd lo rs ps->Pd lo rs (ps.modify i f)
 |i,_,[],[],_=>by
  cases i <;> show trivial
 |0,_,_::_,_::_,h=>⟨(hf _).1.trans h.1,(hf _).2.trans h.2.1,h.2.2⟩
 |i+1,_,_::_,_::_,h=>⟨h.1,h.2.1,Pd.pow hf h.2.2⟩
 |_,_,[],_::_,h=>h.elim
 |_,_,_::_,[],h=>h.elim
structure Pn(κ:SortKind)(rk:Keyed->Int)(a0:Array Keyed)(st:SortSt)(rs:List (List Keyed))(rest:List Keyed):Prop where
 kind:kindOf st=κ
 failed:failedOf st=none
 perm:(arrOf st).toList.Perm a0.toList
 eq:(arrOf st).toList=rs.flatten++rest
 up:∀r∈rs,Up rk r
 ne:∀r∈rs,0<r.length
 pend:Pd 0 rs (pendingOf st).toList
theorem rE_{rk:Keyed->Int}{x y m:List Keyed}{k n:Nat}(ux:Up rk x)(uy:Up rk y)(um:Up rk m)(pm:m.Perm (x.drop k++y.take n))(h1:∀u∈x.take k,∀v∈y,rk u<=rk v)(h2:∀v∈y.drop n,∀u∈x,rk u<=rk v):Up rk (x.take k++m++y.drop n):=by
 have ux':Up rk (x.take k++x.drop k):=by rw[A1_];show ux
 have uy':Up rk (y.take n++y.drop n):=by rw[A1_];show uy
 obtain⟨x1,x2,x3⟩:=Bm_.mp ux';obtain⟨y1,y2,y3⟩:=Bm_.mp uy';show Bm_.mpr ⟨Bm_.mpr ⟨x1,um,λu hu v hv=>?_⟩,y2,λu hu v hv=>?_⟩
 .rcases At_.mp (pm.mem_iff.mp hv)with hv|hv
  .show x3 u hu v hv
  .show h1 u hu v (B4_ hv)
 .rcases At_.mp hu with hu|hu
  .show h2 v hv u (B4_ hu)
  .rcases At_.mp (pm.mem_iff.mp hu)with hu|hu
   .show h2 v hv u (DU_ hu)
   .show y3 u hu v hv
theorem o1_{x y m:List Keyed}{k n:Nat}(pm:m.Perm (x.drop k++y.take n)):(x.take k++m++y.drop n).Perm (x++y):=by have:=((pm.append_left (x.take k)).append_right (y.drop n));show this.trans (.of_eq ?_);rw[AG_,AG_,A1_,<-AG_,A1_]
theorem ko_(sa:Nat):∀(l:List Keyed)(o:Nat)(a:Array Keyed),sa+o+l.length<=a.size->((l.zipIdx o).foldl (λa x=>a.setIfInBounds (sa+x.2) x.1) a).toList=a.toList.take (sa+o)++l++a.toList.drop (sa+o+l.length)
 |[],o,a,_=>s_
 |p::l,o,a,h=>by
  rw[A0_]at h;rw[List.zipIdx_cons,List.foldl_cons,ko_ sa l (o+1) _ (by rw[Array.size_setIfInBounds];lia)];rw[Eh_];have h1:sa+o<a.toList.length:=by rw[AZ_];lia
  rw[show sa+(o+1)=sa+o+1 by lia,List.take_set,List.drop_set_of_lt o_,DB_ h1,Fi_ _ _ (by rw[Aw_];lia),Aw_,Ck_ o_,DQ_,A0_,show sa+o+1+l.length=sa+o+(l.length+1) by lia];simp
section
variable {prog:Program}{w:World}{A:Around}{E:Value->Shared->Prop}{κ:SortKind}{rk:Keyed->Int}{ok:Keyed->Prop}{a0:Array Keyed}
theorem qC_{st st':SortSt}{Q:PUnit->SortSt->Prop}(h:Q ⟨⟩ st'):wpS (model prog w) A E s (set st':StateT SortSt Sem PUnit) Q st:=by unfold wpS;change wpAny _ _ ((set st':StateT SortSt Sem PUnit).run st) _ _ _;rw[StateT.run_set];show AA_ ⟨rfl,h⟩
theorem hE_{st:SortSt}{i:Nat}{rs:List (List Keyed)}{rest:List Keyed}{Q:Bool->SortSt->Prop}(h:Jd_ prog w A s κ rk ok)(ho:∀x∈a0.toList,ok x)(hP:Pn κ rk a0 st rs rest)(hi:i+1<rs.length)
  (q:∀st' rs',Pn κ rk a0 st' rs' rest->rs'.length+1=rs.length->rs'.flatten.length=rs.flatten.length->Q true st'):wpS (model prog w) A E s (IW_ i) Q st:=by
 obtain⟨R,x,y,R2,pw,pw2,e1,e2,e3,e4,e5⟩:=Pd.at i 0 rs _ hP.pend hi;rw[DR_]at e3 e4 e5;subst e1;have ux:=hP.up x s_;have uy:=hP.up y s_;have nx:=hP.ne x s_;have ny:=hP.ne y s_;have ea1:(arrOf st).toList=R.flatten++x++(y++(R2.flatten++rest)):=by rw[hP.eq];simp
 have ea2:(arrOf st).toList=(R.flatten++x)++y++(R2.flatten++rest):=by rw[hP.eq];simp
 generalize hT:R2.flatten++rest=T at ea1 ea2;generalize hP0:R.flatten=P at ea1 ea2 e3 e4 e5;have sz:(arrOf st).size=P.length+x.length+y.length+T.length:=by rw[<-AZ_,ea2];simp;lia
 have gx:∀{i},i<x.length->ga (arrOf st) (P.length+i)=gl x i:=λhi=>by rw[J9_,ea1];show pW_ hi
 have gy:∀{i},i<y.length->ga (arrOf st) (P.length+x.length+i)=gl y i:=λhi=>by rw[J9_,ea2,<-Ak_];show pW_ hi
 have oo:∀{i},i<(arrOf st).size->ok (ga (arrOf st) i):=λhi=>ho _ (hP.perm.mem_iff.mp (hC_ hi))
 have fin:∀(z:List Keyed)(st':SortSt),kindOf st'=κ->failedOf st'=none->(arrOf st').toList=P++z++T->(pendingOf st').toList=((pendingOf st).toList.set i (P.length,x.length+y.length,pw)).eraseIdx (i+1)->z.Perm (x++y)->Up rk z->Q true st':=λz st' c1 c2 c3 c4 c5 c6=>by
  have zl:z.length=x.length+y.length:=by rw[c5.length_eq,Ak_]
  show q st' (R++z::R2) ⟨c1,c2,?_,?_,λr hr=>?_,λr hr=>?_,by rw[c4];show e5 z zl⟩ ?_ ?_
  .show List.Perm.trans ?_ hP.perm;rw[c3,ea2];show List.Perm.append_right _ ?_;rw[AG_];show c5.append_left _
  .rw[c3,<-hP0,<-hT];simp
  .rcases At_.mp hr with hr|hr
   .show hP.up r (Ba_ _ hr)
   .rcases Aq_.mp hr with rfl|hr
    .show c6
    .show hP.up r (AQ_ _ (Aj_ _ (Aj_ _ hr)))
  .rcases At_.mp hr with hr|hr
   .show hP.ne r (Ba_ _ hr)
   .rcases Aq_.mp hr with rfl|hr
    .lia
    .show hP.ne r (AQ_ _ (Aj_ _ (Aj_ _ hr)))
  .simp;lia
  .simp[zl];lia
 unfold IW_;walk_at "laymergeAtB"
 dsimp only
 show An_ (wpS_get ?_);have p1:(pendingOf st)[i]?=some (P.length,x.length,pw):=by rw[<-BZ_];show e3
 have p2:(pendingOf st)[i+1]?=some (P.length+x.length,y.length,pw2):=by rw[<-BZ_];show e4
 rw[p1,p2]
 dsimp only
 show An_ (qC_ ?_);have pe:(((pendingOf st).setIfInBounds i (P.length,x.length+y.length,pw)).eraseIdxIfInBounds (i+1)).toList=((pendingOf st).toList.set i (P.length,x.length+y.length,pw)).eraseIdx (i+1):=by rw[Array.toList_eraseIdxIfInBounds,Eh_]
 have gy0:ga (arrOf st) (P.length+x.length)=gl y 0:=gy ny;show An_ (aH_ (arr:=arrOf st) o_ ?_);show An_ (jp_ (arr:=arrOf st) (key:=ga (arrOf st) (P.length+x.length)) h hP.kind (oo o_) nx o_ (λi hi=>oo o_) (λi j ij jn=>by rw[gx o_,gx jn];show Jj_ ux ij jn) λk k1 k2 k3=>?_);rw[gy0]at k2 k3
 dsimp only
 show aN_ (λe=>?_) λe=>?_
 .show Ax_ (fin (x++y) _ hP.kind hP.failed (by rw[<-AG_];show ea2) pe (.refl _) (Bm_.mpr ⟨ux,uy,λu hu v hv=>?_⟩));obtain⟨i,hi,rfl⟩:=Jh_ hu;obtain⟨j,hj,rfl⟩:=Jh_ hv;have:=k2 i o_;rw[gx hi]at this;show Dm_ this (Jj_ uy (Av_ _) hj)
 have gxl:ga (arrOf st) (P.length+k+(x.length-k)-1)=gl x (x.length-1):=by rw[show P.length+k+(x.length-k)-1=P.length+(x.length-1) by lia];show gx o_
 show An_ (aH_ (arr:=arrOf st) o_ ?_);show An_ (jq_ (arr:=arrOf st) (key:=ga (arrOf st) (P.length+k+(x.length-k)-1)) h hP.kind (oo o_) o_ o_ (λi hi=>oo o_) (λi j ij jn=>by rw[gy o_,gy jn];show Jj_ uy ij jn) λn n1 n2 n3=>?_);rw[gxl]at n2 n3
 dsimp only
 show aN_ (λe9=>?_) λe9=>?_
 .show Ax_ (fin (x++y) _ hP.kind hP.failed (by rw[<-AG_];show ea2) pe (.refl _) (Bm_.mpr ⟨ux,uy,λu hu v hv=>?_⟩));obtain⟨i,hi,rfl⟩:=Jh_ hu;obtain⟨j,hj,rfl⟩:=Jh_ hv;have:=n3 j o_ hj;rw[gy hj]at this;show Dm_ (Jj_ ux o_ o_) this
 have h1:∀u∈x.take k,∀v∈y,rk u<=rk v:=λu hu v hv=>by obtain⟨i,hi,rfl⟩:=Az_.mp hu;obtain⟨j,hj,rfl⟩:=Jh_ hv;rw[Aw_]at hi;have:=k2 i o_;rw[gx o_,HU_ o_]at this;rw[CU_];show Dm_ this (Jj_ uy (Av_ _) hj)
 have h2:∀v∈y.drop n,∀u∈x,rk u<=rk v:=λv hv u hu=>by obtain⟨j,hj,rfl⟩:=Az_.mp hv;obtain⟨i,hi,rfl⟩:=Jh_ hu;rw[Bs_]at hj;have:=n3 (n+j) o_ o_;rw[gy o_,HU_ (i:=n+j) o_]at this;rw[List.getElem_drop];show Dm_ (Jj_ ux o_ o_) this
 have x1:((arrOf st).extract (P.length+k) (P.length+x.length)).toList=x.drop k:=by rw[BI_,Br_,ea1,AG_,List.drop_append,CP_ o_,DW_,show P.length+k-P.length=k by lia,List.drop_append,CQ_ (by rw[Bs_];lia)];show AV_ (by rw[Bs_];lia)
 have y1:((arrOf st).extract (P.length+x.length) (P.length+x.length+n)).toList=y.take n:=by rw[BI_,Br_,ea2,AG_,<-Ak_,List.drop_left,show(P++x).length+n-(P++x).length=n by lia,CQ_ n1]
 generalize(arrOf st).extract (P.length+k) (P.length+x.length)=X at x1⊢;generalize(arrOf st).extract (P.length+x.length) (P.length+x.length+n)=Y at y1⊢;have xz:X.size=x.length-k:=by rw[<-AZ_,x1,Bs_]
 have yz:Y.size=n:=by rw[<-AZ_,y1,Aw_];lia
 have gX:∀{i},i<x.length-k->ga X i=gl x (k+i):=λ{i} hi=>by rw[J9_,x1,HU_ (by rw[Bs_];show hi),HU_ o_,List.getElem_drop]
 have gY:∀{i},i<n->ga Y i=gl y i:=λ{i} hi=>by rw[J9_,y1,HU_ (by rw[Aw_];lia),HU_ o_,CU_]
 have okx:∀v∈X.toList,ok v:=λv hv=>ho _ (hP.perm.mem_iff.mp (by rw[ea1];rw[x1]at hv;simp[DU_ hv]));have oky:∀v∈Y.toList,ok v:=λv hv=>ho _ (hP.perm.mem_iff.mp (by rw[ea2];rw[y1]at hv;simp[B4_ hv]));have upx:Up rk X.toList:=by rw[x1];show ux.sublist (List.drop_sublist _ _)
 have upy:Up rk Y.toList:=by rw[y1];show uy.sublist (Em_ _ _)
 have m0:rk (ga Y 0)<=rk (ga X 0):=by rw[gX o_,gY o_,DV_];have:=k3 k (Af_ _) o_;rw[gx o_]at this;show Bt_ this
 have ml:∀v∈Y.toList,rk v<=rk (ga X (X.size-1)):=λv hv=>by rw[y1]at hv;obtain⟨j,hj,rfl⟩:=Az_.mp hv;rw[Aw_]at hj;rw[xz,gX o_,CU_,show k+(x.length-k-1)=x.length-1 by lia];have:=n2 j o_;rw[gy o_,HU_ (i:=j) o_]at this;show Bt_ this
 have go:∀(m:Array Keyed)(st1:SortSt),kindOf st1=κ->failedOf st1=none->arrOf st1=arrOf st->(pendingOf st1).toList=((pendingOf st).toList.set i (P.length,x.length+y.length,pw)).eraseIdx (i+1)->Rs rk (X.toList++Y.toList) m ->
   Q true (setArr st1 (List.foldl (λa x=>a.setIfInBounds (P.length+k+x.snd) x.fst) (arrOf st1) m.toList.zipIdx)):=λm st1 c1 c2 c3 c4 c5=>by
  rw[x1,y1]at c5;have ml:m.toList.length=x.length-k+n:=by rw[c5.1.length_eq,Ak_,Bs_,Aw_];lia
  show fin (x.take k++m.toList++y.drop n) _ c1 c2 ?_ c4 (o1_ c5.1) (rE_ ux uy c5.2 c5.1 h1 h2);change(List.foldl (λa x=>a.setIfInBounds (P.length+k+x.snd) x.fst) (arrOf st1) m.toList.zipIdx).toList=_;rw[c3,ko_ _ _ 0 _ o_,DV_,ml];have t1:(arrOf st).toList.take (P.length+k)=P++x.take k:=by rw[ea1,AG_,List.take_append,AV_ o_,show P.length+k-P.length=k by lia,CQ_ k1]
  have t2:(arrOf st).toList.drop (P.length+k+(x.length-k+n))=y.drop n++T:=by rw[ea2,AG_,show P.length+k+(x.length-k+n)=(P++x).length+n by rw[Ak_];lia,<-List.drop_drop,List.drop_left,List.drop_append_of_le_length n1]
  rw[t1,t2];simp
 show aU_ (λ_=>?_) λ_=>?_
 .show An_ (k8_ h hP.kind okx oky o_ o_ upx upy m0 ml λm st1 sm rs=>?_);show An_ (C5_ ?_);show An_ (wpS_get ?_);have f1:failedOf st1=none:=sm.2.1.trans hP.failed;have:=go m st1 sm.1 f1 sm.2.2.1 (by rw[sm.2.2.2];show pe) rs;show Ax_ ?_;change Q (failedOf st1).isNone _;rw[f1];show this
 .show An_ (k9_ h hP.kind okx oky o_ o_ upx upy m0 ml λm st1 sm rs=>?_);show An_ (C5_ ?_);show An_ (wpS_get ?_);have f1:failedOf st1=none:=sm.2.1.trans hP.failed;have:=go m st1 sm.1 f1 sm.2.2.1 (by rw[sm.2.2.2];show pe) rs;show Ax_ ?_;change Q (failedOf st1).isNone _;rw[f1];show this
end
local macro_rules | `(tactic|walk_at "laysortRunsB")=>`(tactic|delta $(Lean.mkIdent (Lean.mkPrivateNameCore `PySem.Builtin.List.W1All `PySem.Builtin.sortRuns)):ident)
def Iu_:StateT SortSt Sem Unit:=sortPriv% PySem.Builtin.sortRuns
abbrev J6_:Nat->StateT SortSt Sem Bool:=sortPriv% PySem.Builtin.mergeAt
theorem rF_{c:Prop}[Decidable c]{a b n:Nat}(h1:a+1<n)(h2:b+1<n):(if c then a else b)+1<n:=by split <;> assumption
section
variable {prog:Program}{w:World}{A:Around}{E:Value->Shared->Prop}{κ:SortKind}{rk:Keyed->Int}{ok:Keyed->Prop}{a0:Array Keyed}
variable{rs:List (List Keyed)}
theorem Pn.moved{lo:Nat}{st st':SortSt}{rest:List Keyed}(hP:Pn κ rk a0 st rs rest)(hB:Sb κ lo st st')(hl:rs.flatten.length=lo):Pn κ rk a0 st' rs ((arrOf st').toList.drop lo):=by
 show⟨hB.kind,hB.failed.trans hP.failed,(Bd_.mp hB.perm).trans hP.perm,?_,hP.up,hP.ne,by rw[hB.pend];show hP.pend⟩
 have e:(arrOf st').toList.take lo=rs.flatten:=by
  have e1:(arrOf st).toList.take lo=rs.flatten:=by rw[hP.eq,<-hl,List.take_left]
  rw[<-e1];apply Dt_;intro i;rw[Dn_,Dn_];split
  .rename_i hi;rw[BZ_,BZ_,hB.low i hi]
  .rfl
 rw[<-e,A1_]
theorem Pn.push{lo n:Nat}{st st':SortSt}{rs:List (List Keyed)}{rest:List Keyed}(hP:Pn κ rk a0 st rs rest)(hl:rs.flatten.length=lo)(h0:0<n)(hn:n<=rest.length)(hu:Up rk (rest.take n))
  (c1:kindOf st'=kindOf st) (c2:failedOf st'=failedOf st) (c3:arrOf st'=arrOf st) (c4:(pendingOf st').toList=(pendingOf st).toList++[(lo,n,0)]):Pn κ rk a0 st' (rs++[rest.take n]) (rest.drop n):=by
 show⟨c1.trans hP.kind,c2.trans hP.failed,by rw[c3];show hP.perm,by rw[c3,hP.eq];simp,λr hr=>?_,λr hr=>?_,?_⟩
 .rcases At_.mp hr with hr|hr
  .show hP.up r hr
  .rw[Ag_.mp hr];show hu
 .rcases At_.mp hr with hr|hr
  .show hP.ne r hr
  .rw[Ag_.mp hr,Aw_];lia
 .rw[c4];have:=Pd.snoc (n:=n) (pw:=0) (r:=rest.take n) hP.pend (by rw[Aw_];lia)
  rwa[DR_,hl]at this
theorem qD_{rest:List Keyed}{xs:Array Keyed}{lo n:Nat}(hr:rest=xs.toList.drop lo)(hn:lo+n<=xs.size)(hs:Asc rk xs lo n):Up rk (rest.take n):=by show B1_.mpr λi j hi hj ij=>?_;rw[Aw_]at hj;have:=hs i j o_ o_;rw[HW_ o_,HW_ o_]at this;subst hr;simpa using this
theorem ma_:∀{rs:List (List Keyed)},(∀r∈rs,0<r.length)->rs.length<=rs.flatten.length
 |[],_=>Af_ _
 |r::rs,h=>by have:=ma_ (rs:=rs) λx hx=>h x (Aj_ _ hx);have:=h r Al_;rw[A9_,Ak_,A0_];lia
variable{st:SortSt}
theorem Pn.size{rest:List Keyed}(hP:Pn κ rk a0 st rs rest):(arrOf st).size=a0.size:=by rw[<-AZ_,hP.perm.length_eq,AZ_]
theorem Pn.psize{rest:List Keyed}(hP:Pn κ rk a0 st rs rest):(pendingOf st).size=rs.length:=by rw[<-AZ_];show hP.pend.length
theorem Pn.other{st':SortSt}{rest:List Keyed}(hP:Pn κ rk a0 st rs rest)(c1:kindOf st'=kindOf st)(c2:failedOf st'=failedOf st)(c3:arrOf st'=arrOf st)(c4:Pd 0 rs (pendingOf st').toList):Pn κ rk a0 st' rs rest :=
 ⟨c1.trans hP.kind,c2.trans hP.failed,by rw[c3];show hP.perm,by rw[c3];show hP.eq,hP.up,hP.ne,c4⟩
set_option hygiene false in
local macro_rules | `(tactic|walk_at "sr_tail")=>`(tactic|(
 have hP3:=hP.moved hB3 hl;have hz3:=hP3.size;have hr3:((arrOf st3).toList.drop lo).length=a0.size-lo:=by rw[Bs_,AZ_,hz3]
 have hu3:Up rk (((arrOf st3).toList.drop lo).take nw):=qD_ rfl o_ hs3;generalize(arrOf st3).toList.drop lo=rest3 at hP3 hr3 hu3;show An_ (wpS_get ?_);generalize(pendingOf st3).back?=o
 rcases o with _|⟨s1,n1,p0⟩
 .dsimp only
  show An_ (C5_ (Ax_ ?_));show⟨lo+nw,rs++[_],_,rfl,hP3.push (lo:=lo) (n:=nw) hl o_ o_ hu3 rfl rfl rfl (Array.toList_push ..),by rw[BN_,Ak_,hl,E0_,Aw_];lia,o_,o_⟩
 .dsimp only
  show An_ (Cb_ (Bq_ (I:=λx c st'=>c=(none,())/\∃rs,Pn κ rk a0 st' rs rest3/\rs.flatten.length=lo) (Q:=λc st'=>c=(none,())/\∃rs,Pn κ rk a0 st' rs rest3/\rs.flatten.length=lo) ?_ (λ_ _ h=>h) ⟨rfl,rs,hP3,hl⟩) ?_)
  .rintro x c st4 _ hx ⟨rfl,rs4,hP4,hl4⟩;have pz:=hP4.psize;show An_ (wpS_get ?_);by_cases e:(pendingOf st4).size > 1
   .rw[if_pos e];obtain⟨v,hv⟩:∃v,(pendingOf st4)[(pendingOf st4).size-2]?=some v:=⟨_,Et_ o_⟩;rw[hv];obtain⟨u1,u2,older⟩:=v
    dsimp only
    show aU_ (λ_=>Ax_ ⟨rfl,rs4,hP4,hl4⟩) λ_=>?_;show An_ (hE_ (i:=(pendingOf st4).size-2) h ho hP4 o_ λst5 rs5 hP5 z1 z2=>?_);rw[if_neg d_];show Ax_ ⟨rfl,rs5,hP5,z2.trans hl4⟩
   .rw[if_neg e];show Ax_ ⟨rfl,rs4,hP4,hl4⟩
  .rintro c st4 ⟨rfl,rs4,hP4,hl4⟩
   dsimp only
   show An_ (C5_ ?_);show An_ (C5_ (Ax_ ?_));show⟨lo+nw,rs4++[_],_,rfl,Pn.push (lo:=lo) (n:=nw) (hP4.other (st':=setPending st4 ((pendingOf st4).modify ((pendingOf st4).size-1) λx=>(x.1,x.2.1,_))) rfl rfl rfl ?_) hl4 o_ o_ hu3 rfl rfl rfl (Array.toList_push ..),by rw[BN_,Ak_,hl4,E0_,Aw_];lia,o_,o_⟩;change Pd 0 rs4 ((pendingOf st4).modify ((pendingOf st4).size-1) _).toList;rw[Array.toList_modify];show Pd.pow ?_ hP4.pend;show λ_=>⟨rfl,rfl⟩))
theorem la_{st:SortSt}{Q:Unit->SortSt->Prop}(h:Jd_ prog w A s κ rk ok)(ho:∀x∈a0.toList,ok x)(hk:kindOf st=κ)(hf:failedOf st=none)(ha:arrOf st=a0)(hp:pendingOf st = #[])
  (q:∀st',(arrOf st').Perm a0->failedOf st'=none->Up rk (arrOf st').toList->Q () st'):wpS (model prog w) A E s Iu_ Q st:=by
 have P0:Pn κ rk a0 st [] a0.toList:=⟨hk,hf,by rw[ha],by rw[ha];rfl,λr hr=>(Bk_ hr).elim,λr hr=>(Bk_ hr).elim,by rw[hp];show trivial⟩;have oks:∀{st:SortSt}{rs rest},Pn κ rk a0 st rs rest->∀x∈(arrOf st).toList,ok x:=λhP x hx=>ho x (hP.perm.mem_iff.mp hx);unfold Iu_;walk_at "laysortRunsB"
 dsimp only
 show An_ (wpS_get ?_);rw[show(arrOf st).size=a0.size by rw[ha]];show An_ (Cb_ (Bq_ (I:=λx c st'=>∃lo rs rest,c=(none,lo)/\Pn κ rk a0 st' rs rest/\rs.flatten.length=lo/\x<=lo/\lo<=a0.size) (Q:=λc st'=>∃rs,c=(none,a0.size)/\Pn κ rk a0 st' rs []/\rs.flatten.length=a0.size) ?_ ?_ ⟨0,[],_,rfl,P0,rfl,Af_ _,Av_ _⟩) ?_)
 .rintro x c st1 _ hx ⟨lo,rs,rest,rfl,hP,hl,xl,ls⟩;have tot:lo+rest.length=a0.size:=by have:=congrArg List.length hP.eq;rw[Ak_,hl,AZ_,hP.size]at this;lia
  dsimp only
  show aU_ (λe=>?_) λe=>?_
  .have:lo=a0.size:=o_
   subst this;have:rest=[]:=AB_ o_;subst this;show Ax_ ⟨rs,rfl,hP,hl⟩
  have sz1:=hP.size;show An_ (rB_ (lo:=lo) (nrem:=a0.size-lo) h (oks hP) (.refl hP.kind) o_ o_ λn st2 hB2 n1 n2 hs2=>?_)
  dsimp only
  show aU_ (λe2=>?_) λe2=>?_
  .show An_ (eM_ ?_);generalize(sortPriv% PySem.Builtin.minRun) a0.size a0.size 0=mr at e2⊢;have f1:n<=min (a0.size-lo) mr:=by have:n<mr:=e2;lia
   generalize hforce:min (a0.size-lo) mr=force at f1⊢;show An_ (rD_ (lo:=lo) (n:=force) h (oks hP) hB2 o_ f1 hs2 λst3 hB3 hs3=>?_);rw[if_neg d_];obtain⟨nw,rfl⟩:∃k,k=force:=⟨force,rfl⟩;walk_at "sr_tail"
  .have hB3:=hB2;have hs3:=hs2;generalize st2=st3 at hB3 hs3⊢;obtain⟨nw,rfl⟩:∃k,k=n:=⟨n,rfl⟩;walk_at "sr_tail"
 .rintro c st1 ⟨lo,rs,rest,rfl,hP,hl,xl,ls⟩;have:lo=a0.size:=o_
  subst this;have tot:a0.size+rest.length=a0.size:=by have:=congrArg List.length hP.eq;rw[Ak_,hl,AZ_,hP.size]at this;lia
  have:rest=[]:=AB_ o_;subst this;show⟨rs,rfl,hP,hl⟩
 .rintro c st1 ⟨rs,rfl,hP,hl⟩;have ln:=ma_ hP.ne
  dsimp only
  show An_ (Cb_ (Bq_ (I:=λx c st'=>c=(none,())/\∃rs,Pn κ rk a0 st' rs []/\rs.length+x<=a0.size+1) (Q:=λc st'=>c=(none,())/\∃rs,Pn κ rk a0 st' rs []/\rs.length<=1) ?_ ?_ ⟨rfl,rs,hP,o_⟩) ?_)
  .rintro x c st2 _ hx ⟨rfl,rs,hP,hr⟩;show An_ (wpS_get ?_);have pz:=hP.psize;show aU_ (λe=>?_) λe=>?_
   .show Ax_ ⟨rfl,rs,hP,by have:(pendingOf st2).size<=1:=e;lia⟩
   have e:¬ (pendingOf st2).size<=1:=e;have fin:∀i,i+1<rs.length->∀{R:ForInStep (Option Unit×Unit)->SortSt->Prop},(∀st' rs',Pn κ rk a0 st' rs' []->rs'.length+1=rs.length->R (.yield (none,())) st')->wpS (model prog w) A E s (J6_ i >>= λb=>if(!b)=true then pure (.done (some (),()))else pure (.yield (none,()))) R st2:=λi hi R hR=>by show An_ (hE_ h ho hP hi λst5 rs5 hP5 z1 z2=>?_);rw[if_neg d_];show Ax_ (hR st5 rs5 hP5 z1)
   show fin _ ?_ λst' rs' hP' hz'=>⟨rfl,rs',hP',o_⟩;have:(pendingOf st2).size-2+1<rs.length:=o_
   show rF_ ?_ this;change(pendingOf st2).size-2-1+1<rs.length;lia
  .rintro c st2 ⟨rfl,rs,hP,hr⟩;show⟨rfl,rs,hP,o_⟩
  .rintro c st2 ⟨rfl,rs,hP,hr⟩
   dsimp only
   show Ax_ (q st2 (Bd_.mpr hP.perm) hP.failed ?_);rw[hP.eq,AR_]
   match rs,hr,hP.up with
   |[],_,_=>show .nil
   |[r],_,u=>simpa using u r Al_
end
def sLt(a b:Str):Bool:=decide (a.cps.toList<b.cps.toList)
open HT
def G5_:List Str->List Str->Bool
 |[],[]=>false
 |[],_::_=>true
 |_::_,[]=>false
 |x::xs,y::ys=>if x=y then G5_ xs ys else sLt x y
theorem fI_(x y:Str)(xs ys:List Str):G5_ (x::xs) (y::ys)=if x=y then G5_ xs ys else sLt x y:=rfl
theorem kp_:G5_ [] []=false:=rfl
theorem jt_(y:Str)(ys:List Str):G5_ [] (y::ys)=true:=rfl
theorem ju_(x:Str)(xs:List Str):G5_ (x::xs) []=false:=rfl
theorem nQ_(A:Around)(s:Shared)(a:Str)(t:Tok)(c:Str)(u:Tok):∃e,SeqAt.EqAt A s (.str a t) (.str c u) e/\(e=true↔a=c):=⟨(a == c),D7_ a t c u,s_⟩
theorem nR_(A:Around)(s:Shared)(a:Str)(t:Tok)(c:Str)(u:Tok)(prog:Program)(w:World)(E:Value->Shared->Prop)(Q:Value->Shared->Prop)(h:Q (.bool (sLt a c)) s):wpAny (model prog w) A (richCompare .Lt (.str a t) (.str c u)) Q E s :=
 richCompare_gives (op:=.Lt) (Ep_ s _ t) (Ep_ s _ u) PySem.F.slot_str_lt PySem.F.entry_str_lt (PySem.F.args_str_lt_2 _ _) (gives_str_lt _ _ t u) (λx=>nomatch x) h
open PySem.SeqAt
open PySem.AutoSeq1 (wpAny_loadPart')
open PySem.MeetsSeq PySem.MeetsSeq2 PySem.MeetsSeq3
theorem o2_(l b:Addr)(its us:Array Value)(n n2:Nat)(dd dd2:Option Addr)(sl sl2:Array (Option Value))(ns ms:List Str)(hi:StrsAre its.toList ns)(hj:StrsAre us.toList ms)(k:Nat):
  ∀i:Nat,its.size-i=k->i<=its.size->i<=us.size->Meets (Builtin.«list.__eq__.loop» ⟨[.ref l,.ref b,rawInt i,rawInt 0],[]⟩)
   (λ_ R s=>s.heap.get? l=some {cls:=.type "list",dict:=dd,data:=.seq its n,slots:=sl}/\s.heap.get? b=some {cls:=.type "list",dict:=dd2,data:=.seq us n2,slots:=sl2} /\
    R (.ok (.ret (.bool (G5_ (ns.drop i) (ms.drop i))))) s):=by
 have z1:its.size=ns.length:=by rw[<-hi.length];simp
 have z2:us.size=ms.length:=by rw[<-hj.length];simp
 induction k with
 |zero =>
  intro i hk h1 h2 prog w A R s h;obtain⟨hp,g,d,tk,os⟩:=s;obtain⟨hl,hb,h⟩:=h
  wp_walk using BC_ hl,BC_ hb
  have e1:its[((i:Nat):Int).toNat]?=none:=by simp;lia
  have e3:G5_ (ns.drop i) (ms.drop i)=decide (its.size<us.size):=by
   rw[CP_ (show ns.length<=i by lia)];cases e:ms.drop i with
   |nil =>
    have:=Cp_.mp e;rw[kp_];show(AE_ o_).symm
   |cons c cs =>
    have:(ms.drop i).length=cs.length+1:=by rw[e];rfl
    rw[Bs_]at this;rw[jt_];show(AL_ o_).symm
  rw[e3]at h;rw[e1]
  wp_walk using BC_ hl,BC_ hb
  show h
 |succ k ih =>
  intro i hk h1 h2 prog w A R s h;obtain⟨hp,g,d,tk,os⟩:=s;obtain⟨hl,hb,h⟩:=h
  wp_walk using BC_ hl,BC_ hb
  have lt1:i<its.size:=o_
  have e1:its[((i:Nat):Int).toNat]?=some its[i]:=by simp[lt1]
  rw[e1];by_cases lt2:i<us.size
  .have e2:us[((i:Nat):Int).toNat]?=some us[i]:=by simp[lt2]
   have l1:i<ns.length:=o_
   have l2:i<ms.length:=o_
   obtain⟨t,ht⟩:=hi.get i ns[i] (Ab_ l1);obtain⟨u,hu⟩:=hj.get i ms[i] (Ab_ l2);have f1:its[i]=.str ns[i] t:=by rw[Ab_ (by simpa using lt1)]at ht;show Ar_ ht
   have f2:us[i]=.str ms[i] u:=by rw[Ab_ (by simpa using lt2)]at hu;show Ar_ hu
   rw[f1]at e1;rw[f2]at e2;rw[f1,e2];rw[BP_ l1,BP_ l2,fI_]at h;have hc:((i:Int)+1)=((i+1:Nat):Int):=o_
   obtain⟨e,he,hiff⟩:=nQ_ A.in1 ⟨hp,g,d,tk,os⟩ ns[i] t ms[i] u;show Ad_ (he prog w _ _ ?_);cases e with
   |true =>
    rw[if_pos (hiff.mp rfl)]at h
    wp_walk
    rw[hc];have go:=ih (i+1) o_ o_ o_ prog w A R _ ⟨hl,hb,h⟩;show⟨Eg_ plain_eq_loop _,De_ entry_eq_loop (by rw[C3_ plain_eq_loop _];show go)⟩
   |false =>
    rw[if_neg λq=>absurd (hiff.mpr q) AD_]at h;have hri:=nR_ A.in1 ⟨hp,g,d,tk,os⟩ ns[i] t ms[i] u prog w
    wp_walk using BC_ hl,BC_ hb
    rw[e1,e2]
    wp_walk using hri
    show h
  .have e2:us[((i:Nat):Int).toNat]?=none:=by simp;lia
   rw[e2]
   wp_walk using BC_ hl,BC_ hb
   have e4:G5_ (ns.drop i) (ms.drop i)=decide (its.size<us.size):=by rw[CP_ (show ms.length<=i by lia),BP_ (show i<ns.length by lia),ju_];show(AE_ o_).symm
   rw[e4]at h;show h
theorem mb_(l b:Addr)(its us:Array Value)(n n2:Nat)(dd dd2:Option Addr)(sl sl2:Array (Option Value))(ns ms:List Str)(hi:StrsAre its.toList ns)(hj:StrsAre us.toList ms):
  Meets (Builtin.«list.__lt__» ⟨[.ref l,.ref b],[]⟩)
   (λ_ R s=>s.heap.get? l=some {cls:=.type "list",dict:=dd,data:=.seq its n,slots:=sl}/\s.heap.get? b=some {cls:=.type "list",dict:=dd2,data:=.seq us n2,slots:=sl2} /\
    R (.ok (.ret (.bool (G5_ ns ms)))) s):=by
 intro prog w A R s h;obtain⟨hp,g,d,tk,os⟩:=s;obtain⟨hl,hb,h⟩:=h;have f3:=AutoSeq1.sub_list_list
 wp_walk using BC_ hl,BC_ hb
 have go:=o2_ l b its us n n2 dd dd2 sl sl2 ns ms hi hj _ 0 rfl (Av_ _) (Av_ _) prog w A R _ ⟨hl,hb,h⟩;show⟨Eg_ plain_eq_loop _,De_ entry_eq_loop (by rw[C3_ plain_eq_loop _];show go)⟩
variable {prog:Program}{w:World}{A:Around}{E:Value->Shared->Prop}
theorem lb_{l b:Addr}{its us:Array Value}{ns ms:List Str}{Q:Value->Shared->Prop}(hl:s.heap.IsList l its)(hb:s.heap.IsList b us)(hi:StrsAre its.toList ns)(hj:StrsAre us.toList ms)
  (hu:A.units<cLine) (h:Q (.bool (G5_ ns ms)) s):wpAny (model prog w) A (compareOp .Lt (.ref l) (.ref b)) Q E s:=by
 obtain⟨⟨c1,dd,da,sl⟩,ho,hc,n,hd⟩:=id hl;obtain⟨⟨c2,dd2,da2,sl2⟩,ho2,hc2,n2,hd2⟩:=id hb;simp only at hc hd hc2 hd2;subst hc hd hc2 hd2
 show richCompare_meets_room (op:=.Lt) ⟨_,ho,rfl⟩ ⟨_,ho2,rfl⟩ DX_ Fj_ (E1_ _ _) (mb_ l b its us n n2 dd dd2 sl sl2 ns ms hi hj)
  ⟨ho,ho2,show Value.bool (G5_ ns ms)≠Value.notImplemented/\Q (.bool (G5_ ns ms)) s from⟨(λx=>nomatch x),h⟩⟩ hu
theorem kq_{l b:Addr}{its us:Array Value}{ns ms:List Str}{Q:Bool->Shared->Prop}(one:Bool)(hl:s.heap.IsList l its)(hb:s.heap.IsList b us)(hi:StrsAre its.toList ns)(hj:StrsAre us.toList ms)
  (hu:A.units<cLine) (h:Q (G5_ ns ms) s):wpAny (model prog w) A (oneLt' one (.ref l) (.ref b)) Q E s:=by
 cases one with
 |false=>show kat_one _ _ (lb_ hl hb hi hj hu h)
 |true =>rw[oneLt'_eq];simp only[if_true];show Ad_ (wpAny_cRoomFor hu ?_);obtain⟨⟨c1,dd,da,sl⟩,ho,hc,n,hd⟩:=id hl;obtain⟨⟨c2,dd2,da2,sl2⟩,ho2,hc2,n2,hd2⟩:=id hb;simp only at hc hd hc2 hd2;subst hc hd hc2 hd2;show Ad_ (wpAny_callSpecialIfBound?_slot ⟨_,ho,rfl⟩ DX_ (DL_ DX_ ⟨_,ho,rfl⟩ Fj_ (E1_ _ _) (mb_ l b its us n n2 dd dd2 sl sl2 ns ms hi hj) ⟨ho,ho2,?_⟩));show Cm_ h
end L2
namespace RimT
abbrev Sd:=(Nat×Nat)×Bool
def tn(s:Sd):Sd:=(s.1,!s.2)
def Pa(G:Sd->Sd->Prop)(l:List Sd):Prop:=∀(i:Nat)(a b:Sd),l[i]?=some a->l[i+1]?=some b->G a b
section
variable {α:Type}[DecidableEq α]
def beh(T:List (List α))(P:Nat)(e:Nat×Nat):Nat×Nat:=if P<=e.1/\e.2+1=rl T e.1 then(e.1,0)else(e.1,e.2+1)
def Gg(T:List (List α))(P:Nat)(a b:Sd):Prop:=∃e f,JS_ T e f/\((a=(e,true)/\b=(f,false))\/(a=(beh T P e,false)/\b=(beh T P f,true)))
def wr(T:List (List α))(P:Nat)(s:Sd):Option α :=
 if s.2=true then wi T s.1 else if s.1.2=0 then(if P<=s.1.1 then wi T (s.1.1,rl T s.1.1-1)else none)else wi T (s.1.1,s.1.2-1)
def stt(T:List (List α))(pl:Nat):Sd:=if pl%2=0 then((pl/2,rl T (pl/2)),false)else((pl/2,0),true)
end
section
variable {α:Type}[DecidableEq α]{T:List (List α)}{P:Nat}
structure Ln(T:List (List α))(P:Nat)(s:Sd)(l:List Sd):Prop where
 pa:Pa (Gg T P) l
 hd:l[0]?=some s
 ed:∀x,l.getLast?=some x->wr T P x=none
end
section
variable {α:Type}[DecidableEq α]{T:List (List α)}{P:Nat}
structure LnP(T:List (List α))(P p:Nat)(l:List Sd)(j:Nat):Prop where
 ln:Ln T P (stt T p) l
 jl:j<2*P
 ed:∃x,l.getLast?=some x/\tn x=stt T j
def OpL(T:List (List α))(P:Nat):Nat->List (Nat×Nat×List Sd)->Prop
 |0,O=>O=[]
 |i+1,O=>∃O' l j,OpL T P i O'/\LnP T P i l j/\O=if i<j then O'++[(i,j,l)]else O'
theorem OpL.all:∀{i:Nat}{O:List (Nat×Nat×List Sd)},OpL T P i O->∀p,p<i->∃l j,LnP T P p l j/\(p<j->(p,j,l)∈O)
 |0,_,h,p,hp=>absurd hp (DN_ _)
 |i+1,_,⟨A,l,j,h1,h2,h3⟩,p,hp=>by
  by_cases e:p=i
  .subst e;show⟨l,j,h2,λc=>by rw[h3,if_pos c];show At_.mpr (.inr (Ag_.mpr rfl))⟩
  .obtain⟨l',j',z1,z2⟩:=OpL.all h1 p o_;show⟨l',j',z1,λc=>?_⟩;rw[h3];split
   .show At_.mpr (.inl (z2 c))
   .show z2 c
end
def Rt{α:Type}(a b:List α):Prop:=∃x y,a=x++y/\b=y++x
def Rd{α:Type}(a b:List α):Prop:=Rt a b\/Rt a.reverse b
end RimT
namespace L2
open PySem PySem.Spec PyProof.Rows PySem.W
theorem hF_{a b:Str}:sLt a b=false↔sLe b a:=⟨λh=>BB_ h,λh=>AE_ h⟩
theorem lc_:∀{a b:List Str},G5_ a b=true->G5_ b a=false
 |[],[],_=>rfl
 |[],_::_,_=>rfl
 |_::_,[],h=>by cases h
 |x::xs,y::ys,h=>by
  rw[fI_]at h⊢;by_cases e:x=y
  .rw[if_pos e]at h;rw[if_pos e.symm];show lc_ h
  .rw[if_neg e]at h;rw[if_neg λz=>e z.symm];show AE_ (Fz_ (AN_ h))
theorem nS_:∀{a b:List Str},G5_ a b=false->G5_ b a=false->a=b
 |[],[],_,_=>rfl
 |[],_::_,h,_=>by cases h
 |_::_,[],_,h=>by cases h
 |x::xs,y::ys,h,k=>by
  rw[fI_]at h k;by_cases e:x=y
  .rw[if_pos e]at h;rw[if_pos e.symm]at k;rw[e,nS_ h k]
  .rw[if_neg e]at h;rw[if_neg λz=>e z.symm]at k;show absurd ((hF_.mp k).antisymm (hF_.mp h)) e
theorem ld_:∀{a b c:List Str},G5_ b a=false->G5_ c b=false->G5_ c a=false
 |_,_,[],h,k=>by
  rename_i a b;cases b with
  |nil=>show h
  |cons y ys=>cases k
 |[],_,_::_,_,_=>rfl
 |x::xs,[],z::zs,h,_=>by cases h
 |x::xs,y::ys,z::zs,h,k=>by
  rw[fI_]at h k⊢;by_cases e:y=x
  .subst e;rw[if_pos rfl]at h;by_cases e2:z=y
   .rw[if_pos e2]at k⊢;show ld_ h k
   .rw[if_neg e2]at k⊢;show k
  .rw[if_neg e]at h;by_cases e2:z=y
   .subst e2;rw[if_neg e];show h
   .rw[if_neg e2]at k;have t:=(hF_.mp h).trans (hF_.mp k);by_cases e3:z=x
    .subst e3;show absurd ((hF_.mp k).antisymm (hF_.mp h)) λz=>e z
    .rw[if_neg e3];show hF_.mpr t
end L2
namespace RimT
open PySem L2
def Lst(ws u:List Str):Prop:=Rd ws u/\∀v,Rd ws v->G5_ v u=false
noncomputable def lw(ws:List Str):List Str:=@dite _ (∃u,Lst ws u) (Classical.propDecidable _) (λh=>h.choose) λ_=>[]
theorem nT_{a b:List (List Str)}(h:a.Perm b)(ha:a.Pairwise λx y=>G5_ y x=false)(hb:b.Pairwise λx y=>G5_ y x=false):a=b:=List.Perm.eq_of_pairwise (λx y _ _ h1 h2=>nS_ h2 h1) ha hb h
end RimT
namespace L2
open PySem PySem.Spec PyProof.Rows PySem.W
variable {prog:Program}{w:World}{A:Around}{E:Value->Shared->Prop}{s:Shared}
variable {X:Cx}
def Iw_(H:Hp)(ls:List Addr)(tss:List (List Str)):Prop:=∀(i:Nat) l,ls[i]?=some l->H l=some (.lst ((tss.getD i []).map V.str))
theorem eO_:∀{ls:List Addr}{us:List Value},Gn_ (ls.map V.ref) us->us=ls.map Value.ref
 |[],_,.nil=>rfl
 |l::ls,_,.cons h t=>by rw[eO_ t];cases h;rfl
theorem kr_:∀{ts:List Str}{us:List Value},Gn_ (ts.map V.str) us->StrsAre us ts
 |[],_,.nil=>.nil
 |x::ts,_,.cons h t=>by obtain⟨k,rfl⟩:=h;show .cons _ _ (kr_ t)
def JLs(ls:List Addr)(tss:List (List Str))(h:Heap):Prop:=∀(i:Nat) l,ls[i]?=some l->∃its:Array Value,h.IsList l its/\StrsAre its.toList (tss.getD i [])
theorem Inv.lists{pins:List (Addr×Obj)}{σ:St}{H:Hp}{ls:List Addr}{tss:List (List Str)}(I:Inv X pins σ H s)(h:Iw_ H ls tss):JLs ls tss s.heap:=λi l hl=>by obtain⟨its,rv,pl,_⟩:=I.list (.inl (.inl (h i l hl)));show⟨_,pl.isList,kr_ rv⟩
abbrev GZ_(h:Heap)(a:Addr)(vs:List Value):Heap:=((h.update a (Obj.mapSeq λ_=>(#[]:Array Value))).push (seqObj "tuple" vs.toArray 0)).push (seqObj "list" #[] 0)
variable {κ:SortKind}{rk:Value->Int}{vs:List Value}
theorem o3_{a:Addr}{n:Nat}{P:PySem.Fin->Shared->Prop}(at_:s.heap.get? a=some (seqObj "list" vs.toArray n)) (two:2<=vs.length) (most:vs.length<=100000)
  (kind:∀C:SortKind->Shared->Prop,C κ {s with heap:=GZ_ s.heap a vs}->wpAny (model prog w) A (keyKind' vs.toArray) C (λ_ _=>False) {s with heap:=GZ_ s.heap a vs})
  (less:∀x∈vs,∀y∈vs,∀C:Bool->Shared->Prop,C (decide (rk x<rk y)) {s with heap:=GZ_ s.heap a vs}->wpAny (model prog w) A (keyLt' κ x y) C (λ_ _=>False) {s with heap:=GZ_ s.heap a vs})
  (q:∀out:Array Value,out.toList.Perm vs->out.toList.Pairwise (λx y=>rk x<=rk y)->P (.done (.ret .none)) {s with heap:=sortedHeap s.heap a vs out}):wpAny (model prog w) A (Builtin.«list.sort» ⟨[.ref a],[]⟩) P E s:=by
 have line:vs.length<=sizeLine:=by rw[Bv_];lia
 obtain⟨e1,at1⟩:∃e1,(s.heap.update a (Obj.mapSeq λ_=>(#[]:Array Value))).get? a=some (seqObj "list" #[] e1):=⟨_,Dg_ at_ λ_=>#[]⟩;have at3:(GZ_ s.heap a vs).get? a=some (seqObj "list" #[] e1):=Ah_ _ (Ah_ _ at1);have mem:∀p∈(pairsOf vs).toList,p.1=p.2/\p.1∈vs:=λp hp=>by rw[pairsOf_toList]at hp;show mem_zip_self hp
 have asks:Jd_ prog w A {s with heap:=GZ_ s.heap a vs} κ (λp=>rk p.1) (λp=>p∈(pairsOf vs).toList):=λx y hx hy C hC=>less _ (mem x hx).2 _ (mem y hy).2 C hC;rw[list_sort_plain];show Ad_ (FN_ at_ rfl (Ad_ (C7_ at_ rfl (Ad_ (Dx_ at1 rfl (Ad_ (E9_ (Ad_ (C8_ (Bh_ ?_) (Av_ _))) line)))) (by rw[Ao_];show line) (Av_ _))));change wpAny (model prog w) A _ P E {s with heap:=GZ_ s.heap a vs}
 dsimp only
 have two':¬ vs.toArray.size<2:=by rw[Ao_];lia
 rw[if_neg two',if_neg two'];show Ad_ (Bg_ (kind (λk s1=>k=κ/\s1={s with heap:=GZ_ s.heap a vs}) ⟨rfl,rfl⟩) (λk1 s1 h1=>?_) λ_ _ x=>x.elim);obtain⟨ek,rfl⟩:=h1;rw[ek];show Ad_ (Bg_ (la_ (E:=E) (st:=SortSt.mk' κ (pairsOf vs) #[] 7 none) (Q:=λ_ st=>(arrOf st).Perm (pairsOf vs)/\failedOf st=none/\Up (λp=>rk p.1) (arrOf st).toList) asks (λ_ h=>h) rfl rfl rfl rfl λst h1 h2 h3=>⟨h1,h2,h3⟩) ?_ λ_ _ x=>x);rintro⟨⟨⟩,st⟩ s1 ⟨rfl,pm,nf,up⟩;have pl:=Bd_.mp pm;have pz:((arrOf st).map (·.2)).size=vs.length:=by rw[Array.size_map,pm.size_eq,pairsOf_size]
 dsimp only
 show Ad_ (Dx_ at3 rfl (Ad_ (C7_ at3 rfl ?_ (Av_ _) (by rw[pz];lia))));rw[nf];simp only[bne_self_eq_false,BF_,CO_];have fin:=q ((arrOf st).map (·.2)) ?_ ?_
 .show AA_ fin
 .rw[Array.toList_map];have:=pl.map (·.2)
  rwa[pairsOf_toList,List.map_snd_zip (Af_ _)]at this
 .rw[Array.toList_map,B8_];show up.imp_of_mem λ{x y} hx hy h=>?_;rw[<-(mem x (pl.mem_iff.mp hx)).1,<-(mem y (pl.mem_iff.mp hy)).1];show h
theorem nU_{its out:List Value}(h:out.Perm its):∀{ys:List V},Gn_ ys its->∃zs:List V,zs.Perm ys/\Gn_ zs out:=by
 have key:∀{out its:List Value},its.Perm out->∀{ys:List V},Gn_ ys its->∃zs:List V,zs.Perm ys/\Gn_ zs out:=by
  intro out its h
  induction h with
  |nil=>show λr=>⟨_,.refl _,r⟩
  |cons x _ ih =>
   intro ys r;cases r with
   |cons r1 r2 =>
    obtain⟨zs,p,v⟩:=ih r2;show⟨_::zs,p.cons _,.cons r1 v⟩
  |swap x y l =>
   intro ys r;cases r with
   |cons r1 r2 =>
    cases r2 with
    |cons r2 r3=>show⟨_,.swap _ _ _,.cons r2 (.cons r1 r3)⟩
  |trans _ _ ih1 ih2 =>intro ys r;obtain⟨zs,p,v⟩:=ih1 r;obtain⟨us,p2,v2⟩:=ih2 v;show⟨us,p2.trans p,v2⟩
 show λ{ys} r=>key h.symm r
variable {pins:List (Addr×Obj)}{σ:St}{H:Hp}
theorem mK_{Q:VK}{p:Addr}{ys:List V}{rk:Value->Int}{κ:SortKind}(I:Inv X pins σ H s)(hq:SqL X.K H p ys)(two:2<=ys.length)(most:ys.length<=100000)
  (kind:∀(its:List Value)(s':Shared),Gn_ ys its->Inv X pins σ H s'->∀C:SortKind->Shared->Prop,C κ s'->wpAny (model X.prog X.w) X.A.in1.in1 (keyKind' its.toArray) C (λ_ _=>False) s')
  (less:∀(its:List Value)(s':Shared),Gn_ ys its->Inv X pins σ H s'->∀x∈its,∀y∈its,∀C:Bool->Shared->Prop,C (decide (rk x<rk y)) s'->wpAny (model X.prog X.w) X.A.in1.in1 (keyLt' κ x y) C (λ_ _=>False) s')
  (q:∀(l:Addr)(zs:List V)(out:List Value),H l=none->zs.Perm ys->Gn_ zs out->out.Pairwise (λx y=>rk x<=rk y)->Q (.ref l) (upd H l (.lst zs))):
  wpAny (model X.prog X.w) X.A (call (.builtin "sorted") [.ref p]) (EP X pins σ Q) X.xe s:=by
 obtain⟨its,rv,pl,_⟩:=I.list hq;have hl:=rv.length;have line:its.length<=sizeLine:=by rw[Bv_];lia
 obtain⟨m,hn,F0⟩:=I.frm;show Er_ FX_ FO_ FP_ (args_sorted1 _) ?_;unfold Builtin.«sorted»;show Ad_ (m:=checkCount "sorted" 1 1 _) (AA_ (Ad_ (FQ_ pl.isList (Ad_ (C8_ ?_ line)) line)));generalize hh0:(s.heap.push (seqObj "list" #[] 0)).update s.heap.objs.size (Obj.mapSeq (· ++ its.toArray))=h0;have z0:h0.objs.size=s.heap.objs.size+1:=by rw[<-hh0,EC_,size_push']
 have k0:∀b o,s.heap.get? b=some o->h0.get? b=some o:=λb o e=>by have lt:=Ap_ e;rw[<-hh0,FH_ _ _ _ _ (AJ_ lt)];show Ah_ _ e
 change wpAny _ _ _ _ _ {s with heap:=h0.push (seqObj "list" its.toArray 0)}
 dsimp only
 generalize hD:h0.objs.size=D at z0;have k1:∀b o,s.heap.get? b=some o->(h0.push (seqObj "list" its.toArray 0)).get? b=some o:=λb o e=>Ah_ _ (k0 b o e);have atD:(h0.push (seqObj "list" its.toArray 0)).get? D=some (seqObj "list" its.toArray 0):=by rw[<-hD];show AC_ _ rfl
 generalize hh1:h0.push (seqObj "list" its.toArray 0)=h1 at k1 atD;have F1:Fr X.base X.env.locals h1 m:=F0.kept k1;have ne:∀b o,s.heap.get? b=some o->b≠D:=λb o e=>z0▸AJ_ (Bw_ (Ap_ e));have D0:X.base.get? D=none:=DI_ (z0▸Au_ F0.above (Nat.le_succ_of_le (A6_ F0.ns.lt)));have DL:D≠X.env.locals:=z0▸Di_ (Bw_ F0.ns.lt);have N1:News X.base X.env.locals h1 (Gv_ X.base s.heap X.env.locals):=λz hz=>⟨k1 _ _ (bR_ z hz).1,(bR_ z hz).2⟩;have nD:∀z∈Gv_ X.base s.heap X.env.locals,z.1≠D:=λz hz=>ne _ _ (bR_ z hz).1;have sb:=BU_ h1 D (Obj.mapSeq λ_=>(#[]:Array Value));have F3:Fr X.base X.env.locals (GZ_ h1 D its) m:=((kas_fr F1 sb DL D0).push _).push _;have N3:News X.base X.env.locals (GZ_ h1 D its) (Gv_ X.base s.heap X.env.locals):=(kas_news N1 sb nD).grown λb x e=>Ah_ _ (Ah_ _ e);have I3:Inv X pins σ H {s with heap:=GZ_ h1 D its,toks:=s.toks}:=I.led hn F3 N3 (λ_ _ _ n=>n) (λ_ _ w=>w) (λb o w n=>by rw[w]at n;cases n);show Ad_ (Bh_ (Cy_ D3_ ⟨_,atD,rfl⟩ DS_ (o3_ (κ:=κ) (rk:=rk) (s:={s with heap:=h1}) atD o_ o_ (λC hC=>kind its _ rv I3 C hC) (λx hx y hy C hC=>less its _ rv I3 x hx y hy C hC) λout pm up=>⟨_,rfl,?_⟩) (Fa_ _)));obtain⟨zs,zp,zU⟩:=nU_ pm rv;obtain⟨c,at4⟩:=sortedHeap_at (out:=out) atD;have k4:∀b o,b≠D->h1.get? b=some o->(sortedHeap h1 D its out).get? b=some o:=λb o hb e=>(sortedHeap_old hb (Ap_ e)).trans e;have F4:Fr X.base X.env.locals (sortedHeap h1 D its out) m:=by obtain⟨o,es,ep,ho,r1,r2,r3⟩:=F1.ns;show⟨⟨o,es,ep,k4 _ _ DL.symm ho,r1,r2,r3⟩,λb x e=>k4 b x (λy=>by rw[y,D0]at e;cases e) (F1.keep b x e),F1.above⟩
 have N4:News X.base X.env.locals (sortedHeap h1 D its out) ((D,seqObj "list" out c)::Gv_ X.base s.heap X.env.locals):=λz hz=>by
  rcases Aq_.mp hz with rfl|hz
  .show⟨at4,DL,D0⟩
  .show⟨k4 _ _ (nD z hz) (N1 z hz).1,(N1 z hz).2⟩
 have zl:=zp.length_eq;obtain⟨HD,I4⟩:=I.led_new (t':=s.toks) (o:=.lst zs) hn F4 N4 (λz hz=>z0▸Bw_ (Ap_ (bR_ z hz).1)) ⟨by rw[zl,hl];show line,out.toList,c,zU,at4⟩;show AA_ ⟨_,rfl,.ref D,_,I4,rfl,q D zs out.toList HD zp zU up⟩
theorem mc_{α:Type}{p q:α->Bool}:∀{l:List α},(∀u∈l,p u=true->q u=true)->(∃u∈l,p u=false/\q u=true)->l.countP p<l.countP q
 |[],_,h=>by obtain⟨u,hu,_⟩:=h;cases hu
 |x::l,h,g=>by
  have le:=Fk_ (l:=l) λu hu=>h u (Aj_ _ hu);rw[List.countP_cons,List.countP_cons];obtain⟨u,hu,hp,hq⟩:=g
  rcases Aq_.mp hu with rfl|hu
  .rw[hp,hq,if_neg d_,if_pos rfl];lia
  .have:=mc_ (l:=l) (λu hu=>h u (Aj_ _ hu)) ⟨u,hu,hp,hq⟩;have:=h x Al_;cases e:p x with
   |true=>rw[this e];lia
   |false=>rw[if_neg d_];lia
theorem md_{tss:List (List Str)}{x y:List Str}(hx:x∈tss):G5_ x y=decide ((tss.countP λu=>G5_ u x:Nat)<tss.countP λu=>G5_ u y):=by
 cases e:G5_ x y with
 |true =>
  show(AL_ (mc_ (λu _ hu=>?_) ⟨x,hx,?_,e⟩)).symm
  .cases g:G5_ u y with
   |true=>rfl
   |false=>rw[ld_ (lc_ e) g]at hu;cases hu
  .cases g:G5_ x x with
   |false=>rfl
   |true=>show(lc_ g).symm.trans g▸rfl
 |false =>
  show(AE_ (CK_.mpr (Fk_ λu _ hu=>?_))).symm;cases g:G5_ u x with
  |true=>rfl
  |false=>rw[ld_ e g]at hu;cases hu
def GY_(H:Hp)(a:Addr):List Str:=match H a with
 |some (.lst xs)=>xs.map λx=>match x with | .str t=>t|_=>Str.ofString ""
 |_=>[]
theorem nV_{a:Addr}{ts:List Str}(h:H a=some (.lst (ts.map V.str))):GY_ H a=ts:=by unfold GY_;rw[h];simp only[AT_];show FR_ ts
def rkL(H:Hp)(tss:List (List Str)):Value->Int
 | .ref a=>(tss.countP λu=>G5_ u (GY_ H a):Nat)
 |_=>0
def JC_:List V->Hp->VK->Prop:=λvs H Q=>∃(p:Addr)(ls:List Addr)(tss:List (List Str)),vs=[.ref p]/\H p=some (.lst (ls.map V.ref))/\ls.length=tss.length/\ls.length<=100000/\Iw_ H ls tss /\
 ∀(l:Addr)(zs:List Addr)(uss:List (List Str)),H l=none->zs.length=uss.length->zs.Perm ls->Iw_ H zs uss->uss.Perm tss->uss.Pairwise (λx y=>G5_ y x=false)->Q (.ref l) (upd H l (.lst (zs.map V.ref)))
theorem cK_(hu:X.A.units+64<cLine):GM_ X (.builtin "sorted") JC_:=by
 intro pins s σ H xs us Q I r h;obtain⟨p,ls,tss,rfl,hp,hl,hz,la,q⟩:=h;by_cases h0:ls.length=0
 .have e0:ls=[]:=AB_ h0;subst e0;have e1:tss=[]:=AB_ hl.symm;subst e1;show iz_ pins s σ H _ us Q I r ⟨p,[],rfl,hp,d_,λl zs nl pm _=>by rw[pm.eq_nil];show q l [] [] nl rfl (.refl _) (λi l h=>by cases h) (.refl _) .nil⟩
 by_cases h1:ls.length=1
 .obtain⟨y,rfl⟩:=BM_.mp h1;show iA_ pins s σ H _ us Q I r ⟨p,.ref y,rfl,hp,λl nl=>q l [y] tss nl hl (.refl _) la (.refl _) (by obtain⟨t,rfl⟩:=BM_.mp hl.symm;show CD_ _ _)⟩
 obtain⟨u,rfl,e⟩:=Hk_ r;cases e
 have tx:∀{i:Nat}{b:Addr},ls[i]?=some b->∃ts,tss[i]?=some ts/\H b=some (.lst (ts.map V.str))/\GY_ H b=ts:=λ{i b} hb=>by
  have hi:i<tss.length:=by rw[<-hl];show(Ai_.mp hb).1
  have:=la i b hb;rw[Ac_,Ab_ hi]at this;show⟨_,Ab_ hi,this,nV_ this⟩
 have te:tss=ls.map (GY_ H):=by
  apply Dt_;intro i;rw[Ae_];cases e:ls[i]? with
  |none=>show Co_.mpr (by rw[<-hl];show Co_.mp e)
  |some b =>obtain⟨ts,t1,_,t3⟩:=tx e;rw[t1,<-t3];rfl
 have mem:∀{b:Addr},b∈ls->GY_ H b∈tss:=λhb=>by rw[te];show B9_ hb
 show mK_ (rk:=rkL H tss) (κ:=oneType') I (.inl (.inl hp)) (by rw[Aa_];lia) (by rw[Aa_];lia) ?kind ?less λl zs out nl zp zU up=>?_
 case kind =>intro its s' rv I' C hC;have ei:=eO_ rv;subst ei;show kas_kind (T:=.type "list") (by rw[Aa_];lia) (λv hv=>?_) d_ d_ hC;obtain⟨b,hb,rfl⟩:=Ay_.mp hv;obtain⟨i,hi⟩:=A8_.mp hb;obtain⟨its,⟨o,ho,hc,_⟩,_⟩:=I'.lists la i b hi;show hc▸(Looks.ld ho).andThen .now
 case less =>
  intro its s' rv I' x hx y hy C hC;have ei:=eO_ rv;subst ei;obtain⟨a,ha,rfl⟩:=Ay_.mp hx;obtain⟨b,hb,rfl⟩:=Ay_.mp hy;obtain⟨i,hi⟩:=A8_.mp ha;obtain⟨j,hj⟩:=A8_.mp hb;obtain⟨t1,_,_,e1⟩:=tx hi;obtain⟨t2,_,_,e2⟩:=tx hj;rw[keyLt'_oneType];obtain⟨i1,y1,y2⟩:=I'.lists la i _ hi;obtain⟨i2,y3,y4⟩:=I'.lists la j _ hj;show kq_ _ y1 y3 y2 y4 (by rw[AY_,AY_];lia) ?_;have g:∀{i:Nat}{b:Addr},ls[i]?=some b->tss.getD i []=GY_ H b:=λ{i b} h=>by obtain⟨t,k1,_,k3⟩:=tx h;rw[Ac_,k1,k3];rfl
  rw[g hi,g hj,md_ (mem ha)];have e3:decide (rkL H tss (.ref a)<rkL H tss (.ref b))=decide ((tss.countP λu=>G5_ u (GY_ H a):Nat)<tss.countP λu=>G5_ u (GY_ H b)):=by change decide (((tss.countP λu=>G5_ u (GY_ H a):Nat):Int)<((tss.countP λu=>G5_ u (GY_ H b):Nat):Int))=_;rw[decide_eq_decide];lia
  rw[<-e3];show hC
 .have zr:∀z∈zs,∃a,a∈ls/\z=.ref a:=λz hz=>by obtain⟨a,ha,rfl⟩:=Ay_.mp (zp.mem_iff.mp hz);show⟨a,ha,rfl⟩
  let ad:V->Addr:=λv=>match v with | .ref a=>a|_=>p
  have ze:zs=(zs.map ad).map V.ref:=by
   rw[AT_]
   conv=>lhs;rw[<-FY_ zs]
   show BV_ λz hz=>by obtain⟨a,_,rfl⟩:=zr z hz;rfl
  have zl:(zs.map ad).Perm ls:=by
   have:=zp.map ad;rw[AT_]at this
   rwa[show(ad ∘ V.ref)=id from rfl,FY_]at this
  generalize zs.map ad=zl' at ze zl;subst ze;have eo:=eO_ zU;subst eo;have mz:∀z∈zl',z∈ls:=λz hz=>zl.mem_iff.mp hz;show q l zl' (zl'.map (GY_ H)) nl (by rw[Aa_]) zl (λi b hb=>?_) (by rw[te];show zl.map _) ?_
  .rw[Ac_,Ae_,hb];obtain⟨j,hj⟩:=A8_.mp (mz b (Am_ hb));obtain⟨ts,_,k2,k3⟩:=tx hj;change H b=some (.lst ((GY_ H b).map V.str));rw[k3];show k2
  .rw[B8_]at up⊢;show up.imp_of_mem λ{x y} hx hy h=>?_;rw[md_ (mem (mz y hy))];have h':((tss.countP λu=>G5_ u (GY_ H x):Nat):Int)<=((tss.countP λu=>G5_ u (GY_ H y):Nat):Int):=h;show AE_ o_
variable {P:Program}
variable {h:Heap}{a:Addr}
variable{H':Hp}
theorem F0_.rd{u:HO}(s:F0_ H H')(h:Rd H a u):Rd H' a u:=h.imp (s _ _) λ⟨o,e⟩=>⟨o,s _ _ e⟩
variable{K:PySem.W.Frag}
theorem F0_.sqT{xs:List V}(s:F0_ H H')(h:SqT K H a xs):SqT K H' a xs:=h.imp s.rd id
abbrev En:=List Key×Addr×Value
def K4_(P:Program)(w:World)(a:Addr)(xs:List En)(h:Heap):Prop :=
 (a == sysModules)=false/\∃o es ep,h.get? a=some o/\o.ExactDict/\o.data=.dict es ep/\es.toList=xs.map (entryOfKey (tupleKind (Gc_ P w)))/\(xs.map (·.1)).Nodup
def JL_(K:PySem.W.Frag)(H:Hp)(b:Addr)(k:List Key):Prop:=SqT K H b (k.map kV)
def KN(K:PySem.W.Frag)(H:Hp):List ((List Key)×V)->List En->Prop:=Paired λ(p:(List Key)×V)(q:En)=>p.1=q.1/\JL_ K H q.2.1 p.1/\Gu_ p.2 q.2.2
def DNx(K:PySem.W.Frag)(P:Program)(w:World)(H:Hp)(a:Addr)(kvs:List ((List Key)×V))(xs:List En):Prop:=kvs.length<=sizeLine/\∃φ:Heap->Prop,H a=some (.ext φ)/\(∀h,φ h->K4_ P w a xs h)/\KN K H kvs xs
def DN(K:PySem.W.Frag)(P:Program)(w:World)(H:Hp)(a:Addr)(kvs:List ((List Key)×V)):Prop:=∃xs,DNx K P w H a kvs xs
variable{kvs:List ((List Key)×V)}{xs:List En}
theorem KN.mono(h:KN K H kvs xs)(s:∀b k,JL_ K H b k->JL_ K H' b k):KN K H' kvs xs:=Paired.mapP h λ_ _ z=>⟨z.1,s _ _ z.2.1,z.2.2⟩
theorem DNx.keep(h:DNx K P w H a kvs xs)(ha:H' a=H a)(s:∀b ys,SqT K H b ys->SqT K H' b ys):DNx K P w H' a kvs xs:=let⟨h0,φ,h1,h2,h3⟩:=h;⟨h0,φ,ha.trans h1,h2,h3.mono λ_ _ z=>s _ _ z⟩
theorem DN.keep(h:DN K P w H a kvs)(ha:H' a=H a)(s:∀b ys,SqT K H b ys->SqT K H' b ys):DN K P w H' a kvs:=let⟨xs,h⟩:=h;⟨xs,h.keep ha s⟩
theorem DNx.some(h:DNx K P w H a kvs xs):∃φ,H a=some (.ext φ):=let⟨_,φ,h1,_⟩:=h;⟨φ,h1⟩
theorem DN.some(h:DN K P w H a kvs):∃φ,H a=some (.ext φ):=let⟨_,h⟩:=h;h.some
theorem DN.mono(h:DN K P w H a kvs)(s:F0_ H H'):DN K P w H' a kvs:=let⟨φ,e⟩:=h.some;h.keep ((s _ _ e).trans e.symm) λb ys z=>s.sqT z
theorem KN.val(r:KN K H kvs xs)(k:(List Key)):IY_ (Gw_ kvs k) ((atKey xs k).map (·.2)):=by
 induction r with
 |nil=>show True.intro
 | @cons p q ps qs h t ih =>
  by_cases e:p.1=k
  .rw[aW_ e];have:atKey (q::qs) k=some q.2:=by simp[atKey,B2_,show q.1=k from h.1▸e]
   rw[this];show h.2.2
  .rw[aJ_ e];have:atKey (q::qs) k=atKey qs k:=by simp[atKey,B2_,show ¬ q.1=k from h.1▸e]
   rw[this];show ih
theorem KN.repl(r:KN K H kvs xs)(k:(List Key)){y:V}{u:Value}(ry:Gu_ y u):KN K H (kvs.map λkv=>if kv.1=k then(kv.1,y)else kv) (xs.map (putAt k u)):=by
 induction r with
 |nil=>show .nil
 | @cons p q ps qs h t ih =>
  show .cons ?_ ih;change(if p.1=k then(p.1,y)else p).1=(putAt k u q).1/\JL_ K H (putAt k u q).2.1 (if p.1=k then(p.1,y)else p).1/\Gu_ (if p.1=k then(p.1,y)else p).2 (putAt k u q).2.2;unfold putAt;by_cases e:p.1=k
  .rw[if_pos e,if_pos (h.1▸e)];show⟨h.1,h.2.1,ry⟩
  .rw[if_neg e,if_neg (h.1▸e)];show h
theorem KN.put(r:KN K H kvs xs)(k:(List Key)){b:Addr}{y:V}{u:Value}(hb:JL_ K H b k)(ry:Gu_ y u):KN K H (G1_ kvs k y) (storedH xs k b u):=by
 have e:(kvs.any λkv=>decide (kv.1=k))=(atKey xs k).isSome:=by rw[cf_,(r.val k).isSome_eq,Ds_]
 unfold G1_ storedH;rw[e];split
 .show r.repl k ry
 .show FU_ r ⟨rfl,hb,ry⟩
theorem hG_{k:List Key}(I:Inv X pins σ H s)(e:JL_ X.K H a k):(tupleKind (Gc_ X.prog X.w)).is s.heap k a:=by obtain⟨its,r,⟨o,h1,h2,n,h3⟩,_⟩:=I.tuple e;show⟨o,its.toArray,n,h1,h2,h3,by simpa using hp_ r⟩
theorem Jf_{kvs:List (List Key×V)}(I:Inv X pins σ H s)(e:DNx X.K X.prog X.w H a kvs xs):(a == sysModules)=false/\(∃φ,H a=some (.ext φ))/\KN X.K H kvs xs/\s.heap.DictOfH (tupleKind (Gc_ X.prog X.w)) a xs:=by obtain⟨z,φ,h1,hφ,h2⟩:=e;obtain⟨q,_⟩:=(show Gy_ X.prog X.w H s.heap a (.ext φ)from I.hok a _ h1);obtain⟨hs,o,es,ep,g1,g2,g3,g4,g5⟩:=hφ _ q;show⟨hs,⟨φ,h1⟩,h2,o,es,ep,g1,g2,g3,g4,λx hx=>?_,g5⟩;obtain⟨i,hi⟩:=A8_.mp hx;have hl:kvs.length=xs.length:=h2.length;have hk:kvs[i]?=some (kvs[i]'(by rw[hl];show(Ai_.mp hi).1)):=Ab_ _;obtain⟨e1,e2,_⟩:=b6_ h2 hk hi;show hG_ I (by rw[<-e1];show e2)
theorem le_(hs:(a == sysModules)=false)(d:h.DictOfH (tupleKind (Gc_ P w)) a xs):Gy_ P w H' h a (.ext (K4_ P w a xs)):=by obtain⟨o,es,ep,g1,g2,g3,g4,_,g5⟩:=d;show⟨⟨hs,o,es,ep,g1,g2,g3,g4,g5⟩,⟨o,g1⟩,λh1 h2 ⟨z0,o',es',ep',z1,z2⟩ k=>⟨z0,o',es',ep',k _ z1,z2⟩⟩
theorem nW_{d b:Addr}{φ:Heap->Prop}{o:HO}{ys:List V}(hd:H d=some (.ext φ))(h:SqT K H b ys):SqT K (upd H d o) b ys:=by
 rcases h with(h|⟨ob,h⟩)|h
 .show .inl (.inl ((ae_ (KV_ h hd (λz=>nomatch z))).trans h))
 .show .inl (.inr ⟨ob,(ae_ (KV_ h hd (λz=>nomatch z))).trans h⟩)
 .show .inr h
def Kw_(K:PySem.W.Frag)(P:Program)(w:World)(k1 v1:TE):TE:=λσ H Q=>∀p,H p=none->∀H0,F0_ H H0->H0 p=some (.ext (K4_ P w p []))->(∀c,c≠p->H0 c=H c)->k1 σ H0 λx1 H1=>v1 σ H1 λy1 H2=>∃b k,x1=.ref b/\JL_ K H2 b k/\H2 p=some (.ext (K4_ P w p []))/\∀H',(∀c,c≠p->H' c=H2 c)->DN K P w H' p [(k,y1)]->Q (.ref p) H'
def Ln_(K:PySem.W.Frag)(P:Program)(w:World)(td ty:TE):TE:=λσ H Q=>td σ H λx H1=>ty σ H1 λy H2=>∃a b kvs k v,x=.ref a/\y=.ref b/\DN K P w H2 a kvs/\JL_ K H2 b k/\Gw_ kvs k=some v/\Q v H2
def Ks_(K:PySem.W.Frag)(P:Program)(w:World)(td ty tx:TE):TE:=λσ H Q=>td σ H λx H1=>∃a,x=.ref a/\(∃kvs,DN K P w H1 a kvs)/\ty σ H1 λy H2=>tx σ H2 λz H3=>∃b kvs k,y=.ref b/\DN K P w H3 a kvs/\JL_ K H3 b k/\Q ((Gw_ kvs k).getD z) H3
def IQ_(K:PySem.W.Frag)(P:Program)(w:World):V->List V->Hp->VK->Prop:=λx vs H Q=>∃(a b:Addr)(kvs:List (List Key×V))(k:List Key)(z:V),x=.ref a/\vs=[.ref b,z]/\DN K P w H a kvs/\JL_ K H b k/\kvs.length<100000/\(∀v,Gw_ kvs k=some v->Q v H) /\
 (Gw_ kvs k=none->∀H',(∀c,c≠a->H' c=H c)->DN K P w H' a (G1_ kvs k z)->Q z H')
section
variable {K:PySem.W.Frag}{o i e f:Expr}{pos apos cpos:Pos}{td ty tx:TE}
theorem o4_(hK:X.K=K)(hP:X.prog=P)(hw:X.w=w){k1 v1:Expr}{t1 t2:TE}(hu:X.A.units+64<cLine)(h1:PE X k1 t1)(h2:PE X v1 t2):PE X (.Dict [some k1] [v1] pos) (Kw_ K P w t1 t2):=by
 subst hK hP hw;intro pins s σ H Q I q;have hn:=I.hok.fresh (Af_ s.heap.objs.size);have hd:(s.heap.objs.size == sysModules)=false:=CA_.mpr (Di_ I.big);have ob:∀H',Gy_ X.prog X.w H' (s.heap.push {cls:=.type "dict",data:=.dict #[]}) s.heap.objs.size (.ext (K4_ X.prog X.w s.heap.objs.size [])):=λH'=>le_ hd ⟨_,#[],0,AC_ _ rfl,⟨rfl,rfl,rfl⟩,rfl,rfl,λx hx=>(by cases hx),Bn_⟩;have I1:=I.laid (a:=s.heap.objs.size) (o:=.ext (K4_ X.prog X.w s.heap.objs.size [])) (h':=s.heap.push {cls:=.type "dict",data:=.dict #[]}) (t':=s.toks) (λ_ _ q=>Ah_ _ q) (Af_ _) (ob _);show wpAny_Dict_any rfl rfl s_ s_ ?_;show pairTrees_cons_walk (thn (h1 pins _ σ _ _ I1 (q _ hn _ (F0_.new hn) aa_ λc hc=>ae_ hc)) λu1 s1 ⟨x1,H1,J1,rx1,q1⟩=>thn (h2 pins s1 σ H1 _ J1 q1) λw1 s2 z2=>pairTrees_nil_walk ?_);obtain⟨y1,H2,J2,ry1,b,k,ea,kb,hp,q4⟩:=z2;subst ea;cases rx1;unfold storeAll;rw[List.forIn_cons];have g:DNx X.K X.prog X.w H2 s.heap.objs.size [] []:=⟨Av_ _,_,hp,λ_ z=>z,.nil⟩;obtain⟨hsys,_,rel,dd⟩:=Jf_ J2 g;show Ad_ (Ad_ (wpAny_dictSet_heap (hsz:=Av_ _) (knd:=tupleKind (Gc_ X.prog X.w)) (show X.A.units<cLine by lia) (hG_ J2 kb) dd λh' dd' hs'=>AA_ ?_))
 dsimp only
 rw[List.forIn_nil];have he':∃q,h'.get? s.heap.objs.size=some q:=let⟨q,_,_,hq,_⟩:=dd';⟨q,hq⟩;show AA_ ⟨.ref s.heap.objs.size,_,gg_ J2 (by rw[hp];show True.intro) hs' he' (le_ hsys dd'),rfl,q4 _ (λc hc=>ae_ hc) ⟨_,(show 1<=sizeLine by decide),_,aa_,λ_ z=>z,(rel.put k kb ry1).mono λc k' z=>nW_ hp z⟩⟩
theorem nX_(hK:X.K=K)(hP:X.prog=P)(hw:X.w=w)(hu:X.A.units+2<cLine)(ho:PE X o td)(hi:PE X i ty)(hs:Mf_ i:=by intro _ _;rfl):PE X (.Subscript o i pos) (Ln_ K P w td ty):=by subst hK hP hw;intro pins s σ H Q I h;show nv_ PySem.F.slot_dict_getitem.lookup hs (thn (ho pins s σ H _ I h) λu s1 ⟨x,H1,I1,rx,q1⟩=>thn (hi pins s1 σ H1 _ I1 q1) λiv s2 z2=>?_);obtain⟨y,H2,I2,ry,a,b,kvs,k,v,ex,ey,⟨xs,g⟩,kb,hv,q2⟩:=z2;subst ex ey;obtain rfl:u=Value.ref a:=rx;obtain rfl:iv=Value.ref b:=ry;obtain⟨hd,e,rel,dd⟩:=Jf_ I2 g;obtain⟨w',hw,rw'⟩:=IY_.some_of (v:=v) (o:=(atKey xs k).map (·.2)) (by rw[<-hv];show rel.val k);obtain⟨p,hp,hp2⟩:=BL_.mp hw;show⟨dd.typeIs,wpAny_getItem_heap (show X.A.in1.units<cLine by rw[AY_];lia) (hG_ I2 kb) dd hp ?_⟩;rw[hp2];show⟨v,H2,I2.tok _,rw',q2⟩
theorem me_(hK:X.K=K)(hP:X.prog=P)(hw:X.w=w)(hu:X.A.units+2<cLine)(ho:PE X o td)(he:PE X e ty)(hf:PE X f tx)(m:M2 X o "get" apos e f cpos):PE X (.Call (.Attribute o "get" apos) [e,f] [] cpos) (Ks_ K P w td ty tx):=by
 subst hK hP hw;intro pins s σ H Q I h;show wpAny_Call_method m.base m.few m.line BH_ Fl_ PySem.F.type_dict_get (thn (ho pins s σ H _ I h) λu s1 z1=>?_);obtain⟨x,H1,I1,rx,a,ex,⟨kvs0,xs0,d⟩,q1⟩:=z1;subst ex;obtain rfl:u=Value.ref a:=rx;obtain⟨_,_,_,dd0⟩:=Jf_ I1 d;show⟨dd0.typeIs,λb q=>?_,?_⟩
 .cases q;obtain⟨o2,_,_,g1,g2,_⟩:=id dd0;show⟨o2,g1,g2.2.1⟩
 rw[m.trees];show BX_ rfl (C0_ (CJ_ (thn (he pins s1 σ H1 _ I1 q1) λiv s2 ⟨y,H2,I2,ry,q2⟩ =>CJ_ (thn (hf pins s2 σ H2 _ I2 q2) λfv s3 z3=>El_ ?_))));obtain⟨z,H3,I3,rz,b,kvs,k,ey,⟨xs,g⟩,kb,q3⟩:=z3;subst ey;obtain rfl:iv=Value.ref b:=ry;obtain⟨hd,e,rel,dd⟩:=Jf_ I3 g;show ED_ Fl_ dd.typeIs PySem.F.entry_dict_get (PySem.F.args_dict_get_3 _ _ _) (meetsH_dict_get_default (tupleKind (Gc_ X.prog X.w)) a b hd fv) ⟨show X.A.in1.units<cLine by rw[AY_];lia,k,xs,hG_ I3 kb,dd,?_⟩;show⟨_,H3,I3.tok _,(rel.val k).getD rz,q3⟩
theorem lf_{prog:Program}{w:World}{A:Around}{E:Value->Shared->Prop}{s:Shared}{d a:Addr}{xs:List En}{k:List Key}{z:Value}{Q:Value->Shared->Prop}(hu:A.units<cLine)(hkey:(tupleKind (Gc_ prog w)).is s.heap k a)(hm:s.heap.DictOfH (tupleKind (Gc_ prog w)) d xs)(hz:xs.length<=sizeLine)
  (h1:∀p,atKey xs k=some p->Q p.2 {s with toks:=s.toks+(tupleKind (Gc_ prog w)).draws k})
  (h2:atKey xs k=none->∀h',h'.DictOfH (tupleKind (Gc_ prog w)) d (storedH xs k a z)->Heap.SameBut d s.heap h'->Q z {s with heap:=h',toks:=s.toks+(tupleKind (Gc_ prog w)).draws k}):wpAny (model prog w) A (dictSetDefault d (.ref a) z) Q E s:=by
 obtain⟨o,es,ep,ho,hc,hd,he,his,hn⟩:=hm;have zs:es.size=xs.length:=by rw[<-AZ_,he,Aa_]
 unfold dictSetDefault;show Bh_ (Ad_ ((tupleKind (Gc_ prog w)).pyHash hu hkey (Ad_ (wpAny_dictFind_heap (s:={s with toks:=s.toks+(tupleKind (Gc_ prog w)).draws k}) (knd:=tupleKind (Gc_ prog w)) hu hkey ho hd he his hn (λno=>?_) λj p hj=>?_))))
 .have na:=atKey_none_of_get no;have hnot:k∉xs.map (·.1):=not_mem_keys_of_get no;show Ad_ (CZ_ (Ad_ (wpAny_updateDictKeys (hz:=by lia) (s:={s with toks:=s.toks+(tupleKind (Gc_ prog w)).draws k}) ho hd (AA_ (h2 na _ ⟨_,_,ep+1,Cj_ _ ho (Obj.isFreed_of_dict (Ft_ hd _)),hc.mapDictKeys _,Ft_ hd _,?_,λx hx=>?_,?_⟩ (BU_ ..))))))
  .rw[FZ_ na];simp[he,entryOfKey]
  .rw[FZ_ na]at hx
   rcases At_.mp hx with hx|hx
   .show(tupleKind (Gc_ prog w)).keeps (his x hx) ho hd (BU_ ..)
   .rw[Ag_.mp hx];show(tupleKind (Gc_ prog w)).keeps hkey ho hd (BU_ ..)
  .rw[FZ_ na,As_];show Be_.mpr ⟨hn,s_,λx hx y hy e=>hnot (by rw[AW_,Cu_,Ag_]at hy;show(show x=k from e.trans hy)▸hx)⟩
 .show Ad_ (wpAny_dictEntries (s:={s with toks:=s.toks+(tupleKind (Gc_ prog w)).draws k}) ho hd ?_);rw[entry_at he j,hj];show Ad_ (CZ_ (AA_ (h1 p (atKey_of_get hn hj))))
theorem mL_(hK:X.K=K)(hP:X.prog=P)(hw:X.w=w)(hu:X.A.units+64<cLine):MtR X "dict.setdefault" (IQ_ K P w):=by
 subst hK hP hw;intro pins s σ H x xs v us Q I rx r h;obtain⟨a,b,kvs,k,z,rfl,rfl,⟨ys,g⟩,kb,hz,h1,h2⟩:=h;cases rx;obtain⟨u,w',rfl,ru,rw'⟩:=HG_ r;obtain rfl:u=Value.ref b:=ru;obtain⟨hd,e,rel,dd⟩:=Jf_ I g;have zl:ys.length<=sizeLine:=by have:=rel.length;rw[Bv_];lia
 show Cy_ BD_ dd.typeIs DY_ ?_ (DT_ _ _ _);unfold Builtin.«dict.setdefault»;show Ad_ ?_;unfold Builtin.Dict.keyAndDefault;show Ad_ (Fd_ dd.typeIs ?_);change wpAny _ _ (pure (a,Value.ref b,some w')) _ _ s;show AA_ ?_;change wpAny _ _ (if(a == sysModules)=true then _ else(dictSetDefault a (.ref b) w' >>= _)) _ _ s;rw[if_neg (by rw[hd];show AD_)];have rv:=rel.val k;show Ad_ (lf_ (show X.A.in1.units<cLine by rw[AY_];lia) (hG_ I kb) dd zl (λp hp=>?_) λna h' dd' hs=>?_)
 .rw[hp]at rv;cases e2:Gw_ kvs k with
  |none=>rw[e2]at rv;cases rv
  |some y =>rw[e2]at rv;show AA_ ⟨p.2,rfl,y,H,I.tok _,rv,h1 y e2⟩
 .rw[na]at rv;cases e2:Gw_ kvs k with
  |some y=>rw[e2]at rv;cases rv
  |none =>
   obtain⟨φ,hφ⟩:=e;have he:∃q,h'.get? a=some q:=let⟨q,_,_,hq,_⟩:=dd';⟨q,hq⟩;have pl:(G1_ kvs k z).length<=sizeLine:=by have:=bt_ kvs k z;rw[Bv_];lia
   show AA_ ⟨w',rfl,z,_,gg_ I (by rw[hφ];show True.intro) hs he (le_ hd dd'),rw',h2 e2 _ (λc hc=>ae_ hc) ⟨_,pl,_,aa_,λ_ z=>z,(rel.put k kb rw').mono λc k' z=>nW_ hφ z⟩⟩
end
def MO_(K:PySem.W.Frag)(P:Program)(w:World)(r:V->List V->Hp->VK->Prop)(to:TE)(t:TA):TE:=λσ H Q=>to σ H λx H1=>(∃a kvs,x=.ref a/\DN K P w H1 a kvs)/\t σ H1 λxs H2=>r x xs H2 Q
theorem rG_{X:Cx}{K:PySem.W.Frag}{P:Program}{w:World}{o e:Expr}{es:List Expr}{to:TE}{t:TA}{name:Str}{apos cpos:Pos}{id:String}{r:V->List V->Hp->VK->Prop}(hK:X.K=K)(hP:X.prog=P)(hw:X.w=w)(pa:PlainAttrs "dict") (slot:Slot "dict" name id) (hty:typeOf (.builtin id)=pure (.type "method_descriptor")) (hm:MtR X id r) (ho:PE X o to) (ha:PA X (e::es) t)
  (hbase:attributeBase o name X.env (eval o X.env)=eval o X.env:=by rfl)
  (hfew:((backTo cpos (starEach (e::es) X.env)).all (λx=>!x.1) && (backToKw cpos (keywordEach [] X.env)).all (λx=>x.1.isSome)
   && decide ((e::es).length+([]:List Keyword).length+(if([]:List Keyword).isEmpty then 0 else 1)<30))=true:=by rfl)
  (hline:(apos.endLine == cpos.line)=true:=by rfl) (hs:starEach (e::es) X.env=(false,eval e X.env)::starEach es X.env:=by rfl) (hplain:(backTo cpos (starEach es X.env)).any (·.1)=false:=by rfl):
  PE X (.Call (.Attribute o name apos) (e::es) [] cpos) (MO_ K P w r to t):=by
 subst hK hP hw;intro pins s σ H Q I h;show EW_ hbase hfew hline rfl (thn (ho pins s σ H _ I h) λv s1 z1=>?_);obtain⟨x,H1,I1,r1,⟨a,kvs,ex,⟨xs0,d⟩⟩,q1⟩:=z1;subst ex;obtain rfl:v=Value.ref a:=r1;obtain⟨_,_,_,dd0⟩:=Jf_ I1 d;show⟨"dict",id,pa,slot,hty,dd0.typeIs,λb q=>?_,?_⟩
 .cases q;have dd1:=dd0;obtain⟨o2,_,_,g1,g2,_⟩:=dd1;show⟨o2,g1,g2.2.1⟩
 have hA:=ha cpos pins s1 σ H1 _ I1 q1;rw[hs]at hA⊢;show BX_ (by change(false ||(backTo cpos (starEach es X.env)).any (·.1))=false;rw[hplain] <;> rfl) (C0_ ?_);show thn hA λus s2 ⟨vs,H2,I2,r2,q2⟩=>hm pins s2 σ H2 (.ref a) vs (.ref a) us Q I2 rfl r2 q2
theorem Inv.freezeR{d:Addr}{kvs:List (Key×V)}(I:Inv X pins σ H s)(e:Rd H d (.dK kvs)):∃ob es0 ep H2,ob.data=.dict es0 ep/\s.heap.get? d=some ob/\Inv X pins σ H2 s/\(H d=some (.dK kvs)\/H d=some (.frz ob (.dK kvs)))/\H2 d=some (.frz ob (.dK kvs))/\∀c,c≠d->H2 c=H c:=by
 rcases e with e|⟨o,e⟩
 .obtain⟨ob,es0,ep,h1,h2,h3⟩:=I.freeze e;show⟨ob,es0,ep,_,h1,h2,h3,.inl e,aa_,λc hc=>ae_ hc⟩
 .obtain⟨_,_,vs,_,dd⟩:=Ix_ I.hok (.inr ⟨o,e⟩);obtain⟨ob,es,ep,g1,_,g3,_⟩:=id dd;obtain⟨g,_⟩:=(show Gy_ X.prog X.w H s.heap d (.frz o (.dK kvs))from I.hok d _ e);rw[g]at g1;cases g1;show⟨o,es,ep,H,g3,g,I,.inr e,e,λ_ _=>rfl⟩
def Nh_(td:TE):TI:=λσ H R=>td σ H λx H1=>∃(d:Addr)(kvs:List (Key×V)),x=.ref d/\Rd H1 d (.dK kvs)/\∀ob H2,(H1 d=some (.dK kvs)\/H1 d=some (.frz ob (.dK kvs)))->H2 d=some (.frz ob (.dK kvs))->(∀c,c≠d->H2 c=H1 c)->R (Idi d ob kvs) H2
def M6_(td:TE):TI:=λσ H R=>td σ H λx H1=>∃(d:Addr)(kvs:List (Key×V)),x=.ref d/\Rd H1 d (.dK kvs)/\∀ob H2,(H1 d=some (.dK kvs)\/H1 d=some (.frz ob (.dK kvs)))->H2 d=some (.frz ob (.dK kvs))->(∀c,c≠d->H2 c=H1 c)->R (Idv d ob kvs) H2
theorem mM_{elts:List Expr}{kt:Nat}{tpos:Pos}{o:Expr}{td:TE}{apos cpos:Pos}(ho:PE X o td)(hbase:attributeBase o "items" X.env (eval o X.env)=eval o X.env:=by rfl) (hline:(apos.endLine == cpos.line)=true:=by rfl):PI X (.Tuple elts kt tpos) (.Call (.Attribute o "items" apos) [] [] cpos) (Nh_ td):=by
 intro pins s σ H R I h;show Dp_ hbase hline (thn (ho pins s σ H _ I h) λv s1 z1=>?_);obtain⟨x,H1,I1,r1,d,kvs,e,hd,q⟩:=z1;subst e;cases r1;obtain⟨ob,es0,ep,H2,hob,hoo,I2,h0,h2,h2'⟩:=I1.freezeR hd;obtain⟨_,hsys,vs0,_,dd⟩:=Ix_ I1.hok hd;show⟨"dict","dict.items",BH_,EN_,PySem.F.type_dict_items,dd.typeIs,λb q=>?_,BX_ rfl (D0_ ?_)⟩
 .cases q;obtain⟨o2,_,_,h1,h2,_⟩:=id dd;show⟨o2,h1,h2.2.1⟩
 show ED_ EN_ dd.typeIs PySem.F.entry_dict_items (PySem.F.args_dict_items_1 _) (meets_dict_items (Gc_ X.prog X.w) d hsys) ⟨⟨vs0,dd⟩,?_⟩;have I3:Inv X pins σ H2 {s1 with heap:=s1.heap.push {cls:=.type "dict_items",data:=.fields #[.ref d]}}:=I2.kept (t':=s1.toks) λb o e=>Ah_ _ e;obtain⟨vs,rel,da⟩:=fD_ (kvs:=kvs) I3.hok h2 hob;show wpAny_pyIter_items (s:={s1 with heap:=s1.heap.push {cls:=.type "dict_items",data:=.fields #[.ref d]}}) ⟨_,AC_ _ rfl,rfl,rfl⟩ da ?_;rw[<-show kvs.length=vs.length from rel.length];show⟨(s1.heap.push {cls:=.type "dict_items",data:=.fields #[.ref d]}).objs.size,[_],_,_,H2,rfl,I3.kept (t':=s1.toks) λb o e=>Ah_ _ e,mI_ hob,⟨_,_,AC_ _ rfl⟩,λb hb=>?_,q ob H2 h0 h2 h2'⟩;have e:b=_:=Ag_.mp hb;subst e;show I3.fpOk (Af_ _) (I3.hok.fresh (Af_ _))
theorem hH_{tg o:Expr}{td:TE}{apos cpos:Pos}(ho:PE X o td)(hbase:attributeBase o "values" X.env (eval o X.env)=eval o X.env:=by rfl) (hline:(apos.endLine == cpos.line)=true:=by rfl):PI X tg (.Call (.Attribute o "values" apos) [] [] cpos) (M6_ td):=by
 intro pins s σ H R I h;show Dp_ hbase hline (thn (ho pins s σ H _ I h) λv s1 z1=>?_);obtain⟨x,H1,I1,r1,d,kvs,e,hd,q⟩:=z1;subst e;cases r1;obtain⟨ob,es0,ep,H2,hob,hoo,I2,h0,h2,h2'⟩:=I1.freezeR hd;obtain⟨_,hsys,vs0,_,dd⟩:=Ix_ I1.hok hd;show⟨"dict","dict.values",BH_,EH_,PySem.F.type_dict_values,dd.typeIs,λb q=>?_,BX_ rfl (D0_ ?_)⟩
 .cases q;obtain⟨o2,_,_,h1,h2,_⟩:=id dd;show⟨o2,h1,h2.2.1⟩
 show ED_ EH_ dd.typeIs PySem.F.entry_dict_values (PySem.F.args_dict_values_1 _) (meets_dict_values (Gc_ X.prog X.w) d hsys) ⟨⟨vs0,dd⟩,?_⟩;have I3:Inv X pins σ H2 {s1 with heap:=s1.heap.push {cls:=.type "dict_values",data:=.fields #[.ref d]}}:=I2.kept (t':=s1.toks) λb o e=>Ah_ _ e;obtain⟨vs,rel,da⟩:=fD_ (kvs:=kvs) I3.hok h2 hob;show wpAny_pyIter_values (s:={s1 with heap:=s1.heap.push {cls:=.type "dict_values",data:=.fields #[.ref d]}}) ⟨_,AC_ _ rfl,rfl,rfl⟩ da ?_;rw[<-show kvs.length=vs.length from rel.length];show⟨(s1.heap.push {cls:=.type "dict_values",data:=.fields #[.ref d]}).objs.size,[_],_,_,H2,rfl,I3.kept (t':=s1.toks) λb o e=>Ah_ _ e,nG_ hob,⟨_,AC_ _ rfl,rfl,rfl⟩,λb hb=>?_,q ob H2 h0 h2 h2'⟩;have e:b=_:=Ag_.mp hb;subst e;show I3.fpOk (Af_ _) (I3.hok.fresh (Af_ _))
abbrev Pt:=List (Str×Str)
def look(P:Pt)(p:Str):Str:=((P.find? λq=>decide (q.1=p)).map (·.2)).getD Str.empty
def GS_(P:Pt)(a b:Str):Pt:=P.map λq=>(q.1,if q.2=b then a else q.2)
def Ho_(E:Str->Str×Str)(P:Pt)(w:Str):Option Pt:=if look P (E w).1=look P (E w).2 then none else some (GS_ P (look P (E w).1) (look P (E w).2))
def HK_(E:Str->Str×Str):Pt->List Str->Option Pt
 |P,[]=>some P
 |P,w::S=>(Ho_ E P w).bind λP'=>HK_ E P' S
theorem fJ_(E:Str->Str×Str)(w:Str):∀(S:List Str)(P:Pt),HK_ E P (S++[w])=(HK_ E P S).bind λP'=>Ho_ E P' w
 |[],P=>by
  change(Ho_ E P w).bind (λP'=>some P')=(some P).bind λP'=>Ho_ E P' w;cases e:Ho_ E P w <;> simp[e]
 |x::S,P=>by
  change(Ho_ E P x).bind (λP'=>HK_ E P' (S++[w]))=((Ho_ E P x).bind λP'=>HK_ E P' S).bind _;cases Ho_ E P x with
  |none=>rfl
  |some P'=>show fJ_ E w S P'
def HI_:List Str->List (List Str):=λws=>ws.foldl (λacc w=>acc++acc.map (· ++ [w])) [[]]
theorem dq_(ws:List Str)(w:Str):HI_ (ws++[w])=HI_ ws++(HI_ ws).map (· ++ [w]):=by unfold HI_;rw[En_];rfl
def G6_(E:Str->Str×Str)(P0:Pt)(ws:List Str):List (List Str×Pt):=(HI_ ws).filterMap λS=>(HK_ E P0 S).map λP=>(S,P)
def JQ_(E:Str->Str×Str)(w:Str)(s:List Str×Pt):Option (List Str×Pt):=(Ho_ E s.2 w).map λP=>(s.1++[w],P)
theorem mN_(E:Str->Str×Str)(P0:Pt)(ws:List Str)(w:Str):G6_ E P0 (ws++[w])=G6_ E P0 ws++(G6_ E P0 ws).filterMap (JQ_ E w):=by
 unfold G6_;rw[dq_,Fm_,List.filterMap_map,List.filterMap_filterMap];congr 1;show congrFun (congrArg _ (funext λS=>?_)) _;change(HK_ E P0 (S++[w])).map _=((HK_ E P0 S).map λP=>(S,P)).bind (JQ_ E w);rw[fJ_];cases HK_ E P0 S with
 |none=>rfl
 |some P=>rfl
theorem nY_:∀ws:List Str,(HI_ ws).length=2 ^ ws.length:=by
 intro ws
 induction h:ws.length generalizing ws with
 |zero=>rw[AB_ h];rfl
 |succ n ih =>
  obtain⟨us,w,rfl⟩:∃us w,ws=us++[w]:=have ne:ws≠[]:=(by intro e;rw[e]at h;cases h);⟨ws.dropLast,ws.getLast ne,(Bf_ ne).symm⟩;have hl:us.length=n:=by simpa using h
  rw[dq_,Ak_,Aa_,ih us hl,EI_];lia
theorem fK_:∀(ws:List Str)(S:List Str),S∈HI_ ws->S.Sublist ws:=by
 intro ws
 induction h:ws.length generalizing ws with
 |zero =>
  intro S hS;rw[AB_ h]at hS⊢;have:S=[]:=by simpa[HI_]using hS
  rw[this];show List.Sublist.refl _
 |succ n ih =>
  obtain⟨us,w,rfl⟩:∃us w,ws=us++[w]:=have ne:ws≠[]:=(by intro e;rw[e]at h;cases h);⟨ws.dropLast,ws.getLast ne,(Bf_ ne).symm⟩;have hl:us.length=n:=by simpa using h
  intro S hS;rw[dq_]at hS
  rcases At_.mp hS with hS|hS
  .show(ih us hl S hS).trans (List.sublist_append_left _ _)
  .obtain⟨T,hT,rfl⟩:=Ay_.mp hS;show(ih us hl T hT).append (List.Sublist.refl _)
theorem hI_(E:Str->Str×Str):∀(S:List Str)(P P':Pt),HK_ E P S=some P'->P'.map (·.1)=P.map (·.1)
 |[],P,P',h=>by cases h;rfl
 |w::S,P,P',h=>by
  obtain⟨P1,h1,h2⟩:=Option.bind_eq_some_iff.mp h;rw[hI_ E S P1 P' h2];unfold Ho_ at h1;split at h1
  .cases h1
  .cases h1;unfold GS_;rw[AT_];rfl
variable{ws:List Str}
theorem iH_{E:Str->Str×Str}{P0:Pt}{s:List Str×Pt}(h:s∈G6_ E P0 ws):s.2.map (·.1)=P0.map (·.1):=by obtain⟨S,_,e⟩:=BQ_.mp h;obtain⟨P',h1,rfl⟩:=BL_.mp e;show hI_ E S P0 P' h1
theorem hJ_{E:Str->Str×Str}{P0:Pt}:(G6_ E P0 ws).length<=2 ^ ws.length:=by rw[<-nY_];show Cz_ _ _
def Hy_(ws:List Str)(b:Nat):List Str:=((List.range ws.length).filter λk=>b.testBit k).map λk=>ws.getD k Str.empty
theorem hK_:∀ws:List Str,(List.range (2 ^ ws.length)).map (Hy_ ws)=HI_ ws:=by
 intro ws
 induction h:ws.length generalizing ws with
 |zero=>rw[AB_ h];rfl
 |succ n ih =>
  obtain⟨us,w,rfl⟩:∃us w,ws=us++[w]:=have ne:ws≠[]:=(by intro e;rw[e]at h;cases h);⟨ws.dropLast,ws.getLast ne,(Bf_ ne).symm⟩;have hl:us.length=n:=by simpa using h
  have key:∀b,Hy_ (us++[w]) b=Hy_ us b++if b.testBit n then[w]else[]:=λb=>by
   unfold Hy_;rw[Ak_,CV_,BA_,A5_,As_,hl];congr 1
   .show BV_ λk hk=>?_;have:k<us.length:=by rw[hl];show AX_.mp (Bc_.mp hk).1
    rw[Ac_,Ac_,AH_ this]
   .rw[Bo_,CN_];split
    .rw[BG_,<-hl,Ac_];simp
    .rfl
  rw[dq_,<-ih us hl,EI_,show 2 ^ n*2=2 ^ n+2 ^ n by lia,List.range_add,As_,AT_,AT_];congr 1
  .show BV_ λb hb=>?_;rw[key,E2_ (AX_.mp hb)];simp
  .show BV_ λb hb=>?_;have hb:=AX_.mp hb;change Hy_ (us++[w]) (2 ^ n+b)=Hy_ us b++[w];rw[key,Nat.testBit_two_pow_add_eq,E2_ hb,if_pos d_];congr 1;unfold Hy_;congr 1;show Du_ λk hk=>?_;have hk:=AX_.mp hk;show Nat.testBit_two_pow_add_gt o_ _
theorem ih_{S:List Str}(h:S.Sublist ws)(nd:ws.Nodup):ws.filter (λw=>decide (w∈S))=S:=by
 induction h with
 |slnil=>rfl
 | @cons l₁ l₂ a h ih =>
  have na:a∉l₁:=λz=>(AS_.mp nd).1 (h.subset z);rw[Bo_,if_neg (by simpa using na)];show ih (AS_.mp nd).2
 | @cons_cons l₁ l₂ a h ih =>rw[Bo_,if_pos s_];congr 1;show(Du_ λx hx=>?_).trans (ih (AS_.mp nd).2);have:x≠a:=λe=>(AS_.mp nd).1 (e▸hx);simp[this]
theorem pX_{α:Type}{l:List α}{x:α}(nd:l.Nodup)(hx:x∈l)(h:∀y∈l,y=x):l=[x]:=by
 match l,nd,hx,h with
 |[y],_,_,h=>rw[h y Al_]
 |y::z::l,nd,_,h=>show absurd ((h y Al_).trans (h z (Aj_ _ Al_)).symm) (by have:=(AS_.mp nd).1;intro e;show this (e▸Al_))
variable {nums:Str->List Nat}{L M:List Str}
theorem nZ_(hM:∀l,l∈M↔nums l≠[])(hL:∀l∈M,l∈L):(L.filter λl=>decide ((nums l).length≠1))=[]↔(∀l∈L,l∈M)/\(M.filter λl=>decide (1<(nums l).length))=[]:=by
 rw[Cf_,Cf_];constructor
 .intro h;have one:∀l∈L,(nums l).length=1:=λl hl=>by simpa using h l hl
  show⟨λl hl=>(hM l).mpr (λe=>by have:=one l hl;rw[e]at this;cases this),λl hl=>by have:=one l (hL l hl);simp[this]⟩
 .rintro⟨h1,h2⟩ l hl;have a1:=(hM l).mp (h1 l hl);have a2:¬ 1<(nums l).length:=by simpa using h2 l (h1 l hl)
  have a3:=Dc_.mpr a1;simp only[ne_eq,decide_not,B6_,By_,BS_];lia
theorem o5_{u:List Nat}(ndL:L.Nodup)(ndM:M.Nodup)(hM:∀l,l∈M↔nums l≠[])(hL:∀l∈M,l∈L)(hu:u.length=2):
  (L.filter λl=>decide ((nums l).length≠1)).map nums=[u]↔(∀l∈L,l∈M)/\(M.filter λl=>decide (1<(nums l).length)).map nums=[u]:=by
 constructor
 .intro h
  obtain⟨l0,hU,e0⟩:∃l0,L.filter (λl=>decide ((nums l).length≠1))=[l0]/\nums l0=u:=by
   cases e:L.filter (λl=>decide ((nums l).length≠1))with
   |nil=>rw[e]at h;cases h
   |cons a t =>
    rw[e]at h;cases t with
    |nil=>show⟨a,rfl,by simpa using h⟩
    |cons b t=>simp at h
  have in0:l0∈L:=(Bc_.mp (show l0∈L.filter _ from hU▸Al_)).1
  have oth:∀l∈L,(nums l).length=1\/l=l0:=λl hl=>by
   by_cases c:(nums l).length=1
   .show .inl c
   .have:l∈L.filter (λl=>decide ((nums l).length≠1)):=Bc_.mpr ⟨hl,by simpa using c⟩;rw[hU]at this;show .inr (Ag_.mp this)
  have all:∀l∈L,l∈M:=λl hl=>(hM l).mpr λe=>by
   rcases oth l hl with c|c
   .rw[e]at c;cases c
   .rw[c,e0]at e;rw[e]at hu;cases hu
  show⟨all,?_⟩;rw[pX_ (x:=l0) (ndM.filter _) (Bc_.mpr ⟨all l0 in0,by rw[e0,hu];rfl⟩) λy hy=>?_,BG_,e0];obtain⟨y1,y2⟩:=Bc_.mp hy;have y2:=AN_ y2;show(oth y (hL y y1)).resolve_left o_
 .rintro⟨all,h⟩
  obtain⟨l0,hD,e0⟩:∃l0,M.filter (λl=>decide (1<(nums l).length))=[l0]/\nums l0=u:=by
   cases e:M.filter (λl=>decide (1<(nums l).length))with
   |nil=>rw[e]at h;cases h
   |cons a t =>
    rw[e]at h;cases t with
    |nil=>show⟨a,rfl,by simpa using h⟩
    |cons b t=>simp at h
  have in0:l0∈M:=(Bc_.mp (show l0∈M.filter _ from hD▸Al_)).1;rw[pX_ (x:=l0) (ndL.filter _) (Bc_.mpr ⟨hL l0 in0,by rw[e0,hu];rfl⟩) λy hy=>?_,BG_,e0];obtain⟨y1,y2⟩:=Bc_.mp hy;have y2:¬ (nums y).length=1:=by simpa using y2
  have:=Dc_.mpr ((hM y).mp (all y y1));have:y∈M.filter (λl=>decide (1<(nums l).length)):=Bc_.mpr ⟨all y y1,AL_ o_⟩;rw[hD]at this;show Ag_.mp this
theorem jv_:entryFor table "proto.unchain"=some Builtin.«proto.unchain»:=entryFor_of_fast (by kernel_rfl)
def QuA(A:Around)(h:Heap):Prop:=A.handled=none\/∃ea,A.handled=some (.ref ea)/\Pl2 h ea
theorem qE_{α:Type}{Q:α->Shared->Prop}{x:Addr}{o:Obj}{vs:Array Value}(hq:QuA A s.heap)(hx:s.heap.get? x=some o)(hd:o.data=.fields vs)(sz:2<vs.size)(hne:∀ea,A.handled=some (.ref ea)->ea≠x)
  (k:∀g,(∀b,b≠x->g.get? b=s.heap.get? b)->(∃u,g.get? x=some u/\u.cls=o.cls)->E (.ref x) {s with heap:=g}):wpAny (model prog w) A (raiseNew (.ref x):Sem α) Q E s:=by
 unfold raiseNew;show Ad_ (wpAny_handled ?_)
 rcases hq with hq|⟨ea,hq,oe,us,he,de,h2⟩
 .rw[hq];show Ad_ (AA_ (wpAny_throw (k _ (λ_ _=>rfl) ⟨o,hx,rfl⟩)))
 .rw[hq];have ne:=hne ea hq
  dsimp only
  rw[if_pos (show(Value.ref ea != Value.ref x)=true by simp[ne])];show Ad_ (Bh_ (runValue_entry jv_ ?_));unfold Builtin.«proto.unchain»
  dsimp only
  show Ad_ (Cs_ he de h2 ?_);rw[if_pos (show(Value.none == Value.none)=true by rfl)];show AA_ ⟨_,rfl,Ad_ (CX_ hx hd sz (wpAny_throw (k _ (λb hb=>A4_ _ _ (Ne.symm hb)) ⟨_,Cj_ _ hx (DE_ (Dk_ hd _)),Obj.cls_mapFields _ _⟩)))⟩
theorem pY_{α:Type}{Q:α->Shared->Prop}(hq:QuA A s.heap)(k:∀g x,(∀b o,s.heap.get? b=some o->g.get? b=some o)->(∃u,g.get? x=some u/\u.cls=.type "StopIteration")->E (.ref x) {s with heap:=g}):
  wpAny (model prog w) A (newExc (.type "StopIteration") [] >>= λe=>(raiseNew e:Sem α)) Q E s:=by
 show Ad_ ?_;simp only[newExc,newTuple];show Ad_ (CR_ ?_ (by size_fits));show Ad_ (m:=firstArgMember _ _) (wpAny_of_eq (a:=Value.none) (by first|rfl|(simp only[firstArgMember];rfl)) ?_);show CR_ ?_ (by size_fits);have kp:∀{o1 o2:Obj}(b:Addr)(o:Obj),s.heap.get? b=some o->((s.heap.push o1).push o2).get? b=some o:=λb o e=>Ah_ _ (Ah_ _ e);show qE_ (hq.imp id λ⟨ea,z,oe,us,he,z2⟩=>⟨ea,z,oe,us,kp ea oe he,z2⟩) (AC_ _ rfl) rfl (by rw[Array.size_append];show AM_ (show 2<6 by decide) (C1_ 6 _)) (λea z=>?_) λg g1 g2=>k g _ (λb o e=>(g1 b ?_).trans (kp b o e)) g2
 .rcases hq with q|⟨ea',q,oe,us,he,_⟩
  .rw[q]at z;cases z
  .rw[q]at z;cases z;show AJ_ (AM_ (Ap_ he) s_)
 .show AJ_ (AM_ (Ap_ e) s_)
theorem QuA.but{h':Heap}{it:Addr}(hq:QuA A h)(hne:∀ea,A.handled=some (.ref ea)->ea≠it)(k:∀b,b≠it->h'.get? b=h.get? b):QuA A h' :=
 hq.imp id λ⟨ea,z,oe,us,he,z2⟩=>⟨ea,z,oe,us,(k ea (hne ea z)).trans he,z2⟩
theorem o6_{it l:Addr}{i:Nat}{items:Array Value}{Q:Option Value->Shared->Prop}(hq:QuA A s.heap)(hne:∀ea,A.handled=some (.ref ea)->ea≠it)(hit:s.heap.IsListIter it l i)(hl:s.heap.IsList l items)(hx:items[i]?=none)
  (k:∀g,Heap.ExtBut it s.heap g->Q none {s with heap:=g}):wpAny (model prog w) A (pyNext (.ref it)) Q E s:=by
 obtain⟨o,ho,hc,hd⟩:=id hit;obtain⟨ol,hol,_,nl,hdl⟩:=hl;unfold pyNext;show Ad_ (Dz_ (EO_ (name:=Str.ofString "__next__") hit.typeIs slot_listiter_next (Cy_ slot_listiter_next hit.typeIs entry_listiter_next ?_ (args_listiter_next _))));change wpAny _ _ (field (.ref it) 0 >>= _) _ _ s;show Ad_ (Cs_ ho hd (x:=.ref l) rfl ?_);change wpAny _ _ (if(Value.ref l == Value.none)=true then _ else _) _ _ s;rw[if_neg s_];change wpAny _ _ (field (.ref it) 1 >>= _) _ _ s;show Ad_ (Cs_ ho hd (x:=.int i 0) rfl ?_);change wpAny _ _ (seqItems? (.ref l) >>= _) _ _ s;show Ad_ (Fc_ hol hdl ?_);simp only[AK_,hx];show Ad_ (CZ_ (Ad_ (CX_ ho hd s_ ?_)));show pY_ (A:=A.in1) (QuA.but (A:=A.in1) hq hne λb hb=>A4_ _ _ (Ne.symm hb)) λg x g1 ⟨u,hu,cu⟩=>?_;show Ad_ (wpAny_isInstance (T := "StopIteration") (b:=true) ⟨u,hu,cu⟩ isSubtype_stop ?_);show AA_ (k g λb o hb e=>g1 b o ((A4_ _ _ (Ne.symm hb)).trans e))
theorem qF_{it t:Addr}{i:Nat}{items:Array Value}{Q:Option Value->Shared->Prop}(hq:QuA A s.heap)(hne:∀ea,A.handled=some (.ref ea)->ea≠it)(hit:IsTupIter s.heap it t i)(ht:IsTup s.heap t items)(hx:items[i]?=none)
  (k:∀g,Heap.ExtBut it s.heap g->Q none {s with heap:=g}):wpAny (model prog w) A (pyNext (.ref it)) Q E s:=by
 obtain⟨o,ho,hc,hd⟩:=id hit;obtain⟨ol,hol,_,nl,hdl⟩:=ht;unfold pyNext;show Ad_ (Dz_ (EO_ (name:=Str.ofString "__next__") hit.typeIs FJ_ (Cy_ FJ_ hit.typeIs entry_tupleiter_next ?_ (args_tupleiter_next _))));change wpAny _ _ (field (.ref it) 0 >>= _) _ _ s;show Ad_ (Cs_ ho hd (x:=.ref t) rfl ?_);change wpAny _ _ (if(Value.ref t == Value.none)=true then _ else _) _ _ s;rw[if_neg s_];change wpAny _ _ (field (.ref it) 1 >>= _) _ _ s;show Ad_ (Cs_ ho hd (x:=.int i 0) rfl ?_);change wpAny _ _ (seqItems? (.ref t) >>= _) _ _ s;show Ad_ (Fc_ hol hdl ?_);simp only[AK_,hx];show Ad_ (CZ_ (Ad_ (CX_ ho hd s_ ?_)));show pY_ (A:=A.in1) (QuA.but (A:=A.in1) hq hne λb hb=>A4_ _ _ (Ne.symm hb)) λg x g1 ⟨u,hu,cu⟩=>?_;show Ad_ (wpAny_isInstance (T := "StopIteration") (b:=true) ⟨u,hu,cu⟩ isSubtype_stop ?_);show AA_ (k g λb o hb e=>g1 b o ((A4_ _ _ (Ne.symm hb)).trans e))
theorem o7_{env:Env}{es:List Expr}{x1:Nat}{pos:Pos}{t:Addr}{items:Array Value}{Q:Unit->Shared->Prop}(hq:QuA A s.heap)(ht:IsTup s.heap t items)(hn:(assignEach es env).length=items.size)(hst:(assignEach es env).findIdx? (·.1)=none)
  (k:∀g,Heap.ExtBut s.heap.objs.size s.heap g->wpAny (model prog w) A (assignInOrder ((assignEach es env).map (·.2)) items.toList) Q E {s with heap:=g}):wpAny (model prog w) A (assign (.Tuple es x1 pos) env (.ref t)) Q E s:=by
 have hlt:t≠s.heap.objs.size:=let⟨_,ho,_⟩:=ht;AJ_ (Ap_ ho);rw[assign_Tuple];show Ad_ (Dy_ ?_);unfold unpack;rw[hn,hst];show Ad_ (Bh_ ?_);unfold unpackItems;show Ad_ ?_;unfold notIterableAtAll;show Ad_ (wpAny_specialOf ht.typeIs slot_tuple_iter.lookup (AA_ ?_));rw[if_neg s_];show Ad_ (Bh_ (iter_tuple ht ?_));show Ad_ (Bh_ (draw_tuple hlt items.size 0 _ _ ⟨_,AC_ _ rfl,rfl,rfl⟩ (ht.push _) o_ λg1 i1 s1=>?_));rw[show List.take items.size (List.drop 0 items.toList)=items.toList by rw[Fg_];show AV_ s_];rw[if_neg s_];have t1:IsTup g1 t items:=(ht.push _).extBut s1.extBut hlt
 have hne:∀ea,A.handled=some (.ref ea)->ea≠s.heap.objs.size:=λea z=>by
  rcases hq with q|⟨ea',q,oe,us,he,_⟩
  .rw[q]at z;cases z
  .rw[q]at z;cases z;show AJ_ (Ap_ he)
 have q1:QuA A g1:=hq.imp id λ⟨ea,z,oe,us,he,z2⟩=>⟨ea,z,oe,us,s1.extBut ea oe (hne ea z) (Ah_ _ he),z2⟩;show Ad_ (Bh_ (qF_ (s:={s with heap:=g1}) q1 hne i1 t1 s_ λg2 e2=>?_));rw[if_neg s_];show AA_ (k g2 λb o hb e=>e2 b o hb (s1.extBut b o hb (Ah_ _ e)))
def Lh_(o:Obj):Prop:=∃vs,o.data=.fields vs/\vs[2]?=some .none
def Qx(X:Cx):Prop:=X.A.handled=none\/∃ea o,X.A.handled=some (.ref ea)/\(ea,o)∈X.pn/\Lh_ o
theorem Qx.qa(h:Qx X)(I:Inv X pins σ H s):QuA X.A s.heap:=h.imp id λ⟨ea,o,h1,h2,vs,h3,h4⟩=>⟨ea,h1,o,vs,(I.pin (ea,o) (Ba_ _ h2)).1,h3,h4⟩
theorem Qx.ne(h:Qx X){it:Addr}(hp:∀p∈X.pn++pins,p.1≠it):∀ea,X.A.handled=some (.ref ea)->ea≠it:=λea z=>by
 rcases h with q|⟨ea',o,q,h2,_⟩
 .rw[q]at z;cases z
 .rw[q]at z;cases z;show hp _ (Ba_ _ h2)
theorem MB_{tg:Expr}(a it:Addr):LO_ Qx P w K tg (Itl K a) [it] it (λi h=>h.IsListIter it a i) where
 obj:=λi h st b hb=>by
  cases Ag_.mp hb;obtain⟨o,e,c,d⟩:=st;show⟨o,e,λv z=>by rw[d]at z;cases z⟩
 keep:=λi h h' st k=>st.at λo e=>k it s_ o e
 item:=by intro X hP hw hK hc i pins s σ H E I hf st ⟨xs,x,hq,hx⟩;subst hP hw hK;obtain⟨its,rv,p,hz⟩:=I.list hq;obtain⟨u,hu,ru⟩:=rv.get hx;obtain⟨f0,f1,f2,f3,f4,f5⟩:=hf it s_;show Dv_ st p.isList (x:=u) (by simpa using hu) λg st' sb=>?_;have I1:Inv X pins σ H {s with heap:=g}:=I.turned (t':=s.toks) (λb o hb e=>(sb.2 b hb).trans e) f0 f1 f3 f4 f5;obtain⟨o,e,c,d⟩:=id st';show⟨u,rfl,JU_ (s:={s with heap:=g}) e c d d_ ⟨x,H,I1,ru,⟨rfl,λys hy=>by rw[I.list_inj hy hq];show hx⟩,st',λb hb=>(hf b hb).1⟩⟩
 done:=by intro X hP hw hK hc i pins s σ H E I hf st ⟨xs,hq,hx⟩;subst hP hw hK;obtain⟨its,rv,p,hz⟩:=I.list hq;obtain⟨f0,f1,f2,f3,f4,f5⟩:=hf it s_;have hl:=rv.length;show o6_ (hc.qa I) (hc.ne f5) st p.isList (by simp;lia) λg eb=>⟨rfl,I.turned (t':=s.toks) (λb o hb e=>eb b o hb e) f0 f1 f3 f4 f5⟩
 self:=λ_ _ _ _ _ st h=>E6_ st h
theorem o8_{tg l:Expr}{tl:TE}(hK:X.K=K)(hl:PE X l tl):PIc Qx X tg l (J7_ K tl):=by subst hK;intro pins s σ H R I h;show thn (hl pins s σ H _ I h) λv s1 ⟨x,H1,I1,r1,q9⟩=>?_;obtain⟨a,e,⟨xs,hq⟩,q⟩:=dn_ q9;subst e;cases r1;obtain⟨its,rv,p,hz⟩:=I1.list hq;show Ek_ p.isList ⟨s1.heap.objs.size,[s1.heap.objs.size],_,_,H1,rfl,I1.kept (t':=s1.toks) λb o e=>Ah_ _ e,MB_ a _,⟨_,AC_ _ rfl,rfl,rfl⟩,λb hb=>?_,q⟩;cases Ag_.mp hb;show I1.fpOk (Af_ _) (I1.hok.fresh (Af_ _))
theorem o9_{N':List Str}{ix:List (Option Nat)}{scope:Scope}{tg iter elt:Expr}{ifs:List Expr}{wi:TI}{g:TG}{tt:TT}{te:TE}{pos:Pos}(hc:Qx X)(hxe:X.xe=λ_ _=>False)(S:Scp X.env.scope X.N N' ix scope)(hi:PIc Qx X tg iter wi)
  (hg:∀s H ex,PG (cxC X N' scope s H ex) tg g) (ht:∀s H ex,PF (cxC X N' scope s H ex) ifs tt) (he:∀s H ex,PE (cxC X N' scope s H ex) elt te) (hs:∀x,foldedSetIterable iter X.env x=pure x:=by intro _;rfl):PE X (.ListComp elt [⟨tg,iter,ifs,0⟩] scope pos) (Jv_ ix wi g tt te):=by
 intro pins s σ H Q I h;rw[eval_ListComp];show Dj_ (use:=none) rfl hs (ge_ λp hp e=>I.ok.has p.1 (S.free p hp e)) S.kind S.names (hl_ (C:=Qx) (λ_ _ _=>hc) hxe S hi hg ht he I h λD C H' s' K1 ⟨g0,g1,g2,g3,g4,g5⟩ ⟨m,hn⟩ q=>⟨m,hn,λh' sb=>?_⟩);show⟨.ref D,H',K1.turned (t':=s'.toks) (λb o hb e=>sb.extBut b o hb e) g0 g1 g3 g4 g5,rfl,q⟩
theorem qG_{es:List Expr}{k:Nat}{t:TGs}{n:Nat}{pos:Pos}(hK:X.K=K)(hc:Qx X)(h:PGs X es t)(hn:(assignEach es X.env).length=n:=by rfl) (hst:(assignEach es X.env).findIdx? (·.1)=none:=by rfl):PG X (.Tuple es k pos) (Me_ K n t):=by subst hK;intro pins s σ H v u Q I r hw0;obtain⟨a,e1,xs,hq,hl,hw⟩:=dn_ hw0;clear hw0;subst e1;cases r;obtain⟨its,rv,ht,hz⟩:=I.tuple hq;show o7_ (hc.qa I) ht (by simp[hn,<-hl,rv.length]) hst λg hx=>?_;have I1:Inv X pins σ H {s with heap:=g}:=I.kept (t':=s.toks) λb o e=>hx b o (AJ_ (Ap_ e)) e;show h pins _ σ H xs _ Q I1 (by simpa using rv) hw
def QuP(A:Around)(outer:List Env)(s:Shared)(H:Hp)(pn:List (Addr×Obj)):Prop:=(A.handled=none/\pn=[])\/∃ea o,A.handled=some (.ref ea)/\pn=[(ea,o)]/\Lh_ o/\s.heap.get? ea=some o/\H ea=none/\ea∉frs outer
structure K6_(P:Program)(w:World)(K:PySem.W.Frag)(mg:Str->Option Value)(base:Heap)(k:Nat)(f:Addr)(fd:FuncData)(ps:List Str)(sp:Sp):Prop where
 len:∀vs H Q E,sp vs H Q E->vs.length=ps.length
 run:∀(A:Around)(outer:List Env)(s:Shared)(H:Hp)(args:Args)(us:List Value)(vs:List V)(Q:VK)(E:XK)(pn:List (Addr×Obj)),Hx_ k (calmed A)->QuP A outer s H pn->LQ_ P w K mg base A outer s H->BindsTo s fd args (ps.zip us)->Gn_ vs us->sp vs H Q E ->
  codeAny (model P w) A (.call (.ref f) args) (CR CX0 outer P w H s Q E) s
abbrev IF_(P:Program)(w:World)(K:PySem.W.Frag)(mg:Str->Option Value)(base:Heap)(N:List Str)(qual:Str)(scope:Scope)(f:Addr)(cd:Value)(A:Around)(outer:List Env)(s:Shared)(H:Hp)(E:XK)(pn:List (Addr×Obj)):Cx :=
 {ID_ CX0 P w K mg base N qual scope f cd A outer s H E with calm:=false,xe:=λ_ _=>False,pn:=pn}
theorem rH_{P:Program}{w:World}{K:PySem.W.Frag}{mg:Str->Option Value}{base:Heap}{k:Nat}{f:Addr}{name qual:Str}{params:Arguments}{body:List Stmt}{scope:Scope}{dV kV doc pm cdv ct oc:Value}{an od:Option Addr}
  {osl:Array (Option Value)} {N ps:List Str} {sp:Sp} (lk:K.lookup f=some ⟨oc,od,.func (PySem.W.fnOf name qual params body scope dV kV doc pm an cdv ct),osl⟩) (hcd:PySem.W.codeIn K cdv qual=true) (S:F8_ N ps scope)
  (len:∀vs H Q E,sp vs H Q E->vs.length=ps.length)
  (hbody:∀(A:Around)(outer:List Env)(s:Shared)(H:Hp)(vs:List V)(Q:VK)(E:XK)(pn:List (Addr×Obj)),Qx (IF_ P w K mg base N qual scope f cdv A outer s H E pn)->Hx_ k (calmed (A.deeper (envOfC qual scope s.heap.objs.size f cdv)))->sp vs H Q E ->
   ∃t,PSs (IF_ P w K mg base N qual scope f cdv A outer s H E pn) body t/\t {nx:=λ_ H'=>Q .non H',rt:=Q} (start N vs) H):
  K6_ P w K mg base (k+1) f (PySem.W.fnOf name qual params body scope dV kV doc pm an cdv ct) ps sp:=by
 show⟨len,λA outer s H args us vs Q E pn hr qp e0 hb r hsp=>?_⟩;have hl:=len _ _ _ _ hsp;have KX:K.In s.heap:=e0.mod.kin.keeps λb o e=>(e0.bs b o e).1;have lim:s.heap.NoLimit:=e0.mod.nolimit.keeps λb o e=>(e0.bs b o e).1
 have hkind:∀y∈ps.zip us,scope.names.lookup y.1=some .local\/(scope.names.lookup y.1=some .cell/\((cellsFrom (s.heap.objs.size+1) scope.names []).lookup y.1).isSome=true):=λ⟨n,v⟩ hy=>by
  rcases S.par n (DJ_ hy).1 with q|q
  .show .inl q
  .show .inr ⟨q,Dw_ _ _ _ (.inl q)⟩
 show E8_ hr.depth (KX _ _ lk) rfl S.co S.gen rfl (PySem.W.codeRec_of KX hcd) (hb _ _ _ _ ?_);show Ee_ S.kind hkind λenv he s1 x=>?_;subst he;show⟨lim.keeps x.toInCall.keep,codeAny_func ?_⟩;have qx:Qx (IF_ P w K mg base N qual scope f cdv A outer s H E pn):=qp.imp (λz=>z.1) λ⟨ea,o,z1,z2,z3,_⟩=>⟨ea,o,z1,by rw[z2];show Ag_.mpr rfl,z3⟩;obtain⟨t,ht,hq⟩:=hbody A outer s H vs Q E pn qx (hr.deeper _) hsp;have I0:Inv (ID_ CX0 P w K mg base N qual scope f cdv (calmed A) outer s H E) [] (start N vs) H s1:=jY_ S rfl ⟨e0.frames,e0.mod,e0.bs,e0.bsz,e0.funs,e0.frf,e0.hok,e0.bare⟩ hl r x
 have I:Inv (IF_ P w K mg base N qual scope f cdv A outer s H E pn) [] (start N vs) H s1 :=
  ⟨⟨I0.ok.mod,I0.ok.kind,I0.ok.glob,I0.ok.blt,I0.ok.above,I0.ok.inj,I0.ok.has,I0.ok.cab,(λz=>nomatch z),I0.ok.frames,I0.ok.stk,I0.ok.exf,I0.ok.bs,I0.ok.bsz,I0.ok.noex,I0.ok.exfs,I0.ok.funs,I0.ok.frf⟩,I0.os,I0.bare,I0.base,I0.loc,I0.cell,I0.free,I0.freeC,λp hp=>by
   have hp':p∈pn:=(At_.mp hp).elim id λz=>nomatch z
   rcases qp with⟨_,e⟩|⟨ea,o,z1,z2,⟨vs',z3,_⟩,z4,z5,z6⟩
   .rw[e]at hp';cases hp'
   .rw[z2]at hp';cases Ag_.mp hp';show⟨x.toInCall.keep _ _ z4,z5,AJ_ (Ap_ z4),z6,λv q=>by rw[z3]at q;cases q⟩,I0.hok,I0.len⟩
 show Bg_ (ht [] s1 (start N vs) H _ I hq) (λfl s' hs=>?_) λe s' hs=>hs.elim;have fin:∀{σ':St}{H':Hp}{v:V}{u:Value},Inv (IF_ P w K mg base N qual scope f cdv A outer s H E pn) [] σ' H' s'->Gu_ v u->Q v H'->CE outer P w H s Q u s':=λ{σ' H' v u} J rv q=>⟨v,H',J.os,J.bare,J.base,J.hok,rv,q⟩;cases fl with
 |ret u =>
  obtain⟨v,σ',H',J,rv,q⟩:=hs;show fin J rv q
 |next =>
  obtain⟨σ',H',J,q⟩:=hs;show fin (v:=V.non) (u:=Value.none) J rfl q
 |brk =>
  obtain⟨_,_,_,q⟩:=hs;show False.elim q
 |cont =>obtain⟨_,_,_,q⟩:=hs;show False.elim q
def Ml_(P:Program)(w:World)(K:PySem.W.Frag)(mg:Str->Option Value)(base:Heap)(x:Str)(ps:List Str)(k:Nat)(sp:Sp):Prop :=
 ∃f fd,mg x=some (.ref f)/\PySem.W.keepIn K (.ref f)=true/\Is_ K fd ps []/\K6_ P w K mg base k f fd ps sp
theorem Cal.of_Q{mg:Str->Option Value}{base:Heap}{x:Str}{ps:List Str}{k:Nat}{sp:Sp}(C:Ml_ P w K mg base x ps k sp):Cal P w K mg base x ps k sp:=by obtain⟨f,fd,m,kp,b,F⟩:=C;show⟨f,fd,m,kp,b,F.len,λA outer s H args us vs Q E hr=>F.run A outer s H args us vs Q E [] ⟨rfl,hr.dp,hr.un⟩ (.inl ⟨hr.hd,rfl⟩)⟩
theorem qH_{P:Program}{w:World}{K:PySem.W.Frag}{mg:Str->Option Value}{base:Heap}{x:Str}{st:Stmt}{N ps:List Str}{k:Nat}{sp:Sp}(F:Fn0 K mg x st)(S:F8_ N ps (F1_ st))
  (hb:∀(kV doc pm:Value)(an:Option Addr)(cdv ct:Value)(us:List Value),us.length=ps.length->bindArgs (PySem.W.fnOf x x (Hj_ st) (GL_ st) (F1_ st) .none kV doc pm an cdv ct) ⟨us,[]⟩=pure (ps.zip us))
  (len:∀vs H Q E,sp vs H Q E->vs.length=ps.length)
  (hbody:∀(f:Addr)(cdv:Value)(A:Around)(outer:List Env)(s:Shared)(H:Hp)(vs:List V)(Q:VK)(E:XK)(pn:List (Addr×Obj)),Qx (IF_ P w K mg base N x (F1_ st) f cdv A outer s H E pn)->Hx_ k (calmed (A.deeper (envOfC x (F1_ st) s.heap.objs.size f cdv)))->sp vs H Q E ->
   ∃t,PSs (IF_ P w K mg base N x (F1_ st) f cdv A outer s H E pn) (GL_ st) t/\t {nx:=λ_ H'=>Q .non H',rt:=Q} (start N vs) H):Ml_ P w K mg base x ps (k+1) sp:=by
 obtain⟨f,fd,F,m⟩:=F;show⟨f,fd,m,F.kp,F.binds hb,?_⟩;obtain⟨oc,od,kV,doc,pm,an,cdv,ct,osl,rfl,lk,hcd⟩:=F.ex;show rH_ lk hcd S len λA outer s H vs Q E pn hq hr hsp=>hbody f cdv A outer s H vs Q E pn hq hr hsp
end L2
namespace RimT
variable {S:Type}[DecidableEq S]
def Ja_(N:Net S)(x:S):List (End S):=((occ N.rows).filter λy=>decide (y.1=x)).map (·.2)
theorem n0_{N:Net S}{x:S}{e:End S}:e∈Ja_ N x↔(x,e)∈occ N.rows:=by
 unfold Ja_;constructor
 .intro h;obtain⟨y,hy,rfl⟩:=Ay_.mp h;obtain⟨h1,h2⟩:=Bc_.mp hy;have:y.1=x:=by simpa using h2
  rw[<-this];show h1
 .intro h;show Ay_.mpr ⟨(x,e),Bc_.mpr ⟨h,s_⟩,rfl⟩
theorem mf_{N:Net S}{kv:S×List (End S)}(h:kv∈GP_ N):kv.2=Ja_ N kv.1:=(bj_ _ _ rfl).2.1 kv h
theorem pa_{N:Net S}{x:S}(h:x∈N.all):∃kv∈GP_ N,kv.1=x:=by
 have:x∈(occ N.rows).map (·.1):=by rw[gk_];show h
 obtain⟨y,hy,e⟩:=Ay_.mp this;rw[<-e];show(bj_ _ _ rfl).2.2.1 y hy
end RimT
namespace L2
open PySem PySem.Spec PyProof.Rows PySem.W
def noD(D:Addr)(H:Hp):Hp:=λb=>if b=D then none else H b
variable{H:Hp}
theorem rI_{D b:Addr}(h:b≠D):noD D H b=H b:=if_neg h
theorem lg_{D:Addr}{o:HO}:noD D (upd H D o)=noD D H:=by
 funext b;unfold noD;by_cases h:b=D
 .rw[if_pos h,if_pos h]
 .rw[if_neg h,if_neg h,ae_ h]
theorem rJ_{D:Addr}{H':Hp}(s:F0_ H H')(h:H D=none):F0_ H (noD D H'):=λb o e=>by rw[rI_ (ah_ e h)];show s _ _ e
theorem noD_same{D:Addr}{H':Hp}(s:F0_ H H'):F0_ (noD D H) (noD D H'):=λb o e=>by
 unfold noD at e⊢;by_cases h:b=D
 .rw[if_pos h]at e;cases e
 .rw[if_neg h]at e⊢;show s _ _ e
theorem ks_{J:It}{g:TG}{tt:TT}{te:TE}{σ:St}{H:Hp}{Q:VK}(n:Nat)(Pσ:St->Prop)(Pv:Nat->List V->Hp->Prop)(h0:Pσ σ)(hz:n<=1000)(p0:Pv 0 [] H)(mono:∀i vs H1 H2,F0_ H1 H2->Pv i vs H1->Pv i vs H2)(len:∀i vs H1,Pv i vs H1->vs.length<=i)
  (hgo:∀i H',i<n->F0_ H H'->J.go i H') (hst:∀H',F0_ H H'->J.stop n H')
  (hs:∀D i x σ' H' H'' vs,H D=none->(∃o,H' D=some o)->F0_ H H'->i<n->J.yld i H' x H''->Pσ σ'->Pv i vs (noD D H')->∀(Y:St->V->Hp->Prop)(R:St->Hp->Prop),(∀v σ2 H3,Pσ σ2->F0_ H' H3->Pv (i+1) (vs++[v]) (noD D H3)->Y σ2 v H3)->(∀σ2 H3,Pσ σ2->F0_ H' H3->Pv (i+1) vs (noD D H3)->R σ2 H3) ->
   g x σ' H'' λσ2 H2=>tt σ2 H2 λb H3=>if b=true then te σ2 H3 λv H4=>Y σ2 v H4 else R σ2 H3)
  (hd:∀D H' vs,H D=none->F0_ H H'->H' D=some (.lst vs)->Pv n vs (noD D H')->Q (.ref D) H'):Ik_ J g tt te σ H Q:=by
 intro D hD;show⟨λi m σ' H'=>m=n-i/\i<=n/\Pσ σ'/\F0_ H H'/\∃vs,H' D=some (.lst vs)/\Pv i vs (noD D H'),⟨n,s_,Av_ _,h0,F0_.new hD,[],aa_,mono _ _ _ _ (by rw[lg_];show rJ_ (λ_ _ e=>e) hD) p0⟩,?_⟩;rintro i m σ' H' ⟨rfl,hi,hp,hs',vs,hDD,pv⟩;by_cases hlt:i<n
 .show .inr ⟨hgo i H' hlt hs',λσ2 H2=>Pσ σ2/\F0_ H H2/\∃vs,H2 D=some (.lst vs)/\Pv (i+1) vs (noD D H2),λσ2 H2 ⟨a,b,c⟩=>⟨n-(i+1),o_,rfl,hlt,a,b,c⟩,λx H'' hy=>?_⟩;show hs D i x σ' H' H'' vs hD ⟨_,hDD⟩ hs' hlt hy hp pv _ _ (λv σ2 H3 hp2 s3 pv3=>?_) λσ2 H3 hp2 s3 pv3=>?_
  .show⟨_,s3 _ _ hDD,?_,hp2,(hs'.trans s3).upd hD,_,aa_,by rw[lg_];show pv3⟩;have:=len _ _ _ pv;show F3_ o_
  .show⟨hp2,hs'.trans s3,vs,s3 _ _ hDD,pv3⟩
 .have e:i=n:=o_
  subst e;show .inl ⟨hst H' hs',hd D H' vs hD hs' hDD pv⟩
def uniq:List Str->List Str->List Str
 |acc,[]=>acc
 |acc,x::xs=>uniq (if x∈acc then acc else acc++[x]) xs
theorem fL_{z:Str}:∀{xs acc:List Str},z∈uniq acc xs↔z∈acc\/z∈xs
 |[],acc=>by simp[uniq]
 |x::xs,acc=>by
  rw[uniq,fL_ (xs:=xs),Aq_];by_cases h:x∈acc
  .rw[if_pos h];constructor
   .rintro(h|h)
    .show .inl h
    .show .inr (.inr h)
   .rintro(h1|rfl|h1)
    .show .inl h1
    .show .inl h
    .show .inr h1
  .rw[if_neg h,At_,Ag_,or_assoc]
theorem n1_:∀{xs acc:List Str},acc.Nodup->(uniq acc xs).Nodup
 |[],_,h=>h
 |x::xs,acc,h=>by
  rw[uniq];show n1_ ?_;by_cases e:x∈acc
  .rwa[if_pos e]
  .rw[if_neg e];show Be_.mpr ⟨h,s_,λa ha b hb c=>e (Ag_.mp hb▸c▸ha)⟩
theorem mg_:∀{xs acc:List Str},(uniq acc xs).length<=acc.length+xs.length
 |[],_=>Af_ _
 |x::xs,acc=>by
  rw[uniq];show Au_ (mg_ (xs:=xs)) ?_;by_cases e:x∈acc
  .rw[if_pos e,A0_];lia
  .rw[if_neg e,Ak_];simp only[A0_,DP_];lia
def labels(A:Pt):List Str:=uniq [] (A.map (·.2))
theorem hL_(A:Pt):(labels A).Nodup:=n1_ Bn_
def GK_(posts:List Str)(A:Pt)(l:Str):List Nat:=(List.range posts.length).filter λi=>decide (look A (posts.getD i Str.empty)=l)
def G3_(posts:List Str)(A:Pt):List (List Nat):=((labels A).filter λl=>decide ((GK_ posts A l).length≠1)).map (GK_ posts A)
def JP(posts:List Str)(A:Pt):Option (List Nat):=match G3_ posts A with
 |[]=>some []
 |[u]=>if u.length=2 then some u else none
 |_=>none
variable{posts:List Str}{A:Pt}
theorem pZ_:JP posts A=some []↔G3_ posts A=[]:=by
 unfold JP;split
 .rename_i h;show⟨λ_=>h,λ_=>rfl⟩
 .rename_i u h;constructor
  .intro k;split at k
   .rename_i z;rw[Ar_ k]at z;cases z
   .cases k
  .intro k;rw[h]at k;cases k
 .rename_i h1 h2;show⟨nofun,λk=>absurd k h1⟩
theorem p0_{u:List Nat}(hu:u.length=2):JP posts A=some u↔G3_ posts A=[u]:=by
 unfold JP;split
 .rename_i h;constructor
  .intro k;rw[<-Ar_ k]at hu;cases hu
  .intro k;rw[h]at k;cases k
 .rename_i v h;rw[h];constructor
  .intro k;split at k
   .rw[Ar_ k]
   .cases k
  .intro k;obtain rfl:=C9_ k |>.1;rw[if_pos hu]
 .rename_i h1 h2;show⟨nofun,λk=>absurd k (h2 _)⟩
theorem LZ_(h:G3_ posts A≠[])(k:∀u,G3_ posts A=[u]->u.length≠2):JP posts A=none:=by
 unfold JP;split
 .rename_i e;show absurd e h
 .rename_i u e;rw[if_neg (k u e)]
 .rfl
theorem eo_{l:Str}{i:Nat}:i∈GK_ posts A l↔i<posts.length/\look A (posts.getD i Str.empty)=l:=by unfold GK_;rw[Bc_,AX_,Bl_]
theorem n2_(posts:List Str)(A:Pt)(l:Str):(GK_ posts A l).Pairwise (· < ·):=List.pairwise_lt_range.filter _
theorem iI_{p:Str}(h:p∈A.map (·.1)):look A p∈A.map (·.2):=by
 unfold look;cases e:A.find? λq=>decide (q.1=p)with
 |none =>
  obtain⟨q,hq,rfl⟩:=Ay_.mp h;have:=Do_.mp e q hq;simp at this
 |some q=>show B9_ (Cq_ e)
def GX_(posts:List Str)(A:Pt)(l:Str):List Str:=posts.filter λp=>decide (look A p=l)
theorem kt_{p:Str->Bool}:∀(posts:List Str),posts.filter p=((List.range posts.length).filter λi=>p (posts.getD i Str.empty)).map λi=>posts.getD i Str.empty:=by
 intro posts
 induction h:posts.length generalizing posts with
 |zero=>rw[AB_ h];rfl
 |succ n ih =>
  obtain⟨us,w,rfl⟩:∃us w,posts=us++[w]:=have ne:posts≠[]:=(by intro e;rw[e]at h;cases h);⟨posts.dropLast,posts.getLast ne,(Bf_ ne).symm⟩;have hl:us.length=n:=by simpa using h
  have e1:∀k,k<n->(us++[w]).getD k Str.empty=us.getD k Str.empty:=λk hk=>by rw[Ac_,Ac_,AH_ o_]
  have e2:(us++[w]).getD n Str.empty=w:=by rw[<-hl,Ac_];simp
  rw[BA_,A5_,A5_,As_,ih us hl];congr 1
  .rw[Du_ (q:=λi=>p ((us++[w]).getD i Str.empty)) λk hk=>by rw[e1 k (AX_.mp hk)]];show BV_ λk hk=>(e1 k (AX_.mp (Bc_.mp hk).1)).symm
  .rw[Bo_,CN_,Bo_,CN_,e2];split
   .rw[BG_,e2]
   .rfl
theorem ep_(posts:List Str)(A:Pt)(l:Str):GX_ posts A l=(GK_ posts A l).map λi=>posts.getD i Str.empty:=kt_ posts
theorem jw_{α β:Type}{f:α->β}{l:List α}{u:β}(h:l.map f=[u]):∃m,l=[m]/\f m=u:=by
 cases l with
 |nil=>cases h
 |cons m t =>obtain⟨h1,h2⟩:=C9_ h;rw[Dd_.mp h2];show⟨m,rfl,h1⟩
variable{M:List Str}
theorem p1_(hM:∀l,l∈M↔GK_ posts A l≠[])(hp:∀p∈posts,p∈A.map (·.1)):∀l∈M,l∈labels A:=λl hl=>by obtain⟨i,hi⟩:=Eu_ _ ((hM l).mp hl);obtain⟨h1,h2⟩:=eo_.mp hi;unfold labels;rw[fL_,<-h2];show .inr (iI_ (hp _ ?_));rw[Ac_,Ab_ h1];show BJ_ h1
theorem gF_(hM:∀l,l∈M↔GK_ posts A l≠[])(hp:∀p∈posts,p∈A.map (·.1)):JP posts A=some []↔(∀l∈labels A,l∈M)/\(M.filter λl=>decide (1<(GX_ posts A l).length))=[]:=by
 have e:∀l,(GX_ posts A l).length=(GK_ posts A l).length:=λl=>by rw[ep_,Aa_]
 rw[pZ_];unfold G3_;rw[Dd_,nZ_ (M:=M) hM (p1_ hM hp)];simp only[e]
theorem GQ_(nd:posts.Nodup){i j:Nat}(hi:i<posts.length)(hj:j<posts.length)(h:posts.getD i Str.empty=posts.getD j Str.empty):i=j:=by rw[Ac_,Ac_,Ab_ hi,Ab_ hj]at h;show(CY_ nd).mp h
theorem hM_(ndM:M.Nodup)(hM:∀l,l∈M↔GK_ posts A l≠[])(nd:posts.Nodup)(hp:∀p∈posts,p∈A.map (·.1)){i j:Nat}(hij:i<j)(hj:j<posts.length):JP posts A=some [i,j]↔(∀l∈labels A,l∈M)/\(M.filter λl=>decide (1<(GX_ posts A l).length)).map (GX_ posts A)=[[posts.getD i Str.empty,posts.getD j Str.empty]]:=by
 have e:∀l,(GX_ posts A l).length=(GK_ posts A l).length:=λl=>by rw[ep_,Aa_]
 rw[p0_ rfl];unfold G3_;rw[o5_ (M:=M) (hL_ A) ndM hM (p1_ hM hp) rfl];show and_congr Iff.rfl ?_;simp only[e];generalize M.filter _=ms;constructor
 .intro h;obtain⟨m,rfl,h1⟩:=jw_ h;rw[BG_,ep_,h1];rfl
 .intro h;obtain⟨m,rfl,h1⟩:=jw_ h;rw[ep_]at h1;rw[BG_];have lt:∀k∈GK_ posts A m,k<posts.length:=λk hk=>(eo_.mp hk).1;generalize GK_ posts A m=ns at*
  obtain⟨x,y,rfl⟩:∃x y,ns=[x,y]:=by
   have:=congrArg List.length h1;rw[Aa_]at this;cases ns with
  |nil=>cases this
  |cons x t=>cases t with
   |nil=>cases this
   |cons y t=>cases t with
    |nil=>show⟨x,y,rfl⟩
    |cons z t=>simp at this
  obtain⟨e1,h2⟩:=C9_ h1;obtain⟨e2,_⟩:=C9_ h2;rw[GQ_ nd (lt x s_) o_ e1,GQ_ nd (lt y s_) hj e2]
def KL_:List V->Hp->VK->Prop:=λvs H Q=>∃(d:Addr)(kvs:List (Key×V))(ns:List Str),vs=[.ref d]/\H d=some (.dK kvs)/\kvs.map (λq=>q.1)=ns.map (λn=>(Sum.inr n:Key))/\ns.length<900 /\
 ∀l,H l=none->Q (.ref l) (upd H l (.lst (ns.map V.str)))
theorem lh_{X:Cx}(hc:X.calm=true):GM_ X (.type "list") KL_:=by
 intro pins s σ H xs us Q I r h;obtain⟨d,kvs,ns,rfl,hd,hk,h64,q⟩:=h;obtain⟨u,rfl,e⟩:=Hk_ r;cases e;obtain⟨hsz,hsys,vs,rel,dd⟩:=Jg_ I.hok hd;obtain⟨m,hn,F0⟩:=I.frm;obtain⟨ep,hat⟩:=dd.dictAt;have hl:kvs.length=vs.length:=rel.length;have hl2:kvs.length=ns.length:=by simpa using congrArg List.length hk
 show kdl_N (kdl_dict (knd:=Gc_ X.prog X.w) (kvs:=vs) (ep:=ep) hsys) (I.ok.hd hc) F0 bR_ hat o_ ?_;intro D c h' tk us F N l1 hlu hv
 have hS:StrsAre us ns:=fa_ o_ λj v n ev en=>by
  obtain⟨k,x,ekx,kis⟩:=hv j v ev;have hj:j<ns.length:=(Ai_.mp en).1;obtain⟨e1,_⟩:=b6_ rel (Ab_ (show j<kvs.length by lia)) ekx;have e2:(kvs.map (λq=>q.1))[j]?=(ns.map (λn=>(Sum.inr n:Key)))[j]?:=by rw[hk]
  rw[Ae_,Ae_,en,Ab_ (show j<kvs.length by lia)]at e2;have e3:k=Sum.inr n:=e1.symm.trans (Ar_ e2);subst e3;have kis':In_ (Sum.inr n) v=true:=kis
  rcases aL_ kis' with⟨i,t,ek,ev⟩|⟨y,t,ek,ev⟩
  .cases ek
  .cases ek;show⟨t,ev⟩
 have hD:=(N (D,_) Al_).1;obtain⟨HD,I2⟩:=I.led_new (t':=tk) (o:=.lst (ns.map V.str)) hn F N l1 ⟨A6_ (F3_ (by rw[Aa_];lia)),us,c,c8_ hS,hD⟩;show⟨.ref D,_,I2,rfl,q D HD⟩
def LE_(X:Cx)(body:List Stmt)(h₀:ExceptHandler)(hs:List ExceptHandler)(t:TS):Prop:=∀(pins:List (Addr×Obj))(s:Shared)(σ:St)(H:Hp)(D:If_),Inv X pins σ H s->t D σ H->wpAny (model X.prog X.w) X.A (execs body X.env) (λ_ _=>False)
 (λe s₁=>wpAny (model X.prog X.w) X.A (noteFrame e X.env) (λ_ s₂=>wpAny (model X.prog X.w) X.A (setFlight e none) (λ_ s₃=>wpAny (model X.prog X.w) X.A (handleBy e X.env (h₀::hs)) (SP X pins D) X.xe s₃) X.xe s₂) X.xe s₁) s
theorem qI_{X:Cx}{body:List Stmt}{h₀:ExceptHandler}{hs:List ExceptHandler}{t:TS}{pos:Pos}(h:LE_ X body h₀ hs t):PS X (.Try body (h₀::hs) [] [] pos) t:=λpins s σ H D I q =>wpAny_Try_except (Bg_ (h pins s σ H D I q) (λ_ _ z=>z.elim) λ_ _ z=>z)
theorem ME_{X:Cx}{c:Expr}{a more:List Stmt}{h₀:ExceptHandler}{hs:List ExceptHandler}{tc:TT}{t u:TS}{pos:Pos}(hc:PT X.nox c tc)(ha:LE_ X a h₀ hs t)(hb:LE_ X more h₀ hs u):LE_ X (.If c a [] pos::more) h₀ hs (Mk_ tc t u):=by
 intro pins s σ H D I h;show DA_ (wpAny_If (Bg_ (hc pins s σ H _ (I.wish _) h) (λd s1 ⟨H1,I1,q1⟩=>?_) λ_ _ z=>z.elim));cases d with
 |true=>show Bg_ (ha pins s1 σ H1 D I1.unwish q1) (λ_ _ z=>z.elim) λ_ _ z=>z
 |false=>show CH_ (hb pins s1 σ H1 D I1.unwish q1)
theorem p2_{X:Cx}{x y n:Str}{ps:List Str}{k i:Nat}{sp:Sp}{e₀:Expr}{es es':List Expr}{ta:TA}{more suite:List Stmt}{b₀:Stmt}{ts:TS}{kt:Nat}{p cpos tpos epos np hpos:Pos}{Py:Addr}
  (C:JI_ X.prog X.w X.K X.mg X.base x ps k sp) (hr:Hx_ k X.A) (hg:Gl X x) (hst:X.stack=X.env::X.outer) (hfr:X.env.frame=some X.env.locals) (hy:X.mg y=some (.ref Py)) (HC:HnC X.K Py) (hgy:Gl X y)
  (hN:X.N.Nodup) (hi:X.N[i]?=some n) (hn:X.env.scope.names.lookup n=some .local) (ha:∀EE,PA (X.wish EE) (e₀::es) ta) (hs:∀e,PSs (X.suite e) (b₀::suite) ts)
  (hdb:(x == ("__debug__" : Str))=false:=by decide) (hdy:(y == ("__debug__" : Str))=false:=by decide)
  (he:starEach (e₀::es) X.env=(false,eval e₀ X.env)::starEach es X.env:=by rfl) (hpl:(backTo cpos (starEach es X.env)).any (·.1)=false:=by rfl)
  (ht:starEach (.Call (.Name x p) (e₀::es) [] cpos::es') X.env=(false,eval (.Call (.Name x p) (e₀::es) [] cpos) X.env)::starEach es' X.env:=by rfl):
  LE_ X (.Return (some (.Tuple (.Call (.Name x p) (e₀::es) [] cpos::es') kt tpos)) epos::more) (.ExceptHandler (some (.Name y np)) (some n) (b₀::suite) hpos) [] (MS_ X.K Py sp ta i ts):=by
 intro pins s σ H D I h;show DA_ (wpAny_Return_some (FB_ ?_));rw[ht];change wpAny _ _ (spliced ((false,eval (.Call (.Name x p) (e₀::es) [] cpos) X.env)::backTo tpos (starEach es' X.env))) _ _ s;show CJ_ (mD_ C hr hg (ha _) I h ?_ hdb he hpl);intro H1 s1 e s' I1 hq
 .obtain⟨ea,C0,a0,B,H',rfl,os,bare,un,hok,fl,new,b1,b2,C,rfl,hsub,hts⟩:=hq;have fl':Fly B (X.env::X.outer) ea (.ref C) a0 s'.heap:=hst▸fl
  have hn':H' ea=none:=by
   cases z:H' ea with
   |none=>rfl
   |some o =>obtain⟨u,hu⟩:=b2 ea o z;rw[fl.2.1]at hu;cases hu
  show j8_ (L:=X.env.locals) (by rw[I.ok.frames,hst]) hfr fl' λh₄ hd₄ sm₄=>?_;show fA_ hd₄ λh₅ fl₅ sm₅=>?_;obtain⟨un5,ok5⟩:=gY_ un hok fl.1 fl₅.1 fl.2.2.1 (sm₄.trans sm₅) b1 b2;have I5:Inv X pins σ H' {s' with heap:=h₅}:=I1.call' (s':={s' with heap:=h₅}) os un5 ok5 bare (λb z=>nomatch z);show wpAny_handleBy_cons (codeAny_handlers_test ?_) (by intro q;cases q);show hb_ (X:=X.suite (.ref ea)) (I5.suite _) hgy hy ?_ hdy;show k0_ (K:=X.K) I5.kIn HC hsub fl₅.there ?_;show codeAny_handlers_suite_as ?_;show fA_ fl₅ λh₆ fl₆ sm₆=>?_;obtain⟨un6,ok6⟩:=gY_ un hok fl.1 fl₆.1 fl.2.2.1 ((sm₄.trans sm₅).trans sm₆) b1 b2;obtain⟨un7,ok7⟩:=rt_ un6 ok6 new hn' fl₆.there;have I7:Inv X pins σ (upd H' ea (exO (.ref C) ea)) {s' with heap:=h₆}:=I1.call' (s':={s' with heap:=h₆}) os un7 ok7 bare (λb z=>nomatch z);show fu_ (X:=X.suite (.ref ea)) (I7.suite _) hN hi (.inl hn) (v:=.ref ea) rfl (λs₈ I8=>?_) (.inr hn);show Bg_ (hs (.ref ea) pins s₈ _ _ (D.unb i) I8 (hts ea hn')) (λfw s₉ q=>?_) λ_ _ z=>z.elim;change wpAny _ _ (do bindName X.env n .none;unbindBehindTheSuite X.env n hpos) _ _ s₉;cases fw with
  |next=>obtain⟨σ',H9,J,d⟩:=q;show jc_ (J.unsuite I.ok) hN hi hn λs' J'=>⟨_,_,J',d⟩
  |brk=>obtain⟨σ',H9,J,d⟩:=q;show jc_ (J.unsuite I.ok) hN hi hn λs' J'=>⟨_,_,J',d⟩
  |cont=>obtain⟨σ',H9,J,d⟩:=q;show jc_ (J.unsuite I.ok) hN hi hn λs' J'=>⟨_,_,J',d⟩
  |ret u=>obtain⟨v,σ',H9,J,rv,d⟩:=q;show jc_ (J.unsuite I.ok) hN hi hn λs' J'=>⟨v,_,_,J',rv,d⟩
end L2
namespace Rim23
open PySem PySem.Spec PyProof.Rows L2 RimM
variable{p:List Value->Prop}
theorem byL1(h:∀a,p [a])(us:List Value)(e:us.length=1):p us:=by obtain⟨a,rfl⟩:=BM_.mp e;show h a
theorem byLc{n:Nat}(h:∀a,∀us:List Value,us.length=n->p (a::us))(us:List Value)(e:us.length=n+1):p us:=by
 cases us with
 |nil=>cases e
 |cons a us=>show h a us (Nat.succ.inj e)
theorem byL2(h:∀a b,p [a,b]):∀us:List Value,us.length=2->p us:=byLc λa=>byL1 (h a)
theorem byL3(h:∀a b c,p [a,b,c]):∀us:List Value,us.length=3->p us:=byLc λa=>byL2 (h a)
theorem byL4(h:∀a b c d,p [a,b,c,d]):∀us:List Value,us.length=4->p us:=byLc λa=>byL3 (h a)
def LF_(k:Nat)(σ:L2.St):Nat:=match σ.getD k none with
 |some (.int y)=>y.toNat
 |_=>0
theorem mO_:H6_ "int"=True:=eq_true (.inl rfl)
theorem li_:H6_ "bool"=True:=eq_true (.inr (.inl rfl))
theorem ku_:H6_ "tuple"=True:=eq_true (.inr (.inr (.inl rfl)))
theorem lj_:H6_ "list"=True:=eq_true (.inr (.inr (.inr (.inl rfl))))
theorem mP_:H6_ "str"=True:=eq_true (.inr (.inr (.inr (.inr rfl))))
theorem mh_{x y:Int}(hx:0<=x)(hy:0<y):Int.gcd y (x%y)=Int.gcd x y:=by obtain⟨m,rfl⟩:=CE_ hx;obtain⟨n,rfl⟩:=CE_ (Bt_ hy);change Int.gcd (n:Int) ((m:Int)%(n:Int))=Int.gcd (m:Int) (n:Int);rw[<-EJ_,EP_,EP_,Nat.gcd_comm n,<-Nat.gcd_rec,Nat.gcd_comm]
variable{v:V}
theorem L2_{Q:V->Prop}:onV (some (some v)) Q=Q v:=rfl
theorem LS_{i:Int}{Q:Int->Prop}:onI (.int i) Q=Q i:=rfl
theorem L4_{i:Bool}{Q:Bool->Prop}:onB (.bl i) Q=Q i:=rfl
theorem LY_{i:Addr}{Q:Addr->Prop}:onR (.ref i) Q=Q i:=rfl
theorem L1_{x:V}{Q:V->Prop}:on1 [x] Q=Q x:=rfl
theorem LT_{x y:V}{Q:V->V->Prop}:on2 [x,y] Q=Q x y:=rfl
local macro_rules | `(tactic|walk_at "s2")=>`(tactic|simp only[L2_,LS_,L4_,LY_,L1_,LT_,q8_,q9_,ra_,rb_,rc_,rd_,scal,tyV,List.map_cons,List.map_nil,List.length_cons,List.length_nil,List.replicate,List.cons_append,List.nil_append,List.append_nil,List.set_cons_zero,List.set_cons_succ,List.getElem?_cons_zero,List.getElem?_cons_succ,Option.some.injEq,List.cons.injEq,V.int.injEq,V.bl.injEq,V.str.injEq,V.ref.injEq,V.ty.injEq,HO.tup.injEq,HO.lst.injEq,exists_eq_left,exists_eq_left',exists_and_left,and_assoc,and_true,true_and,aa_,G2_,Hm_,HF_,Nat.zero_add,Nat.reduceAdd,Nat.reduceSub,decide_eq_true_eq,Bool.not_eq_true',decide_eq_false_iff_not,reduceCtorEq,false_or,or_false,true_or,or_true,mO_,li_,ku_,lj_,mP_,Bool.false_eq_true,if_false,if_true,Bool.not_false,Bool.not_true,Bool.not_not,rp_,qe_,qo_,List.map,Option.bind,pV_])
local macro_rules | `(tactic|walk_at "s0")=>`(tactic|dsimp only[tIf,MO_,JC_,Js_,Nh_,M6_,Kw_,Ln_,Ks_,IQ_,L2_,LS_,L4_,LY_,L1_,LT_,M0_,K5_,Ir_,Ne_,Nj_,KM_,Nl_,Mb_,tC,tCB,tOp,rI,rI0,LJ_,Mk_,K9_,MY_,Mn_,KH_,tB,M3_,tOr,Nk_,Lr_,tOrV,LM_,rU,tUn,M8_,tBM,LN_,JJ_,L2.start,Ly_,Lf_,LL_,Mi_,rEq,rNe,Md_,K8_,LI_,Ls_,Mo_,List.map_cons,List.map_nil,List.length_cons,List.length_nil,List.replicate,List.cons_append,List.nil_append,List.set_cons_zero,List.set_cons_succ,List.getElem?_cons_zero,List.getElem?_cons_succ,M9_,Le_,M2_,LR_,MW_,J7_,Jv_,pick,Mc_,iZip,Me_,Lv_,MR_,rSum,Kz_,List.map,K7_,Mp_,tSl,Nb_,Lt_,JF_,Mj_,Lm_,M4_,JK_,Li_,KE_,Ky_,JM_,Na_,I3_,JB_,LH_,MP_,M7_,Ju_,KA_,JA_,La_,iDV,iDK,rIn,KP_,Ll_,IT_,Mu_,Ms_,KJ_,rPop,Lk_,pV_,Mv_,LA_,iDI,Nc_,iTup,Mg_,MU_,MX_,Nf_,Kq_,Ni_,MS_,Lw_,Lp_,Mm_,rRep,LK_,Lc_,KD_,KC_])
local macro_rules | `(tactic|walk_at "s3")=>`(tactic|(walk_at "s2";try (walk_at "s0";try walk_at "s2")))
local macro_rules | `(tactic|walk_at "s1")=>`(tactic|first|(walk_at "s0";try walk_at "s3")|walk_at "s3")
local macro_rules | `(tactic|walk_at "bx")=>`(tactic|first|(show qA_ ?_;intro _ _)|show ry_ (by assumption) ?_|show Mz_ (by assumption) ?_)
local macro_rules | `(tactic|walk_at "rd")=>`(tactic|((first|walk_at "s1" | (walk_at "bx";try walk_at "s1"));repeat (walk_at "bx";try walk_at "s1")))
structure Txt(K:PySem.W.Frag)(mg:Str->Option Value):Prop where
 n_abs:mg "abs"=none
 n_max:mg "max"=none
 n_min:mg "min"=none
 n_ValueError:mg "ValueError"=none
 c_LONG_BITS:∃t,mg "LONG_BITS"=some (.int 8000 t)
 c_MOST_WIRES:∃t,mg "MOST_WIRES"=some (.int 10 t)
 n_dict:mg "dict"=none
 n_len:mg "len"=none
 n_range:mg "range"=none
 n_list:mg "list"=none
 n_isinstance:mg "isinstance"=none
 n_int:mg "int"=none
 n_bool:mg "bool"=none
 n_tuple:mg "tuple"=none
 n_str:mg "str"=none
 n_enumerate:mg "enumerate"=none
 n_sorted:mg "sorted"=none
 n_set:mg "set"=none
variable {P:Program}{w:World}{K:PySem.W.Frag}{mg:Str->Option Value}{base:Heap}
theorem pb_{b:Int}(h:b≠0):Builtin.Int.intBits b=b.natAbs.log2+1:=by unfold Builtin.Int.intBits;simp[h]
theorem p3_{g b:Int}(h0:g≠0)(h1:g.natAbs<=b.natAbs)(hb:Builtin.Int.intBits b<=8000):g.natAbs.log2<9000:=by have h:=Bi_ (a:=g) (b:=b) (n:=8000) h1 hb;rw[pb_ h0]at h;lia
structure ZL(N P:List Str)(sc:Scope):Prop extends F8_ N P sc where
 loc:∀x∈N,sc.names.lookup x=some .local
structure ZM(N P:List Str)(sc:Scope):Prop extends F8_ N P sc where
 loc:∀x∈N,sc.names.lookup x=some .local\/sc.names.lookup x=some .cell
variable{X:Cx}{x:Str}{pos:Pos}{p0:List Str}
theorem zv(i:Nat)(h:ZL X.N p0 X.env.scope)(hN:X.N[i]?=some x:=by rfl)(hd:(x == ("__debug__" : Str))=false:=by decide)(hcd:(x == ("__classdict__" : Str))=false:=by decide):PE X (.Name x pos) (Mb_ i):=pA_ hN (.inl (h.loc x (List.mem_of_getElem? hN))) hd hcd
theorem zw(i:Nat)(h:ZM X.N p0 X.env.scope)(hN:X.N[i]?=some x:=by rfl)(hd:(x == ("__debug__" : Str))=false:=by decide)(hcd:(x == ("__classdict__" : Str))=false:=by decide):PE X (.Name x pos) (Mb_ i):=pA_ hN ((h.loc x (List.mem_of_getElem? hN)).elim .inl λz=>.inr (.inl z)) hd hcd
theorem zh(i:Nat)(h:ZL X.N p0 X.env.scope)(hi:X.N[i]?=some x:=by rfl):PG X (.Name x pos) (Ir_ i):=ak_ h.nd hi (h.loc x (List.mem_of_getElem? hi))
theorem zas{e:Expr}{te:TE}(i:Nat){pos':Pos}(h:ZL X.N p0 X.env.scope)(he:PE X e te)(hi:X.N[i]?=some x:=by rfl)(hs:JN_ e=false:=by rfl):PS X (.Assign [.Name x pos'] e pos) (K5_ te (Ir_ i)):=ai_ h.nd hi (h.loc x (List.mem_of_getElem? hi)) he hs
theorem zL{N P:List Str}{sc:Scope}(a:sc.kind=.function:=by rfl)(b:sc.isCoroutine=false:=by rfl)(c:sc.isGenerator=false:=by rfl)(d:N.Nodup:=by rfl')(e:N.take P.length=P:=by rfl)(f:∀x∈P,sc.names.lookup x=some .local\/sc.names.lookup x=some .cell:=by rfl')(g:∀y∈sc.names,y.2≠.free:=by rfl')(l:∀x∈N,sc.names.lookup x=some .local:=by rfl'):ZL N P sc:=⟨⟨a,b,c,d,e,f,g⟩,l⟩
theorem zM{N P:List Str}{sc:Scope}(a:sc.kind=.function:=by rfl)(b:sc.isCoroutine=false:=by rfl)(c:sc.isGenerator=false:=by rfl)(d:N.Nodup:=by rfl')(e:N.take P.length=P:=by rfl)(f:∀x∈P,sc.names.lookup x=some .local\/sc.names.lookup x=some .cell:=by rfl')(g:∀y∈sc.names,y.2≠.free:=by rfl')(l:∀x∈N,sc.names.lookup x=some .local\/sc.names.lookup x=some .cell:=by rfl'):ZM N P sc:=⟨⟨a,b,c,d,e,f,g⟩,l⟩
abbrev LK(s:Stmt)(x:Str)(k:NameKind):Prop:=(F1_ s).names.lookup x=some k
abbrev stN(i:Nat):Stmt:=PySem.Challenge.pw_rimread_k23_woods_listed.main.body.getD i (.Pass ⟨0,0,0,0⟩)
abbrev GR_:Stmt:=stN 30
theorem lk_:ZL ["_law_script","_law_k"] ["_law_script","_law_k"] (F1_ GR_):=zL
theorem hN_:LK GR_ "len" .globalImplicit:=r_
def JE_(K:PySem.W.Frag):Sp:=λvs H Q _=>∃(a:Addr)(ns:List Int)(i:Int),vs=[.ref a,.int i]/\SqL K H a (ns.map V.int)/\0<=i/\∀z,Q (.int z) H
theorem ll_(T:Txt K mg)(F:Fn0 K mg "_law_cell_at" GR_):Cal P w K mg base "_law_cell_at" ["_law_script","_law_k"] 1 (JE_ K):=by
  show aP_ F lk_.1 λf cdv A outer s H vs Q E hr h=>?_;obtain⟨a,ns,i,rfl,hS,h0,k⟩:=h;refine'⟨_,?D,?R⟩
  case D =>
   refine' ag_ ?a (ad_ (ap_ ac_))
   case' a=>refine' Gz_ (ao_ JV_ (zv 1 lk_) (aj_ em_ hN_ T.n_len aQ_ (pa_c (zv 0 lk_) ab_)) (Gf_ _)) (ad_ (ap_ (F9_ (oF_ (K:=K) rfl) (zv 0 lk_) (zv 1 lk_)))) aB_
  case R =>
   walk_at "rd";show⟨_,.inl hS,?_⟩;rw[Aa_];show ite2 (λhl=>?_) (λhl=>?_)
   .show⟨a,_,i,V.int (ns.getD i.toNat 0),rfl,rfl,hS,fz_ h0 ?_,k _⟩;have:i.toNat<ns.length:=o_
    simp[Ae_,this,List.getD]
   .show k 0
abbrev G7_:Stmt:=stN 31
theorem eq_:ZL ["_law_script","_law_at","_law_by","_law_prime","_law_cell","_law_big_here","_law_k","_law_one"] ["_law_script","_law_at"] (F1_ G7_):=zL
theorem ec_:LK G7_ "_law_cell_at" .globalImplicit:=r_
theorem jx_:LK G7_ "range" .globalImplicit:=r_
def Jx_(K:PySem.W.Frag):Sp:=λvs H Q _=>∃(a:Addr)(ns:List Int)(j:Int),vs=[.ref a,.int j]/\0<=j/\SqL K H a (ns.map V.int)/\∀z H',F0_ H H'->Q (.int z) H'
theorem LX_{a0 a1 a2 a3 a4 a5 a6 a7:Int}(i:Int)(h0:0<=i)(h1:i<8)(P:Int->Prop)(p0:P a0)(p1:P a1)(p2:P a2)(p3:P a3)(p4:P a4)(p5:P a5)(p6:P a6)(p7:P a7):
  ∃v,atI [V.int a0,.int a1,.int a2,.int a3,.int a4,.int a5,.int a6,.int a7] i=some (.int v)/\P v:=by
 have:i=0\/i=1\/i=2\/i=3\/i=4\/i=5\/i=6\/i=7:=o_
 rcases this with rfl|rfl|rfl|rfl|rfl|rfl|rfl|rfl
 .show⟨_,rfl,p0⟩
 .show⟨_,rfl,p1⟩
 .show⟨_,rfl,p2⟩
 .show⟨_,rfl,p3⟩
 .show⟨_,rfl,p4⟩
 .show⟨_,rfl,p5⟩
 .show⟨_,rfl,p6⟩
 .show⟨_,rfl,p7⟩
theorem qJ_(T:Txt K mg)(F:Fn0 K mg "_law_big" G7_) (H9_:Cal P w K mg base "_law_cell_at" ["_law_script","_law_k"] 1 (JE_ K)):Cal P w K mg base "_law_big" ["_law_script","_law_at"] 2 (Jx_ K):=by
  show aP_ F eq_.1 λf cdv A outer s H vs Q E hr h=>?_;obtain⟨a,ns,j,rfl,hj,hS,k⟩:=h;refine'⟨_,?D,?R⟩
  case D =>
   refine' ag_ (zas 2 eq_ (aK_ ?a)) ?b
   case' a=>refine' pa_c ac_ (pa_c ac_ (pa_c ac_ (pa_c ac_ (pa_c ac_ (pa_c ac_ (pa_c ac_ (pa_c ac_ ab_)))))))
   case' b=>refine' ag_ (zas 3 eq_ (aK_ ?c)) (ag_ (zas 4 eq_ (al_ H9_ (hr.mono d_) ec_ (pa_c (zv 0 eq_) (pa_c (zv 1 eq_) ab_)))) ?d)
   case' c=>refine' pa_c ac_ (pa_c ac_ (pa_c ac_ (pa_c ac_ (pa_c ac_ (pa_c ac_ (pa_c ac_ (pa_c ac_ ab_)))))))
   case' d=>refine' ag_ (Gz_ (ao_ MC_ (zv 4 eq_) (F2_ pF_ ac_ ac_) (Gf_ _)) (ad_ (ap_ (zv 4 eq_))) aB_) ?e
   case' e=>refine' ag_ (zas 5 eq_ ac_) (ag_ (a6_ AF_ rfl (aZ_ jx_ T.n_range (pa_c ac_ ab_)) ?f ?g) (ad_ (ap_ (zv 5 eq_))))
   case f=>show zh 6 eq_
   case' g=>refine' ag_ (zas 7 eq_ (F2_ aT_ ?h (F2_ lM_ (zv 6 eq_) (zv 6 eq_)))) (ad_ (zas 5 eq_ (F2_ aT_ (F2_ lM_ (zv 5 eq_) ac_) ?i)))
   case' h=>refine' F2_ aT_ (F2_ aD_ (al_ H9_ (hr.mono d_) ec_ (pa_c (zv 0 eq_) (pa_c (F2_ aT_ (zv 1 eq_) (F2_ aD_ (zv 6 eq_) ac_)) ab_))) (F2_ pF_ ac_ ac_)) ac_
   case' i=>refine' F2_ aD_ (F2_ aD_ (F2_ lM_ (zv 7 eq_) (F9_ au_ (zv 2 eq_) (F2_ aD_ (zv 6 eq_) ac_))) (F9_ au_ (zv 3 eq_) (F2_ aD_ (zv 6 eq_) ac_))) ac_
  case R =>
   walk_at "rd";show⟨d_,λp hp=>⟨d_,λq hq=>?_⟩⟩;generalize e1:upd H p (HO.tup _)=H1 at hq⊢;have s1:F0_ H H1:=e1▸F0_.new hp;have p1:H1 p=some (.tup _):=e1▸aa_;generalize e2:upd H1 q (HO.tup _)=H2;have s2:F0_ H1 H2:=e2▸F0_.new hq;have q2:H2 q=some (.tup _):=e2▸aa_;have p2:=s2 _ _ p1;have sS:F0_ H H2:=s1.trans s2;clear e1 e2;show⟨a,ns,j,rfl,sS.seq hS,hj,λz=>?_⟩;walk_at "rd";show⟨d_,d_,d_,?_⟩;show ite2 (λ_=>k _ _ sS) (λ_=>⟨d_,d_,?_⟩);show i8_ (λi σ H'=>H'=H2/\∃(b:Int)(v6 v7:Option V),σ=[some (V.ref a),some (V.int j),some (V.ref p),some (V.ref q),some (V.int z),some (V.int b),v6,v7]) ⟨rfl,0,none,none,rfl⟩ ?_ ?_
   .rintro i σ H' hi ⟨rfl,b,v6,v7,rfl⟩;have hi':i<60:=hi;walk_at "rd";have m9:=AU_ (0+(i:Int)) (show(9:Int)≠0 by decide);show⟨d_,a,ns,_,rfl,sS.seq hS,o_,λy=>?_⟩;walk_at "rd";show⟨d_,d_,d_,d_,.inl ⟨o_,o_⟩,.inr ⟨d_,d_⟩,d_,?_⟩;have m8:=AU_ (0+(i:Int)) (show(8:Int)≠0 by decide);have l8:=AO_ (0+(i:Int)) (show(0:Int)<8 by decide);obtain⟨v,hv,v0,v1⟩:=LX_ (a0:=48271) (a1:=69621) (a2:=16807) (a3:=39373) (a4:=21401) (a5:=60493) (a6:=87721) (a7:=31337) ((0+(i:Int))%8) m8 l8 (λv=>0<v/\v<100000) d_ d_ d_ d_ d_ d_ d_ d_;obtain⟨u,hu,u0,u1⟩:=LX_ (a0:=99991) (a1:=99989) (a2:=99971) (a3:=99961) (a4:=99929) (a5:=99923) (a6:=99907) (a7:=99901) ((0+(i:Int))%8) m8 l8 (λv=>0<v/\v<100000) d_ d_ d_ d_ d_ d_ d_ d_;simp only[p2,q2,Dq_,HO.tup.injEq,ER_];simp only[hv,hu];walk_at "rd";show⟨.inr ⟨o_,o_⟩,d_,u0,d_,_,rfl⟩
   .rintro σ H' ⟨rfl,b,v6,v7,rfl⟩;walk_at "rd";show k _ _ sS
def dF(p:Int×Int):Dt:=.tup [.int p.1,.int p.2]
variable{H:Hp}
theorem gG_{p:Int×Int}(h:Rep H v (dF p)):∃q,v=.ref q/\H q=some (.tup [.int p.1,.int p.2]):=by obtain⟨q,xs,e,hq,x,r,e1,hx,y,r',e2,hy,e3⟩:=h;cases hx;cases hy;subst e1 e2 e3;show⟨q,e,hq⟩
abbrev HD_:Stmt:=stN 32
theorem lm_:ZL ["_law_top","_law_bottom","_law_one","_law_other"] ["_law_top","_law_bottom"] (F1_ HD_):=zL
theorem er_:LK HD_ "_law_one" .local:=r_
theorem es_:LK HD_ "_law_other" .local:=r_
theorem ln_:LK HD_ "abs" .globalImplicit:=r_
def I0_:Sp:=λvs H Q _=>∃t b:Int,vs=[.int t,.int b]/\0<b/\Builtin.Int.intBits b<=8000/\∀p H',F0_ H H'->Rep (H7_ H H') (.ref p) (dF (nf t b))->Q (.ref p) H'
theorem qK_(T:Txt K mg)(F:Fn0 K mg "_law_low" HD_):Cal P w K mg base "_law_low" ["_law_top","_law_bottom"] 1 I0_:=by
  show aP_ F lm_.1 λf cdv A outer s H vs Q E hr h=>?_;obtain⟨a,b,rfl,hb,lb,k⟩:=h;refine'⟨_,?D,?R⟩
  case D =>
   refine' ag_ (pD_ (i:=2) (j:=3) rfl lm_.nd rfl rfl d_ er_ es_ (pa_c (aj_ i2_ ln_ T.n_abs ni_ (pa_c (zv 0 lm_) ab_)) (pa_c (zv 1 lm_) ab_)) rfl) ?a
   case' a=>refine' ag_ (fw_ AF_ (ao_ HV_ (zv 3 lm_) ac_ (Gf_ _)) (ad_ (pD_ (i:=2) (j:=3) rfl lm_.nd rfl rfl d_ er_ es_ (pa_c (zv 3 lm_) (pa_c (F2_ aD_ (zv 2 lm_) (zv 3 lm_)) ab_)) rfl))) ?b
   case' b=>refine' ad_ (ap_ (aK_ (pa_c (F2_ aq_ (zv 0 lm_) (zv 2 lm_)) (pa_c (F2_ aq_ (zv 1 lm_) (zv 2 lm_)) ab_))))
  case R =>
   walk_at "rd"
   show hh_ (λσ H1=>∃(x y:Int),σ=[some (.int a),some (.int b),some (.int x),some (.int y)]/\H1=H/\0<=x/\0<=y/\Int.gcd x y=Int.gcd a b)
    (λσ _=>LF_ 3 σ) ?_ ?_
   .show⟨_,_,rfl,rfl,?_,o_,?_⟩
    .split <;> lia
    .split
     .rw[FV_]
     .rfl
   .rintro σ H1 ⟨x,y,rfl,rfl,hx,hy,e⟩;walk_at "rd";show ite2 (λhne=>?_) (λhe=>?_)
    .show⟨_,N_ok,?_⟩;walk_at "rd";have h1:=AU_ x (show y≠0 by lia);have h2:=AO_ x hne;show⟨hne,hy,h1,(mh_ hx hne).trans e,(show(x%y).toNat<y.toNat by lia)⟩
    .have hy0:y=0:=o_
     have hx':x=(Int.gcd a b:Nat):=by rw[<-e,hy0,Int.gcd_zero_right];lia
     have g0:=gpos (t:=a) (b:=b) o_;have hl:=p3_ (g:=(Int.gcd a b:Int)) (b:=b) o_ (Nat.le_of_dvd o_ (Fn_.mpr (CS_ ..))) lb;subst hx';show⟨g0,hl,g0,hl,d_,λp hp=>k p _ (F0_.new hp) ⟨p,_,rfl,?_,_,_,rfl,rfl,_,_,rfl,rfl,rfl⟩⟩;rw[cI_ hp,aa_,lY_ hb]
abbrev GC_:Stmt:=stN 33
theorem bb_:ZL ["_law_big_here","_law_bottom","_law_top"] ["_law_big_here"] (F1_ GC_):=zL
theorem gm_:LK GC_ "_law_low" .globalImplicit:=r_
def IV_:Sp:=λvs H Q _=>∃z:Int,vs=[.int z]/\∀(p q:Addr) H' (t b y:Int),F0_ H H'->H p=none->H q=none->Ws (nf t b)->H' p=some (.tup [.ref q,.int y])->H' q=some (.tup [.int (nf t b).1,.int (nf t b).2])->Q (.ref p) H'
theorem kC_(T:Txt K mg)(F:Fn0 K mg "_law_worth_of" GC_) (IA_:Cal P w K mg base "_law_low" ["_law_top","_law_bottom"] 1 I0_):Cal P w K mg base "_law_worth_of" ["_law_big_here"] 2 IV_:=by
  show aP_ F bb_.1 λf cdv A outer s H vs Q E hr h=>?_;obtain⟨z,rfl,k⟩:=h;refine'⟨_,?D,?R⟩
  case D =>
   refine' ag_ (zas 1 bb_ (F2_ aT_ ac_ (F2_ aD_ (zv 0 bb_) ac_))) ?a
   case' a=>refine' ag_ (iu_ (Gz_ (ao_ Hb_ (F2_ aD_ (F2_ aq_ (zv 0 bb_) ac_) ac_) ac_ (Gf_ _)) ?b aB_)) ?c
   case' b=>refine' ad_ (zas 1 bb_ (F2_ aT_ ac_ (F2_ aD_ (F2_ aq_ (zv 0 bb_) ac_) ac_)))
   case' c=>refine' ag_ (iu_ (Gz_ (ao_ Hb_ (F2_ aD_ (F2_ aq_ (zv 0 bb_) ac_) ac_) ac_ (Gf_ _)) ?d aB_)) ?e
   case' d=>refine' ad_ (zas 1 bb_ (F2_ aT_ ac_ (F2_ aD_ (F2_ aq_ (zv 0 bb_) ac_) ac_)))
   case' e=>refine' ag_ (zas 0 bb_ (F2_ aq_ (zv 0 bb_) ac_)) (ag_ (zas 2 bb_ (F2_ aT_ ac_ (F2_ aD_ (zv 0 bb_) ac_))) ?f)
   case' f=>refine' ag_ (iu_ (Gz_ (ao_ Hb_ (F2_ aD_ (F2_ aq_ (zv 0 bb_) ac_) ac_) ac_ (Gf_ _)) ?g aB_)) ?h
   case' g=>refine' ad_ (zas 2 bb_ (F2_ aT_ ac_ (F2_ aD_ (F2_ aq_ (zv 0 bb_) ac_) ac_)))
   case' h=>refine' ag_ (iu_ (Gz_ (ao_ Hb_ (F2_ aD_ (F2_ aq_ (zv 0 bb_) ac_) ac_) ac_ (Gf_ _)) ?i aB_)) (ad_ ?j)
   case' i=>refine' ad_ (zas 2 bb_ (F2_ aT_ ac_ (F2_ aD_ (F2_ aq_ (zv 0 bb_) ac_) ac_)))
   case' j=>refine' ap_ (aK_ (pa_c (al_ IA_ (hr.mono d_) gm_ (pa_c (zv 2 bb_) (pa_c (zv 1 bb_) ab_))) (pa_c (F2_ aq_ (zv 0 bb_) ac_) ab_)))
  case R =>
   walk_at "rd";show⟨d_,λσ H1=>∃b:Int,σ=[some (.int z),some (.int b),none]/\H=H1/\0<b/\b<=1000,?_,?_⟩
   .walk_at "rd";show⟨d_,d_,d_,ite2 (λ_=>?_) (λ_=>?_)⟩
    .have:=AU_ (z/12) (show(12:Int)≠0 by decide);have:=AO_ (z/12) (show(0:Int)<12 by decide);show⟨d_,d_,d_,o_,o_⟩
    .have:=AU_ z (show(3:Int)≠0 by decide);have:=AO_ z (show(0:Int)<3 by decide);lia
   rintro σ H1 ⟨b,rfl,rfl,b0,b1⟩;walk_at "rd";show⟨λσ H1=>∃b:Int,σ=[some (.int z),some (.int b),none]/\H=H1/\0<b/\b<=1000,?_,?_⟩
   .walk_at "rd";show⟨d_,d_,d_,ite2 (λ_=>?_) (λ_=>⟨b0,b1⟩)⟩;have:=AU_ (z/48) (show(1000:Int)≠0 by decide);have:=AO_ (z/48) (show(0:Int)<1000 by decide);show⟨d_,d_,d_,o_,o_⟩
   clear b0 b1 b;rintro σ H1 ⟨b,rfl,rfl,b0,b1⟩;walk_at "rd";show⟨d_,d_,d_,?_⟩;generalize z/48000=y;show⟨λσ H1=>∃t:Int,σ=[some (.int y),some (.int b),some (.int t)]/\H=H1/\0<t/\t<=1000,?_,?_⟩
   .walk_at "rd";show⟨d_,d_,d_,ite2 (λ_=>?_) (λ_=>?_)⟩
    .have:=AU_ (y/20) (show(12:Int)≠0 by decide);have:=AO_ (y/20) (show(0:Int)<12 by decide);show⟨d_,d_,d_,o_,o_⟩
    .have:=AU_ y (show(5:Int)≠0 by decide);have:=AO_ y (show(0:Int)<5 by decide);lia
   rintro σ H1 ⟨t,rfl,rfl,t0,t1⟩;walk_at "rd";show⟨λσ H1=>∃t:Int,σ=[some (.int y),some (.int b),some (.int t)]/\H=H1/\0<t/\t<=1000,?_,?_⟩
   .walk_at "rd";show⟨d_,d_,d_,ite2 (λ_=>?_) (λ_=>⟨t0,t1⟩)⟩;have:=AU_ (y/80) (show(1000:Int)≠0 by decide);have:=AO_ (y/80) (show(0:Int)<1000 by decide);show⟨d_,d_,d_,o_,o_⟩
   clear t0 t1 t;rintro σ H1 ⟨t,rfl,rfl,t0,t1⟩;walk_at "rd";show⟨t,b,rfl,b0,Bi_ (b:=1000) o_ d_,λq H1 s1 r1=>?_⟩;walk_at "rd";obtain⟨q',eq,hq⟩:=gG_ r1;cases eq;obtain⟨q0,q1⟩:=bs_ hq;show⟨d_,d_,d_,λp hp=>k p q _ t b (y/80000) (s1.trans (F0_.new hp)) (s1.free hp) q0 (MH_ t0 t1 b0 b1) aa_ (F0_.new hp _ _ q1)⟩
open RimT
theorem un1{n c:Nat}(h:n+64<c):n+1<c:=o_
structure Tg{α:Type}(lab:α->V)(H:Hp)(l:Addr)(as_:List Addr)(T:List (List α)):Prop where
 top:H l=some (.lst (as_.map V.ref))
 len:as_.length=T.length
 row:∀p a,as_[p]?=some a->H a=some (.lst ((T.getD p []).map lab))
variable{l:Addr}{as_:List Addr}
theorem Tg.mono{α:Type}{lab:α->V}{H':Hp}{T:List (List α)}(h:Tg lab H l as_ T)(s:F0_ H H'):Tg lab H' l as_ T:=⟨s _ _ h.top,h.len,λp a e=>s _ _ (h.row p a e)⟩
theorem Tg.at_{α:Type}{lab:α->V}{T:List (List α)}(h:Tg lab H l as_ T){p:Nat}(hp:p<T.length):∃a,as_[p]?=some a/\atI (as_.map V.ref) (p:Int)=some (.ref a)/\H a=some (.lst ((T.getD p []).map lab)):=by have e:as_[p]?=some (as_[p]'(by rw[h.len];show hp)):=Ab_ _;show⟨_,e,?_,h.row p _ e⟩;rw[fz_ o_ (by rw[AK_,Ae_,e];rfl)]
abbrev Tn:=Tg (λn:Nat=>V.int n)
def cV(c:Nat×Nat):HO:=.tup [.int c.1,.int c.2]
def cK(c:Nat×Nat):List Key:=[.inl c.1,.inl c.2]
def HA_{α:Type}(H:Hp)(m:Addr)(T:List (List α)):Prop:=∃kvs,H m=some (.dT kvs)/\∀a b,JS_ T a b->∃q,Gw_ kvs (cK a)=some (.ref q)/\H q=some (cV b)
theorem HA_.mono{α:Type}{H':Hp}{m:Addr}{T:List (List α)}(h:HA_ H m T)(s:F0_ H H'):HA_ H' m T:=by obtain⟨kvs,e,k⟩:=h;show⟨kvs,s _ _ e,λa b hab=>(k a b hab).elim λq hq=>⟨q,hq.1,s _ _ hq.2⟩⟩
abbrev Ga_:Stmt:=stN 36
theorem a7_:ZL ["_law_turns","_law_posts","_law_mates_here","_law_corner","_law_p","_law_k","_law_q","_law_j"] ["_law_turns","_law_posts","_law_mates_here","_law_corner"] (F1_ Ga_):=zL
theorem cl_:LK Ga_ "len" .globalImplicit:=r_
def Iq_:Sp:=λvs H Q _=>∃(α:Type)(_:DecidableEq α)(lab:α->V)(l m c:Addr)(as_:List Addr)(T:List (List α))(P:Nat)(e:Nat×Nat),vs=[.ref l,.int P,.ref m,.ref c]/\Tg lab H l as_ T/\HA_ H m T/\Tw T/\0<P/\H c=some (cV e)/\IsC T P e /\
 ∀q H' d,F0_ H H'->H q=none->H' q=some (cV d)->Nx T P e d->Q (.ref q) H'
theorem gn_(T:Txt K mg)(F:Fn0 K mg "_law_corner_behind" Ga_):Cal P w K mg base "_law_corner_behind" ["_law_turns","_law_posts","_law_mates_here","_law_corner"] 1 Iq_:=by
  show aP_ F a7_.1 λf cdv A outer s H vs Q E hr h=>?_;obtain⟨α,dec,lab,l,m,c,as_,Tt,Pp,e,rfl,hT,hm,tw,P0,hc,ic,k⟩:=h;refine'⟨_,?D,?R⟩
  case D =>
   refine' ag_ (hd_ (zv 3 a7_) (bk_ (K:=K) (n:=2) rfl rfl (am_ ?a (am_ ?b bd_)))) ?c
   case a=>show zh 4 a7_
   case b=>show zh 5 a7_
   case' c=>refine' ag_ ?d (ag_ ?e (ag_ ?f (ad_ (ap_ ?g))))
   case' d=>refine' Gz_ (ao_ Hb_ (zv 5 a7_) (aj_ an_ cl_ T.n_len aQ_ (pa_c (F9_ ar_ (zv 0 a7_) (zv 4 a7_)) ab_)) (Gf_ _)) ?h aB_
   case' h=>refine' ad_ (ap_ (aK_ (pa_c (F2_ aD_ (F2_ pE_ (zv 4 a7_) ac_) (zv 1 a7_)) (pa_c ac_ ab_))))
   case' e=>refine' hd_ (bl_ (un1 hr.units) (zv 2 a7_) (aK_ (pa_c (zv 4 a7_) (pa_c (zv 5 a7_) ab_)))) (bk_ (K:=K) (n:=2) rfl rfl (am_ ?i (am_ ?j bd_)))
   case i=>show zh 6 a7_
   case j=>show zh 7 a7_
   case' f=>refine' Gz_ (ao_ JV_ (zv 6 a7_) (zv 1 a7_) (Gf_ _)) (ad_ (ap_ (aK_ (pa_c (zv 6 a7_) (pa_c (F2_ aT_ (zv 7 a7_) ac_) ab_))))) aB_
   case' g=>refine' aK_ (pa_c (zv 6 a7_) (pa_c (F2_ aD_ (F2_ aT_ (zv 7 a7_) ac_) (aj_ an_ cl_ T.n_len aQ_ (pa_c (F9_ ar_ (zv 0 a7_) (zv 6 a7_)) ab_))) ab_))
  case R =>
   walk_at "rd";obtain⟨a,ea,at0,ra⟩:=hT.at_ ic.1;show⟨_,SqT.of hc,rfl,_,_,rfl,_,_,rfl,rfl,_,_,rfl,hT.top,_,at0,_,rfl,_,.inl ra,?_⟩;walk_at "rd";rw[Aa_];show ite2 (λhe=>?_) (λhe=>?_)
   .have hz:((e.1:Int)-1)%(Pp:Int)=(((e.1+Pp-1)%Pp:Nat):Int):=by rw[EJ_,show((e.1+Pp-1:Nat):Int)=(e.1:Int)-1+Pp by lia];simp
    have he':e.2=rl Tt e.1:=by unfold rl;lia
    show⟨o_,d_,λp hp=>k p _ ((e.1+Pp-1)%Pp,0) (F0_.new hp) hp ?_ (.inl ⟨he',rfl⟩)⟩;rw[aa_,hz];rfl
   .have hlt:e.2<rl Tt e.1:=by have:=ic.2;unfold rl at this⊢;split at this <;> lia
    obtain⟨ww,hw⟩:=qs_ hlt;obtain⟨b,hb⟩:=qr_ tw hw;obtain⟨kvs,hkv,hall⟩:=hm;obtain⟨q,vq,hq⟩:=hall e b hb;show⟨d_,λp hp=>?_⟩;have s1:F0_ H (upd H p (.tup [.int e.1,.int e.2])):=F0_.new hp;generalize e1:upd H p (.tup [.int e.1,.int e.2])=H1 at s1⊢;have hp1:H1 p=some (cV e):=e1▸aa_;have g:HC_ H1 m (.ref p) (some (.ref q)):=vq▸HC_.t (k:=cK e) (s1 _ _ hkv) hp1;have hT1:=hT.mono s1;have hbl:=IJ_ hb.2.choose_spec.2;show⟨_,g,_,rfl,_,SqT.of (s1 _ _ hq),rfl,_,_,rfl,_,_,rfl,rfl,_,rfl,?_⟩;show ite2 (λhlp=>?_) (λhlp=>?_)
    .show⟨_,rfl,d_,λr hr=>k r _ (b.1,b.2+1) (s1.trans (F0_.new hr)) (s1.free hr) ?_ (.inr ⟨hlt,b,hb,?_⟩)⟩
     .rw[aa_];rfl
     .rw[if_pos o_]
    .obtain⟨a2,ea2,at2,ra2⟩:=hT1.at_ hbl.2;have hl2:(0:Int)<(rl Tt b.1:Nat):=o_
     show⟨_,rfl,_,_,rfl,hT1.top,_,at2,_,rfl,_,.inl ra2,?_⟩;rw[Aa_];show⟨hl2,d_,λr hr=>k r _ (b.1,(b.2+1)%rl Tt b.1) (s1.trans (F0_.new hr)) (s1.free hr) ?_ (.inr ⟨hlt,b,hb,?_⟩)⟩
     .rw[aa_];change some (HO.tup [V.int b.1,V.int (((b.2:Int)+1)%(rl Tt b.1:Nat))])=some (HO.tup [V.int b.1,V.int (((b.2+1)%rl Tt b.1:Nat):Int)]);rw[EJ_,Int.natCast_add];rfl
     .rw[if_neg o_]
def Cs(H:Hp):List Addr->List (Nat×Nat)->Prop
 |[],[]=>True
 |x::xs,c::cs=>H x=some (cV c)/\Cs H xs cs
 |_,_=>False
theorem Cs.mono{H H':Hp}(s:F0_ H H'):∀{xs:List Addr}{cs:List (Nat×Nat)},Cs H xs cs->Cs H' xs cs
 |[],[],_=>trivial
 |x::xs,c::cs,h=>⟨s _ _ h.1,Cs.mono s h.2⟩
theorem Cs.len{H:Hp}:∀{xs:List Addr}{cs:List (Nat×Nat)},Cs H xs cs->xs.length=cs.length
 |[],[],_=>rfl
 |x::xs,c::cs,h=>by rw[A0_,A0_,Cs.len h.2]
theorem Cs.snoc{H:Hp}{y:Addr}{d:Nat×Nat}(hy:H y=some (cV d)):∀{xs:List Addr}{cs:List (Nat×Nat)},Cs H xs cs->Cs H (xs++[y]) (cs++[d])
 |[],[],_=>⟨hy,trivial⟩
 |x::xs,c::cs,h=>⟨h.1,Cs.snoc hy h.2⟩
theorem Cs.get{H:Hp}:∀{xs:List Addr}{cs:List (Nat×Nat)}{i:Nat}{d:Nat×Nat},Cs H xs cs->cs[i]?=some d->∃x,xs[i]?=some x/\H x=some (cV d)
 |[],[],i,d,h,e=>by cases e
 |[],_::_,_,_,h,_=>h.elim
 |_::_,[],_,_,h,_=>h.elim
 |x::xs,c::cs,0,d,h,e=>by cases e;show⟨x,rfl,h.1⟩
 |x::xs,c::cs,i+1,d,h,e=>Cs.get (i:=i) h.2 e
def dC(c:Nat×Nat):Dt:=.tup [.int c.1,.int c.2]
theorem n3_{x:Addr}{c:Nat×Nat}(h:H x=some (cV c)):Rep H (.ref x) (dC c):=⟨x,_,rfl,h,_,_,rfl,rfl,_,_,rfl,rfl,rfl⟩
theorem rK_(a b:Nat×Nat):deq (dC a) (dC b)=some (decide (a=b)):=by
 by_cases h1:(a.1:Int)=b.1 <;> by_cases h2:(a.2:Int)=b.2
 .have e:a=b:=C2_ o_ o_;subst e;simp[dC,deq,deqs]
 .have e:a≠b:=λz=>h2 (by rw[z]);simp[dC,deq,deqs,h1,h2,e]
 .have e:a≠b:=λz=>h1 (by rw[z]);simp[dC,deq,deqs,h1,h2,e]
 .have e:a≠b:=λz=>h1 (by rw[z]);simp[dC,deq,deqs,h1,h2,e]
abbrev GA_:Stmt:=stN 37
theorem eP_:ZL ["_law_turns","_law_posts","_law_mates_here","_law_corner","_law_found","_law_here"] ["_law_turns","_law_posts","_law_mates_here","_law_corner"] (F1_ GA_):=zL
theorem bC_:LK GA_ "_law_corner_behind" .globalImplicit:=r_
def Il_:Sp:=λvs H Q _=>∃(α:Type)(_:DecidableEq α)(lab:α->V)(l m c:Addr)(as_:List Addr)(T:List (List α))(P:Nat)(e:Nat×Nat),vs=[.ref l,.int P,.ref m,.ref c]/\Tg lab H l as_ T/\HA_ H m T/\Tw T/\0<P/\P<=T.length/\H c=some (cV e)/\IsC T P e/\(corners T P).length<=900 /\
 ∀R H' xs cs,F0_ H H'->H R=none->H' R=some (.lst (xs.map V.ref))->Cs H' xs cs->cs≠[]->cs.length<=(corners T P).length->(∀d∈cs,IsC T P d)->Way T P cs e->cs.head?=some e->cs.Nodup->Q (.ref R) H'
theorem mQ_(T:Txt K mg)(F:Fn0 K mg "_law_region" GA_) (He_:Cal P w K mg base "_law_corner_behind" ["_law_turns","_law_posts","_law_mates_here","_law_corner"] 1 Iq_):Cal P w K mg base "_law_region" ["_law_turns","_law_posts","_law_mates_here","_law_corner"] 2 Il_:=by
  show aP_ F eP_.1 λf cdv A outer s H vs Q E hr h=>?_;obtain⟨α,dec,lab,l,m,c,as_,Tt,Pp,e,rfl,hT,hm,tw,P0,PT,hc,ic,c9,k⟩:=h;refine'⟨_,?D,?R⟩
  case D =>
   refine' ag_ (zas 4 eP_ (aY_ (pa_c (zv 3 eP_) ab_))) (ag_ ?a (ag_ ?b (ad_ (ap_ (zv 4 eP_)))))
   case' a=>refine' zas 5 eP_ (al_ He_ (hr.mono d_) bC_ (pa_c (zv 0 eP_) (pa_c (zv 1 eP_) (pa_c (zv 2 eP_) (pa_c (zv 3 eP_) ab_)))))
   case' b=>refine' fw_ AF_ (ao_ (iw_ (hr.units)) (zv 5 eP_) (zv 3 eP_) (Gf_ _)) (ag_ (a4_ (Hc_ AP_ A2_ A3_ a0_ (zv 4 eP_) (pa_c (zv 5 eP_) ab_))) ?c)
   case' c=>refine' ad_ (zas 5 eP_ (al_ He_ (hr.mono d_) bC_ (pa_c (zv 0 eP_) (pa_c (zv 1 eP_) (pa_c (zv 2 eP_) (pa_c (zv 5 eP_) ab_))))))
  case R =>
   walk_at "rd";show⟨d_,λR hR=>?_⟩;have s0:F0_ H (upd H R (.lst [.ref c])):=F0_.new hR;show⟨_,_,_,l,m,c,as_,Tt,Pp,e,rfl,hT.mono s0,hm.mono s0,tw,P0,s0 _ _ hc,ic,λq H1 d s1 hq hd nx=>?_⟩;walk_at "rd"
   show hh_ (λσ H'=>∃(S:Hp)(xs:List Addr)(cs:List (Nat×Nat))(h:Addr)(d:Nat×Nat),σ=[some (.ref l),some (.int Pp),some (.ref m),some (.ref c),some (.ref R),some (.ref h)]/\F0_ H S/\S R=none/\F0_ S H'/\H' R=some (.lst (xs.map V.ref))/\Cs S xs cs/\S h=some (cV d)/\Way Tt Pp cs d/\cs.head?=some e/\cs.Nodup)
    (λσ H'=>match H' R with|some (.lst xs)=>(corners Tt Pp).length+1-xs.length|_=>0) ?_ ?_
   .have h0R:upd H R (.lst [.ref c]) R=some (.lst [.ref c]):=aa_;show⟨grow H (upd H R (.lst [.ref c])) H1,[c],[e],q,d,rfl,cJ_ s0,by rw[eJ_ h0R];show hR,jf_ s0 s1,s1 _ _ h0R,⟨cJ_ s0 _ _ hc,trivial⟩,by rw[je_ hq];show hd,.one nx,rfl,s_⟩
   .rintro σ H' ⟨S,xs,cs,h,d,rfl,hS,SR,SH,hxs,hcs,hh,wy,hd0,nd⟩;walk_at "rd";have wl:=qv_ tw P0 PT wy hd0 ic nd;have wa:=jh_ tw P0 PT wy hd0 ic;have xl:=hcs.len;show⟨_,n3_ (SH _ _ hh),_,n3_ (SH _ _ (hS _ _ hc)),_,rK_ d e,by simp[dC,dep,deps],?_⟩;by_cases hde:d=e
    .rw[if_neg (by simp[hde])];show k R H' xs cs (hS.trans SH) hR hxs (hcs.mono SH) (l1_ wy) wl wa.2.1 (hde▸wy) hd0 nd
    .rw[if_pos (by simp[hde])];show⟨_,N_ok,?_⟩;walk_at "rd";have sz:(xs.map V.ref).length<sizeLine:=by have:=F3_ (show xs.length+1<=1000 by lia);rw[Aa_];lia
     have dn:=qu_ tw P0 PT wy hd0 ic nd hde;show⟨.inl ⟨_,SqL.of hxs⟩,_,hxs,sz,?_⟩;have SH2:F0_ S (upd H' R (.lst (xs.map V.ref++[.ref h]))):=cC_ SH SR;have e2:upd H' R (.lst (xs.map V.ref++[.ref h])) R=some (.lst (xs.map V.ref++[.ref h])):=aa_;generalize upd H' R (.lst (xs.map V.ref++[.ref h]))=H2 at SH2 e2⊢;show⟨_,_,_,l,m,h,as_,Tt,Pp,d,rfl,(hT.mono hS).mono SH2,(hm.mono hS).mono SH2,tw,P0,SH2 _ _ hh,wa.1,λq2 H3 d2 s3 hq2 hd2 nx2=>⟨⟨grow S H2 H3,xs++[h],cs++[d],q2,rfl,hS.trans (cJ_ SH2),?_,jf_ SH2 s3,?_,?_,d2,?_,.more wy nx2,?_,?_⟩,?_⟩⟩
     .rw[eJ_ e2];show SR
     .rw[As_];show s3 _ _ e2
     .show Cs.snoc (cJ_ SH2 _ _ hh) (hcs.mono (cJ_ SH2))
     .rw[je_ hq2];show hd2
     .cases cs with
      |nil=>show absurd rfl (l1_ wy)
      |cons a b=>show hd0
     .rw[Be_];show⟨nd,s_,λa ha b hb ab=>?_⟩;rw[Ag_.mp hb]at ab;show dn (ab▸ha)
     .rw[s3 _ _ e2,hxs];simp only[Ak_,Aa_,CV_];lia
def GV_(T:List (List Nat))(P n:Nat):List (Nat×Nat):=(List.range n).flatMap λp=>(List.range (rl T p+(if p<P then 1 else 0))).map λk=>(p,k)
theorem dj_(T:List (List Nat))(P n:Nat):GV_ T P (n+1)=GV_ T P n++(List.range (rl T n+(if n<P then 1 else 0))).map λk=>(n,k):=by unfold GV_;rw[BA_,FG_];simp
theorem gK_(T:List (List Nat))(P:Nat){n:Nat}:∀{m:Nat},n<=m->(GV_ T P n).length<=(GV_ T P m).length
 |0,h=>by rw[Nat.le_zero.mp h];show Af_ _
 |m+1,h=>by
  by_cases e:n=m+1
  .rw[e];show Af_ _
  .have:=gK_ T P (n:=n) (m:=m) o_;rw[dj_,Ak_];lia
theorem p4_{H:Hp}:∀{vs:List V}{cs:List (Nat×Nat)},Gt_ H vs (cs.map dC)->∃xs:List Addr,vs=xs.map V.ref/\Cs H xs cs
 |[],[],_=>⟨[],rfl,trivial⟩
 |v::vs,c::cs,h=>by
  obtain⟨x,r,e,hx,hr⟩:=h;cases e;obtain⟨q,ys,e1,hq,a,b,e2,ha,a2,b2,e3,ha2,e4⟩:=hx;cases ha;cases ha2;subst e1 e2 e3 e4;obtain⟨xs,e5,hc⟩:=p4_ hr;show⟨q::xs,by rw[e5];rfl,hq,hc⟩
 |[],_::_,h=>by obtain⟨x,r,e,_⟩:=h;cases e
 |_::_,[],h=>by cases h
abbrev Gs_:Stmt:=stN 35
theorem dP_:ZM ["_law_turns","_law_posts","_law_found","_law_p"] ["_law_turns","_law_posts"] (F1_ Gs_):=zM
theorem cD_:LK Gs_ "_law_found" .local:=r_
theorem dQ_:LK Gs_ "_law_p" .cell:=r_
theorem hP_:LK Gs_ "int" .globalImplicit:=r_
theorem ev_:LK Gs_ "len" .globalImplicit:=r_
theorem ds_:LK Gs_ "range" .globalImplicit:=r_
def H4_:Sp:=λvs H Q _=>∃(l:Addr)(as_:List Addr)(T:List (List Nat))(P:Nat),vs=[.ref l,.int P]/\Tn H l as_ T/\T.length<=16/\(corners T P).length<=900 /\
 ∀R H',F0_ H H'->Rep (H7_ H H') (.ref R) (.lst ((corners T P).map dC))->Q (.ref R) H'
theorem lo_(T:Txt K mg)(F:Fn0 K mg "_law_corners" Gs_):Cal P w K mg base "_law_corners" ["_law_turns","_law_posts"] 1 H4_:=by
  show aP_ F dP_.1 λf cdv A outer s H vs Q E hr h=>?_;obtain⟨l,as_,Tt,Pp,rfl,hT,t16,c9,k⟩:=h;refine'⟨_,?D,?R⟩
  case D =>
   refine' ag_ (ai_ (i:=2) dP_.nd rfl cD_ (aY_ ab_)) ?a
   case' a=>refine' ag_ (a6_ AF_ rfl (aZ_ ds_ T.n_range (pa_c (aj_ an_ ev_ T.n_len aQ_ (pa_c (zw 0 dP_) ab_)) ab_)) ?b ?c) (ad_ (ap_ (zw 2 dP_)))
   case b=>show gX_ (i:=3) dP_.nd rfl dQ_ rfl
   case' c=>refine' ad_ (ai_ (i:=2) dP_.nd rfl cD_ (F2_ lP_ (zw 2 dP_) (di_ (N':=["_law_k","_law_p"]) (ix:=[none,some 3]) rfl rfl (cy_ ?d) (aZ_ ds_ T.n_range ?e) (λ_ _ _=>?f) (λ_ _ _=>?g) (λ_ _ _=>(aK_ (pa_c (pvc 1 rfl rfl) (pa_c (pv1 0 rfl rfl) ab_)))))))
   case d=>show(by change Ih_ (F1_ Gs_) ["_law_turns","_law_posts","_law_found","_law_p"] _ _ _=true;decide +kernel)
   case' e=>refine' pa_c (F2_ aT_ (aj_ an_ ev_ T.n_len aQ_ (pa_c (F9_ ar_ (zw 0 dP_) (zw 3 dP_)) ab_)) (bE_ hf_ hP_ T.n_int lS_ (pa_c (el_ JV_ (zw 3 dP_) (zw 1 dP_) (Gf_ _)) ab_))) ab_
   case f=>show ak_ (i:=0) (by change List.Nodup (["_law_k","_law_p"]:List Str);decide +kernel) rfl rfl
   case g=>show e1_
  case R =>
   walk_at "rd";show⟨d_,λR hR=>?_⟩;have s0:F0_ H (upd H R (.lst [])):=F0_.new hR;show⟨_,.inl (s0 _ _ hT.top),?_⟩;rw[Aa_,hT.len];show⟨o_,o_,?_⟩;rw[AK_];show i8_ (λi σ H'=>∃(R:Addr)(e:Option V),σ=[some (.ref l),some (.int Pp),some (.ref R),e]/\F0_ H H'/\Rep (H7_ H H') (.ref R) (.lst ((GV_ Tt Pp i).map dC))) ?_ ?_ ?_
   .show⟨R,none,rfl,s0,R,[],rfl,?_,rfl⟩;rw[cI_ hR,aa_]
   .rintro i σ H' hi ⟨R,e,rfl,sH,rep⟩;walk_at "rd";have hT':=hT.mono sH;obtain⟨a,ea,at0,ra⟩:=hT'.at_ hi;rw[Cx_];show⟨_,hT'.top,_,at0,_,rfl,_,.inl ra,?_⟩;right
    have eN:(((Tt.getD i []).map λn:Nat=>V.int n).length:Int)+(if(i:Int)<(Pp:Int)then 1 else 0)=((rl Tt i+(if i<Pp then 1 else 0):Nat):Int):=by
     rw[Aa_];unfold rl;by_cases z:i<Pp
     .rw[if_pos o_,if_pos z];lia
     .rw[if_neg o_,if_neg z];lia
    rw[eN];have c1:=gK_ Tt Pp (n:=i+1) (m:=Tt.length) hi;have c2:(GV_ Tt Pp Tt.length).length<=900:=c9;rw[dj_,Ak_,Aa_,Bx_]at c1;clear eN;generalize hN:rl Tt i+(if i<Pp then 1 else 0)=N at c1⊢;show⟨o_,o_,?_⟩;obtain⟨R',vs,eR,hR',reps⟩:=rep;cases eR;obtain⟨nR,hR1⟩:=bs_ hR';have lv:=reps.length;rw[Aa_]at lv;show c7_ (n:=N) (B:=H) (Pσ:=λσ=>∃e,σ=[e,some (.int i)]) (ds:=((List.range N).map λk=>(i,k)).map dC) sH ⟨none,rfl⟩ s_ o_ (λj H2 hj s2=>by change j<Int.toNat _;lia) (λH2 s2=>by change Int.toNat _<=_;lia) ?_ ?_
    .rintro D j z d σ' H2 H2' hD hDo hs2 hj hdj ⟨rfl,rfl⟩ ⟨e2,rfl⟩ R2 kR;walk_at "rd";show⟨d_,λp hp=>kR _ _ _ ⟨_,rfl⟩ (F0_.new hp) ?_⟩;have:d=dC (i,j):=by rw[AT_,Ae_,D2_ hj]at hdj;show(Ar_ hdj).symm
     rw[this];show n3_ ?_;obtain⟨oD,hoD⟩:=hDo;rw[dK_ (λz=>by rw[z,hoD]at hp;cases hp) ((sH.trans hs2).free hp),aa_];change some (HO.tup [V.int i,V.int (0+(j:Int))])=some (HO.tup [V.int i,V.int j]);rw[Cx_]
    .intro D H2 hD s2 rep2;obtain⟨D',ws,eD,hD',reps2⟩:=rep2;cases eD;obtain⟨nD,hD1⟩:=bs_ hD';have lw:=reps2.length;rw[Aa_,Aa_,Bx_]at lw;show⟨_,rfl,_,s2 _ _ hR1,_,hD1,A6_ (F3_ (show vs.length+ws.length<=1000 by rw[lv,lw];lia)),λp hp=>⟨(sH.trans s2).trans (F0_.new hp),p,vs++ws,rfl,?_,?_⟩⟩
     .rw[cI_ ((sH.trans s2).free hp),aa_]
     .rw[dj_,hN,As_];show(Gt_.mono (j6_ (s2.trans (F0_.new hp))) _ reps).append (Gt_.mono (j6_ (F0_.new hp)) _ reps2)
   .rintro σ H' ⟨R,e,rfl,sH,rep⟩;walk_at "rd";show k R H' sH rep
def Dn(p k:Nat)(e:Nat×Nat):Prop:=e.1<p\/(e.1=p/\e.2<k)
theorem p5_{a b:Nat×Nat}(h:cK a=cK b):a=b:=by
 unfold cK at h;injection h with h1 h2
 injection h2 with h2 _
 injection h1 with h1
 injection h2 with h2
 show C2_ o_ o_
structure Mi{α:Type}(ky:α->Key)(T:List (List α))(S:Hp)(D:Nat×Nat->Prop)(k1:List (Key×V))(k2:List (List Key×V)):Prop where
 fi:∀w:α,(∃c q,D c/\wi T c=some w/\Gw_ k1 (ky w)=some (.ref q)/\S q=some (cV c))\/((∀c,D c->wi T c≠some w)/\Gw_ k1 (ky w)=none)
 ma:∀a b,JS_ T a b->D a->D b->∃q,Gw_ k2 (cK a)=some (.ref q)/\S q=some (cV b)
variable{S:Hp}{k1:List (Key×V)}{k2:List (List Key×V)}
theorem Mi.mono{α:Type}{ky:α->Key}{T:List (List α)}{S':Hp}{D:Nat×Nat->Prop}(h:Mi ky T S D k1 k2)(s:F0_ S S'):Mi ky T S' D k1 k2 :=
 ⟨λw=>(h.fi w).imp (λ⟨c,q,a,b,d,e⟩=>⟨c,q,a,b,d,s _ _ e⟩) id,λa b m x y=>(h.ma a b m x y).elim λq z=>⟨q,z.1,s _ _ z.2⟩⟩
theorem Mi.imp{α:Type}{ky:α->Key}{T:List (List α)}{D D':Nat×Nat->Prop}(h:Mi ky T S D k1 k2)(i:∀c w,wi T c=some w->(D c↔D' c)):Mi ky T S D' k1 k2 :=
 ⟨λw=>(h.fi w).imp (λ⟨c,q,a,b,d,e⟩=>⟨c,q,(i c _ b).mp a,b,d,e⟩) (λ⟨a,b⟩=>⟨λc x y=>a c ((i c _ y).mpr x) y,b⟩),λa b m x y=>by obtain⟨_,w,wa,wb⟩:=id m;show h.ma a b m ((i a _ wa).mpr x) ((i b _ wb).mpr y)⟩
theorem Mi.new{α:Type}[DecidableEq α]{ky:α->Key}{T:List (List α)}{D:Nat×Nat->Prop}(h:Mi ky T S D k1 k2){c0:Nat×Nat}{w:α}{q0:Addr}(inj:∀a b,ky a=ky b->a=b)(hw:wi T c0=some w)(hn:Gw_ k1 (ky w)=none)(h0:S q0=some (cV c0)):
  Mi ky T S (λc=>D c\/c=c0) (G1_ k1 (ky w) (.ref q0)) k2:=by
 have no:∀c,D c->wi T c≠some w:=by
  rcases h.fi w with⟨c,q,_,_,e,_⟩|⟨a,_⟩
  .rw[hn]at e;cases e
  .show a
 show⟨λw'=>?_,λa b m x y=>?_⟩
 .rw[dL_];by_cases e:w'=w
  .subst e;show .inl ⟨c0,q0,.inr rfl,hw,by rw[if_pos rfl],h0⟩
  .rw[if_neg (λz=>e (inj _ _ z))]
   rcases h.fi w' with⟨c,q,a,b,d,f⟩|⟨a,b⟩
   .show .inl ⟨c,q,.inl a,b,d,f⟩
   .show .inr ⟨λc hc hcw=>?_,b⟩
    rcases hc with hc|hc
    .show a c hc hcw
    .rw[hc,hw]at hcw;cases hcw;show e rfl
 .obtain⟨ne,w',wa,wb⟩:=id m
  rcases x with x|x <;> rcases y with y|y
  .show h.ma a b m x y
  .rw[y,hw]at wb;cases wb;show absurd wa (no a x)
  .rw[x,hw]at wa;cases wa;show absurd wb (no b y)
  .show absurd (x.trans y.symm) ne
theorem Mi.old{α:Type}[DecidableEq α]{ky:α->Key}{T:List (List α)}{D:Nat×Nat->Prop}(tw:Tw T)(h:Mi ky T S D k1 k2){c0 c:Nat×Nat}{w:α}{q q0:Addr}(hw:wi T c0=some w)(hD:¬ D c0)(hc:D c)(hcw:wi T c=some w)(hq:S q=some (cV c))(h0:S q0=some (cV c0)):
  Mi ky T S (λc=>D c\/c=c0) k1 (G1_ (G1_ k2 (cK c0) (.ref q)) (cK c) (.ref q0)):=by
 have ne:c≠c0:=λz=>hD (z▸hc);have m0:JS_ T c c0:=⟨ne,w,hcw,hw⟩;show⟨λw'=>?_,λa b m x y=>?_⟩
 .rcases h.fi w' with⟨c,q,a,b,d,f⟩|⟨a,b⟩
  .show .inl ⟨c,q,.inl a,b,d,f⟩
  .show .inr ⟨λc' hc' hcw'=>?_,b⟩
   rcases hc' with hc'|hc'
   .show a c' hc' hcw'
   .rw[hc',hw]at hcw';cases hcw';show a c hc hcw
 .rw[dL_,dL_];by_cases e1:a=c
  .subst e1;rw[if_pos rfl,g2_ tw m m0];show⟨q0,rfl,h0⟩
  .rw[if_neg (λz=>e1 (p5_ z))];by_cases e2:a=c0
   .subst e2;rw[if_pos rfl,g2_ tw m m0.symm];show⟨q,rfl,hq⟩
   .rw[if_neg (λz=>e2 (p5_ z))];have da:=x.resolve_right e2
    rcases y with y|y
    .show h.ma a b m da y
    .rw[y]at m;show absurd (g2_ tw m.symm m0.symm) e1
structure MS(H S H':Hp)(F M:Addr)(k1:List (Key×V))(k2:List (List Key×V)):Prop where
 hS:F0_ H S
 sF:S F=none
 sM:S M=none
 sH:F0_ S H'
 f:H' F=some (.dK k1)
 m:H' M=some (.dT k2)
variable{H':Hp}{F M:Addr}{o:HO}
theorem MS.new{p:Addr}(h:MS H S H' F M k1 k2)(hp:H' p=none):MS H (upd S p o) (upd H' p o) F M k1 k2:=by
 have nF:F≠p:=λz=>by rw[<-z,h.f]at hp;cases hp
 have nM:M≠p:=λz=>by rw[<-z,h.m]at hp;cases hp
 show⟨h.hS.trans (bi_ h.sH hp),by rw[ae_ nF];show h.sF,by rw[ae_ nM];show h.sM,g0_ h.sH hp,by rw[ae_ nF];show h.f,by rw[ae_ nM];show h.m⟩
theorem MS.ne(h:MS H S H' F M k1 k2):F≠M:=λz=>by have:=h.f;rw[z,h.m]at this;cases this
theorem MS.putF(h:MS H S H' F M k1 k2)(k1':List (Key×V)):MS H S (upd H' F (.dK k1')) F M k1' k2 :=
 ⟨h.hS,h.sF,h.sM,cC_ h.sH h.sF,aa_,by rw[ae_ h.ne.symm];show h.m⟩
theorem MS.putM(h:MS H S H' F M k1 k2)(k2':List (List Key×V)):MS H S (upd H' M (.dT k2')) F M k1 k2' :=
 ⟨h.hS,h.sF,h.sM,cC_ h.sH h.sM,by rw[ae_ h.ne];show h.f,aa_⟩
abbrev GF_:Stmt:=stN 34
theorem dt_:ZL ["_law_turns","_law_first","_law_mates_here","_law_p","_law_k","_law_wire"] ["_law_turns"] (F1_ GF_):=zL
theorem fQ_:LK GF_ "len" .globalImplicit:=r_
theorem ew_:LK GF_ "range" .globalImplicit:=r_
def IR_:Sp:=λvs H Q _=>∃(α:Type)(_:DecidableEq α)(lab:α->V)(ky:α->Key)(l:Addr)(as_:List Addr)(T:List (List α)),vs=[.ref l]/\(∀w,lab w=kV (ky w))/\(∀a b,ky a=ky b->a=b)/\Tg lab H l as_ T/\Tw T/\T.length<=16/\(∀p,rl T p<=30)/\∀m H',F0_ H H'->H m=none->HA_ H' m T->Q (.ref m) H'
theorem n4_(T:Txt K mg)(F:Fn0 K mg "_law_mates" GF_):Cal P w K mg base "_law_mates" ["_law_turns"] 1 IR_:=by
  show aP_ F dt_.1 λf cdv A outer s H vs Q E hr h=>?_;obtain⟨α,dec,lab,ky,l,as_,Tt,rfl,hlab,inj,hT,tw,t16,r30,k⟩:=h;refine'⟨_,?D,?R⟩
  case D =>
   refine' ag_ ?a (ag_ ?b ?c)
   case a=>show zas 1 dt_ eK_
   case b=>show zas 2 dt_ oP_
   case' c=>refine' ag_ (a6_ AF_ rfl (aZ_ ew_ T.n_range (pa_c (aj_ an_ fQ_ T.n_len aQ_ (pa_c (zv 0 dt_) ab_)) ab_)) ?d ?e) (ad_ (ap_ (zv 2 dt_)))
   case d=>show zh 3 dt_
   case' e=>refine' ad_ (a6_ AF_ rfl ?f ?g (af_ (zas 5 dt_ (F9_ ar_ (F9_ ar_ (zv 0 dt_) (zv 3 dt_)) (zv 4 dt_))) ?h))
   case' f=>refine' aZ_ ew_ T.n_range (pa_c (aj_ an_ fQ_ T.n_len aQ_ (pa_c (F9_ ar_ (zv 0 dt_) (zv 3 dt_)) ab_)) ab_)
   case g=>show zh 4 dt_
   case' h=>refine' ad_ (Gz_ (lI_ (ru_ (un1 hr.units) (zv 5 dt_) (zv 1 dt_))) ?i (ad_ (gh_ (un1 hr.units) (zv 1 dt_) (zv 5 dt_) (aK_ (pa_c (zv 3 dt_) (pa_c (zv 4 dt_) ab_))) rfl)))
   case' i=>refine' af_ (gh_ (un1 hr.units) (zv 2 dt_) (aK_ (pa_c (zv 3 dt_) (pa_c (zv 4 dt_) ab_))) (bl_ (un1 hr.units) (zv 1 dt_) (zv 5 dt_)) rfl) ?j
   case' j=>refine' ad_ (gh_ (un1 hr.units) (zv 2 dt_) (bl_ (un1 hr.units) (zv 1 dt_) (zv 5 dt_)) (aK_ (pa_c (zv 3 dt_) (pa_c (zv 4 dt_) ab_))) rfl)
  case R =>
   walk_at "rd";intro Fd hFd Md hMd;have s0:F0_ H (upd (upd H Fd (HO.dK [])) Md (HO.dT [])):=(F0_.new hFd).trans (F0_.new hMd);have nF:Fd≠Md:=λz=>by rw[<-z,aa_]at hMd;cases hMd
   have hM0:H Md=none:=(F0_.new hFd).free hMd;have ms0:MS H H (upd (upd H Fd (HO.dK [])) Md (HO.dT [])) Fd Md [] []:=⟨F0_.refl _,hFd,hM0,s0,by rw[ae_ nF];show aa_,aa_⟩;generalize upd (upd H Fd (HO.dK [])) Md (HO.dT [])=H0 at s0 ms0⊢;show⟨_,.inl (s0 _ _ hT.top),?_⟩;rw[Aa_,hT.len];show⟨o_,o_,?_⟩;rw[AK_];show bU_ (λi σ H'=>∃(S:Hp)(k1:List (Key×V))(k2:List (List Key×V))(e3 e4 e5:Option V),σ=[some (.ref l),some (.ref Fd),some (.ref Md),e3,e4,e5]/\MS H S H' Fd Md k1 k2/\Mi ky Tt S (Dn i 0) k1 k2/\k1.length<=30*i/\k2.length<=60*i) ?_ ?_ ?_
   .show⟨H,[],[],_,_,_,rfl,ms0,⟨λw=>.inr ⟨λc hc=>?_,rfl⟩,λa b m x y=>?_⟩,Af_ _,Af_ _⟩
    .rcases hc with z|z <;> lia
    .rcases x with z|z <;> lia
   .rintro i σ H' hi kc kb hkc hkb G hG ⟨S,k1,k2,e3,e4,e5,rfl,ms,mi,l1,l2⟩;show hG ?_;have hT1:=(hT.mono ms.hS).mono ms.sH;obtain⟨a,ea,at0,ra⟩:=hT1.at_ hi;walk_at "rd";rw[Cx_];show⟨_,hT1.top,_,at0,_,rfl,_,.inl ra,?_⟩;rw[Aa_];have r3:=r30 i;unfold rl at r3;show⟨o_,o_,?_⟩;rw[AK_];show bU_ (λj σ H'=>∃(S:Hp)(k1:List (Key×V))(k2:List (List Key×V))(e4 e5:Option V),σ=[some (.ref l),some (.ref Fd),some (.ref Md),some (.int i),e4,e5]/\MS H S H' Fd Md k1 k2/\Mi ky Tt S (Dn i j) k1 k2/\k1.length<=30*i+j/\k2.length<=60*i+2*j) ?_ ?_ ?_
    .show⟨S,k1,k2,_,_,rfl,ms,mi,o_,o_⟩
    .clear ms mi l1 l2 hT1 ra ea at0 a k1 k2 S;rintro j σ H' hj kc2 kb2 hkc2 hkb2 G2 hG2 ⟨S,k1,k2,e4,e5,rfl,ms,mi,l1,l2⟩;show hG2 ?_;have hT1:=(hT.mono ms.hS).mono ms.sH;obtain⟨a,ea,at0,ra⟩:=hT1.at_ hi;walk_at "rd";simp only[Cx_];obtain⟨w,hw⟩:∃w,(Tt.getD i [])[j]?=some w:=⟨_,Ab_ hj⟩;have hwi:wi Tt (i,j)=some w:=hw;have i16:i<16:=o_
     have nD:¬ Dn i j (i,j):=by unfold Dn;lia
     have eD:∀c w',wi Tt c=some w'->((Dn i j c\/c=(i,j))↔Dn i (j+1) c):=λc w' _=>by
      unfold Dn;constructor
      .rintro((z|⟨z,z2⟩)|z)
       .show .inl z
       .show .inr ⟨z,o_⟩
       .rw[z];show .inr ⟨rfl,Nat.lt_succ_self _⟩
      .rintro(z|⟨z,z2⟩)
       .show .inl (.inl z)
       .by_cases y:c.2=j
        .show .inr (C2_ z y)
        .show .inl (.inr ⟨z,o_⟩)
     show⟨_,hT1.top,_,at0,_,rfl,_,ra,kV (ky w),?_,?_⟩
     .show fz_ o_ (by rw[AK_,Ae_,hw,CG_,hlab])
     walk_at "rd";show⟨_,HC_.k (k:=ky w) ms.f,?_⟩
     rcases mi.fi w with⟨c,q,dc,wc,hv,hq⟩|⟨no,hv⟩
     .rw[if_pos (by rw[hv];rfl)];walk_at "rd";show⟨.ref q,hv▸HC_.k (k:=ky w) ms.f,d_,λp hp=>?_⟩;have ms1:=ms.new (o:=cV (i,j)) hp;have ms2:=ms1.putM (G1_ k2 (cK (i,j)) (.ref q));have z1:=bt_ k2 (cK (i,j)) (.ref q);show⟨_,Jb_.t (k:=cK (i,j)) ms1.m aa_ (F3_ o_),?_⟩;walk_at "rd";show⟨d_,λq0 hq0=>?_⟩;have ms3:=ms2.new (o:=cV (i,j)) hq0;have mi3:=(mi.mono (bi_ (o:=cV (i,j)) ms.sH hp)).mono (bi_ (o:=cV (i,j)) ms2.sH hq0);have hqS:=bi_ (o:=cV (i,j)) ms2.sH hq0 _ _ (bi_ (o:=cV (i,j)) ms.sH hp _ _ hq);have z2:=bt_ (G1_ k2 (cK (i,j)) (.ref q)) (cK c) (.ref q0);show⟨.ref q,hv▸HC_.k (k:=ky w) ms3.f,_,Jb_.t (k:=cK c) ms3.m (ms3.sH _ _ hqS) (F3_ o_),?_⟩;show hkc2 _ _ ⟨_,_,_,_,_,rfl,ms3.putM _,(Mi.old tw mi3 hwi nD dc wc hqS aa_).imp eD,o_,o_⟩
     .rw[if_neg (by rw[hv];decide)];show⟨d_,λq0 hq0=>?_⟩;have ms1:=ms.new (o:=cV (i,j)) hq0;have z1:=bt_ k1 (ky w) (.ref q0);show⟨_,Jb_.k (k:=ky w) ms1.f (F3_ o_),?_⟩;show hkc2 _ _ ⟨_,_,_,_,_,rfl,ms1.putF _,((mi.mono (bi_ ms.sH hq0)).new inj hwi hv aa_).imp eD,o_,o_⟩
    .rintro σ H' ⟨S,k1,k2,e4,e5,rfl,ms,mi,l1,l2⟩;show hkc _ _ ⟨S,k1,k2,_,_,_,rfl,ms,mi.imp λc w hw=>?_,o_,o_⟩;have:=(IJ_ hw).1;unfold rl at this;unfold Dn;constructor
     .rintro(z|⟨z,z2⟩)
      .show .inl o_
      .show .inl o_
     .rintro(z|⟨z,z2⟩)
      .by_cases y:c.1=i
       .rw[y]at this;show .inr ⟨y,this⟩
       .show .inl o_
      .lia
   .rintro σ H' ⟨S,k1,k2,e3,e4,e5,rfl,ms,mi,l1,l2⟩;walk_at "rd";show k Md H' (ms.hS.trans ms.sH) hM0 ⟨k2,ms.m,λa b m=>?_⟩;obtain⟨ne,w,wa,wb⟩:=id m;obtain⟨q,h1,h2⟩:=mi.ma a b m (.inl (IJ_ wa).2) (.inl (IJ_ wb).2);show⟨q,h1,ms.sH _ _ h2⟩
structure To(B H:Hp)(l:Addr)(as_:List Addr)(T:List (List Nat)):Prop where
 tn:Tn H l as_ T
 nd:as_.Nodup
 nl:l∉as_
 fl:B l=none
 fa:∀a∈as_,B a=none
variable{B:Hp}{T:List (List Nat)}
theorem To.mono(h:To B H l as_ T)(s:F0_ H H'):To B H' l as_ T:=⟨h.tn.mono s,h.nd,h.nl,h.fl,h.fa⟩
theorem lp_(n p:Nat):(List.replicate n ([]:List Nat)).getD p []=[]:=by rw[Ac_,EM_];split <;> rfl
theorem Kb_(T:List (List Nat))(p:Nat):rl T p<=T.flatten.length:=by
 unfold rl;rw[Ac_];cases e:T[p]? with
 |none=>show Av_ _
 |some l =>
  obtain⟨hp,e1⟩:=Ai_.mp e;have h2:T.flatten.length=(T.take p).flatten.length+(T.drop p).flatten.length:=by rw[<-Ak_,<-BN_,A1_]
  rw[BP_ hp,e1,A9_,Ak_]at h2;change l.length<=_;lia
theorem both{c1:Prop}[Decidable c1]{α:Type}{C:α->Prop}{c2:α->Prop}[∀x,Decidable (c2 x)]{X:α->Prop}{Y:Prop}(a:α)(ha:C a)(hX:c1->c2 a->X a)(hY:Y):if c1 then ∃x,C x/\(if c2 x then X x else Y)else Y:=by
 by_cases h1:c1
 .rw[if_pos h1];show⟨a,ha,?_⟩;by_cases h2:c2 a
  .rw[if_pos h2];show hX h1 h2
  .rw[if_neg h2];show hY
 .rw[if_neg h1];show hY
theorem lq_(l:List Nat)(k wire:Nat):(l.map λn:Nat=>V.int n).take k++V.int (0+(wire:Nat))::(l.map λn:Nat=>V.int n).drop k=(RimT.ins l k wire).map λn:Nat=>V.int n:=by unfold RimT.ins;rw[As_,AW_,Ei_,List.map_drop,Cx_]
theorem To.ins(h:To B H l as_ T){c:Nat×Nat}{a:Addr}(ha:as_[c.1]?=some a)(wire:Nat):To B (upd H a (.lst ((RimT.ins (T.getD c.1 []) c.2 wire).map λn:Nat=>V.int n))) l as_ (GJ_ T c wire):=by
 have la:l≠a:=λe=>h.nl (by rw[e];show Am_ ha);have cl:c.1<as_.length:=(Ai_.mp ha).1;show⟨⟨by rw[ae_ la];show h.tn.top,by rw[aI_];show h.tn.len,λp b hb=>?_⟩,h.nd,h.nl,h.fl,h.fa⟩;by_cases e:c.1=p
 .subst e;rw[ha]at hb;cases hb;rw[aa_];unfold GJ_;rw[Ac_ (l:=T.set _ _),BR_,if_pos rfl,if_pos (by rw[<-h.tn.len];show cl)];rfl
 .have ba:b≠a:=λz=>by rw[z]at hb;show e ((Bb_ cl h.nd).mp (ha.trans hb.symm))
  rw[ae_ ba,h.tn.row p b hb];unfold GJ_;rw[Ac_ (l:=T.set _ _),BR_,if_neg e,<-Ac_]
theorem To.more(h:To B H l as_ T)(sB:F0_ B H){a:Addr}(na:H a=none)(r:List Nat):To B (upd (upd H a (.lst (r.map λn:Nat=>V.int n))) l (.lst ((as_++[a]).map V.ref))) l (as_++[a]) (T++[r]):=by
 have la:l≠a:=ah_ h.tn.top na;have an:a∉as_:=λz=>by obtain⟨p,hp,e⟩:=Az_.mp z;have:=h.tn.row p a (by rw[Ab_ hp,e]);rw[na]at this;cases this
 show⟨⟨aa_,by simp[h.tn.len],λp b hb=>?_⟩,Be_.mpr ⟨h.nd,s_,λx hx y hy e=>an (by rw[<-Ag_.mp hy,<-e];show hx)⟩,λz=>?_,h.fl,λb hb=>?_⟩
 .have bl:b≠l:=λe=>by
   rw[e]at hb
   rcases At_.mp (Am_ hb)with z|z
   .show h.nl z
   .show la (Ag_.mp z)
  rw[ae_ bl];by_cases hp:p<as_.length
  .rw[AH_ hp]at hb;have e:=h.tn.row p b hb;rw[ae_ (λz=>by rw[z,na]at e;cases e),e,Ac_,Ac_,AH_ (by rw[<-h.tn.len];show hp)]
  .rw[AI_ o_]at hb;have e:=Ag_.mp (Am_ hb);have hz:p=as_.length:=by have:=(Ai_.mp hb).1;simp at this;lia
   rw[e,aa_,hz,h.tn.len,Ac_,AI_ (Af_ _)];simp
 .rcases At_.mp z with z|z
  .show h.nl z
  .show la (Ag_.mp z)
 .rcases At_.mp hb with z|z
  .show h.fa b z
  .rw[Ag_.mp z];show sB.free na
abbrev Gk_:Stmt:=stN 38
theorem a8_:ZL ["_law_big_here","_law_posts","_law_many","_law_within","_law_turns","_law_wire","_law_corners_here","_law_one","_law_way","_law_region_here","_law_other","_law_p","_law_k"] ["_law_big_here","_law_posts","_law_many","_law_within"] (F1_ Gk_):=zL
theorem bf_:LK Gk_ "_law_turns" .local:=r_
theorem fR_:LK Gk_ "_law_corners" .globalImplicit:=r_
theorem gR_:LK Gk_ "_law_mates" .globalImplicit:=r_
theorem go_:LK Gk_ "_law_region" .globalImplicit:=r_
theorem bV_:LK Gk_ "len" .globalImplicit:=r_
theorem ex_:LK Gk_ "range" .globalImplicit:=r_
theorem gS_:LK Gk_ "sorted" .globalImplicit:=r_
def I5_:Sp:=λvs H Q _=>∃(z:Int)(P W:Nat),vs=[.int z,.int P,.int W,.int 10]/\1<=P/\P<=6/\W<=15 /\
 ∀(p l:Addr)(as_:List Addr)(T:List (List Nat))(y:Int) H',F0_ H H'->H' p=some (.tup [.ref l,.int y])->To H H' l as_ T->Gr P W T->Q (.ref p) H'
theorem n5_(T:Txt K mg)(F:Fn0 K mg "_law_grown" Gk_) (Jk_:Cal P w K mg base "_law_corners" ["_law_turns","_law_posts"] 1 H4_) (Kc_:Cal P w K mg base "_law_mates" ["_law_turns"] 1 IR_) (JZ_:Cal P w K mg base "_law_region" ["_law_turns","_law_posts","_law_mates_here","_law_corner"] 2 Il_):Cal P w K mg base "_law_grown" ["_law_big_here","_law_posts","_law_many","_law_within"] 3 I5_:=by
  show aP_ F a8_.1 λf cdv A outer s H vs Q E hr h=>?_;obtain⟨z,Pp,W,rfl,P1,P6,W15,k⟩:=h;refine'⟨_,?D,?R⟩
  case D =>
   refine' af_ (hm_ (i:=4) (N':=["_law_p"]) (ix:=[none]) rfl rfl a8_.nd rfl bf_ rfl (cy_ ?a) (aZ_ ex_ T.n_range (pa_c (zv 1 a8_) ab_)) (λ_ _ _=>?b) (λ_ _ _=>?c) (λ_ _ _=>(aY_ ab_))) ?d
   case a=>show(by change Ih_ (F1_ Gk_) ["_law_big_here","_law_posts","_law_many","_law_within","_law_turns","_law_wire","_law_corners_here","_law_one","_law_way","_law_region_here","_law_other","_law_p","_law_k"] _ _ _=true;decide +kernel)
   case b=>show ak_ (i:=0) (by change List.Nodup (["_law_p"]:List Str);decide +kernel) rfl rfl
   case c=>show e1_
   case' d=>refine' ag_ ?e (ad_ (ap_ (aK_ (pa_c (zv 4 a8_) (pa_c (zv 0 a8_) ab_)))))
   case' e=>refine' a6_ AF_ rfl (aZ_ ex_ T.n_range (pa_c (zv 2 a8_) ab_)) ?f (af_ (zas 6 a8_ (al_ Jk_ (hr.mono d_) fR_ (pa_c (zv 4 a8_) (pa_c (zv 1 a8_) ab_)))) ?g)
   case f=>show zh 5 a8_
   case' g=>refine' af_ (zas 7 a8_ (F9_ ar_ (zv 6 a8_) (F2_ aD_ (zv 0 a8_) (aj_ an_ bV_ T.n_len aQ_ (pa_c (zv 6 a8_) ab_))))) ?h
   case' h=>refine' af_ (zas 0 a8_ (F2_ aq_ (zv 0 a8_) (aj_ an_ bV_ T.n_len aQ_ (pa_c (zv 6 a8_) ab_)))) ?i
   case' i=>refine' af_ (zas 8 a8_ (F2_ aD_ (zv 0 a8_) ac_)) (af_ (zas 0 a8_ (F2_ aq_ (zv 0 a8_) ac_)) (ad_ ?j))
   case' j=>refine' Gz_ ?k (af_ ?l (ad_ (a4_ (Hc_ AP_ A2_ A3_ a0_ (zv 4 a8_) (pa_c (aY_ (pa_c (zv 5 a8_) ab_)) ab_))))) ?m
   case' k=>refine' PW.pt (lJ_ (ao_ Hb_ (zv 8 a8_) ac_ (Gf_ _)) (i1_ (ao_ JV_ (aj_ an_ bV_ T.n_len aQ_ (pa_c (zv 4 a8_) ab_)) (F2_ aT_ (zv 1 a8_) (zv 3 a8_)) (Gf_ _))))
   case' l=>refine' a4_ (Hc_ AP_ EK_ EL_ ka_ (F9_ ar_ (zv 4 a8_) (F9_ au_ (zv 7 a8_) ac_)) (pa_c (F9_ au_ (zv 7 a8_) ac_) (pa_c (zv 5 a8_) ab_)))
   case' m=>refine' af_ ?n (af_ (zas 10 a8_ (F9_ ar_ (zv 9 a8_) (F2_ aD_ (zv 0 a8_) (aj_ an_ bV_ T.n_len aQ_ (pa_c (zv 9 a8_) ab_))))) ?o)
   case' n=>refine' zas 9 a8_ (al_ JZ_ (hr.mono d_) go_ (pa_c (zv 4 a8_) (pa_c (zv 1 a8_) (pa_c (al_ Kc_ (hr.mono d_) gR_ (pa_c (zv 4 a8_) ab_)) (pa_c (zv 7 a8_) ab_)))))
   case' o=>refine' af_ (zas 0 a8_ (F2_ aq_ (zv 0 a8_) (aj_ an_ bV_ T.n_len aQ_ (pa_c (zv 9 a8_) ab_)))) ?p
   case' p=>refine' ad_ (a6_ AF_ rfl ?q (bk_ (K:=K) (n:=2) rfl rfl (am_ ?r (am_ ?s bd_))) ?t)
   case' q=>refine' aO_ (K:=K) rfl (mH_ hr.units gS_ T.n_sorted (pa_c (aY_ (pa_c (zv 7 a8_) (pa_c (zv 10 a8_) ab_))) ab_))
   case r=>show zh 11 a8_
   case s=>show zh 12 a8_
   case' t=>refine' ad_ (a4_ (Hc_ AP_ EK_ EL_ ka_ (F9_ ar_ (zv 4 a8_) (zv 11 a8_)) (pa_c (zv 12 a8_) (pa_c (zv 5 a8_) ab_))))
  case R =>
   walk_at "rd";show⟨o_,o_,?_⟩;rw[show Int.toNat (Pp:Int)=Pp by lia];intro D hD;show⟨λi m σ H'=>m=Pp-i/\i<=Pp/\(∃e,σ=[e])/\F0_ H H'/\∃as_:List Addr,as_.length=i/\To H H' D as_ (List.replicate i []),⟨Pp,s_,Av_ _,⟨_,rfl⟩,F0_.new hD,[],rfl,⟨⟨aa_,rfl,λp a h=>(by cases h)⟩,Bn_,λh=>(by cases h),hD,λa h=>(by cases h)⟩⟩,?_⟩;rintro i m σ H' ⟨rfl,hi,⟨e,rfl⟩,s1,as_,al,hT⟩;by_cases hlt:i<Pp
   .show .inr ⟨hlt,λσ2 H2=>(∃e,σ2=[e])/\F0_ H H2/\∃as_:List Addr,as_.length=i+1/\To H H2 D as_ (List.replicate (i+1) []),λσ2 H2 ⟨a,b,c⟩=>⟨Pp-(i+1),o_,rfl,hlt,a,b,c⟩,?_⟩;rintro x H'' ⟨rfl,rfl⟩;walk_at "rd";show⟨Av_ _,λa na=>?_⟩;have fa:H a=none:=s1.free na;have Da:D≠a:=ah_ hT.tn.top na;show⟨as_.map V.ref,by rw[ae_ Da];show hT.tn.top,F3_ (by rw[Aa_];lia),⟨_,rfl⟩,λb o hb=>?_,as_++[a],by simp[al],?_⟩
    .rw[ae_ (ah_ hb hD),ae_ (ah_ hb fa)];show s1 _ _ hb
    .have an:a∉as_:=λh=>by obtain⟨p,hp,e⟩:=Az_.mp h;have:=hT.tn.row p a (by rw[Ab_ hp,e]);rw[na]at this;cases this
     show⟨⟨by rw[aa_,As_];rfl,by simp[al],λp b hb=>?_⟩,?_,?_,hD,λb hb=>?_⟩
     .have hbD:b≠D:=λe=>by
       rw[e]at hb
       rcases At_.mp (Am_ hb)with h|h
       .show hT.nl h
       .show Da (Ag_.mp h)
      rw[ae_ hbD];by_cases hp:p<as_.length
      .rw[AH_ hp]at hb;have e:=hT.tn.row p b hb;rw[ae_ (λz=>by rw[z,na]at e;cases e),e,lp_,show([]:List Nat)::List.replicate i []=List.replicate (i+1) []from rfl,lp_]
      .have e:b=a:=by rw[AI_ o_]at hb;have:=Am_ hb;show Ag_.mp this
       rw[e,aa_,show([]:List Nat)::List.replicate i []=List.replicate (i+1) []from rfl,lp_];rfl
     .show Be_.mpr ⟨hT.nd,s_,λx hx y hy e=>an (by rw[<-Ag_.mp hy,<-e];show hx)⟩
     .intro h
      rcases At_.mp h with h|h
      .show hT.nl h
      .show Da (Ag_.mp h)
     .rcases At_.mp hb with h|h
      .show hT.fa b h
      .rw[Ag_.mp h];show fa
   .have e:i=Pp:=o_
    subst e;show .inl ⟨Af_ _,?_⟩;walk_at "rd";show⟨o_,o_,?_⟩;rw[show Int.toNat (W:Int)=W by lia];show bU_ (λv σ H2=>∃(z:Int)(e5 e6 e7 e8 e9 e10 e11 e12:Option V)(as_:List Addr)(T:List (List Nat)),σ=[some (.int z),some (.int i),some (.int W),some (.int 10),some (.ref D),e5,e6,e7,e8,e9,e10,e11,e12]/\F0_ H H2/\To H H2 D as_ T/\Gr i v T) ⟨z,none,none,none,none,none,none,none,none,as_,_,rfl,s1,hT,oR_ i⟩ ?_ ?_
    .rintro v σ H2 hv kc kb hkc hkb G hG ⟨z,e5,e6,e7,e8,e9,e10,e11,e12,as_,T,rfl,s2,hT,gr⟩;show hG ?_;have hv':v<W:=hv;have gc:=gr.corners;have gl:=gr.len;have gm:=gr.most;walk_at "rd";show⟨D,as_,T,i,rfl,hT.tn,o_,o_,λR H3 s3 repR=>?_⟩;obtain⟨_,vs,e0,hR',hvs⟩:=id repR;cases e0;obtain⟨nR,hR⟩:=bs_ hR';have hvl:vs.length=(corners T i).length:=by rw[hvs.length,Aa_]
     have c0:0<(corners T i).length:=by have:(0,0)∈corners T i:=e9_.mpr ⟨by change 0<T.length;lia,by change 0<_+(if 0<i then 1 else 0);rw[if_pos o_];lia⟩;show EY_ this
     obtain⟨j,hj,jl⟩:∃j:Nat,z%(vs.length:Int)=j/\j<vs.length:=⟨(z%(vs.length:Int)).toNat,by have:=AU_ z (show(vs.length:Int)≠0 by lia);lia,by have:=AU_ z (show(vs.length:Int)≠0 by lia);have:=AO_ z (show(0:Int)<(vs.length:Int) by lia);lia⟩;obtain⟨xs,ex,hcs⟩:=p4_ (Gt_.mono bS_ _ hvs);have ec:(corners T i)[j]?=some ((corners T i)[j]'o_):=Ab_ _;obtain⟨q,hxq,hq⟩:=hcs.get ec;have ic:IsC T i ((corners T i)[j]'o_):=e9_.mp (BJ_ _);generalize(corners T i)[j]'o_=c at*
     have lg:((vs.length:Int)).natAbs.log2<9000:=by
      have:((vs.length:Int)).natAbs<=1000:=o_
      by_cases h0:((vs.length:Int)).natAbs=0
      .rw[h0];decide
      .rw[E3_ h0];show Bz_ this r_
     walk_at "rd";show⟨vs,.inl hR,o_,vs,hR,.ref q,?_,?_⟩
     .rw[hj];show fz_ o_ ?_;rw[AK_,ex,Ae_,hxq];rfl
     walk_at "rd";show⟨vs,.inl hR,o_,lg,?_⟩;walk_at "rd";show⟨d_,?_⟩;walk_at "rd";show⟨d_,r_,?_⟩;walk_at "rd";have hT3:=hT.mono s3;have s23:=s2.trans s3;have cb:c.2<=rl T c.1:=by have:=ic.2;split at this <;> lia
     show both (as_.map V.ref) (.inl hT3.tn.top) (λh1 h2=>?_) ?_
     .obtain⟨a,ea,at0,ra⟩:=hT3.tn.at_ ic.1;have rw30:rl T c.1<=30:=by have:=Kb_ T c.1;rw[gr.tot]at this;lia
      have rln:(T.getD c.1 []).length=rl T c.1:=rfl;have Da:D≠a:=λe=>hT3.nl (by rw[e];show Am_ ea);have fa:=hT3.fa a (Am_ ea);walk_at "rd";show⟨_,hq,_,G2_,_,_,rfl,hT3.tn.top,.ref a,at0,.inl ⟨_,.inl (.inl ra)⟩,_,hq,_,Hm_,a,rfl,_,_,rfl,ra,o_,by rw[Aa_,rln];lia,by rw[Aa_,rln];lia,?_⟩;rw[AK_,lq_];have hT4:=hT3.ins ea v;have s4:F0_ H (upd H3 a (.lst ((RimT.ins (T.getD c.1 []) c.2 v).map λn:Nat=>V.int n))):=λb o hb=>by rw[ae_ (ah_ hb fa)];show s23 _ _ hb
      generalize upd H3 a (.lst ((RimT.ins (T.getD c.1 []) c.2 v).map λn:Nat=>V.int n))=H4 at*;walk_at "rd";show⟨.inl ⟨_,.inl (.inl hT4.tn.top)⟩,d_,λp np=>?_⟩;have Dp:D≠p:=ah_ hT4.tn.top np;have hT5:=hT4.more s4 np [v];show⟨as_.map V.ref,by rw[ae_ Dp];show hT4.tn.top,F3_ (by rw[Aa_];have:=hT4.tn.len;rw[aI_]at this;lia),?_⟩;have e1:as_.map V.ref++[V.ref p]=(as_++[p]).map V.ref:=s_
      have e2:[V.int (0+(v:Nat))]=[v].map λn:Nat=>V.int n:=s_
      rw[e1,e2];show hkc _ _ ⟨_,_,_,_,_,_,_,_,_,_,_,rfl,λb o hb=>?_,hT5,qw_ gr ic.1 (by rw[Aa_]at h2;have:=hT3.tn.len;lia)⟩;rw[ae_ (ah_ hb hT.fl),ae_ (ah_ hb (s4.free np))];show s4 _ _ hb
     .have rl30:∀p,rl T p<=30:=λp=>by have:=Kb_ T p;rw[gr.tot]at this;lia
      walk_at "rd";show⟨Nat,_,_,λn:Nat=>.inl (n:Int),D,as_,T,rfl,λ_=>rfl,λa b h=>Int.ofNat.inj (FT_ h),hT3.tn,gr.tw,o_,rl30,λM H4 s4 nM hM=>?_⟩;show⟨_,_,_,D,M,q,as_,T,i,c,rfl,hT3.tn.mono s4,hM,gr.tw,o_,gl,s4 _ _ hq,ic,o_,λR2 H5 xs2 cs2 s5 nR2 hR2 hcs2 ne2 len2 all2 _ _ _=>?_⟩;have x2l:xs2.length=cs2.length:=hcs2.len;have l2:0<cs2.length:=Dc_.mpr ne2
      have lg2:(((xs2.map V.ref).length:Int)).natAbs.log2<9000:=by
       rw[Aa_];by_cases h0:((xs2.length:Int)).natAbs=0
       .rw[h0];decide
       .rw[E3_ h0];show Bz_ (show((xs2.length:Int)).natAbs<=1000 by lia) r_
      generalize hy:z/(vs.length:Int)/3=y;obtain⟨j2,hj2,jl2⟩:∃j:Nat,y%((xs2.map V.ref).length:Int)=j/\j<xs2.length:=by rw[Aa_];have a1:=AU_ y (show(xs2.length:Int)≠0 by lia);have a2:=AO_ y (show(0:Int)<(xs2.length:Int) by lia);show⟨(y%(xs2.length:Int)).toNat,o_,o_⟩
      have ec2:cs2[j2]?=some (cs2[j2]'o_):=Ab_ _;obtain⟨q2,hxq2,hq2⟩:=hcs2.get ec2;have ic2:IsC T i (cs2[j2]'o_):=all2 _ (BJ_ _);generalize cs2[j2]'o_=d at*;have hq5:=s5 _ _ (s4 _ _ hq);walk_at "rd";show⟨_,.inl hR2,by rw[Aa_];lia,_,hR2,.ref q2,?_,?_⟩
      .rw[hj2];show fz_ o_ ?_;rw[AK_,Ae_,hxq2];rfl
      walk_at "rd";show⟨_,.inl hR2,by rw[Aa_];lia,lg2,?_⟩;walk_at "rd";show⟨d_,λp np=>⟨(c.1,c.2),(F0_.new np) _ _ hq5,(d.1,d.2),(F0_.new np) _ _ hq2,λl zs nl hzs=>⟨⟨_,.inl (.inl aa_)⟩,?_⟩⟩⟩
      obtain⟨r1,r2,a1,a2,ez,g1,g2,i1,i2⟩:∃(r1 r2:Addr)(a1 a2:Nat×Nat),zs=[V.ref r1,V.ref r2]/\H5 r1=some (cV a1)/\H5 r2=some (cV a2)/\IsC T i a1/\IsC T i a2:=by
       rcases hzs with e|e
       .show⟨q,q2,c,d,e,hq5,hq2,ic,ic2⟩
       .show⟨q2,q,d,c,e,hq2,hq5,ic2,ic⟩
      have S6:F0_ H5 (upd (upd H5 p (HO.lst [V.ref q,V.ref q2])) l (HO.lst zs)):=(F0_.new np).trans (F0_.new nl);have hT6:=((hT3.mono s4).mono s5).mono S6;have s6:F0_ H (upd (upd H5 p (HO.lst [V.ref q,V.ref q2])) l (HO.lst zs)):=s23.trans (s4.trans (s5.trans S6));have hl6:=aa_ (H:=upd H5 p (HO.lst [V.ref q,V.ref q2])) (a:=l) (o:=HO.lst zs);have h61:=S6 _ _ g1;have h62:=S6 _ _ g2;have lT:l∉as_:=λz=>by obtain⟨p',hp',e⟩:=Az_.mp z;have e2:=((hT3.mono s4).mono s5).tn.row p' l (by rw[Ab_ hp',e]);have e3:=(F0_.new np (o:=HO.lst [V.ref q,V.ref q2])) _ _ e2;rw[nl]at e3;cases e3
      generalize upd (upd H5 p (HO.lst [V.ref q,V.ref q2])) l (HO.lst zs)=H6 at*;have notT:∀r a,H6 r=some (cV a)->r∉as_:=λr a hr z=>by obtain⟨p',hp',e⟩:=Az_.mp z;have e2:=hT6.tn.row p' r (by rw[Ab_ hp',e]);rw[hr]at e2;cases e2
      subst ez
      have step:∀(T':List (List Nat))(a:Nat×Nat)(H7:Hp),T'.length=T.length->(∀p,rl T p<=rl T' p)->(∀p,rl T' p<=40)->IsC T i a->To H H7 D as_ T'->F0_ H H7->∃ad,atI (as_.map V.ref) (a.1:Int)=some (.ref ad)/\H7 ad=some (.lst ((T'.getD a.1 []).map λn:Nat=>V.int n))/\(a.2:Nat)<=(T'.getD a.1 []).length/\(T'.getD a.1 []).length<1000/\ad∈as_/\To H (upd H7 ad (.lst ((RimT.ins (T'.getD a.1 []) a.2 v).map λn:Nat=>V.int n))) D as_ (GJ_ T' a v)/\F0_ H (upd H7 ad (.lst ((RimT.ins (T'.getD a.1 []) a.2 v).map λn:Nat=>V.int n))):=λT' a H7 hl hm h40 ia hT7 s7=>by
       obtain⟨ad,ea,at0,ra⟩:=hT7.tn.at_ (p:=a.1) (by rw[hl];show ia.1);have:=ia.2;have m1:=hm a.1;have m2:=h40 a.1;have ab:a.2<=rl T a.1:=by split at this <;> lia
       show⟨ad,at0,ra,by unfold rl at*;lia,by unfold rl at*;lia,Am_ ea,hT7.ins ea v,λb o hb=>?_⟩;rw[ae_ (ah_ hb (hT7.fa ad (Am_ ea)))];show s7 _ _ hb
      have lenS:∀(T':List (List Nat))(a:Nat×Nat)(p:Nat),rl (GJ_ T' a v) p<=rl T' p+1:=λT' a p=>by
       unfold GJ_ rl;rw[Ac_,Ac_,BR_];by_cases h:a.1=p
       .subst h;by_cases h2:a.1<T'.length
        .simp only[if_true,h2,Option.getD_some,gi_];rw[Ac_];show Af_ _
        .simp[h2,B0_ (CK_.mp h2)]
       .simp[h]
      show bF_ (xs:=[V.ref r1,V.ref r2]) (λt σ H7=>∃(e11 e12:Option V),σ=[some (.int (y/((xs2.map V.ref).length:Int))),some (.int i),some (.int W),some (.int 10),some (.ref D),some (.int (0+(v:Nat))),some (.ref R),some (.ref q),some (.int (z/(vs.length:Int)%3)),some (.ref R2),some (.ref q2),e11,e12]/\F0_ H H7/\(∀b o,b∉as_->H6 b=some o->H7 b=some o)/\To H H7 D as_ (if t=0 then T else if t=1 then GJ_ T a1 v else GJ_ (GJ_ T a1 v) a2 v)) ⟨e11,e12,rfl,s6,λb o _ h=>h,hT6⟩ ?_ ?_ ?_
      .rintro t σ H7 ht ⟨e11,e12,rfl,s7,k7,hT7⟩;show .inl (.inl (k7 _ _ lT hl6))
      .rintro t x σ H7 hx kc2 kb2 hkc2 hkb2 G2 hG2 ⟨e11,e12,rfl,s7,k7,hT7⟩;show hG2 ?_
       match t,hx with
       |0,hx =>
        cases hx;have hr1:=k7 _ _ (notT _ _ h61) h61;obtain⟨ad,at0,ra,ab,a1000,ain,hT8,s8⟩:=step T a1 H7 rfl (λ_=>Af_ _) (λp=>by have:=rl30 p;lia) i1 hT7 s7;walk_at "rd";show⟨_,SqT.of hr1,rfl,_,_,rfl,_,_,rfl,rfl,_,_,rfl,hT7.tn.top,.ref ad,at0,.inl ⟨_,.inl (.inl ra)⟩,ad,rfl,_,_,rfl,ra,o_,by rw[Aa_,AK_];show ab,by rw[Aa_];show a1000,?_⟩;rw[AK_,lq_];show hkc2 _ _ ⟨_,_,rfl,s8,λb o hb h=>by rw[ae_ (λe=>hb (by rw[e];show ain))];show k7 b o hb h,hT8⟩
       |1,hx =>
        cases hx;have hr2:=k7 _ _ (notT _ _ h62) h62;obtain⟨ad,at0,ra,ab,a1000,ain,hT8,s8⟩:=step (GJ_ T a1 v) a2 H7 (aI_ ..) (λp=>g3_ v p) (λp=>by have:=rl30 p;have:=lenS T a1 p;lia) i2 hT7 s7;walk_at "rd";show⟨_,SqT.of hr2,rfl,_,_,rfl,_,_,rfl,rfl,_,_,rfl,hT7.tn.top,.ref ad,at0,.inl ⟨_,.inl (.inl ra)⟩,ad,rfl,_,_,rfl,ra,o_,by rw[Aa_,AK_];show ab,by rw[Aa_];show a1000,?_⟩;rw[AK_,lq_];show hkc2 _ _ ⟨_,_,rfl,s8,λb o hb h=>by rw[ae_ (λe=>hb (by rw[e];show ain))];show k7 b o hb h,hT8⟩
      .rintro σ H7 ⟨e11,e12,rfl,s7,k7,hT7⟩;show hkc _ _ ⟨_,_,_,_,_,_,_,_,_,as_,_,rfl,s7,hT7,rv_ gr i1.1 i2.1⟩
    .rintro σ H2 ⟨z,e5,e6,e7,e8,e9,e10,e11,e12,as_,T,rfl,s2,hT,gr⟩;walk_at "rd";show⟨d_,λp np=>k p D as_ T z _ (s2.trans (F0_.new np)) aa_ (hT.mono (F0_.new np)) gr⟩
def sgs:List Nat:=(Str.ofString "abcdefghijklmnopqrstuvwxyz0123456789").cps.toList
theorem n6_:sgs.length=36:=r_
theorem rL_:sgs.Nodup:=r_
def sg(i:Nat):Nat:=sgs.getD i 0
variable{i:Nat}
theorem KS_(h:i<36):sgs[i]?=some (sg i):=by unfold sg;rw[Ac_,Ab_ (by rw[n6_];show h)];rfl
theorem n7_{j:Nat}(hi:i<36)(hj:j<36)(h:sg i=sg j):i=j:=(Bb_ (by rw[n6_];show hi) rL_).mp (by rw[KS_ hi,KS_ hj,h])
theorem mi_{z:Int}(h0:0<=z)(h1:z<36):atI sgs z=some (sg z.toNat):=fz_ h0 (KS_ o_)
def one(c:Nat):Str:=⟨#[c]⟩
def nmA(hd tl:Str)(fi k:Nat):Str:=hd++one (sg ((fi+7*k)%36))++tl
theorem pc_(a b:Str):(a++b).cps.toList=a.cps.toList++b.cps.toList:=by change(a.cps++b.cps).toList=_;simp
theorem qL_{hd tl:Str}{fi a b:Nat}(ha:a<16)(hb:b<16)(h:nmA hd tl fi a=nmA hd tl fi b):a=b:=by have e:=congrArg (λs:Str=>s.cps.toList) h;simp only[nmA,pc_]at e;have e2:=List.append_cancel_right e;have e3:=List.append_cancel_left e2;have e4:sg ((fi+7*a)%36)=sg ((fi+7*b)%36):=(C9_ e3).1;have:=n7_ (Ce_ _ d_) (Ce_ _ d_) e4;lia
def nmB(fi k:Nat):Str:=⟨(List.replicate (1+k%7) (sg fi)++if 6<k then[sg ((fi+1+k/7)%36)]else[]).toArray⟩
theorem qM_{fi a b:Nat}(hf:fi<36)(ha:a<16)(hb:b<16)(h:nmB fi a=nmB fi b):a=b:=by
 have e0:=congrArg (λs:Str=>s.cps.toList) h;have e:List.replicate (1+a%7) (sg fi)++(if 6<a then[sg ((fi+1+a/7)%36)]else[])=List.replicate (1+b%7) (sg fi)++(if 6<b then[sg ((fi+1+b/7)%36)]else[]):=by simpa[nmB]using e0
 have ne:∀c,6<c->c<16->sg ((fi+1+c/7)%36)≠sg fi:=λc h1 h2 z=>by have:=n7_ (Ce_ _ d_) hf z;lia
 have len:=congrArg List.length e;simp only[Ak_,E7_]at len;have last:=congrArg List.getLast? e;by_cases h1:6<a <;> by_cases h2:6<b
 .rw[if_pos h1,if_pos h2]at last len;rw[B5_,B5_]at last;have e4:sg ((fi+1+a/7)%36)=sg ((fi+1+b/7)%36):=by simpa using last
  have:=n7_ (Ce_ _ d_) (Ce_ _ d_) e4;simp at len;lia
 .rw[if_pos h1,if_neg h2]at last;rw[B5_,AR_,FS_ 1 (b%7),Fu_,B5_]at last;show absurd (by simpa using last) (ne a h1 ha)
 .rw[if_neg h1,if_pos h2]at last;rw[AR_,FS_ 1 (a%7),Fu_,B5_,B5_]at last;show absurd (by simpa using last.symm) (ne b h2 hb)
 .rw[if_neg h1,if_neg h2]at len;simp at len;lia
theorem mj_{f:Nat->Str}{n:Nat}(h:∀a b,a<n->b<n->f a=f b->a=b):((List.range n).map f).Nodup:=by unfold List.Nodup;rw[B8_];show EF_ (λ{a b} ha hb ne e=>ne (h a b (AX_.mp ha) (AX_.mp hb) e)) List.nodup_range
theorem mul_one{c:Nat}:∀m:Nat,1<=m->m<=7->MulOk (one c) (m:Int)/\Txt.mul (one c) (m:Int)=⟨(List.replicate m c).toArray⟩
 |0,h,_=>absurd h d_
 |1,_,_=>⟨⟨d_,λ_ h=>absurd h s_,λ_ h=>absurd h s_⟩,rfl⟩
 |2,_,_=>⟨⟨d_,λ_ _=>(by change ¬ ((1:Int) > _);decide),λ_ _=>(by change Builtin.Str.tooLong 2=false;decide +kernel)⟩,rfl⟩
 |3,_,_=>⟨⟨d_,λ_ _=>(by change ¬ ((1:Int) > _);decide),λ_ _=>(by change Builtin.Str.tooLong 3=false;decide +kernel)⟩,rfl⟩
 |4,_,_=>⟨⟨d_,λ_ _=>(by change ¬ ((1:Int) > _);decide),λ_ _=>(by change Builtin.Str.tooLong 4=false;decide +kernel)⟩,rfl⟩
 |5,_,_=>⟨⟨d_,λ_ _=>(by change ¬ ((1:Int) > _);decide),λ_ _=>(by change Builtin.Str.tooLong 5=false;decide +kernel)⟩,rfl⟩
 |6,_,_=>⟨⟨d_,λ_ _=>(by change ¬ ((1:Int) > _);decide),λ_ _=>(by change Builtin.Str.tooLong 6=false;decide +kernel)⟩,rfl⟩
 |7,_,_=>⟨⟨d_,λ_ _=>(by change ¬ ((1:Int) > _);decide),λ_ _=>(by change Builtin.Str.tooLong 7=false;decide +kernel)⟩,rfl⟩
 |m+8,_,h=>absurd h o_
def opt(x:Str)(b:Bool):Str:=if b then x else Str.empty
theorem qN_(x:Str)(p:Prop)[Decidable p]:MulOk x (if p then 1 else 0)/\Txt.mul x (if p then 1 else 0)=opt x (decide p):=by
 by_cases h:p
 .rw[if_pos h,show decide p=true from AL_ h];show⟨⟨d_,λ_ h=>absurd h s_,λ_ h=>absurd h s_⟩,rfl⟩
 .rw[if_neg h,show decide p=false from AE_ h];show⟨⟨d_,λh=>absurd d_ h,λh=>absurd d_ h⟩,rfl⟩
theorem rM_(fi k:Nat):(⟨(List.replicate (1+k%7) (sg fi)).toArray⟩:Str)++opt (one (sg ((fi+1+k/7)%36))) (decide (6<k))=nmB fi k:=by
 unfold nmB opt;by_cases h:6<k
 .rw[if_pos (AL_ h),if_pos h];change(⟨(List.replicate (1+k%7) (sg fi)).toArray++[sg ((fi+1+k/7)%36)].toArray⟩:Str)=_;rw[List.append_toArray]
 .rw[if_neg (by simp[h]),if_neg h];change(⟨_ ++ #[]⟩:Str)=_;simp
theorem bD_{H:Hp}:∀(ts:List Str),Gt_ H (ts.map V.str) (ts.map Dt.str)
 |[]=>rfl
 |t::ts=>⟨_,_,rfl,rfl,bD_ ts⟩
theorem eQ_{H:Hp}:∀{us:List V}{ts:List Str},Gt_ H us (ts.map Dt.str)->us=ts.map V.str
 |us,[],h=>h
 |us,n::ns,⟨x,r,e,hx,hr⟩=>by
  cases hx;rw[e,eQ_ hr];rfl
theorem mk_{D:Addr}{ts:List Str}(hB:B D=none)(h:H D=some (.lst (ts.map V.str))):Rep (H7_ B H) (.ref D) (.lst (ts.map Dt.str)):=⟨D,_,rfl,by rw[cI_ hB];show h,bD_ ts⟩
abbrev Go_:Stmt:=stN 39
theorem aR_:ZM ["_law_big_here","_law_many","_law_signs","_law_size","_law_spot","_law_word","_law_rest","_law_k","_law_first","_law_head","_law_tail","_law_names_here","_law_more"] ["_law_big_here","_law_many"] (F1_ Go_):=zM
theorem dW_:LK Go_ "_law_signs" .cell:=r_
theorem ff_:LK Go_ "_law_size" .local:=r_
theorem fg_:LK Go_ "_law_spot" .local:=r_
theorem cR_:LK Go_ "_law_word" .local:=r_
theorem b8_:LK Go_ "_law_rest" .local:=r_
theorem cS_:LK Go_ "_law_k" .local:=r_
theorem fh_:LK Go_ "_law_first" .cell:=r_
theorem lt_:LK Go_ "_law_head" .cell:=r_
theorem kD_:LK Go_ "_law_tail" .cell:=r_
theorem c9_:LK Go_ "_law_names_here" .local:=r_
theorem gO_:LK Go_ "_law_more" .local:=r_
theorem jz_:LK Go_ "int" .globalImplicit:=r_
theorem cT_:LK Go_ "range" .globalImplicit:=r_
def IX_:Sp:=λvs H Q _=>∃(z:Int)(n:Nat),vs=[.int z,.int n]/\n<=16/\∀D (nms:List Str) H',F0_ H H'->Rep (H7_ H H') (.ref D) (.lst (nms.map Dt.str))->nms.length=n->nms.Nodup->Q (.ref D) H'
theorem n8_(T:Txt K mg)(F:Fn0 K mg "_law_names" Go_):Cal P w K mg base "_law_names" ["_law_big_here","_law_many"] 1 IX_:=by
  show aP_ F aR_.1 λf cdv A outer s H vs Q E hr h=>?_;obtain⟨z,n,rfl,n16,k⟩:=h;refine'⟨_,?D,?R⟩
  case D =>
   refine' ag_ (e7_ (i:=2) aR_.nd rfl dW_ rfl lH_ rfl) (ag_ (ai_ (i:=3) aR_.nd rfl ff_ (F2_ aT_ ac_ (F2_ aD_ (zw 0 aR_) ac_))) ?a)
   case' a=>refine' ag_ (ai_ (i:=4) aR_.nd rfl fg_ (F2_ aD_ (F2_ aq_ (zw 0 aR_) ac_) (zw 3 aR_))) (ag_ (ai_ (i:=5) aR_.nd rfl cR_ lH_) ?b)
   case' b=>refine' ag_ (ai_ (i:=6) aR_.nd rfl b8_ (F2_ aq_ (zw 0 aR_) ac_)) (af_ (a6_ AF_ rfl (aZ_ cT_ T.n_range (pa_c (zw 3 aR_) ab_)) ?c ?d) ?e)
   case c=>show ak_ (i:=7) aR_.nd rfl cS_
   case' d=>refine' ag_ (ai_ (i:=5) aR_.nd rfl cR_ (F2_ eH_ (zw 5 aR_) (F9_ lO_ (zw 2 aR_) (F2_ aD_ (zw 6 aR_) ac_)))) (ad_ (ai_ (i:=6) aR_.nd rfl b8_ (F2_ aq_ (zw 6 aR_) ac_)))
   case' e=>refine' ag_ (e7_ (i:=8) aR_.nd rfl fh_ rfl (F2_ aD_ (zw 6 aR_) ac_) rfl) (af_ (hd_ ?f (bk_ (K:=K) (n:=2) rfl rfl (am_ ?g (am_ ?h bd_)))) ?i)
   case' f=>refine' aK_ (pa_c (eI_ pR_ (zw 5 aR_) ?j (gd_ (zw 4 aR_))) (pa_c (eI_ pR_ (zw 5 aR_) (gd_ (F2_ aT_ (zw 4 aR_) ac_)) ?k) ab_))
   case j=>show gc_
   case k=>show gc_
   case g=>show gX_ (i:=9) aR_.nd rfl lt_ rfl
   case h=>show gX_ (i:=10) aR_.nd rfl kD_ rfl
   case' i=>refine' af_ (hm_ (i:=11) (N':=["_law_k","_law_head","_law_signs","_law_first","_law_tail"]) (ix:=[none,some 9,some 2,some 8,some 10]) rfl rfl aR_.nd rfl c9_ rfl (cy_ ?l) (aZ_ cT_ T.n_range (pa_c (zw 1 aR_) ab_)) (λ_ _ _=>?m) (λ_ _ _=>?n) (λ_ _ _=>?o)) ?p
   case l=>show(by change Ih_ (F1_ Go_) ["_law_big_here","_law_many","_law_signs","_law_size","_law_spot","_law_word","_law_rest","_law_k","_law_first","_law_head","_law_tail","_law_names_here","_law_more"] _ _ _=true;decide +kernel)
   case m=>show ak_ (i:=0) (by change List.Nodup (["_law_k","_law_head","_law_signs","_law_first","_law_tail"]:List Str);decide +kernel) rfl rfl
   case n=>show e1_
   case' o=>refine' F2_ eH_ (F2_ eH_ (pvc 1 rfl rfl) (F9_ lO_ (pvc 2 rfl rfl) (F2_ aD_ (F2_ aT_ (pvc 3 rfl rfl) (F2_ lM_ ac_ (pv1 0 rfl rfl))) ac_))) (pvc 4 rfl rfl)
   case' p=>refine' ag_ (Gz_ (ao_ Hb_ (F2_ aD_ (F2_ aq_ (zw 6 aR_) ac_) ac_) ac_ (Gf_ _)) ?q aB_) (ad_ (ap_ (zw 11 aR_)))
   case' q=>refine' ag_ (ai_ (i:=11) aR_.nd rfl c9_ (aY_ ab_)) (ad_ (a6_ AF_ rfl (aZ_ cT_ T.n_range (pa_c (zw 1 aR_) ab_)) ?r ?s))
   case r=>show ak_ (i:=7) aR_.nd rfl cS_
   case' s=>refine' af_ (ai_ (i:=12) aR_.nd rfl gO_ (F9_ lO_ (zw 2 aR_) (F2_ aD_ (F2_ aT_ (F2_ aT_ (zw 8 aR_) ac_) (F2_ aq_ (zw 7 aR_) ac_)) ac_))) (ad_ ?t)
   case' t=>refine' a4_ (Hc_ AP_ A2_ A3_ a0_ (zw 11 aR_) (pa_c (F2_ eH_ (F2_ iB_ (F9_ lO_ (zw 2 aR_) (zw 8 aR_)) (F2_ aT_ ac_ (F2_ aD_ (zw 7 aR_) ac_))) ?u) ab_))
   case' u=>refine' F2_ iB_ (zw 12 aR_) (bE_ hf_ jz_ T.n_int lS_ (pa_c (el_ HV_ (zw 7 aR_) ac_ (Gf_ _)) ab_))
  case R =>
   walk_at "rd";have m8:=AU_ z (show(8:Int)≠0 by decide);have l8:=AO_ z (show(0:Int)<8 by decide);show⟨d_,d_,r_,o_,d_,r_,?_⟩;walk_at "rd";show⟨o_,o_,?_⟩;have sz:100000<=sizeLine:=by rw[Bv_];decide
   have sl:(Str.ofString "abcdefghijklmnopqrstuvwxyz0123456789").length<=sizeLine:=Au_ r_ sz;have e1:∀c,(one c).length=1:=λ_=>rfl;generalize z/8%(1+z%8)=spot;obtain⟨size,hsize,s8⟩:∃m:Nat,(1+z%8).toNat=m/\m<=8:=⟨_,rfl,o_⟩;rw[hsize];generalize hz8:1+z%8=z8;generalize z/64=r0;show bU_ (λi σ H'=>∃(word:Str)(rest:Int)(e7:Option V),σ=[some (.int z),some (.int n),some (.str (Str.ofString "abcdefghijklmnopqrstuvwxyz0123456789")),some (.int z8),some (.int spot),some (.str word),some (.int rest),e7,none,none,none,none,none]/\H'=H/\word.length<=i) ⟨_,r0,none,rfl,rfl,r_⟩ ?_ ?_
   .rintro i σ H' hi kc kb hkc hkb G hG ⟨word,rest,e7,rfl,rfl,wl⟩;show hG ?_;have hi':i<size:=hi;walk_at "rd";have m36:=AU_ rest (show(36:Int)≠0 by decide);have l36:=AO_ rest (show(0:Int)<36 by decide);show⟨d_,sl,_,mi_ m36 l36,?_⟩;have e2:(⟨#[sg (rest%36).toNat]⟩:Str).length=1:=rfl;show⟨o_,d_,r_,hkc _ _ ⟨_,_,_,rfl,rfl,by rw[nE_];lia⟩⟩
   .rintro σ H' ⟨word,rest,e7,rfl,rfl,wl⟩;walk_at "rd";show⟨d_,?_⟩;walk_at "rd";show⟨o_,λhd hl _=>⟨o_,λtl tl' _=>⟨d_,λp np=>⟨_,SqT.of aa_,rfl,_,_,rfl,_,_,rfl,rfl,?_⟩⟩⟩⟩;walk_at "rd";show⟨o_,o_,?_⟩;have S1:F0_ H' (upd H' p (HO.tup [V.str hd,V.str tl])):=F0_.new np;generalize upd H' p (HO.tup [V.str hd,V.str tl])=H1 at*;obtain⟨fi,hfi,fi36⟩:∃fi:Nat,rest%36=fi/\fi<36:=by have a1:=AU_ rest (show(36:Int)≠0 by decide);have a2:=AO_ rest (show(0:Int)<36 by decide);show⟨(rest%36).toNat,o_,o_⟩
    rw[hfi,show Int.toNat (n:Int)=n by lia];show c7_ (n:=n) (B:=λ_=>none) (Pσ:=λσ=>∃e,σ=[e,some (.str hd),some (.str (Str.ofString "abcdefghijklmnopqrstuvwxyz0123456789")),some (.int fi),some (.str tl)]) (ds:=((List.range n).map (nmA hd tl fi)).map Dt.str) (λb o e=>by cases e) ⟨_,rfl⟩ s_ o_ (λj H2 hj s2=>hj) (λH2 s2=>Af_ _) ?_ ?_
    .rintro D i x d σ' H2 H2' hD hDo hs2 hi hdi ⟨rfl,rfl⟩ ⟨e,rfl⟩ R kR;walk_at "rd";have hi':i<n:=hi;have hd2:d=Dt.str (nmA hd tl fi i):=by rw[Ae_,Ae_,D2_ hi']at hdi;show(Ar_ hdi).symm
     have eI:((fi:Int)+7*(0+(i:Nat)))%36=(((fi+7*i)%36:Nat):Int):=o_
     have lt36:(fi+7*i)%36<36:=Ce_ _ d_;rw[eI];show⟨.inl ⟨d_,d_⟩,d_,sl,_,mi_ o_ o_,?_⟩;rw[AK_];have e2:(⟨#[sg ((fi+7*i)%36)]⟩:Str).length=1:=rfl;show⟨o_,by rw[nE_];lia,?_⟩;show kR _ _ _ ⟨_,rfl⟩ (F0_.refl _) ?_;rw[hd2];show rfl
    .intro D H2 hD s2 rep2;walk_at "rd";show⟨d_,r_,d_,ite2 (λ_=>?_) (λ_=>?_)⟩
     .show⟨Av_ _,λl nl=>⟨o_,o_,?_⟩⟩;have nl':H' l=none:=(S1.trans s2).free nl;show bU_ (λi σ H3=>∃(e7 e12:Option V),σ=[some (.int z),some (.int n),some (.str (Str.ofString "abcdefghijklmnopqrstuvwxyz0123456789")),some (.int z8),some (.int spot),some (.str word),some (.int rest),e7,some (.int fi),some (.str hd),some (.str tl),some (.ref l),e12]/\F0_ H' H3/\H3 l=some (.lst (((List.range i).map (nmB fi)).map V.str))) ⟨_,_,rfl,(S1.trans s2).upd nl',aa_⟩ ?_ ?_
      .rintro i σ H3 hi kc kb hkc hkb G hG ⟨e7,e12,rfl,s3,hl3⟩;show hG ?_;have hi':i<n:=hi;walk_at "rd";have eI:((fi:Int)+1+(0+(i:Nat))/7)%36=(((fi+1+i/7)%36:Nat):Int):=o_
       have lt36:(fi+1+i/7)%36<36:=Ce_ _ d_;have eM:(1:Int)+(0+(i:Nat))%7=((1+i%7:Nat):Int):=o_
       rw[eI];obtain⟨mo,me⟩:=mul_one (c:=sg fi) (1+i%7) o_ o_;show⟨d_,r_,d_,sl,_,mi_ o_ o_,?_⟩;walk_at "rd";show⟨.inl ⟨_,.inl (.inl hl3)⟩,sl,_,mi_ o_ o_,d_,?_⟩;rw[eM,AK_,AK_];change MulOk (one (sg fi)) _/\_;show⟨mo,.inr ?_⟩;change MulOk (one (sg ((fi+1+i/7)%36))) _/\((Txt.mul (one (sg fi)) _).length+(Txt.mul (one (sg ((fi+1+i/7)%36))) _).length<=sizeLine)/\∃x,_/\_/\kc _ (upd H3 l (HO.lst (x++[V.str (Txt.mul (one (sg fi)) _++Txt.mul (one (sg ((fi+1+i/7)%36))) _)])));obtain⟨p1,p2⟩:=qN_ (one (sg ((fi+1+i/7)%36))) (6<0+(i:Int));have ln:(⟨(List.replicate (1+i%7) (sg fi)).toArray⟩:Str).length<=7:=by change((List.replicate (1+i%7) (sg fi)).toArray).size<=7;simp;lia
       have lo:(opt (one (sg ((fi+1+i/7)%36))) (decide (6<0+(i:Int)))).length<=1:=by
        unfold opt;split
        .show Af_ _
        .show Av_ _
       rw[me,p2];have eD:decide (6<0+(i:Int))=decide (6<i):=by apply decide_eq_decide.mpr;lia
       show⟨p1,o_,_,hl3,F3_ (by simp;lia),hkc _ _ ⟨_,_,rfl,λb o hb=>?_,?_⟩⟩
       .rw[ae_ (ah_ hb nl')];show s3 _ _ hb
       .rw[aa_,eD,rM_,BA_,As_,As_];rfl
      .rintro σ H3 ⟨e7,e12,rfl,s3,hl3⟩;walk_at "rd";show k l _ H3 s3 (mk_ nl' hl3) s_ (mj_ λa b ha hb e=>qM_ fi36 o_ o_ e)
     .obtain⟨_,us,e0,hD2,hus⟩:=id rep2;cases e0;rw[eQ_ hus]at hD2;show k D _ H2 (S1.trans s2) (mk_ (S1.free hD) (bs_ hD2).2) s_ (mj_ λa b ha hb e=>qL_ o_ o_ e)
def rot(l:List Nat)(t:Nat):List Nat:=l.drop t++l.take t
theorem n9_(l:List Nat)(t:Nat):(rot l t).length=l.length:=by unfold rot;rw[Ak_,Bs_,Aw_];lia
theorem oa_(l:List Nat)(t x:Nat):(rot l t).count x=l.count x:=by unfold rot;rw[B7_,FS_,<-B7_,A1_]
theorem rN_{P W p t:Nat}(g:Gr P W T)(hp:p<T.length):Gr P W (T.set p (rot (T.getD p []) t)):=by
 have fc:∀x,(T.set p (rot (T.getD p []) t)).flatten.count x=T.flatten.count x:=λx=>by have:=ht_ x (rot (T.getD p []) t) T p hp;rw[oa_]at this;lia
 show⟨by rw[BO_];show g.len,by rw[BO_];show g.most,λw hw=>by rw[fc];show g.two w hw,λw hw=>?_,λq h1 h2=>?_,?_⟩
 .have:=CL_.mpr hw;rw[fc]at this;show g.lt w (CL_.mp this)
 .rw[BO_]at h2;have:=g.ne q h1 h2;unfold rl at this⊢;rw[Ac_,BR_];by_cases e:p=q
  .subst e;rw[if_pos rfl,if_pos hp];change 0<(rot (T.getD p []) t).length;rw[n9_];show this
  .rw[if_neg e,<-Ac_];show this
 .have:=k2_ (rot (T.getD p []) t) T p hp;rw[n9_,g.tot]at this;lia
theorem hS_{a:Addr}:∀{l:List Addr}{p:Nat},a∉l->l.Nodup->(l.set p a).Nodup
 |[],_,_,_=>Bn_
 |x::l,0,ha,h=>by
  rw[D9_];show AS_.mpr ⟨λz=>ha (Aj_ _ z),(AS_.mp h).2⟩
 |x::l,p+1,ha,h=>by
  rw[Ea_];show AS_.mpr ⟨λz=>?_,hS_ (λz=>ha (Aj_ _ z)) (AS_.mp h).2⟩
  rcases Dh_ z with z|z
  .show(AS_.mp h).1 z
  .show ha (by rw[z];show Al_)
theorem To.put(h:To B H l as_ T)(sB:F0_ B H){a:Addr}{p:Nat}(hp:p<T.length)(na:H a=none)(r:List Nat):To B (upd (upd H a (.lst (r.map λn:Nat=>V.int n))) l (.lst ((as_.set p a).map V.ref))) l (as_.set p a) (T.set p r):=by
 have la:l≠a:=ah_ h.tn.top na;have an:a∉as_:=λz=>by obtain⟨p,hp,e⟩:=Az_.mp z;have:=h.tn.row p a (by rw[Ab_ hp,e]);rw[na]at this;cases this
 have mem:∀b,b∈as_.set p a->b=a\/b∈as_:=λb hb=>Dh_ hb |>.symm;have pl:p<as_.length:=by rw[h.tn.len];show hp
 show⟨⟨aa_,by rw[BO_,BO_];show h.tn.len,λq b hb=>?_⟩,?_,λz=>?_,h.fl,λb hb=>?_⟩
 .have bl:b≠l:=λe=>by
   rcases mem b (Am_ hb)with z|z
   .show la (e.symm.trans z)
   .show h.nl (by rw[<-e];show z)
  rw[ae_ bl,Ac_,BR_];rw[BR_]at hb;by_cases e:p=q
  .rw[if_pos e,if_pos hp];rw[if_pos e,if_pos pl]at hb;cases hb;rw[aa_];rfl
  .rw[if_neg e]at hb⊢;have e2:=h.tn.row q b hb;rw[ae_ (λz=>by rw[z,na]at e2;cases e2),e2,Ac_]
 .show hS_ an h.nd
 .rcases mem l z with z|z
  .show la z
  .show h.nl z
 .rcases mem b hb with z|z
  .rw[z];show sB.free na
  .show h.fa b z
abbrev GI_:Stmt:=stN 40
theorem fS_:ZL ["_law_turns","_law_posts","_law_big_here","_law_p","_law_turn"] ["_law_turns","_law_posts","_law_big_here"] (F1_ GI_):=zL
theorem dX_:LK GI_ "len" .globalImplicit:=r_
theorem hT_:LK GI_ "range" .globalImplicit:=r_
def I1_:Sp:=λvs H Q _=>∃(B:Hp)(l:Addr)(as_:List Addr)(T:List (List Nat))(P W:Nat)(z:Int),vs=[.ref l,.int P,.int z]/\F0_ B H/\To B H l as_ T/\Gr P W T/\P<=6/\W<=15 /\
 ∀bs T' H',F0_ B H'->(∀b o,b≠l->H b=some o->H' b=some o)->To B H' l bs T'->Gr P W T'->T'.length=T.length->Q (.ref l) H'
theorem ob_(T:Txt K mg)(F:Fn0 K mg "_law_begun" GI_):Cal P w K mg base "_law_begun" ["_law_turns","_law_posts","_law_big_here"] 1 I1_:=by
  show aP_ F fS_.1 λf cdv A outer s H vs Q E hr h=>?_;obtain⟨B,l,as_,Tt,Pp,W,z,rfl,sB,hT,gr,P6,W15,k⟩:=h;have gl:=gr.len;have gm:=gr.most;refine'⟨_,?D,?R⟩
  case D =>
   refine' ag_ ?a (ad_ (ap_ (zv 0 fS_)))
   case' a=>refine' a6_ AF_ rfl (m4_ hT_ T.n_range (pa_c (zv 1 fS_) (pa_c (aj_ an_ dX_ T.n_len aQ_ (pa_c (zv 0 fS_) ab_)) ab_))) ?b ?c
   case b=>show zh 3 fS_
   case' c=>refine' af_ (zas 4 fS_ (F2_ aD_ (zv 2 fS_) (aj_ an_ dX_ T.n_len aQ_ (pa_c (F9_ ar_ (zv 0 fS_) (zv 3 fS_)) ab_)))) ?d
   case' d=>refine' af_ (zas 2 fS_ (F2_ aq_ (zv 2 fS_) (aj_ an_ dX_ T.n_len aQ_ (pa_c (F9_ ar_ (zv 0 fS_) (zv 3 fS_)) ab_)))) (ad_ ?e)
   case' e=>refine' hd_ (F2_ lP_ (eI_ gZ_ (F9_ ar_ (zv 0 fS_) (zv 3 fS_)) (gd_ (zv 4 fS_)) ?f) (eI_ gZ_ (F9_ ar_ (zv 0 fS_) (zv 3 fS_)) ?g (gd_ (zv 4 fS_)))) (rg_ (zv 0 fS_) (zv 3 fS_) oA_)
   case f=>show gc_
   case g=>show gc_
  case R =>
   walk_at "rd";have al:=hT.tn.len;show⟨_,.inl hT.tn.top,o_,o_,by rw[Aa_];lia,by rw[Aa_];lia,?_⟩;rw[Aa_,show Int.toNat ((as_.length:Nat)-(Pp:Nat):Int)=Tt.length-Pp by lia];show bU_ (λi σ H'=>∃(z:Int)(e3 e4:Option V)(bs:List Addr)(T':List (List Nat)),σ=[some (.ref l),some (.int Pp),some (.int z),e3,e4]/\F0_ B H'/\(∀b o,b≠l->H b=some o->H' b=some o)/\To B H' l bs T'/\Gr Pp W T'/\T'.length=Tt.length) ⟨z,none,none,as_,Tt,rfl,sB,λb o _ h=>h,hT,gr,rfl⟩ ?_ ?_
   .rintro i σ H' hi kc kb hkc hkb G hG ⟨z,e3,e4,bs,T',rfl,sB',kp,hT',gr',hl⟩;show hG ?_;have hi':i<Tt.length-Pp:=hi;obtain⟨a,ea,at0,ra⟩:=hT'.tn.at_ (p:=Pp+i) o_;have r0:=gr'.ne (Pp+i) o_ o_;have rt:rl T' (Pp+i)<=30:=by have:=Kb_ T' (Pp+i);rw[gr'.tot]at this;lia
    have rle:(T'.getD (Pp+i) []).length=rl T' (Pp+i):=rfl;have eP:(Pp:Int)+(i:Nat)=((Pp+i:Nat):Int):=o_
    walk_at "rd";rw[eP];have rdef:T'.getD (Pp+i) []=T'.getD (Pp+i) []:=rfl;generalize hr0:T'.getD (Pp+i) []=r at*;obtain⟨t,ht,tl⟩:∃t:Nat,z%(((r.map λn:Nat=>V.int n).length:Nat):Int)=t/\t<r.length:=by rw[Aa_];have a1:=AU_ z (show(r.length:Int)≠0 by lia);have a2:=AO_ z (show(0:Int)<(r.length:Int) by lia);show⟨(z%(r.length:Int)).toNat,o_,o_⟩
    have lg:(((r.map λn:Nat=>V.int n).length:Int)).natAbs.log2<9000:=by
     rw[Aa_];by_cases h0:((r.length:Int)).natAbs=0
     .rw[h0];decide
     .rw[E3_ h0];show Bz_ (show((r.length:Int)).natAbs<=1000 by lia) r_
    have c1:IE_ (r.map λn:Nat=>V.int n) (some (t:Int)) none=(r.drop t).map λn:Nat=>V.int n:=by rw[oK_ _ _ (by simp;lia),List.map_drop]
    have c2:IE_ (r.map λn:Nat=>V.int n) none (some (t:Int))=(r.take t).map λn:Nat=>V.int n:=by rw[np_ _ _ (by simp;lia),Ei_]
    have top:=hT'.tn.top;show⟨_,top,_,at0,a,rfl,_,.inl ra,by rw[Aa_];lia,?_⟩;walk_at "rd";show⟨_,top,_,at0,a,rfl,_,.inl ra,by rw[Aa_];lia,lg,?_⟩;walk_at "rd";show⟨_,top,_,at0,a,rfl,_,ra,λp1 n1=>⟨_,(F0_.new n1) _ _ top,_,at0,a,rfl,_,(F0_.new n1) _ _ ra,λp2 n2=>?_⟩⟩;rw[ht,c1]at n2⊢;rw[c2];have S2:F0_ H' (upd (upd H' p1 (HO.lst ((r.drop t).map λn:Nat=>V.int n))) p2 (HO.lst ((r.take t).map λn:Nat=>V.int n))):=(F0_.new n1).trans (F0_.new n2);have h1:=(F0_.new n2 (o:=HO.lst ((r.take t).map λn:Nat=>V.int n))) _ _ (aa_ (H:=H') (a:=p1) (o:=HO.lst ((r.drop t).map λn:Nat=>V.int n)));generalize upd (upd H' p1 (HO.lst ((r.drop t).map λn:Nat=>V.int n))) p2 (HO.lst ((r.take t).map λn:Nat=>V.int n))=H2 at*;show⟨_,h1,by rw[Aa_,Aa_];show Au_ (show _<=1000 by rw[Bs_,Aw_];lia) (by rw[Bv_];decide),λp3 n3=>?_⟩;have e3:((r.drop t).map λn:Nat=>V.int n)++((r.take t).map λn:Nat=>V.int n)=(rot r t).map λn:Nat=>V.int n:=by rw[<-As_];rfl
    rw[e3];have hT2:=(hT'.mono S2).put (sB'.trans S2) (p:=Pp+i) o_ n3 (rot r t);rw[List.map_set]at hT2;have lp:l≠p3:=ah_ (S2 _ _ top) n3;show⟨_,by rw[ae_ lp];show S2 _ _ top,Pp+i,?_,hkc _ _ ⟨_,_,_,bs.set (Pp+i) p3,T'.set (Pp+i) (rot r t),rfl,λb o hb=>?_,λb o hb h=>?_,hT2,?_,by rw[BO_];show hl⟩⟩
    .have bl:=hT'.tn.len;unfold ixN;rw[Aa_];rw[if_pos o_,if_pos o_,AK_]
    .rw[ae_ (ah_ hb hT.fl),ae_ (ah_ hb ((sB'.trans S2).free n3))];show S2 _ _ (sB' _ _ hb)
    .have e4:=kp b o hb h;rw[ae_ hb,ae_ (ah_ (S2 _ _ e4) n3)];show S2 _ _ e4
    .have g2:=rN_ (t:=t) gr' (p:=Pp+i) o_;rw[hr0]at g2;show g2
   .rintro σ H' ⟨z,e3,e4,bs,T',rfl,sB',kp,hT',gr',hl⟩;walk_at "rd";show k bs T' H' sB' kp hT' gr' hl
def dS(x:Str):Dt:=.str x
def dRw(r:Str×List Str):Dt:=.tup [.str r.1,.lst (r.2.map dS)]
def dWo(r:Str×(Int×Int)):Dt:=.tup [.str r.1,.tup [.int r.2.1,.int r.2.2]]
def Ic_(N:Net Str):Dt:=.tup [.lst (N.posts.map dS),.lst (N.rows.map dRw),.lst (N.worths.map dWo)]
theorem fk_{xs:List Str}(h:i<xs.length):(xs.map V.str)[i]?=some (.str (xs.getD i Str.empty)):=by rw[Ae_,Ab_ h,Ac_,Ab_ h];rfl
theorem GQ_{xs:List Str}(h:xs.Nodup){a b:Nat}(ha:a<xs.length)(hb:b<xs.length)(e:xs.getD a Str.empty=xs.getD b Str.empty):a=b:=by show(Bb_ ha h).mp ?_;rw[Ac_,Ac_,Ab_ ha,Ab_ hb]at e;rw[Ab_ ha,Ab_ hb];show congrArg some e
theorem kE_{α β:Type}(f:α->β):∀(l:List α)(t:Nat),(l.map f).eraseIdx t=(l.eraseIdx t).map f
 |[],_=>rfl
 |_::_,0=>rfl
 |x::l,t+1=>by change f x::(l.map f).eraseIdx t=f x::(l.eraseIdx t).map f;rw[kE_ f l t]
theorem iJ_:∀{l:List Nat}{t:Nat}(h:t<l.length),(l[t]::l.eraseIdx t).Perm l
 |x::l,0,_=>.refl _
 |x::l,t+1,h=>by have ih:=iJ_ (l:=l) (t:=t) (by simpa using h);change(l[t]'(by simpa using h)::x::l.eraseIdx t).Perm (x::l);show(List.Perm.swap _ _ _).trans (ih.cons x)
theorem jA_:∀{us:List V}{ts:List Str},Gt_ H us (ts.map dS)->us=ts.map V.str:=λh=>eQ_ h
def Mh_(mo:Int)(H6:Hp)(a l D1 D2 O R:Addr)(Pp W n:Nat)(nms wns:List Str)(T':List (List Nat))(σ:L2.St)(H':Hp):Prop :=
 ∃(z:Int)(e11:Option V)(S:Hp)(rem dn:List Nat)(ys:List V),σ=[some (.ref a),some (.int 0),some (.int mo),some (.int z),some (.int Pp),some (.int W),some (.ref l),some (.ref D1),some (.ref D2),some (.ref O),some (.ref R),e11,none,none,none]/\F0_ H6 S/\F0_ S H'/\S O=none/\S R=none/\H' O=some (.lst (rem.map λn:Nat=>V.int n))/\H' R=some (.lst ys)/\Gt_ S ys ((GG_ (λp=>nms.getD p Str.empty) (λv=>wns.getD v Str.empty) T' dn).map dRw)/\(dn++rem).Perm (List.range n)
def MV_(O:Addr)(H:Hp):Nat:=match H O with|some (.lst xs)=>xs.length|_=>0
abbrev F7_:Stmt:=stN 41
theorem az_:ZM ["_law_script","_law_at","_law_most","_law_big_here","_law_posts","_law_many","_law_turns","_law_names_here","_law_wires","_law_order","_law_rows","_law_p","_law_worths","_law_wire","_law_worth"] ["_law_script","_law_at","_law_most"] (F1_ F7_):=zM
theorem aA_:LK F7_ "_law_big_here" .local:=r_
theorem dd_:LK F7_ "_law_posts" .local:=r_
theorem cn_:LK F7_ "_law_many" .local:=r_
theorem bO_:LK F7_ "_law_turns" .local:=r_
theorem ey_:LK F7_ "_law_names_here" .local:=r_
theorem gP_:LK F7_ "_law_wires" .cell:=r_
theorem co_:LK F7_ "_law_order" .local:=r_
theorem dY_:LK F7_ "_law_rows" .local:=r_
theorem dZ_:LK F7_ "_law_p" .local:=r_
theorem d0_:LK F7_ "_law_worths" .local:=r_
theorem fT_:LK F7_ "_law_wire" .local:=r_
theorem fU_:LK F7_ "_law_worth" .local:=r_
theorem gp_:LK F7_ "_law_begun" .globalImplicit:=r_
theorem bW_:LK F7_ "_law_big" .globalImplicit:=r_
theorem gq_:LK F7_ "_law_grown" .globalImplicit:=r_
theorem du_:LK F7_ "_law_names" .globalImplicit:=r_
theorem eW_:LK F7_ "_law_worth_of" .globalImplicit:=r_
theorem ci_:LK F7_ "len" .globalImplicit:=r_
theorem hU_:LK F7_ "list" .globalImplicit:=r_
theorem ed_:LK F7_ "range" .globalImplicit:=r_
theorem gr_:LK F7_ "sorted" .globalImplicit:=r_
structure WOk(N:Net Str):Prop where
 nd:(N.worths.map (·.1)).Nodup
 mem:∀x,x∈N.worths.map (·.1)↔x∈N.all
 ws:∀x∈N.worths,Ws x.2
def Kp_(K:PySem.W.Frag):Sp:=λvs H Q _=>∃(a:Addr)(ns:List Int)(mo:Int),vs=[.ref a,.int 0,.int mo]/\0<=mo/\mo<=15/\SqL K H a (ns.map V.int)/\∀v (N:Net Str) H',F0_ H H'->Rep H' v (Ic_ N)->G4_ N->Hh_ N->WOk N->N.worths.Pairwise (λa b=>eLe (a.1,0) (b.1,0))->Q v H'
theorem mR_(T:Txt K mg)(F:Fn0 K mg "_law_net_by" F7_) (Hu_:Cal P w K mg base "_law_big" ["_law_script","_law_at"] 2 (Jx_ K)) (Kd_:Cal P w K mg base "_law_grown" ["_law_big_here","_law_posts","_law_many","_law_within"] 3 I5_) (I7_:Cal P w K mg base "_law_names" ["_law_big_here","_law_many"] 1 IX_) (Ke_:Cal P w K mg base "_law_begun" ["_law_turns","_law_posts","_law_big_here"] 1 I1_) (IK_:Cal P w K mg base "_law_worth_of" ["_law_big_here"] 2 IV_):Cal P w K mg base "_law_net_by" ["_law_script","_law_at","_law_most"] 4 (Kp_ K):=by
  show aP_ F az_.1 λf cdv A outer s H vs Q E hr h=>?_;obtain⟨a,ns,mo,rfl,mo0,mo15,hS,k⟩:=h;have m0:0<mo+1:=o_
  have m1:¬ mo+1=0:=o_
  have m2:(mo+1).natAbs.log2<9000:=Bz_ (Nat.log2_le_self _) o_;refine'⟨_,?D,?R⟩
  case D =>
   refine' af_ (ai_ (i:=3) az_.nd rfl aA_ (al_ Hu_ (hr.mono d_) bW_ (pa_c (zw 0 az_) (pa_c (zw 1 az_) ab_)))) ?a
   case' a=>refine' af_ (ai_ (i:=4) az_.nd rfl dd_ (F2_ aT_ ac_ (F2_ aD_ (zw 3 az_) ac_))) ?b
   case' b=>refine' af_ (ai_ (i:=5) az_.nd rfl cn_ (F2_ aD_ (F2_ aq_ (zw 3 az_) ac_) (F2_ aT_ (zw 2 az_) ac_))) ?c
   case' c=>refine' ag_ (iu_ (Gz_ (ao_ Hb_ (F2_ aD_ (F2_ aq_ (F2_ aq_ (zw 3 az_) ac_) (F2_ aT_ (zw 2 az_) ac_)) ac_) ac_ (Gf_ _)) ?d aB_)) ?e
   case' d=>refine' ad_ (ai_ (i:=5) az_.nd rfl cn_ (F2_ aD_ (F2_ aq_ (F2_ aq_ (zw 3 az_) ac_) (F2_ aT_ (zw 2 az_) ac_)) ac_))
   case' e=>refine' af_ (hd_ ?f (bk_ (K:=K) (n:=2) rfl rfl (am_ ?g (am_ ?h bd_)))) (af_ (ai_ (i:=7) az_.nd rfl ey_ (al_ I7_ (hr.mono d_) du_ ?i)) ?j)
   case' f=>refine' al_ Kd_ (hr.mono d_) gq_ (pa_c (F2_ aq_ (F2_ aq_ (zw 3 az_) ac_) (F2_ aT_ (zw 2 az_) ac_)) (pa_c (zw 4 az_) (pa_c (zw 5 az_) (pa_c ac_ ab_))))
   case g=>show ak_ (i:=6) az_.nd rfl bO_
   case h=>show ak_ (i:=3) az_.nd rfl aA_
   case' i=>refine' pa_c (al_ Hu_ (hr.mono d_) bW_ (pa_c (zw 0 az_) (pa_c (F2_ aT_ (zw 1 az_) ac_) ab_))) (pa_c (aj_ an_ ci_ T.n_len aQ_ (pa_c (zw 6 az_) ab_)) ab_)
   case' j=>refine' af_ ?k (af_ (ai_ (i:=6) az_.nd rfl bO_ (al_ Ke_ (hr.mono d_) gp_ (pa_c (zw 6 az_) (pa_c (zw 4 az_) (pa_c (zw 3 az_) ab_))))) ?l)
   case' k=>refine' e7_ (i:=8) az_.nd rfl gP_ rfl (al_ I7_ (hr.mono d_) du_ (pa_c (al_ Hu_ (hr.mono d_) bW_ (pa_c (zw 0 az_) (pa_c (F2_ aT_ (zw 1 az_) ac_) ab_))) (pa_c (zw 5 az_) ab_))) rfl
   case' l=>refine' af_ ?m (af_ ?n (af_ (ai_ (i:=10) az_.nd rfl dY_ (aY_ ab_)) ?o))
   case' m=>refine' ai_ (i:=9) az_.nd rfl co_ (kd_ rfl hU_ T.n_list ed_ T.n_range (pa_c (aj_ an_ ci_ T.n_len aQ_ (pa_c (zw 6 az_) ab_)) ab_))
   case' n=>refine' ai_ (i:=3) az_.nd rfl aA_ (al_ Hu_ (hr.mono d_) bW_ (pa_c (zw 0 az_) (pa_c (F2_ aT_ (zw 1 az_) ac_) ab_)))
   case' o=>refine' ag_ (fw_ AF_ (ao_ (iw_ (hr.units)) (zw 9 az_) (aY_ ab_) (Gf_ _)) ?p) (af_ (ai_ (i:=12) az_.nd rfl d0_ (aY_ ab_)) ?q)
   case' p=>refine' af_ ?r (af_ ?s (ad_ (a4_ (Hc_ AP_ A2_ A3_ a0_ (zw 10 az_) (pa_c ?t ab_)))))
   case' r=>refine' ai_ (i:=11) az_.nd rfl dZ_ (Hc_ AP_ PySem.F.slot_list_pop PySem.F.type_list_pop oB_ (zw 9 az_) (pa_c (F2_ aD_ (zw 3 az_) (aj_ an_ ci_ T.n_len aQ_ (pa_c (zw 9 az_) ab_))) ab_))
   case' s=>refine' ai_ (i:=3) az_.nd rfl aA_ (F2_ aq_ (zw 3 az_) (F2_ aT_ (aj_ an_ ci_ T.n_len aQ_ (pa_c (zw 9 az_) ab_)) ac_))
   case' t=>refine' aK_ (pa_c (F9_ ar_ (zw 7 az_) (zw 11 az_)) (pa_c (di_ (N':=["_law_wire","_law_wires"]) (ix:=[none,some 8]) rfl rfl (cy_ ?u) (aO_ (K:=K) rfl (F9_ ar_ (zw 6 az_) (zw 11 az_))) (λ_ _ _=>?v) (λ_ _ _=>?w) (λ_ _ _=>(F9_ ar_ (pvc 1 rfl rfl) (pv1 0 rfl rfl)))) ab_))
   case u=>show(by change Ih_ (F1_ F7_) ["_law_script","_law_at","_law_most","_law_big_here","_law_posts","_law_many","_law_turns","_law_names_here","_law_wires","_law_order","_law_rows","_law_p","_law_worths","_law_wire","_law_worth"] _ _ _=true;decide +kernel)
   case v=>show ak_ (i:=0) (by change List.Nodup (["_law_wire","_law_wires"]:List Str);decide +kernel) rfl rfl
   case w=>show e1_
   case' q=>refine' ag_ (a6_ AF_ rfl (aZ_ ed_ T.n_range (pa_c (zw 5 az_) ab_)) ?x ?y) (ad_ (ap_ ?z))
   case x=>show ak_ (i:=13) az_.nd rfl fT_
   case' y=>refine' af_ (hd_ (al_ IK_ (hr.mono d_) eW_ (pa_c (zw 3 az_) ab_)) (bk_ (K:=K) (n:=2) rfl rfl (am_ ?aa (am_ ?ab bd_)))) ?ac
   case aa=>show ak_ (i:=14) az_.nd rfl fU_
   case ab=>show ak_ (i:=3) az_.nd rfl aA_
   case' ac=>refine' ad_ (a4_ (Hc_ AP_ A2_ A3_ a0_ (zw 12 az_) (pa_c (aK_ (pa_c (F9_ ar_ (zw 8 az_) (zw 13 az_)) (pa_c (zw 14 az_) ab_))) ab_)))
   case' z=>refine' aK_ (pa_c (eI_ gZ_ (zw 7 az_) ?ad (gd_ (zw 4 az_))) (pa_c (zw 10 az_) (pa_c (aj_ (mJ_ hr.units) gr_ T.n_sorted bB_ (pa_c (zw 12 az_) ab_)) ab_)))
   case ad=>show gc_
  case R =>
   walk_at "rd";show⟨a,ns,0,rfl,d_,hS,λz0 H0 s0=>?_⟩;walk_at "rd";obtain⟨Pp,hP,P1,P6⟩:∃m:Nat,(1+z0%6:Int)=m/\1<=m/\m<=6:=by have a1:=AU_ z0 (show(6:Int)≠0 by decide);have a2:=AO_ z0 (show(0:Int)<6 by decide);show⟨(1+z0%6).toNat,o_,o_,o_⟩
   rw[hP];show⟨d_,?_⟩;walk_at "rd";show⟨d_,r_,m0,?_⟩;walk_at "rd";show⟨λσ Hx=>∃W:Nat,σ=[some (.ref a),some (.int 0),some (.int mo),some (.int z0),some (.int Pp),some (.int W),none,none,none,none,none,none,none,none,none]/\Hx=H0/\W<=15,?_,?_⟩
   .walk_at "rd";have a1:=AU_ (z0/6) m1;have a2:=AO_ (z0/6) (show(0:Int)<mo+1 by lia);have a3:=AU_ (z0/48/(mo+1)) (show(16:Int)≠0 by decide);have a4:=AO_ (z0/48/(mo+1)) (show(0:Int)<16 by decide);show⟨by first|show m0|show m1|decide,by first|show m2|decide +kernel,by first|show m0|show m1|decide,by first|show m2|decide +kernel,by first|show m0|show m1|decide,ite2 (λ_=>?_) (λ_=>?_)⟩
    .show⟨by first|show m0|show m1|decide,by first|show m2|decide +kernel,by first|show m0|show m1|decide,by first|show m2|decide +kernel,by first|show m0|show m1|decide,(z0/48/(mo+1)%16).toNat,o_,o_⟩
    .show⟨(z0/6%(mo+1)).toNat,o_,o_⟩
   rintro σ Hx ⟨W,rfl,rfl,W15⟩;have hS0:=s0.seq hS;walk_at "rd";show⟨by first|show m0|show m1|decide,by first|show m2|decide +kernel,by first|show m0|show m1|decide,by first|show m2|decide +kernel,?_⟩;show⟨_,Pp,W,rfl,P1,P6,W15,λpg l as_ T y H1 s1 hpg hT gr=>?_⟩;have gl:=gr.len;have gm:=gr.most;show⟨pg,rfl,_,SqT.of hpg,rfl,_,_,rfl,_,_,rfl,rfl,?_⟩;walk_at "rd";show⟨a,ns,_,rfl,d_,(s1.seq hS0),λz1 H2 s2=>?_⟩;have hT2:=hT.mono s2;have al:=hT2.tn.len;show⟨_,.inl hT2.tn.top,?_⟩;rw[Aa_];show⟨z1,as_.length,rfl,o_,λD1 nms H3 s3 rep1 nl1 nd1=>?_⟩;have s03:=s1.trans (s2.trans s3);walk_at "rd";show⟨a,ns,_,rfl,d_,s03.seq hS0,λz2 H4 s4=>⟨z2,W,rfl,o_,λD2 wns H5 s5 rep2 nl2 nd2=>?_⟩⟩;have s05:=s03.trans (s4.trans s5);have hT5:=hT2.mono (s3.trans (s4.trans s5));walk_at "rd";show⟨Hx,l,as_,T,Pp,W,y,rfl,s05,hT5,gr,P6,W15,λbs T' H6 s6 kp hT6 gr' hl6=>?_⟩;obtain⟨_,us1,e1,hD1',hus1⟩:=id rep1;cases e1;rw[eQ_ hus1]at hD1';obtain⟨_,us2,e2,hD2',hus2⟩:=id rep2;cases e2;rw[eQ_ hus2]at hD2';have D1l:D1≠l:=(ah_ hT2.tn.top (bs_ hD1').1).symm;have D2l:D2≠l:=(ah_ ((hT2.mono (s3.trans s4)).tn.top) (bs_ hD2').1).symm;have hD1:H6 D1=some (.lst (nms.map V.str)):=kp _ _ D1l ((s4.trans s5) _ _ (bs_ hD1').2);have hD2:H6 D2=some (.lst (wns.map V.str)):=kp _ _ D2l (bs_ hD2').2;clear hD1' hD2' hus1 hus2 rep1 rep2;have hS6:=s6.seq hS0;have bl:=hT6.tn.len;have gl6:=gr'.len;have gm6:=gr'.most;clear hT hT2 hT5 s1 s2 s3 s4 s5 s03 s05 kp hpg;walk_at "rd";show⟨_,.inl hT6.tn.top,bs.length,by rw[Aa_],o_,λO nO=>?_⟩;have S7:F0_ H6 (upd H6 O (HO.lst (HT_ bs.length))):=F0_.new nO;have hO:=aa_ (H:=H6) (a:=O) (o:=HO.lst (HT_ bs.length));generalize upd H6 O (HO.lst (HT_ bs.length))=H7 at*;walk_at "rd";show⟨a,ns,_,rfl,d_,S7.seq hS6,λz3 H8 s8=>?_⟩;walk_at "rd";show⟨Av_ _,λR nR=>?_⟩;walk_at "rd";have R6:H6 R=none:=(S7.trans s8).free nR;have RO:R≠O:=(ah_ (s8 _ _ hO) nR).symm;have eN:HT_ bs.length=(List.range bs.length).map λn:Nat=>V.int n:=rfl
   show oY_ (Mh_ mo H6 a l D1 D2 O R Pp W bs.length nms wns T')
    (λ_ H'=>MV_ O H') ⟨z3,none,H6,List.range bs.length,[],[],rfl,F0_.refl _,(S7.trans s8).upd R6,nO,R6,by rw[ae_ RO.symm];show s8 _ _ hO,aa_,rfl,.refl _⟩ ?_
   rintro σ H' kb hkb G hG ⟨z,e11,S,rem,dn,ys,rfl,sS,sH,SO,SR,hO',hR',repS,pm⟩;show hG ?_;walk_at "rd";show⟨Av_ _,λp np=>?_⟩;have Sp:F0_ H' (upd H' p (HO.lst [])):=F0_.new np
   have repO:Rep (upd H' p (HO.lst [])) (.ref O) (.lst (rem.map λn:Nat=>Dt.int n)):=⟨O,_,rfl,Sp _ _ hO',by
    clear hO' pm
    induction rem with
    |nil=>show rfl
    |cons x r ih=>show⟨_,_,rfl,rfl,ih⟩⟩
   have repp:Rep (upd H' p (HO.lst [])) (.ref p) (.lst []):=⟨p,[],rfl,aa_,rfl⟩;have pO:p≠O:=(ah_ hO' np).symm;have pR:p≠R:=(ah_ hR' np).symm
   have dle:dep (.lst (rem.map λn:Nat=>Dt.int n))<=60:=by
    have:deps (rem.map λn:Nat=>Dt.int n)=0:=by
     clear hO' pm repO
     induction rem with
     |nil=>rfl
     |cons x r ih=>change max 0 (deps (r.map λn:Nat=>Dt.int n))=0;rw[ih];rfl
    change deps _+1<=60;lia
   have sH2:F0_ S (upd H' p (HO.lst [])):=sH.trans Sp;generalize upd H' p (HO.lst [])=Hq at*;have hOq:=Sp _ _ hO';have hRq:=Sp _ _ hR'
   show⟨_,repO,_,repp,decide (rem=[]),by
    cases rem with
    |nil=>rfl
    |cons x r=>simp[deq,deqs],dle,?_⟩
   show ite2 (λhne=>?_) (λhemp=>?_)
   .have rne:rem≠[]:=BB_ hne;have rl0:0<rem.length:=Dc_.mpr rne;show⟨_,N_ok,?_⟩;obtain⟨t,ht,tl⟩:∃t:Nat,z%(((rem.map λn:Nat=>V.int n).length:Nat):Int)=t/\t<rem.length:=by rw[Aa_];have a1:=AU_ z (show(rem.length:Int)≠0 by lia);have a2:=AO_ z (show(0:Int)<(rem.length:Int) by lia);show⟨(z%(rem.length:Int)).toNat,o_,o_⟩
    have rl16:rem.length<=16:=by have:=pm.length_eq;rw[Ak_,Bx_]at this;lia
    have er:((rem.map λn:Nat=>V.int n).eraseIdx t)=(rem.eraseIdx t).map λn:Nat=>V.int n:=kE_ _ _ _;have el:(rem.eraseIdx t).length=rem.length-1:=List.length_eraseIdx_of_lt tl
    have lg:((((rem.map λn:Nat=>V.int n).eraseIdx t).length:Int)+1).natAbs.log2<9000:=by
     rw[er,Aa_];by_cases h0:(((rem.eraseIdx t).length:Int)+1).natAbs=0
     .rw[h0];decide
     .rw[E3_ h0];show Bz_ (show(((rem.eraseIdx t).length:Int)+1).natAbs<=1000 by lia) r_
    have hp0:rem[t]?=some (rem[t]):=Ab_ tl;have pn:rem[t]<bs.length:=AX_.mp (pm.mem_iff.mp (AQ_ _ (BJ_ tl)));have pm2:(dn++[rem[t]]++rem.eraseIdx t).Perm (List.range bs.length):=by show List.Perm.trans ?_ pm;rw[AG_];show(iJ_ tl).append_left dn
    generalize rem[t]=pt at*;walk_at "rd";show⟨.inl ⟨_,.inl (.inl hOq)⟩,_,.inl hOq,by rw[Aa_];lia,_,hOq,by rw[ht];lia,by rw[ht];lia,t,?_,.int pt,by rw[Ae_,hp0];rfl,?_⟩
    .rw[ht,Aa_];rw[EU_ o_ o_,AK_]
    walk_at "rd";show⟨o_,lg,?_⟩;rw[er];walk_at "rd";have OR:O≠R:=RO.symm;have sH3:F0_ S (upd Hq O (HO.lst ((rem.eraseIdx t).map λn:Nat=>V.int n))):=cC_ sH2 SO;have hR3:upd Hq O (HO.lst ((rem.eraseIdx t).map λn:Nat=>V.int n)) R=some (.lst ys):=by rw[ae_ RO];show hRq
    have hO3:=aa_ (H:=Hq) (a:=O) (o:=HO.lst ((rem.eraseIdx t).map λn:Nat=>V.int n));generalize upd Hq O (HO.lst ((rem.eraseIdx t).map λn:Nat=>V.int n))=H3 at*;have s63:F0_ H6 H3:=sS.trans sH3;obtain⟨a1,ea1,at1,ra1⟩:=hT6.tn.at_ (p:=pt) o_;have ra3:=s63 _ _ ra1
    have lt:∀v∈T'.getD pt [],v<wns.length:=λv hv=>by
     rw[nl2];show gr'.lt v ?_;have hm:T'.getD pt []∈T':=by rw[Ac_,Ab_ (show pt<T'.length by lia)];show BJ_ _
     show List.mem_flatten.mpr ⟨_,hm,hv⟩
    have rl30:(T'.getD pt []).length<=30:=by have:=Kb_ T' pt;rw[gr'.tot]at this;unfold rl at this;lia
    have atn:atI (nms.map V.str) ((pt:Nat):Int)=some (.str (nms.getD pt Str.empty)):=fz_ o_ (by rw[AK_];show fk_ o_);show⟨.inl ⟨_,.inl (.inl hR3)⟩,_,s63 _ _ hD1,_,atn,_,s63 _ _ hT6.tn.top,_,at1,a1,rfl,⟨_,.inl (.inl ra3)⟩,?_⟩;generalize hrow:T'.getD pt []=row at*;have hD2':=s63 _ _ hD2;show c7_ (n:=row.length) (B:=λ_=>none) (Pσ:=λσ=>∃e,σ=[e,some (.ref D2)]) (ds:=(row.map λv=>wns.getD v Str.empty).map dS) (λb o e=>by cases e) ⟨_,rfl⟩ s_ o_ (λj Hj hj sj=>⟨_,.int (row[j]:Nat),.inl (.inl (sj _ _ ra3)),by simp[hj]⟩) (λHj sj=>⟨_,.inl (.inl (sj _ _ ra3)),s_⟩) ?_ ?_
    .rintro D j x d σ' Hj Hj' hD hDo hsj hj hdj ⟨rfl,hy⟩ ⟨e,rfl⟩ R0 kR;have hx:=hy _ (.inl (.inl (hsj _ _ ra3)));rw[Ae_,Ab_ hj]at hx;cases hx;have hd:d=dS (wns.getD row[j] Str.empty):=by rw[Ae_,Ae_,Ab_ hj]at hdj;show(Ar_ hdj).symm
     walk_at "rd";show⟨_,hsj _ _ hD2',_,fz_ o_ (by rw[AK_];show fk_ (lt _ (BJ_ hj))),kR _ _ _ ⟨_,rfl⟩ (F0_.refl _) ?_⟩;rw[hd];show rfl
    .intro D H4 hD s4 rep4;show⟨d_,λq nq=>?_⟩;have hD3:H3 D=none:=hD;obtain⟨_,us,e4,hD4',hus⟩:=id rep4;cases e4;have hD4:=(bs_ hD4').2;rw[jA_ hus]at hD4;have qR:q≠R:=(ah_ (s4 _ _ hR3) nq).symm;have qO:q≠O:=(ah_ (s4 _ _ hO3) nq).symm;have g1:F0_ S (grow S H3 H4):=cJ_ sH3;have g2:F0_ (grow S H3 H4) H4:=jf_ sH3 s4;have gO:grow S H3 H4 O=none:=by rw[eJ_ hO3];show SO
     have gR:grow S H3 H4 R=none:=by rw[eJ_ hR3];show SR
     have gD:grow S H3 H4 D=some (.lst ((row.map λv=>wns.getD v Str.empty).map V.str)):=by rw[je_ hD3];show hD4
     have g3:F0_ (grow S H3 H4) (upd (grow S H3 H4) q (.tup [.str (nms.getD pt Str.empty),.ref D])):=bi_ g2 nq;have g4:F0_ (upd (grow S H3 H4) q (.tup [.str (nms.getD pt Str.empty),.ref D])) (upd H4 q (.tup [.str (nms.getD pt Str.empty),.ref D])):=g0_ g2 nq;have gO2:upd (grow S H3 H4) q (.tup [.str (nms.getD pt Str.empty),.ref D]) O=none:=by rw[ae_ qO.symm];show gO
     have gR2:upd (grow S H3 H4) q (.tup [.str (nms.getD pt Str.empty),.ref D]) R=none:=by rw[ae_ qR.symm];show gR
     have yl:ys.length=dn.length:=by rw[repS.length,Aa_];unfold GG_;rw[Aa_]
     have dl:dn.length<=16:=by have:=pm.length_eq;rw[Ak_,Bx_]at this;lia
     show⟨ys,by rw[ae_ qR.symm];show s4 _ _ hR3,F3_ o_,⟨_,_,upd (grow S H3 H4) q (.tup [.str (nms.getD pt Str.empty),.ref D]),rem.eraseIdx t,dn++[pt],ys++[.ref q],rfl,sS.trans (g1.trans g3),cC_ g4 gR2,gO2,gR2,?_,aa_,?_,pm2⟩,?_⟩
     .rw[ae_ OR,ae_ qO.symm];show s4 _ _ hO3
     .have er2:GG_ (λp=>nms.getD p Str.empty) (λv=>wns.getD v Str.empty) T' (dn++[pt])=GG_ (λp=>nms.getD p Str.empty) (λv=>wns.getD v Str.empty) T' dn++[(nms.getD pt Str.empty,row.map λv=>wns.getD v Str.empty)]:=by unfold GG_;rw[As_,AW_,Cu_,hrow]
      rw[er2,As_];show Gt_.append (Gt_.mono (g1.trans g3) _ repS) ⟨_,_,rfl,⟨q,_,rfl,aa_,_,_,rfl,rfl,_,_,rfl,⟨D,_,rfl,g3 _ _ gD,bD_ _⟩,rfl⟩,rfl⟩
     .unfold MV_;rw[ae_ OR,ae_ qO.symm,s4 _ _ hO3,hO'];change((rem.eraseIdx t).map _).length<(rem.map _).length;rw[Aa_,Aa_];lia
   .have re:rem=[]:=by
     by_cases h:rem=[]
     .show h
     .show absurd (AE_ h) hemp
    subst re;rw[AR_]at pm;show hkb _ _ ?_;walk_at "rd";show⟨Av_ _,λL nL=>?_⟩;walk_at "rd";show⟨o_,o_,?_⟩;rw[show Int.toNat (W:Int)=W by lia];have s6q:F0_ H6 Hq:=sS.trans sH2;have hD2q:=s6q _ _ hD2;have hD1q:=s6q _ _ hD1;show bU_ (λi σ H'=>∃(z:Int)(e13 e14:Option V)(S':Hp)(vs:List V)(wl:List (Str×(Int×Int))),σ=[some (.ref a),some (.int 0),some (.int mo),some (.int z),some (.int Pp),some (.int W),some (.ref l),some (.ref D1),some (.ref D2),some (.ref O),some (.ref R),e11,some (.ref L),e13,e14]/\F0_ Hq S'/\F0_ S' H'/\S' L=none/\H' L=some (.lst vs)/\Gt_ S' vs (wl.map dWo)/\wl.map (·.1)=wns.take i/\∀x∈wl,Ws x.2) ⟨z,none,none,Hq,[],[],rfl,F0_.refl _,F0_.new nL,nL,aa_,rfl,rfl,λx hx=>by cases hx⟩ ?_ ?_
    .rintro i σ H5 hi kc kb hkc hkb G hG ⟨z,e13,e14,S',vs,wl,rfl,sq,sS5,SL,hL,repW,wnm,wws⟩;show hG ?_;have hi':i<W:=hi;have iw:i<wns.length:=o_
     walk_at "rd";show⟨z,rfl,λpw qw H7 t0 b0 y0 s7 npw nqw tw hpw hqw=>?_⟩;have s57:=sS5.trans s7;have wll:wl.length=i:=by have:=congrArg List.length wnm;rw[Aa_,Aw_]at this;lia
     have vl:vs.length=i:=by rw[repW.length,Aa_];show wll
     show⟨pw,rfl,_,SqT.of hpw,rfl,_,_,rfl,_,_,rfl,rfl,?_⟩;walk_at "rd";show⟨.inl ⟨_,.inl (.inl (s7 _ _ hL))⟩,_,(sq.trans s57) _ _ hD2q,_,fz_ o_ (by rw[show Int.toNat (0+(i:Nat):Int)=i by lia];show fk_ iw),d_,λq nq=>?_⟩;have g1:F0_ S' (grow S' H5 H7):=cJ_ sS5;have g2:F0_ (grow S' H5 H7) H7:=jf_ sS5 s7;have gL:grow S' H5 H7 L=none:=by rw[eJ_ hL];show SL
     have gq:grow S' H5 H7 qw=some (.tup [.int (nf t0 b0).1,.int (nf t0 b0).2]):=by rw[je_ nqw];show hqw
     have qL:q≠L:=(ah_ (s7 _ _ hL) nq).symm;have g3:F0_ (grow S' H5 H7) (upd (grow S' H5 H7) q (.tup [.str (wns.getD i Str.empty),.ref qw])):=bi_ g2 nq;have g4:F0_ (upd (grow S' H5 H7) q (.tup [.str (wns.getD i Str.empty),.ref qw])) (upd H7 q (.tup [.str (wns.getD i Str.empty),.ref qw])):=g0_ g2 nq;have gL2:upd (grow S' H5 H7) q (.tup [.str (wns.getD i Str.empty),.ref qw]) L=none:=by rw[ae_ qL.symm];show gL
     show⟨vs,by rw[ae_ qL.symm];show s7 _ _ hL,F3_ o_,hkc _ _ ⟨y0,_,_,upd (grow S' H5 H7) q (.tup [.str (wns.getD i Str.empty),.ref qw]),_,wl++[(wns.getD i Str.empty,nf t0 b0)],rfl,sq.trans (g1.trans g3),cC_ g4 gL2,gL2,aa_,?_,?_,λx hx=>(At_.mp hx).elim (wws x) λhx=>by rw[Ag_.mp hx];show tw⟩⟩
     .rw[As_];show Gt_.append (Gt_.mono (g1.trans g3) _ repW) ⟨_,_,rfl,⟨q,_,rfl,aa_,_,_,rfl,rfl,_,_,rfl,⟨qw,_,rfl,g3 _ _ gq,_,_,rfl,rfl,_,_,rfl,rfl,rfl⟩,rfl⟩,rfl⟩
     .rw[As_,wnm,Ct_,Ab_ iw,Ac_,Ab_ iw];rfl
    .rintro σ H5 ⟨z,e13,e14,S',vs,wl,rfl,sq,sS5,SL,hL,repW,wnm,wws⟩;rw[AV_ o_]at wnm;walk_at "rd";have wll:wl.length=W:=by rw[<-nl2,<-wnm,Aa_]
     have vl:vs.length=wl.length:=by rw[repW.length,Aa_]
     have sq5:=sq.trans sS5;have c1:IE_ (nms.map V.str) none (some ((Pp:Nat):Int))=(nms.take Pp).map V.str:=by rw[np_ _ _ (by rw[Aa_];lia),Ei_]
     show⟨_,sq5 _ _ hD1q,λq nq=>?_⟩;rw[c1];have Sq:F0_ H5 (upd H5 q (HO.lst ((nms.take Pp).map V.str))):=F0_.new nq;have hq:=aa_ (H:=H5) (a:=q) (o:=HO.lst ((nms.take Pp).map V.str));generalize upd H5 q (HO.lst ((nms.take Pp).map V.str))=H6' at*;show⟨vs,Sq _ _ hL,wl,Gt_.mono (sS5.trans Sq) _ repW,o_,by rw[wnm];show nd2,λl' zs wl' nl' repW' pw srt=>?_⟩
     .show⟨d_,λpe npe=>?_⟩;have Sl:F0_ H6' (upd H6' l' (HO.lst zs)):=F0_.new nl';have hl':=aa_ (H:=H6') (a:=l') (o:=HO.lst zs);generalize upd H6' l' (HO.lst zs)=H7' at*;have Se:F0_ H7' (upd H7' pe (HO.tup [V.ref q,V.ref R,V.ref l'])):=F0_.new npe;have he:=aa_ (H:=H7') (a:=pe) (o:=HO.tup [V.ref q,V.ref R,V.ref l']);generalize upd H7' pe (HO.tup [V.ref q,V.ref R,V.ref l'])=H8' at*;have tot:F0_ H5 H8':=Sq.trans (Sl.trans Se);show k (.ref pe) ⟨nms.take Pp,GG_ (λp=>nms.getD p Str.empty) (λv=>wns.getD v Str.empty) T' dn,wl'⟩ H8' (s0.trans (s6.trans (s6q.trans (sq5.trans tot)))) ⟨pe,_,rfl,he,_,_,rfl,⟨q,_,rfl,(Sl.trans Se) _ _ hq,bD_ _⟩,_,_,rfl,⟨R,ys,rfl,tot _ _ (sq5 _ _ hRq),Gt_.mono (sH2.trans (sq5.trans tot)) _ repS⟩,_,_,rfl,⟨l',zs,rfl,Se _ _ hl',Gt_.mono (Sl.trans Se) _ repW'⟩,rfl⟩ ?_ ?_ ?_ srt
      .show rx_ gr' (by rw[<-bl];show pm) P6 W15 (λx y hx hy e=>GQ_ nd1 o_ o_ e) (λx y hx hy e=>GQ_ nd2 o_ o_ e) (by rw[Aw_];lia) (by rw[pw.length_eq];lia)
      .have nl1':nms.length=T'.length:=o_
       show⟨List.Nodup.sublist (Em_ _ _) nd1,λx hx=>?_,by rw[Aw_];lia⟩;obtain⟨j,hj,ej⟩:=Az_.mp hx;have hj2:j<nms.length:=by rw[Aw_]at hj;lia
       show Ay_.mpr ⟨_,Ay_.mpr ⟨j,pm.mem_iff.mpr (AX_.mpr o_),rfl⟩,?_⟩;change nms.getD j Str.empty=x;rw[Ac_,Ab_ hj2];rw[CU_]at ej;show ej
      .have pn:=pw.map (·.1);rw[wnm]at pn;show⟨pn.nodup_iff.mpr nd2,λx=>?_,λx hx=>wws x (pw.mem_iff.mp hx)⟩;rw[pn.mem_iff];have al:=l4_ (S:=Str) (ns:=λp=>nms.getD p Str.empty) (ws:=λv=>wns.getD v Str.empty) (T:=T') (ord:=dn) (by rw[<-bl];show pm);change x∈wns↔x∈((GG_ _ _ T' dn).map (·.2)).flatten;rw[al.mem_iff];constructor
       .intro hx;obtain⟨j,hj,ej⟩:=Az_.mp hx;show Ay_.mpr ⟨j,CL_.mp (by rw[gr'.two j o_];decide),?_⟩;change wns.getD j Str.empty=x;rw[Ac_,Ab_ hj];show ej
       .intro hx;obtain⟨j,hj,ej⟩:=Ay_.mp hx;have hl:=gr'.lt j hj;have ej':wns.getD j Str.empty=x:=ej;rw[Ac_,Ab_ (show j<wns.length by lia)]at ej';rw[<-ej'];show BJ_ _
def dE(e:End Str):Dt:=.tup [.str e.1,.int e.2]
def GO_(acc:List (Str×List (End Str)))(ls:List Addr):List (Key×V):=List.zipWith (λkv l=>(Sum.inr kv.1,V.ref l)) acc ls
structure DE(en:End Str->Dt)(S H:Hp)(d:Addr)(ls:List Addr)(acc:List (Str×List (End Str))):Prop where
 sH:F0_ S H
 dict:H d=some (.dK (GO_ acc ls))
 len:ls.length=acc.length
 nd:ls.Nodup
 dn:d∉ls
 lst:∀(i:Nat)(l:Addr)(kv:Str×List (End Str)),ls[i]?=some l->acc[i]?=some kv->∃vs,H l=some (.lst vs)/\Gt_ S vs (kv.2.map en)
 fd:S d=none
 fl:∀l∈ls,S l=none
variable{en:End Str->Dt}{d:Addr}{ls:List Addr}{acc:List (Str×List (End Str))}
theorem DE.mono(h:DE en S H d ls acc)(s:F0_ H H'):DE en S H' d ls acc :=
 ⟨h.sH.trans s,s _ _ h.dict,h.len,h.nd,h.dn,λi l kv h1 h2=>(h.lst i l kv h1 h2).elim λvs z=>⟨vs,s _ _ z.1,z.2⟩,h.fd,h.fl⟩
theorem DE.stay(h:DE en S H d ls acc){q:Addr}(nq:H q=none)(o:HO):DE en (upd S q o) (upd H q o) d ls acc:=by
 have qd:q≠d:=(ah_ h.dict nq).symm;have ql:∀l∈ls,q≠l:=λl hl e=>by obtain⟨i,hi,ei⟩:=Az_.mp hl;obtain⟨vs,z,_⟩:=h.lst i l (acc[i]'(by rw[<-h.len];show hi)) (by rw[Ab_ hi,ei]) (Ab_ _);rw[<-e,nq]at z;cases z
 show⟨g0_ h.sH nq,by rw[ae_ qd.symm];show h.dict,h.len,h.nd,h.dn,λi l kv h1 h2=>(h.lst i l kv h1 h2).elim λvs z=>⟨vs,by rw[ae_ (ql l (Am_ h1)).symm];show z.1,Gt_.mono (bi_ h.sH nq) _ z.2⟩,by rw[ae_ qd.symm];show h.fd,λl hl=>by rw[ae_ (ql l hl).symm];show h.fl l hl⟩
theorem jB_(h:ls.length=acc.length):(GO_ acc ls).length=acc.length:=by unfold GO_;rw[FK_];lia
theorem cj_{w:Str}:∀{acc:List (Str×List (End Str))}{ls:List Addr}{i:Nat}{es:List (End Str)},ls.length=acc.length->acc[i]?=some (w,es)->(∀j kv,j<i->acc[j]?=some kv->kv.1≠w)->∃l,ls[i]?=some l/\Gw_ (GO_ acc ls) (.inr w)=some (.ref l)
 |[],_,_,_,_,h,_=>by cases h
 |kv::acc,[],_,_,h,_,_=>by cases h
 |kv::acc,l::ls,0,es,_,h,_=>by
  cases h;show⟨l,rfl,aW_ rfl⟩
 |kv::acc,l::ls,i+1,es,hl,h,hn=>by obtain⟨l',h1,h2⟩:=cj_ (w:=w) (acc:=acc) (ls:=ls) (i:=i) (by simpa using hl) h λj kv hj hkv=>hn (j+1) kv o_ hkv;show⟨l',h1,?_⟩;change Gw_ ((Sum.inr kv.1,V.ref l)::GO_ acc ls) (.inr w)=_;rw[aJ_ (λz=>hn 0 kv o_ rfl (BW_ z))];show h2
theorem eR_{w:Str}:∀{acc:List (Str×List (End Str))}{ls:List Addr},(∀kv∈acc,kv.1≠w)->Gw_ (GO_ acc ls) (.inr w)=none
 |[],_,_=>by unfold GO_;rw[DF_];rfl
 |kv::acc,[],_=>rfl
 |kv::acc,l::ls,h=>by change Gw_ ((Sum.inr kv.1,V.ref l)::GO_ acc ls) (.inr w)=_;rw[aJ_ (λz=>h kv Al_ (BW_ z))];show eR_ λkv hkv=>h kv (Aj_ _ hkv)
variable{e:End Str}
theorem pd_{w:Str}{q:Addr}(hl:ls.length=acc.length)(h:∀kv∈acc,kv.1≠w):G1_ (GO_ acc ls) (.inr w) (.ref q)=GO_ (acc++[(w,[e])]) (ls++[q]):=by have hv:=eR_ (ls:=ls) h;unfold G1_;rw[if_neg (by rw[cf_,hv];decide)];unfold GO_;rw[FL_ hl.symm];rfl
variable{vs:List V}
theorem DE.old(h:DE en S H d ls acc){w:Str}{es:List (End Str)}{t:V}(hi:acc[i]?=some (w,es))(hl:ls[i]?=some l)(hv:H l=some (.lst vs))(hr:Gt_ S vs (es.map en))(ht:Rep S t (en e)):
  DE en S (upd H l (.lst (vs++[t]))) d ls (acc.set i (w,es++[e])):=by
 have dl:d≠l:=λz=>h.dn (by rw[z];show Am_ hl);have il:i<ls.length:=(Ai_.mp hl).1;have ia:i<acc.length:=by rw[<-h.len];show il
 show⟨cC_ h.sH (h.fl l (Am_ hl)),?_,by rw[BO_];show h.len,h.nd,h.dn,λj l' kv h1 h2=>?_,h.fd,h.fl⟩
 .rw[ae_ dl,h.dict];congr 2;unfold GO_;apply EE_
  .simp
  .intro j g1 g2;rw[Fv_,Fv_];by_cases z:i=j
   .subst z;rw[Fb_];rw[Ab_ ia]at hi;rw[Ar_ hi]
   .rw[FI_ z]
 .rw[BR_]at h2;by_cases z:i=j
  .subst z;rw[if_pos rfl,if_pos ia]at h2;cases h2;rw[hl]at h1;cases h1;show⟨_,aa_,?_⟩;rw[As_];show Gt_.append hr ⟨_,_,rfl,ht,rfl⟩
  .rw[if_neg z]at h2;obtain⟨vs',g1,g2⟩:=h.lst j l' kv h1 h2;have ll:l'≠l:=λy=>by rw[y]at h1;show z ((Bb_ il h.nd).mp (hl.trans h1.symm))
   show⟨vs',by rw[ae_ ll];show g1,g2⟩
theorem DE.new(h:DE en S H d ls acc){w:Str}{q:Addr}{t:V}(hn:∀kv∈acc,kv.1≠w)(hq:H q=some (.lst []))(qd:q≠d)(ql:q∉ls)(Sq:S q=none)(ht:Rep S t (en e)):
  DE en S (upd (upd H d (.dK (G1_ (GO_ acc ls) (.inr w) (.ref q)))) q (.lst [t])) d (ls++[q]) (acc++[(w,[e])]):=by
 show⟨cC_ (cC_ h.sH h.fd) Sq,?_,by simp[h.len],?_,?_,λj l' kv h1 h2=>?_,h.fd,λl hl=>?_⟩
 .rw[ae_ qd.symm,aa_,pd_ h.len hn]
 .show Be_.mpr ⟨h.nd,s_,λx hx y hy z=>ql (by rw[<-Ag_.mp hy,<-z];show hx)⟩
 .intro z
  rcases At_.mp z with z|z
  .show h.dn z
  .show qd (Ag_.mp z).symm
 .by_cases hj:j<ls.length
  .rw[AH_ hj]at h1;rw[AH_ (by rw[<-h.len];show hj)]at h2;obtain⟨vs',g1,g2⟩:=h.lst j l' kv h1 h2;have e1:l'≠q:=λz=>ql (by rw[<-z];show Am_ h1);have e2:l'≠d:=λz=>h.dn (by rw[<-z];show Am_ h1);show⟨vs',by rw[ae_ e1,ae_ e2];show g1,g2⟩
  .rw[AI_ o_]at h1;rw[AI_ (by rw[<-h.len];lia)]at h2;have e1:=Ag_.mp (Am_ h1);have e2:=Ag_.mp (Am_ h2);subst e1 e2;show⟨_,aa_,_,_,rfl,ht,rfl⟩
 .rcases At_.mp hl with z|z
  .show h.fl l z
  .rw[Ag_.mp z];show Sq
variable{N:Net Str}
theorem cv_(h:Rep H v (Ic_ N)):∃(pn p0 p1 p2:Addr)(rs ws:List V),v=.ref pn/\H pn=some (.tup [.ref p0,.ref p1,.ref p2])/\H p0=some (.lst (N.posts.map V.str))/\H p1=some (.lst rs)/\Gt_ H rs (N.rows.map dRw)/\H p2=some (.lst ws)/\Gt_ H ws (N.worths.map dWo):=by obtain⟨pn,_,rfl,hn,_,_,rfl,⟨p0,ps,rfl,h0,r0⟩,_,_,rfl,⟨p1,rs,rfl,h1,r1⟩,_,_,rfl,⟨p2,ws,rfl,h2,r2⟩,rfl⟩:=h;rw[jA_ r0]at h0;show⟨pn,p0,p1,p2,rs,ws,rfl,hn,h0,h1,r1,h2,r2⟩
theorem qO_{r:Str×List Str}(h:Rep H v (dRw r)):∃q l,v=.ref q/\H q=some (.tup [.str r.1,.ref l])/\H l=some (.lst (r.2.map V.str)):=by obtain⟨q,_,rfl,hq,x,_,rfl,hx,_,_,rfl,⟨l,us,rfl,hl,rl⟩,rfl⟩:=h;rw[jA_ rl]at hl;cases hx;show⟨q,l,rfl,hq,hl⟩
theorem fV_{rs:List V}{rows:List (Str×List Str)}{x:V}(h:Gt_ H rs (rows.map dRw))(e:rs[i]?=some x):∃r q l,rows[i]?=some r/\x=.ref q/\H q=some (.tup [.str r.1,.ref l])/\H l=some (.lst (r.2.map V.str)):=by
 obtain⟨d,hd,hr⟩:=h.of_get e;rw[Ae_]at hd;cases e2:rows[i]? with
 |none=>rw[e2]at hd;cases hd
 |some r =>rw[e2]at hd;rw[<-Ar_ hd]at hr;obtain⟨q,l,h1,h2,h3⟩:=qO_ hr;show⟨r,q,l,rfl,h1,h2,h3⟩
theorem eS_(p:Str):∀(ws:List Str)(k j:Nat),(Gx_ p k ws)[j]?=(ws[j]?).map λx=>(x,(p,k+j))
 |[],_,_=>by simp[Gx_]
 |w::ws,k,0=>rfl
 |w::ws,k,j+1=>by change(Gx_ p (k+1) ws)[j]?=(ws[j]?).map λx=>(x,(p,k+(j+1)));rw[eS_ p ws (k+1) j,show k+1+j=k+(j+1) by lia]
theorem iK_(p:Str)(ws:List Str)(k:Nat):(Gx_ p k ws).length=ws.length:=by
 have:=congrArg List.length (gj_ p ws k)
 rwa[Aa_]at this
theorem g6_{rows:List (Str×List Str)}{r:Str×List Str}(h:rows[i]?=some r):occ (rows.take (i+1))=occ (rows.take i)++Gx_ r.1 0 r.2:=by unfold occ;rw[Ct_,h,As_,BN_];simp
theorem jC_(ok:G4_ N)(l m:List (Str×End Str))(h:l++m=occ N.rows):(Gq_ l).length<=30:=by
 have e:∀l:List (Str×End Str),(Gq_ l).length<=l.length:=λl=>by
  have key:∀n (l:List (Str×End Str)),l.length=n->(Gq_ l).length<=n:=λn=>by
   induction n with
   |zero=>intro l h;rw[AB_ h];show Af_ _
   |succ n ih =>
    intro l h;obtain⟨m,x,rfl⟩:∃m x,l=m++[x]:=⟨l.dropLast,l.getLast (λe=>by rw[e]at h;cases h),(Bf_ _).symm⟩;rw[cH_];have h2:=ih m (by simpa using h);have h3:=congrArg List.length (dp_ (w:=x.1) (e:=x.2) (a:=Gq_ m));rw[Aa_]at h3;split at h3
    .rw[Aa_]at h3;lia
    .rw[Ak_,Aa_]at h3;simp at h3;lia
  show key _ l rfl
 have h1:=e l;have h2:=congrArg List.length h;have h3:=congrArg List.length (gk_ N.rows);rw[Aa_]at h3;have h4:=ok.tot;unfold Net.all at h4;rw[Ak_]at h2;lia
theorem iL_(ok:G4_ N)(l m:List (Str×End Str))(h:l++m=occ N.rows):∀kv∈Gq_ l,kv.2.length<=30:=λkv hkv=>by
 have h0:=(bj_ _ l rfl).2.1 kv hkv;have h1:kv.2.length<=l.length:=by rw[h0,Aa_];show Bj_ _ _
 have h2:=congrArg List.length h;have h3:=congrArg List.length (gk_ N.rows);rw[Aa_]at h3;have h4:=ok.tot;unfold Net.all at h4;rw[Ak_]at h2;lia
theorem pe_{a b:Addr}{x y:HO}(h:a≠b):upd (upd H a x) b y=upd (upd H b y) a x:=by
 funext c;by_cases h1:c=a
 .subst h1;rw[ae_ h,aa_,aa_]
 .by_cases h2:c=b
  .subst h2;rw[aa_,ae_ h1,aa_]
  .rw[ae_ h2,ae_ h1,ae_ h1,ae_ h2]
abbrev Gi_:Stmt:=stN 16
theorem a9_:ZL ["net","ends","point","wires","place","wire"] ["net"] (F1_ Gi_):=zL
theorem dk_:LK Gi_ "enumerate" .globalImplicit:=r_
def JP_:Sp:=λvs H Q _=>∃(v:V)(N:Net Str),vs=[v]/\Rep H v (Ic_ N)/\G4_ N/\∀d S ls H',F0_ H S->DE dE S H' d ls (GP_ N)->H d=none->Q (.ref d) H'
theorem hV_(T:Txt K mg)(F:Fn0 K mg "ends_by_wire" Gi_):Cal P w K mg base "ends_by_wire" ["net"] 1 JP_:=by
  show aP_ F a9_.1 λf cdv A outer s H vs Q E hr h=>?_;obtain⟨v,N,rfl,hv,ok,k⟩:=h;refine'⟨_,?D,?R⟩
  case D =>
   refine' ag_ ?a (ag_ ?b (ad_ (ap_ (zv 1 a9_))))
   case a=>show zas 1 a9_ eK_
   case' b=>refine' a6_ AF_ rfl (aO_ (K:=K) rfl (F9_ au_ (zv 0 a9_) ac_)) (bk_ (K:=K) (n:=2) rfl rfl (am_ ?c (am_ ?d bd_))) ?e
   case c=>show zh 2 a9_
   case d=>show zh 3 a9_
   case' e=>refine' ad_ (a6_ AF_ rfl (nr_ (K:=K) rfl dk_ T.n_enumerate (pa_c (zv 3 a9_) ab_)) (bk_ (K:=K) (n:=2) rfl rfl (am_ ?f (am_ ?g bd_))) ?h)
   case f=>show zh 4 a9_
   case g=>show zh 5 a9_
   case' h=>refine' ad_ (a4_ (Hc_ AP_ A2_ A3_ a0_ (Hc_ BH_ BD_ Cc_ dO_ (zv 1 a9_) (pa_c (zv 5 a9_) (pa_c (aY_ ab_) ab_))) ?i))
   case' i=>refine' pa_c (aK_ (pa_c (zv 2 a9_) (pa_c (zv 4 a9_) ab_))) ab_
  case R =>
   walk_at "rd";obtain⟨pn,p0,p1,p2,rs,ws,rfl,hn,h0,h1,r1,h2,r2⟩:=cv_ hv;have rl:rs.length=N.rows.length:=by rw[r1.length,Aa_]
   intro d nd;have Sd:F0_ H (upd H d (HO.dK [])):=F0_.new nd;show⟨pn,rfl,_,Sd _ _ hn,_,Hm_,p1,rfl,⟨_,.inl (.inl (Sd _ _ h1))⟩,?_⟩;have D0:DE dE H (upd H d (HO.dK [])) d [] (Gq_ (occ (N.rows.take 0))):=⟨Sd,aa_,rfl,Bn_,λz=>(by cases z),λi l kv z=>(by cases z),nd,λl z=>(by cases z)⟩;show nh_ (xs:=rs) (λi σ H'=>∃(e2 e3 e4 e5:Option V)(S:Hp)(ls:List Addr),σ=[some (.ref pn),some (.ref d),e2,e3,e4,e5]/\F0_ H S/\DE dE S H' d ls (Gq_ (occ (N.rows.take i)))) ⟨none,none,none,none,H,[],rfl,F0_.refl _,D0⟩ ?_ ?_ ?_
   .rintro i σ H' hi ⟨e2,e3,e4,e5,S,ls,rfl,sS,de⟩;show .inl (.inl (de.sH _ _ (sS _ _ h1)))
   .rintro i x σ H' hx ⟨e2,e3,e4,e5,S,ls,rfl,sS,de⟩;obtain⟨r,q,l,hr1,rfl,hq,hl⟩:=fV_ r1 hx;have s1:=sS.trans de.sH;rw[g6_ hr1];have occle:∀j,∃m,(occ (N.rows.take i)++(Gx_ r.1 0 r.2).take j)++m=occ N.rows:=λj=>by show⟨(Gx_ r.1 0 r.2).drop j++occ (N.rows.drop (i+1)),?_⟩;rw[AG_,<-AG_ (List.take j _),A1_,<-AG_,<-g6_ hr1];unfold occ;rw[<-BN_,<-As_,A1_]
    walk_at "rd";show⟨_,SqT.of (s1 _ _ hq),rfl,_,_,rfl,_,_,rfl,rfl,l,rfl,⟨_,.inl (.inl (s1 _ _ hl))⟩,?_⟩;show nI_ (xs:=r.2.map V.str) (λj σ H'=>∃(e4 e5:Option V)(S:Hp)(ls:List Addr),σ=[some (.ref pn),some (.ref d),some (.str r.1),some (.ref l),e4,e5]/\F0_ H S/\DE dE S H' d ls (Gq_ (occ (N.rows.take i)++(Gx_ r.1 0 r.2).take j))) ⟨e4,e5,S,ls,rfl,sS,by rw[Fh_,AR_];show de⟩ ?_ ?_ ?_
    .rintro j σ H2 hj ⟨e4,e5,S,ls,rfl,sS,de⟩;show .inl (.inl ((sS.trans de.sH) _ _ hl))
    .rintro j x T0 σ H2 hx ⟨e4,e5,S,ls,rfl,sS,de⟩ nT;rw[Ae_]at hx
     obtain⟨wr,hw,rfl⟩:∃wr,r.2[j]?=some wr/\x=.str wr:=by
      cases e:r.2[j]? with
      |none=>rw[e]at hx;cases hx
      |some wr=>rw[e]at hx;cases hx;show⟨wr,rfl,rfl⟩
     have tk:(Gx_ r.1 0 r.2).take (j+1)=(Gx_ r.1 0 r.2).take j++[(wr,(r.1,j))]:=by rw[Ct_,eS_,hw];simp
     obtain⟨m,hm⟩:=occle j;have few:=jC_ ok _ _ hm;have short:=iL_ ok _ _ hm;rw[tk,<-AG_,cH_];generalize Gq_ (occ (N.rows.take i)++(Gx_ r.1 0 r.2).take j)=acc at*;have de2:=de.mono (F0_.new nT (o:=HO.tup [V.int j,V.str wr]));have hT:=aa_ (H:=H2) (a:=T0) (o:=HO.tup [V.int j,V.str wr]);generalize upd H2 T0 (HO.tup [V.int j,V.str wr])=H3 at*;walk_at "rd";show⟨_,SqT.of hT,rfl,_,_,rfl,_,_,rfl,rfl,.inr (.inr (.inl (.inl ⟨_,de2.dict⟩))),Av_ _,λq nq=>?_⟩;have qd:q≠d:=(ah_ de2.dict nq).symm;have ql:q∉ls:=λz=>by obtain⟨i0,hi0,ei⟩:=Az_.mp z;obtain⟨vs,z2,_⟩:=de2.lst i0 q (acc[i0]'(by rw[<-de2.len];show hi0)) (by rw[Ab_ hi0,ei]) (Ab_ _);rw[nq]at z2;cases z2
     have Sq:S q=none:=de2.sH.free nq;have de3:=de2.mono (F0_.new nq (o:=HO.lst []));have hq4:=aa_ (H:=H3) (a:=q) (o:=HO.lst []);generalize upd H3 q (HO.lst [])=H4 at*;show⟨_,.inr wr,rfl,de3.dict,by rw[jB_ de3.len];lia,λv2 hv2=>?_,λhnone=>?_⟩
     .have hex:∃kv∈acc,kv.1=wr:=by
       by_cases hc:∃kv∈acc,kv.1=wr
       .show hc
       .rw[eR_ (λkv hkv z=>hc ⟨kv,hkv,z⟩)]at hv2;cases hv2
      obtain⟨i0,es,g1,g2,g3⟩:=bT_ (e:=(r.1,j)) hex;obtain⟨lw,l1,l2⟩:=cj_ de3.len g1 g2;rw[l2]at hv2;cases hv2;obtain⟨vs,hvs,hrep⟩:=de3.lst i0 lw _ l1 g1;have vle:vs.length<=30:=by rw[hrep.length,Aa_];show short _ (Am_ g1)
      show⟨.inl ⟨_,.inl (.inl hvs)⟩,d_,λt nt=>⟨lw,rfl,vs,(F0_.new nt) _ _ hvs,F3_ o_,?_⟩⟩;have de5:=de3.stay nt (.tup [.str r.1,.int j]);have de6:=de5.old g1 l1 ((F0_.new nt) _ _ hvs) (Gt_.mono (bi_ de3.sH nt) _ hrep) (e:=(r.1,j)) ⟨t,_,rfl,aa_,_,_,rfl,rfl,_,_,rfl,rfl,rfl⟩;rw[g3];show⟨_,sS.trans (bi_ de3.sH nt),ls,de6⟩
     .have hno:∀kv∈acc,kv.1≠wr:=λkv hkv z=>by obtain⟨i0,es,g1,g2,g3⟩:=bT_ (e:=(r.1,j)) ⟨kv,hkv,z⟩;obtain⟨lw,l1,l2⟩:=cj_ de3.len g1 g2;rw[l2]at hnone;cases hnone
      have hqd:upd H4 d (HO.dK (G1_ (GO_ acc ls) (Sum.inr wr) (V.ref q))) q=some (.lst []):=by rw[ae_ qd];show hq4
      show⟨.inl ⟨_,.inl (.inl hqd)⟩,d_,λt nt=>?_⟩;have td:t≠d:=λz=>by rw[z,aa_]at nt;cases nt
      have nt4:H4 t=none:=by rw[ae_ td]at nt;show nt
      have tq:t≠q:=(ah_ hq4 nt4).symm;have de5:=de3.stay nt4 (.tup [.str r.1,.int j]);have de6:=de5.new (e:=(r.1,j)) (q:=q) hno (by rw[ae_ tq.symm];show hq4) qd ql (by rw[ae_ tq.symm];show Sq) ⟨t,_,rfl,aa_,_,_,rfl,rfl,_,_,rfl,rfl,rfl⟩;show⟨[],by rw[ae_ tq.symm];show hqd,F3_ d_,upd S t (.tup [.str r.1,.int j]),sS.trans (bi_ de3.sH nt4),ls++[q],?_⟩;rw[fF_ hno,pe_ td.symm];show de6
    .rintro σ H2 ⟨e4,e5,S,ls,rfl,sS,de⟩;rw[AV_ (l:=Gx_ r.1 0 r.2) (by rw[iK_,Aa_];show Af_ _)]at de;show⟨_,_,_,_,rfl,S,sS,ls,de⟩
   .rintro σ H' ⟨e2,e3,e4,e5,S,ls,rfl,sS,de⟩;rw[AV_ o_]at de;walk_at "rd";show k d S ls H' sS de nd
mutual
theorem jD_:∀d:Dt,deq d d=some true
 | .non=>rfl
 | .bl a=>by simp[deq]
 | .int a=>by simp[deq]
 | .str a=>by simp[deq]
 | .tup xs=>hW_ xs
 | .lst xs=>by rw[deq,if_pos rfl];show hW_ xs
theorem hW_:∀ds:List Dt,deqs ds ds=some true
 |[]=>rfl
 |d::ds=>by rw[deqs,jD_ d,hW_ ds];rfl
end
theorem ez_{α:Type}{f:α->Dt}{n:Nat}(h:∀a,dep (f a)<=n):∀l:List α,deps (l.map f)<=n
 |[]=>Av_ _
 |a::l=>Nat.max_le.mpr ⟨h a,ez_ h l⟩
theorem oc_(N:Net Str):dep (Ic_ N)<=60:=by
 have h1:dep (.lst (N.posts.map dS))<=5:=Au_ (BY_ (ez_ (f:=dS) (n:=1) (λa=>by simp[dS,dep]) _)) d_;have h2:dep (.lst (N.rows.map dRw))<=5:=Au_ (BY_ (ez_ (f:=dRw) (n:=3) (λr=>by have:dep (.lst (r.2.map dS))<=2:=BY_ (ez_ (f:=dS) (n:=1) (λa=>by simp[dS,dep]) _);change max 0 (max (dep (.lst (r.2.map dS))) 0)+1<=3;lia) _)) d_;have h3:dep (.lst (N.worths.map dWo))<=5:=Au_ (BY_ (ez_ (f:=dWo) (n:=3) (λr=>by simp[dWo,dep,deps]) _)) d_;change max (dep (.lst (N.posts.map dS))) (max (dep (.lst (N.rows.map dRw))) (max (dep (.lst (N.worths.map dWo))) 0))+1<=60;lia
abbrev HB_:Stmt:=stN 42
theorem pf_:ZL ["_law_net"] ["_law_net"] (F1_ HB_):=zL
theorem fW_:LK HB_ "list" .globalImplicit:=r_
def JH_:Sp:=λvs H Q _=>∃(v:V)(N:Net Str),vs=[v]/\Rep H v (Ic_ N)/\G4_ N/\∀v' H',F0_ H H'->Rep H' v' (Ic_ N)->Q v' H'
theorem od_(T:Txt K mg)(F:Fn0 K mg "_law_copy" HB_):Ml_ P w K mg base "_law_copy" ["_law_net"] 1 JH_:=by
 show qH_ F pf_.1 (λ_ _ _ _ _ _=>byL1 λ_=>rfl) ?len ?body
 case len=>rintro vs H Q E ⟨a,b,rfl,_⟩;rfl
 case body =>
  intro f cdv A outer s H vs Q E pn hq hr h;obtain⟨v,N,rfl,hv,ok,k⟩:=h;obtain⟨pn,p0,p1,p2,rs,ws,rfl,hn,h0,h1,r1,h2,r2⟩:=cv_ hv;have rl:rs.length=N.rows.length:=by rw[r1.length,Aa_]
  have few:=ok.few;refine'⟨_,?D,?R⟩
  case D =>
   refine' ad_ (ap_ (aK_ (pa_c (bE_ gf_ fW_ T.n_list e6_ (pa_c (F9_ au_ (zv 0 pf_) ac_) ab_)) ?a)))
   case' a=>refine' pa_c ?b (pa_c (bE_ gf_ fW_ T.n_list e6_ (pa_c (F9_ au_ (zv 0 pf_) ac_) ab_)) ab_)
   case' b=>refine' o9_ (N':=["_law_point","_law_wires"]) (ix:=[none,none]) (show Qx _ from hq) rfl (cy_ ?c) (o8_ (K:=K) rfl (F9_ au_ (zv 0 pf_) ac_)) (λ_ _ _=>(qG_ (K:=K) (n:=2) rfl (show Qx _ from hq) (am_ ?d (am_ ?e bd_)))) (λ_ _ _=>?f) (λ_ _ _=>?g)
   case c=>show(by change Ih_ (F1_ HB_) ["_law_net"] _ _ _=true;decide +kernel)
   case d=>show ak_ (i:=0) (by change List.Nodup (["_law_point","_law_wires"]:List Str);decide +kernel) rfl rfl
   case e=>show ak_ (i:=1) (by change List.Nodup (["_law_point","_law_wires"]:List Str);decide +kernel) rfl rfl
   case f=>show e1_
   case' g=>refine' aK_ (pa_c (pv1 0 rfl rfl) (pa_c (bE_ gf_ rfl T.n_list e6_ (pa_c (pv1 1 rfl rfl) ab_)) ab_))
  case R =>
   walk_at "rd";show⟨_,hn,_,G2_,p0,rfl,_,.inl h0,λc0 n0=>?_⟩;have S1:F0_ H (upd H c0 (HO.lst (N.posts.map V.str))):=F0_.new n0;have hc0:=aa_ (H:=H) (a:=c0) (o:=HO.lst (N.posts.map V.str));generalize upd H c0 (HO.lst (N.posts.map V.str))=H1 at*;show⟨_,S1 _ _ hn,_,Hm_,p1,rfl,⟨_,.inl (.inl (S1 _ _ h1))⟩,?_⟩;have h11:=S1 _ _ h1;show c7_ (n:=N.rows.length) (B:=λ_=>none) (Pσ:=λσ=>∃e e',σ=[e,e']) (ds:=N.rows.map dRw) (λb o e=>by cases e) ⟨_,_,rfl⟩ s_ o_ (λi H' hi s'=>⟨rs,rs[i]'o_,.inl (.inl (s' _ _ h11)),Ab_ _⟩) (λH' s'=>⟨rs,.inl (.inl (s' _ _ h11)),o_⟩) ?_ ?_
   .rintro D i x d σ' H2 H2' hD hDo hs2 hi hdi ⟨rfl,hy⟩ ⟨e,e',rfl⟩ R kR;obtain⟨od,hDo⟩:=hDo;have hx:=hy _ (.inl (.inl (hs2 _ _ h11)));obtain⟨r,q,l,hr1,rfl,hq,hl⟩:=fV_ r1 hx;have s12:=S1.trans hs2;have hd:d=dRw r:=by rw[Ae_,hr1]at hdi;show(Ar_ hdi).symm
    walk_at "rd";show⟨_,SqT.of (s12 _ _ hq),rfl,_,_,rfl,_,_,rfl,rfl,l,rfl,_,.inl (s12 _ _ hl),λc1 n1=>⟨d_,λc2 n2=>?_⟩⟩;have c1D:c1≠D:=(ah_ hDo n1).symm;have c2D:c2≠D:=(ah_ ((F0_.new n1 (o:=HO.lst (r.2.map V.str))) _ _ hDo) n2).symm;show kR _ _ _ ⟨_,_,rfl⟩ ((F0_.new n1).trans (F0_.new n2)) ?_;rw[hd];show⟨c2,_,rfl,by rw[dK_ c2D rfl];show aa_,_,_,rfl,rfl,_,_,rfl,⟨c1,_,rfl,by rw[dK_ c1D rfl];show(F0_.new n2) _ _ aa_,bD_ _⟩,rfl⟩
   .intro D H2 hD s2 rep2;have s02:=S1.trans s2;show⟨_,s02 _ _ hn,_,HF_,p2,rfl,_,.inl (s02 _ _ h2),λc2 n2=>⟨d_,λpe ne=>?_⟩⟩;have S3:=F0_.new n2 (o:=HO.lst ws);have S4:=F0_.new ne (o:=HO.tup [V.ref c0,V.ref D,V.ref c2]);show k _ _ (s02.trans (S3.trans S4)) ⟨pe,_,rfl,aa_,_,_,rfl,⟨c0,_,rfl,(s2.trans (S3.trans S4)) _ _ hc0,bD_ _⟩,_,_,rfl,Rep.mono (bS_.trans (S3.trans S4)) _ rep2,_,_,rfl,⟨c2,ws,rfl,S4 _ _ aa_,Gt_.mono (s02.trans (S3.trans S4)) _ r2⟩,rfl⟩
abbrev Gb_:Stmt:=stN 12
theorem aE_:ZL ["one","other","pair","rest"] ["one","other"] (F1_ Gb_):=zL
theorem cw_:LK Gb_ "LONG_BITS" .globalImplicit:=r_
theorem d1_:LK Gb_ "max" .globalImplicit:=r_
theorem d2_:LK Gb_ "min" .globalImplicit:=r_
def Ko_:Sp:=λvs H Q _=>∃a b:Int,vs=[.int a,.int b]/\0<=a/\0<=b/\Builtin.Int.intBits a<=8000/\Builtin.Int.intBits b<=8000/\∀H',F0_ H H'->Q (.int (Int.gcd a b:Nat)) H'
theorem fl_(T:Txt K mg)(F:Fn0 K mg "greatest_divisor" Gb_):Cal P w K mg base "greatest_divisor" ["one","other"] 1 Ko_:=by
  show aP_ F aE_.1 λf cdv A outer s H vs Q E hr h=>?_;obtain⟨a,b,rfl,ha,hb,la,lb,k⟩:=h;refine'⟨_,?D,?R⟩
  case D =>
   refine' ag_ (zas 2 aE_ (aK_ ?a)) ?b
   case' a=>refine' pa_c (aj_ (fx_ rfl) d1_ T.n_max lR_ (pa_c (zv 0 aE_) (pa_c (zv 1 aE_) ab_))) (pa_c (aj_ (he_ rfl) d2_ T.n_min nj_ (pa_c (zv 0 aE_) (pa_c (zv 1 aE_) ab_))) ab_)
   case' b=>refine' ag_ (fw_ AF_ (ao_ HV_ (pK_ PySem.F.plainAttrs_int PySem.F.slot_int_bit_length PySem.F.type_int_bit_length qn_ (F9_ au_ (zv 2 aE_) ac_)) ?c (Gf_ _)) ?d) (ag_ (zas 0 aE_ (F9_ au_ (zv 2 aE_) ac_)) ?e)
   case c=>show kW_ T.c_LONG_BITS cw_
   case d=>show jT_
   case' e=>refine' ag_ (zas 1 aE_ (F9_ au_ (zv 2 aE_) ac_)) (ag_ (fw_ AF_ (ao_ J8_ (zv 1 aE_) ac_ (Gf_ _)) ?f) (ad_ (ap_ (zv 0 aE_))))
   case' f=>refine' ag_ (zas 3 aE_ (F2_ aD_ (zv 0 aE_) (zv 1 aE_))) (ag_ (zas 0 aE_ (zv 1 aE_)) (ad_ (zas 1 aE_ (zv 3 aE_))))
  case R =>
   walk_at "rd";show⟨d_,λp hp=>?_⟩;show hh_ (λσ H1=>σ=[some (.int a),some (.int b),some (.ref p),none]/\H1=upd H p (.tup [V.int (if b > a then b else a),V.int (if b<a then b else a)])) (λ_ _=>0) ⟨rfl,rfl⟩ ?_;rintro σ H1 ⟨rfl,rfl⟩;walk_at "rd";have hm:¬ (8000:Int)<(Builtin.Int.intBits (if b<a then b else a):Nat):=by split <;> lia
   rw[if_neg hm]
   show hh_ (λσ H1=>∃(x y:Int)(z:Option V),σ=[some (.int x),some (.int y),some (.ref p),z]/\H1=upd H p (.tup [V.int (if b > a then b else a),V.int (if b<a then b else a)])/\0<=x/\0<=y/\Int.gcd x y=Int.gcd a b)
    (λσ _=>LF_ 1 σ) ?_ ?_
   .show⟨_,_,_,rfl,rfl,?_,?_,?_⟩
    .split <;> lia
    .split <;> lia
    .by_cases h:b<a
     .rw[if_pos h,if_neg o_]
     .rw[if_neg h];by_cases h':b > a
      .rw[if_pos h',Int.gcd_comm]
      .rw[if_neg h',Int.gcd_comm];congr 1 <;> lia
   .rintro σ H1 ⟨x,y,z,rfl,rfl,hx,hy,e⟩;walk_at "rd";show ite2 (λhne=>?_) (λhe=>?_)
    .show⟨_,N_ok,?_⟩;walk_at "rd";have h0:0<y:=o_
     have h1:=AU_ x hne;have h2:=AO_ x h0;show⟨h0,hy,h1,(mh_ hx h0).trans e,(show(x%y).toNat<y.toNat by lia)⟩
    .have hy0:y=0:=BS_.mp he;have:x=(Int.gcd a b:Nat):=by rw[<-e,hy0,Int.gcd_zero_right];lia
     rw[this];show k _ (F0_.new hp)
theorem qP_(t b:Int):Int.gcd (if t<0 then -t else t) (if b<0 then -b else b)=Int.gcd t b:=by split <;> split <;> simp[Int.gcd_neg,FV_]
variable{n:Nat}
theorem ml_{t:Int}(h:Builtin.Int.intBits t<=n):Builtin.Int.intBits (if t<0 then -t else t)<=n :=
 Bi_ (b:=t) (by split <;> lia) h
abbrev GD_:Stmt:=stN 13
theorem fm_:ZL ["top","bottom","divisor"] ["top","bottom"] (F1_ GD_):=zL
theorem eA_:LK GD_ "abs" .globalImplicit:=r_
theorem cF_:LK GD_ "greatest_divisor" .globalImplicit:=r_
def HM_:Sp:=λvs H Q _=>∃t b:Int,vs=[.int t,.int b]/\b≠0/\Builtin.Int.intBits t<=8000/\Builtin.Int.intBits b<=8000/\∀p H',F0_ H H'->H p=none->H' p=some (.tup [.int (nf t b).1,.int (nf t b).2])->Q (.ref p) H'
theorem lv_(T:Txt K mg)(F:Fn0 K mg "fraction" GD_) (Hv_:Cal P w K mg base "greatest_divisor" ["one","other"] 1 Ko_):Cal P w K mg base "fraction" ["top","bottom"] 2 HM_:=by
  show aP_ F fm_.1 λf cdv A outer s H vs Q E hr h=>?_;obtain⟨t,b,rfl,hb,lt,lb,k⟩:=h;refine'⟨_,?D,?R⟩
  case D =>
   refine' ag_ (Gz_ (ao_ Hb_ (zv 1 fm_) ac_ (Gf_ _)) (ad_ ?a) aB_) ?b
   case a=>show lK_
   case' b=>refine' ag_ ?c (ag_ (Gz_ (ao_ JV_ (zv 1 fm_) ac_ (Gf_ _)) (ad_ (zas 2 fm_ (ML_ rk_ (zv 2 fm_)))) aB_) ?d)
   case' c=>refine' zas 2 fm_ (al_ Hv_ (hr.mono d_) cF_ (pa_c (aj_ i2_ eA_ T.n_abs ni_ (pa_c (zv 0 fm_) ab_)) (pa_c (aj_ i2_ eA_ T.n_abs ni_ (pa_c (zv 1 fm_) ab_)) ab_)))
   case' d=>refine' ad_ (ap_ (aK_ (pa_c (F2_ lQ_ (zv 0 fm_) (zv 2 fm_)) (pa_c (F2_ lQ_ (zv 1 fm_) (zv 2 fm_)) ab_))))
  case R =>
   walk_at "rd";rw[if_neg hb];show⟨_,_,rfl,?_,?_,ml_ lt,ml_ lb,λH1 s1=>?_⟩
   .split <;> lia
   .split <;> lia
   .rw[qP_];have g:=gpos (t:=t) hb;have d1:=EA_ (a:=t) (b:=b);have d2:=CS_ (a:=t) (b:=b);have gl:(Int.gcd t b:Int).natAbs<=b.natAbs:=by have:=Fn_.mpr d2;show Nat.le_of_dvd o_ this
    have lg:=p3_ (g:=(Int.gcd t b:Int)) o_ gl lb;walk_at "rd";show ite2 (λhn=>?_) (λhn=>?_)
    .have e:nf t b=(t.fdiv (-(Int.gcd t b:Int)),b.fdiv (-(Int.gcd t b:Int))):=by unfold nf;rw[if_pos hn,CF_ (Int.neg_dvd.mpr d1),CF_ (Int.neg_dvd.mpr d2)]
     rw[e]at k;have lg':(-(Int.gcd t b:Int)).natAbs.log2<9000:=by rw[Int.natAbs_neg];show lg
     show⟨o_,lg',o_,lg',d_,λp hp=>k p _ (s1.trans (F0_.new hp)) (s1.free hp) aa_⟩
    .have e:nf t b=(t.fdiv (Int.gcd t b:Int),b.fdiv (Int.gcd t b:Int)):=by unfold nf;rw[if_neg hn,CF_ d1,CF_ d2]
     rw[e]at k;show⟨o_,lg,o_,lg,d_,λp hp=>k p _ (s1.trans (F0_.new hp)) (s1.free hp) aa_⟩
def FQ(K:PySem.W.Frag)(H:Hp)(v:V)(p:Int×Int):Prop:=∃a,v=.ref a/\SqT K H a [.int p.1,.int p.2]
variable{xs:List V}
theorem F0_.seqT{a:Addr}(e:F0_ H H')(h:SqT K H a xs):SqT K H' a xs:=by
 rcases h with(h|⟨o,h⟩)|h
 .show .inl (.inl (e _ _ h))
 .show .inl (.inr ⟨o,e _ _ h⟩)
 .show .inr h
structure Sm(p:Int×Int):Prop where
 low:Low p
 top:Builtin.Int.intBits p.1<=1500
 bot:Builtin.Int.intBits p.2<=1500
theorem iM_{x y:Int}{m:Nat}(hx:Builtin.Int.intBits x<=n)(hy:Builtin.Int.intBits y<=m)(h:n+m<=9000):Builtin.Int.intBits (x*y)<=n+m/\Builtin.Int.intBits x+Builtin.Int.intBits y<=134217728:=⟨PyProof.Rows.bits_mul hx hy,o_⟩
theorem pg_{x y:Int}(hx:Builtin.Int.intBits x<=n)(hy:Builtin.Int.intBits y<=n):Builtin.Int.intBits (x-y)<=n+1:=by have h:Builtin.Int.intBits (-y)<=n:=Bi_ (b:=y) o_ hy;have:=Fo_ hx h;rw[Int.sub_eq_add_neg];lia
def Kv_(K:PySem.W.Frag)(t b:Int×Int->Int×Int->Int):Sp:=λvs H Q _=>∃v u p q,vs=[v,u]/\FQ K H v p/\FQ K H u q/\Sm p/\Sm q/\b p q≠0/\∀z H',F0_ H H'->H z=none->H' z=some (.tup [.int (nf (t p q) (b p q)).1,.int (nf (t p q) (b p q)).2])->Q (.ref z) H'
abbrev Hz_:Stmt:=stN 14
theorem ph_:ZL ["one","other"] ["one","other"] (F1_ Hz_):=zL
theorem gu_:LK Hz_ "fraction" .globalImplicit:=r_
theorem pi_(T:Txt K mg)(F:Fn0 K mg "times" Hz_) (Jl_:Cal P w K mg base "fraction" ["top","bottom"] 2 HM_):Cal P w K mg base "times" ["one","other"] 3 (Kv_ K (λp q=>p.1*q.1) (λp q=>p.2*q.2)):=by
  show aP_ F ph_.1 λf cdv A outer s H vs Q E hr h=>?_;obtain⟨v,u,p,q,rfl,⟨x,rfl,hx⟩,⟨y,rfl,hy⟩,sp,sq,nz,k⟩:=h;have p1:=sp.top;have p2:=sp.bot;have q1:=sq.top;have q2:=sq.bot;have a1:=iM_ p1 q2 d_;have a2:=iM_ q1 p2 d_;have a3:=iM_ p2 q2 d_;have a4:=iM_ p1 q1 d_;have a5:=iM_ p2 q1 d_;have b1:=Fo_ a1.1 a2.1;have b2:=pg_ a1.1 a2.1;refine'⟨_,?D,?R⟩
  case D =>
   refine' ad_ (ap_ (al_ Jl_ (hr.mono d_) gu_ ?a))
   case' a=>refine' pa_c (F2_ i7_ (F9_ (dN_ (K:=K) rfl) (zv 0 ph_) ac_) (F9_ (dN_ (K:=K) rfl) (zv 1 ph_) ac_)) (pa_c (F2_ i7_ (F9_ (dN_ (K:=K) rfl) (zv 0 ph_) ac_) (F9_ (dN_ (K:=K) rfl) (zv 1 ph_) ac_)) ab_)
  case R =>walk_at "rd";show⟨_,hx,_,G2_,_,hy,_,G2_,_,rfl,_,rfl,o_,_,hx,_,Hm_,_,hy,_,Hm_,_,rfl,_,rfl,o_,_,_,rfl,nz,o_,o_,λz H' s' n' h'=>k z H' s' n' h'⟩
theorem jE_:bootBuiltins "dict"=some (.type "dict"):=r_
def kP(A:Pt):List (Key×V):=A.map λq=>(.inr q.1,.str q.2)
variable{A:Pt}
theorem qQ_(h:x∉A.map (·.1)):Gw_ (kP A) (.inr x)=none:=by
 induction A with
 |nil=>rfl
 |cons q A ih =>have h1:x≠q.1:=λe=>h (e▸Al_);have h2:x∉A.map (·.1):=λe=>h (Aj_ _ e);change Gw_ ((.inr q.1,.str q.2)::kP A) (.inr x)=none;rw[aJ_ (λe=>h1 (BW_ e).symm)];show ih h2
theorem eB_(h:x∈A.map (·.1)):Gw_ (kP A) (.inr x)=some (.str (look A x)):=by
 induction A with
 |nil=>cases h
 |cons q A ih =>
  change Gw_ ((.inr q.1,.str q.2)::kP A) (.inr x)=some (.str (look (q::A) x));unfold look;by_cases e:q.1=x
  .rw[aW_ (by rw[e]),List.find?_cons_of_pos (by simpa using e)];rfl
  .rw[aJ_ (λz=>e (BW_ z)),List.find?_cons_of_neg (by simpa using e)];show ih ((Aq_.mp h).resolve_left λz=>e z.symm)
theorem lw_{kvs:List (Key×V)}{k:Key}(h:Gw_ kvs k=none):G1_ kvs k v=kvs++[(k,v)]:=by unfold G1_;rw[if_neg (by rw[cf_,h];show AD_)]
theorem qR_(A:Pt)(x y:Str):kP (A++[(x,y)])=kP A++[(.inr x,.str y)]:=by unfold kP;rw[As_];rfl
theorem p6_{y:Str}(h:x∉A.map (·.1)):G1_ (kP A) (.inr x) (.str y)=kP (A++[(x,y)]):=by rw[lw_ (qQ_ h),qR_]
theorem gQ_(A:Pt):(kP A).length=A.length:=Aa_ _
theorem iP_(A:Pt)(a b:Str):(GS_ A a b).map (·.1)=A.map (·.1):=by unfold GS_;rw[AT_];rfl
theorem bx_{α:Type}{l:List α}{x:α}(h:l[i]?=some x):l.take (i+1)=l.take i++[x]:=by rw[Ct_,h];rfl
variable{q:Str×Str}
theorem mS_(nd:(A.map (·.1)).Nodup)(h:A[i]?=some q):q.1∉(A.take i).map (·.1):=by
 intro z;obtain⟨r,hr,e⟩:=Ay_.mp z;obtain⟨j,hj,rfl⟩:=Az_.mp hr;rw[Aw_]at hj;have h1:(A.map (·.1))[j]?=some q.1:=by rw[Ae_,Ab_ o_];rw[CU_]at e;show congrArg some e
 have h2:(A.map (·.1))[i]?=some q.1:=by rw[Ae_,h];rfl
 have:=(Bb_ (by rw[Aa_];lia) nd).mp (h1.trans h2.symm);lia
def Fz(H H':Hp):Prop:=∀c u,H c=some u->H' c=some u\/∃ob A,u=.dK (kP A)/\H' c=some (.frz ob u)
abbrev Gd_:Stmt:=stN 22
theorem a5_:ZL ["part_of","one","other","joined","point","part"] ["part_of","one","other"] (F1_ Gd_):=zL
def KG_:Sp:=λvs H Q _=>∃(d:Addr)(A:Pt)(a b:Str),vs=[.ref d,.str a,.str b]/\Rd H d (.dK (kP A))/\A.length<=16/\(A.map (·.1)).Nodup /\
 ∀p H',H p=none->H' p=some (.dK (kP (GS_ A a b)))->Rd H' d (.dK (kP A))->Fz H H'->(∀c u,c≠d->H c=some u->H' c=some u)->Q (.ref p) H'
theorem eX_(T:Txt K mg)(F:Fn0 K mg "with_parts_joined" Gd_):Cal P w K mg base "with_parts_joined" ["part_of","one","other"] 1 KG_:=by
  show aP_ F a5_.1 λf cdv A0 outer s H vs Q E hr h=>?_;obtain⟨d,A,a,b,rfl,hd,A16,nd,k⟩:=h;refine'⟨_,?D,?R⟩
  case D =>
   refine' ag_ ?a ?b
   case a=>show zas 3 a5_ eK_
   case' b=>refine' ag_ (a6_ AF_ rfl (mM_ (zv 0 a5_)) (bk_ (K:=K) (n:=2) rfl rfl (am_ ?c (am_ ?d bd_))) ?e) (ad_ (ap_ (zv 3 a5_)))
   case c=>show zh 4 a5_
   case d=>show zh 5 a5_
   case' e=>refine' ad_ (gh_ (un1 hr.units) (zv 3 a5_) (zv 4 a5_) (ox_ (ao_ Hb_ (zv 5 a5_) (zv 2 a5_) (Gf_ _)) (zv 1 a5_) (zv 5 a5_)) rfl)
  case R =>
   walk_at "rd";intro p np;have pd:p≠d:=λe=>by rcases hd with h|⟨_,h⟩ <;> (rw[<-e,np]at h;cases h)
   show⟨_,hd.imp (λh=>(ae_ pd.symm).trans h) λ⟨o,h⟩=>⟨o,(ae_ pd.symm).trans h⟩,λob H2 h0 h2 h2'=>?_⟩;show rz_ (λi σ H'=>∃e5 e6,σ=[some (.ref d),some (.str a),some (.str b),some (.ref p),e5,e6]/\H' d=some (.frz ob (.dK (kP A)))/\H' p=some (.dK (kP (GS_ (A.take i) a b)))/\∀c u,c≠d->H c=some u->H' c=some u) ⟨none,none,rfl,h2,by rw[h2' p pd];show aa_,λc u cd hc=>by rw[h2' c cd];show(F0_.new np) c u hc⟩ ?_ ?_ ?_
   .rintro i σ H' hi ⟨e5,e6,rfl,h,_⟩;show h
   .rintro i k x T σ H' hx nT kk kb hk hbk G hG ⟨e5,e6,rfl,hd',hp',keep⟩
    obtain⟨q,hq,rfl,rfl⟩:∃q,A[i]?=some q/\k=.inr q.1/\x=.str q.2:=by
     unfold kP at hx;rw[Ae_]at hx;cases e:A[i]? with
     |none=>rw[e]at hx;cases hx
     |some q=>rw[e]at hx;cases hx;show⟨q,rfl,rfl,rfl⟩
    have jt:GS_ (A.take (i+1)) a b=GS_ (A.take i) a b++[(q.1,if q.2=b then a else q.2)]:=by rw[bx_ hq];unfold GS_;rw[As_];rfl
    have nk:=mS_ nd hq;rw[<-iP_ _ a b]at nk;have i16:i<A.length:=(Ai_.mp hq).1;have zl:(GS_ (A.take i) a b).length<=16:=by unfold GS_;rw[Aa_,Aw_];lia
    walk_at "rd";have SW:F0_ H' (upd H' T (.tup [.str q.1,.str q.2])):=F0_.new nT;show⟨_,.inl (.inl aa_),rfl,_,_,rfl,_,_,rfl,rfl,?_⟩
    have put:∀l:Str,l=(if q.2=b then a else q.2)->∃H4,Jb_ (upd H' T (.tup [.str q.1,.str q.2])) p (.str q.1) (.str l) H4/\kk [some (.ref d),some (.str a),some (.str b),some (.ref p),some (.str q.1),some (.str q.2)] H4:=λl hl=>by
     show⟨_,Jb_.k (k:=.inr q.1) (SW _ _ hp') (by rw[gQ_];show Bz_ zl d_),hk _ _ ⟨_,_,rfl,?_,?_,λc u cd hc=>?_⟩⟩
     .rw[ae_ (show d≠p from pd.symm)];show SW _ _ hd'
     .rw[aa_,p6_ nk,jt,hl]
     .rw[ae_ (show c≠p from λe=>by rw[e,np]at hc;cases hc)];show SW _ _ (keep c u cd hc)
    simp only[tIf];walk_at "rd";split
    .rename_i e;show put a (if_pos e).symm
    .rename_i e;show put q.2 (if_neg e).symm
   .rintro σ H' ⟨e5,e6,rfl,hd',hp',keep⟩;rw[gQ_,Bp_]at hp';walk_at "rd";show k p H' np hp' (.inr ⟨ob,hd'⟩) (λc u hc=>?_) keep;by_cases e:c=d
    .subst e;have h0':H c=some (.dK (kP A))\/H c=some (.frz ob (.dK (kP A))):=h0.imp (λh=>(ae_ pd.symm).symm.trans h) λh=>(ae_ pd.symm).symm.trans h
     rcases h0' with h|h
     .rw[h]at hc;cases hc;show .inr ⟨ob,A,rfl,hd'⟩
     .rw[h]at hc;cases hc;show .inl hd'
    .show .inl (keep c u e hc)
abbrev GU_:Stmt:=stN 18
theorem kF_:ZL ["net"] ["net"] (F1_ GU_):=zL
def Ku_:Sp:=λvs H Q _=>∃(v:V)(N:Net Str),vs=[v]/\Rep H v (Ic_ N)/\G4_ N/\∀D H',F0_ H H'->H D=none->H' D=some (.lst ((N.rows.map (·.1)).map V.str))->Q (.ref D) H'
theorem kG_(T:Txt K mg)(F:Fn0 K mg "points_of" GU_):Cal P w K mg base "points_of" ["net"] 1 Ku_:=by
  show aP_ F kF_.1 λf cdv A outer s H vs Q E hr h=>?_;obtain⟨v,N,rfl,hv,ok,k⟩:=h;obtain⟨pn,p0,p1,p2,rs,ws,rfl,hn,h0,h1,r1,h2,r2⟩:=cv_ hv;have rl:rs.length=N.rows.length:=by rw[r1.length,Aa_]
  have few:=ok.few;refine'⟨_,?D,?R⟩
  case D =>
   refine' ad_ (ap_ (di_ (N':=["point","wires"]) (ix:=[none,none]) rfl rfl (cy_ ?a) (aO_ (K:=K) rfl (F9_ au_ (zv 0 kF_) ac_)) (λ_ _ _=>(bk_ (K:=K) (n:=2) rfl rfl (am_ ?b (am_ ?c bd_)))) (λ_ _ _=>?d) (λ_ _ _=>(pv1 0 rfl rfl))))
   case a=>show(by change Ih_ (F1_ GU_) ["net"] _ _ _=true;decide +kernel)
   case b=>show ak_ (i:=0) (by change List.Nodup (["point","wires"]:List Str);decide +kernel) rfl rfl
   case c=>show ak_ (i:=1) (by change List.Nodup (["point","wires"]:List Str);decide +kernel) rfl rfl
   case d=>show e1_
  case R =>
   walk_at "rd";show⟨_,hn,_,Hm_,p1,rfl,⟨_,.inl (.inl h1)⟩,?_⟩;show c7_ (n:=N.rows.length) (B:=λ_=>none) (Pσ:=λσ=>∃e e',σ=[e,e']) (ds:=(N.rows.map (·.1)).map dS) (λb o e=>by cases e) ⟨_,_,rfl⟩ s_ o_ (λi H' hi s'=>⟨rs,rs[i]'o_,.inl (.inl (s' _ _ h1)),Ab_ _⟩) (λH' s'=>⟨rs,.inl (.inl (s' _ _ h1)),o_⟩) ?_ ?_
   .rintro D i x d σ' H2 H2' hD hDo hs2 hi hdi ⟨rfl,hy⟩ ⟨e,e',rfl⟩ R kR;have hx:=hy _ (.inl (.inl (hs2 _ _ h1)));obtain⟨r,q,l,hr1,rfl,hq,hl⟩:=fV_ r1 hx;have hd:d=dS r.1:=by rw[Ae_,Ae_,hr1]at hdi;show(Ar_ hdi).symm
    walk_at "rd";show⟨_,SqT.of (hs2 _ _ hq),rfl,_,_,rfl,_,_,rfl,rfl,kR _ _ _ ⟨_,_,rfl⟩ (F0_.refl _) ?_⟩;rw[hd];show rfl
   .intro D H2 hD s2 rep2;obtain⟨_,us,e0,hu',hus⟩:=id rep2;cases e0;rw[jA_ hus]at hu';show k D H2 s2 hD (bs_ hu').2
def Lq_(t:Int×Int->Int×Int->Int):Sp:=λvs H Q _=>∃v u p q,vs=[v,u]/\Rep H v (dF p)/\Rep H u (dF q)/\0<p.2/\0<q.2/\Builtin.Int.intBits p.1<=3900/\Builtin.Int.intBits p.2<=3900/\Builtin.Int.intBits q.1<=3900/\Builtin.Int.intBits q.2<=3900 /\
 ∀z H',F0_ H H'->Rep (H7_ H H') (.ref z) (dF (nf (t p q) (p.2*q.2)))->Q (.ref z) H'
abbrev H5_:Stmt:=stN 43
theorem qS_:ZL ["_law_one","_law_other"] ["_law_one","_law_other"] (F1_ H5_):=zL
theorem kJ_:LK H5_ "_law_low" .globalImplicit:=r_
theorem qT_(T:Txt K mg)(F:Fn0 K mg "_law_mul" H5_) (IA_:Cal P w K mg base "_law_low" ["_law_top","_law_bottom"] 1 I0_):Cal P w K mg base "_law_mul" ["_law_one","_law_other"] 2 (Lq_ (λp q=>p.1*q.1)):=by
  show aP_ F qS_.1 λf cdv A outer s H vs Q E hr h=>?_;obtain⟨v,u,p,q,rfl,hv,hu,p0,q0,p1,p2,q1,q2,k⟩:=h;obtain⟨x,rfl,hx⟩:=gG_ hv;obtain⟨y,rfl,hy⟩:=gG_ hu;have a3:=iM_ p2 q2 d_;refine'⟨_,?D,?R⟩
  case D =>
   refine' ad_ (ap_ (al_ IA_ (hr.mono d_) kJ_ ?a))
   case' a=>refine' pa_c (F2_ i7_ (F9_ au_ (zv 0 qS_) ac_) (F9_ au_ (zv 1 qS_) ac_)) (pa_c (F2_ i7_ (F9_ au_ (zv 0 qS_) ac_) (F9_ au_ (zv 1 qS_) ac_)) ab_)
  case R =>walk_at "rd";simp only[hx,hy,Dq_,HO.tup.injEq,ER_];walk_at "rd";show⟨o_,o_,_,_,rfl,EZ_ p0 q0,o_,λz H' s' rep=>k z H' s' rep⟩
abbrev Ha_:Stmt:=stN 44
theorem oe_:ZL ["_law_found"] ["_law_found"] (F1_ Ha_):=zL
theorem ij_:LK Ha_ "bool" .globalImplicit:=r_
theorem jF_:LK Ha_ "int" .globalImplicit:=r_
theorem cz_:LK Ha_ "isinstance" .globalImplicit:=r_
def IP_:Sp:=λvs H Q _=>∃x t,vs=[x]/\HR_ H x=some t/\∀H',F0_ H H'->Q (.bl (t == "int")) H'
theorem mT_{x:V}{t:String}(h:HR_ H x=some t):t = "NoneType" \/ t = "bool" \/ t = "int" \/ t = "str" \/ t = "list" \/ t = "tuple" := by
 cases x with
 |non=>show .inl (Ar_ h).symm
 |bl _=>show .inr (.inl (Ar_ h).symm)
 |int _=>show .inr (.inr (.inl (Ar_ h).symm))
 |str _=>show .inr (.inr (.inr (.inl (Ar_ h).symm)))
 |ref p =>
  cases e:H p with
  |none=>simp[HR_,e]at h
  |some o=>cases o <;> simp[HR_,e]at h <;> simp[<-h]
 |_=>cases h
theorem of_(T:Txt K mg)(F:Fn0 K mg "_law_whole" Ha_):Cal P w K mg base "_law_whole" ["_law_found"] 1 IP_:=by
  show aP_ F oe_.1 λf cdv A outer s H vs Q E hr h=>?_;obtain⟨x,t,rfl,ht,k⟩:=h;refine'⟨_,?D,?R⟩
  case D =>
   refine' ad_ (ap_ (hc_ (aj_ fy_ cz_ T.n_isinstance aC_ (pa_c (zv 0 oe_) (pa_c ?a ab_))) ?b))
   case a=>show gz_ jF_ T.n_int lS_
   case' b=>refine' jS_ (m1_ (aj_ fy_ cz_ T.n_isinstance aC_ (pa_c (zv 0 oe_) (pa_c ?c ab_))))
   case c=>show gz_ ij_ T.n_bool qp_
  case R =>
   walk_at "rd";simp only[ht,Dq_,ER_];have k':=k H (F0_.refl H)
   rcases mT_ ht with rfl|rfl|rfl|rfl|rfl|rfl <;> show k'
abbrev Gl_:Stmt:=stN 45
theorem hY_:ZL ["_law_found"] ["_law_found"] (F1_ Gl_):=zL
theorem eY_:LK Gl_ "_law_low" .globalImplicit:=r_
theorem b3_:LK Gl_ "_law_whole" .globalImplicit:=r_
theorem c1_:LK Gl_ "isinstance" .globalImplicit:=r_
theorem fn_:LK Gl_ "len" .globalImplicit:=r_
theorem eC_:LK Gl_ "tuple" .globalImplicit:=r_
def Kr_(K:PySem.W.Frag):Sp:=λvs H Q _=>∃v p,vs=[v]/\FQ K H v p/\Low p/\Builtin.Int.intBits p.2<=8000/\∀H',F0_ H H'->Q (.bl true) H'
theorem hZ_(T:Txt K mg)(F:Fn0 K mg "_law_is_fraction" Gl_) (I8_:Cal P w K mg base "_law_whole" ["_law_found"] 1 IP_) (IA_:Cal P w K mg base "_law_low" ["_law_top","_law_bottom"] 1 I0_):Cal P w K mg base "_law_is_fraction" ["_law_found"] 2 (Kr_ K):=by
  show aP_ F hY_.1 λf cdv A outer s H vs Q E hr h=>?_;obtain⟨v,p,rfl,⟨q,rfl,hq⟩,lo,bb,k⟩:=h;refine'⟨_,?D,?R⟩
  case D =>
   refine' ag_ (Gz_ ?a (ad_ (ap_ HN_)) aB_) ?b
   case' a=>refine' PW.pt (Iz_ ?c (Iz_ (ao_ J8_ (aj_ em_ fn_ T.n_len aQ_ (pa_c (zv 0 hY_) ab_)) ac_ (Gf_ _)) ?d))
   case' c=>refine' e0_ (ek_ (aj_ (oZ_ rfl) c1_ T.n_isinstance aC_ (pa_c (zv 0 hY_) (pa_c ?e ab_))))
   case e=>show gz_ eC_ T.n_tuple Ie_
   case' d=>refine' Iz_ (e0_ (ek_ (al_ I8_ (hr.mono d_) b3_ (pa_c (F9_ (dN_ (K:=K) rfl) (zv 0 hY_) ac_) ab_)))) ?f
   case' f=>refine' it_ (e0_ (ek_ (al_ I8_ (hr.mono d_) b3_ (pa_c (F9_ (dN_ (K:=K) rfl) (zv 0 hY_) ac_) ab_))))
   case' b=>refine' ad_ (ap_ (hc_ (el_ HV_ (F9_ (dN_ (K:=K) rfl) (zv 0 hY_) ac_) ac_ (Gf_ _)) ?g))
   case' g=>refine' jS_ (el_ (pM_ rfl (hr.units)) (zv 0 hY_) (al_ IA_ (hr.mono d_) eY_ (pa_c (F9_ (dN_ (K:=K) rfl) (zv 0 hY_) ac_) (pa_c (F9_ (dN_ (K:=K) rfl) (zv 0 hY_) ac_) ab_))) (Gf_ _))
  case R =>
   walk_at "rd";show⟨_,hq,?_⟩;show⟨_,.inr hq,?_⟩;rw[if_neg s_];show⟨_,hq,_,G2_,_,"int",rfl,rfl,λH1 s1=>⟨_,rfl,?_⟩⟩;rw[if_neg d_];have hq1:=F0_.seqT s1 hq;show⟨_,hq1,_,Hm_,_,"int",rfl,rfl,λH2 s2=>⟨_,rfl,?_⟩⟩;rw[if_neg d_];have hq2:=F0_.seqT s2 hq1;have p0:=lo.pos;show⟨_,hq2,_,Hm_,_,rfl,?_⟩;rw[if_pos p0];show⟨_,hq2,_,G2_,_,hq2,_,Hm_,_,_,rfl,p0,bb,λz H3 s3 rep=>?_⟩;rw[ny_ lo]at rep;obtain⟨_,e,hz⟩:=gG_ rep;cases e;have hz3:=(bs_ hz).2;have hq3:=F0_.seqT s3 hq2;have eJ:=aa_ (H:=H3) (a:=q) (o:=HO.tup [.int p.1,.int p.2]);show⟨upd H3 q (HO.tup [.int p.1,.int p.2]),⟨λa xs e=>?_,λa xs e=>?_⟩,z,rfl,dF p,⟨q,_,rfl,eJ,_,_,rfl,rfl,_,_,rfl,rfl,rfl⟩,dF p,⟨z,_,rfl,?_,_,_,rfl,rfl,_,_,rfl,rfl,rfl⟩,true,by simp[deq,deqs,dF],by simp[dep,deps,dF],k _ ((s1.trans s2).trans s3)⟩
   .by_cases h:a=q
    .subst h;rw[eJ]at e;cases e;show hq3
    .rw[ae_ h]at e;show SqT.of e
   .by_cases h:a=q
    .subst h;rw[eJ]at e;cases e
    .rw[ae_ h]at e;show .inl (.inl e)
   .by_cases h:z=q
    .rw[h];show eJ
    .rw[ae_ h];show hz3
def p1(kv:Str×List (End Str)):Str:=(kv.2.head?.map (·.1)).getD Str.empty
def p2(kv:Str×List (End Str)):Str:=(kv.2[1]?.map (·.1)).getD Str.empty
theorem og_:x∈(GP_ N).map (·.1)↔x∈N.all:=by
 have sp:=bj_ _ (occ N.rows) rfl;have e:(occ N.rows).map (·.1)=N.all:=gk_ N.rows;rw[<-e];constructor
 .intro h;obtain⟨kv,h1,rfl⟩:=Ay_.mp h;obtain⟨y,h2,h3⟩:=sp.2.2.2 kv h1;show Ay_.mpr ⟨y,h2,h3⟩
 .intro h;obtain⟨y,h1,rfl⟩:=Ay_.mp h;obtain⟨kv,h2,h3⟩:=sp.2.2.1 y h1;show Ay_.mpr ⟨kv,h2,h3⟩
theorem h0_{ws:List V}{wo:List (Str×(Int×Int))}{x:V}(h:Gt_ H ws (wo.map dWo))(e:ws[i]?=some x):∃r q u,wo[i]?=some r/\x=.ref q/\H q=some (.tup [.str r.1,.ref u])/\H u=some (.tup [.int r.2.1,.int r.2.2]):=by
 obtain⟨d,hd,hr⟩:=h.of_get e;rw[Ae_]at hd;cases z:wo[i]? with
 |none=>rw[z]at hd;cases hd
 |some r =>rw[z]at hd;cases hd;obtain⟨a,_,ea,ha,x1,_,e1,hx1,x2,_,e2,hx2,e3⟩:=hr;subst e3 e2 e1;cases hx1;obtain⟨u,rfl,hu⟩:=gG_ hx2;show⟨r,a,u,rfl,ea,ha,hu⟩
def Hp_(N:Net Str)(x:Str):Str×List (End Str):=((GP_ N).find? λkv=>decide (kv.1=x)).getD (x,[])
def Ij_(N:Net Str):List (Str×Str×(Int×Int)):=N.worths.map λr=>(p1 (Hp_ N r.1),p2 (Hp_ N r.1),r.2)
def dTi(t:Str×Str×(Int×Int)):Dt:=.tup [.str t.1,.str t.2.1,dF t.2.2]
theorem mm_{kv:Str×List (End Str)}(h:kv∈GP_ N):Hp_ N kv.1=kv:=by
 unfold Hp_;cases e:(GP_ N).find? λq=>decide (q.1=kv.1)with
 |none =>
  have:=Do_.mp e kv h;simp at this
 |some q =>have h1:=Cq_ e;have h2:q.1=kv.1:=AN_ (by simpa using ES_ e);change q=kv;obtain⟨i,hi,ei⟩:=Az_.mp h1;obtain⟨j,hj,ej⟩:=Az_.mp h;have z:=(CY_ (h₀:=by rw[Aa_];show hi) (h₁:=by rw[Aa_];show hj) (jk_ N)).mp (by rw[DC_,DC_,ei,ej];show h2);subst z;rw[<-ei,<-ej]
def dP(e:End Str):Dt:=.str e.1
theorem lx_{S:Hp}:∀{vs:List V}{es:List (End Str)},Gt_ S vs (es.map dP)->vs=es.map λe=>V.str e.1
 |_,[],h=>h
 |_,e::es,⟨x,l,e1,hx,hl⟩=>by subst e1;cases hx;rw[lx_ hl];rfl
abbrev G8_:Stmt:=stN 46
theorem fY_:ZM ["_law_net","_law_ties_here","_law_point","_law_wires","_law_wire"] ["_law_net"] (F1_ G8_):=zM
theorem iR_:LK G8_ "_law_ties_here" .cell:=r_
theorem iS_:LK G8_ "_law_point" .local:=r_
theorem iT_:LK G8_ "_law_wires" .local:=r_
theorem iU_:LK G8_ "_law_wire" .local:=r_
def Jw_:Sp:=λvs H Q _=>∃(v:V)(N:Net Str),vs=[v]/\Rep H v (Ic_ N)/\G4_ N/\WOk N/\∀D H',F0_ H H'->H D=none->Rep H' (.ref D) (.lst ((Ij_ N).map dTi))->Q (.ref D) H'
theorem pj_(T:Txt K mg)(F:Fn0 K mg "_law_ties" G8_):Cal P w K mg base "_law_ties" ["_law_net"] 1 Jw_:=by
  show aP_ F fY_.1 λf cdv A outer s H vs Q E hr h=>?_;obtain⟨v,N,rfl,hv,ok,wo,k⟩:=h;refine'⟨_,?D,?R⟩
  case D =>
   refine' ag_ (e7_ (i:=1) fY_.nd rfl iR_ rfl eK_ rfl) ?a
   case' a=>refine' ag_ (a6_ AF_ rfl (aO_ (K:=K) rfl (F9_ au_ (zw 0 fY_) ac_)) (bk_ (K:=K) (n:=2) rfl rfl (am_ ?b (am_ ?c bd_))) ?d) ?e
   case b=>show ak_ (i:=2) fY_.nd rfl iS_
   case c=>show ak_ (i:=3) fY_.nd rfl iT_
   case' d=>refine' ad_ (a6_ AF_ rfl (aO_ (K:=K) rfl (zw 3 fY_)) ?f ?g)
   case f=>show ak_ (i:=4) fY_.nd rfl iU_
   case' g=>refine' ad_ (a4_ (Hc_ AP_ A2_ A3_ a0_ (Hc_ BH_ BD_ Cc_ dO_ (zw 1 fY_) (pa_c (zw 4 fY_) (pa_c (aY_ ab_) ab_))) (pa_c (zw 2 fY_) ab_)))
   case' e=>refine' ad_ (ap_ (di_ (N':=["_law_wire","_law_worth","_law_ties_here"]) (ix:=[none,none,some 1]) rfl rfl (cy_ ?h) (aO_ (K:=K) rfl (F9_ au_ (zw 0 fY_) ac_)) (λ_ _ _=>(bk_ (K:=K) (n:=2) rfl rfl (am_ ?i (am_ ?j bd_)))) (λ_ _ _=>?k) (λ_ _ _=>?l)))
   case h=>show(by change Ih_ (F1_ G8_) ["_law_net","_law_ties_here","_law_point","_law_wires","_law_wire"] _ _ _=true;decide +kernel)
   case i=>show ak_ (i:=0) (by change List.Nodup (["_law_wire","_law_worth","_law_ties_here"]:List Str);decide +kernel) rfl rfl
   case j=>show ak_ (i:=1) (by change List.Nodup (["_law_wire","_law_worth","_law_ties_here"]:List Str);decide +kernel) rfl rfl
   case k=>show e1_
   case' l=>refine' aK_ (pa_c (F9_ ar_ (bl_ (un1 hr.units) (pvc 2 rfl rfl) (pv1 0 rfl rfl)) ac_) (pa_c (F9_ ar_ (bl_ (un1 hr.units) (pvc 2 rfl rfl) (pv1 0 rfl rfl)) ac_) (pa_c (pv1 1 rfl rfl) ab_)))
  case R =>
   walk_at "rd";obtain⟨pn,p0,p1,p2,rs,ws,rfl,hn,h0,h1,r1,h2,r2⟩:=cv_ hv;have rl:rs.length=N.rows.length:=by rw[r1.length,Aa_]
   intro d nd;have Sd:F0_ H (upd H d (HO.dK [])):=F0_.new nd;show⟨pn,rfl,_,Sd _ _ hn,_,Hm_,p1,rfl,⟨_,.inl (.inl (Sd _ _ h1))⟩,?_⟩;have D0:DE dP H (upd H d (HO.dK [])) d [] (Gq_ (occ (N.rows.take 0))):=⟨Sd,aa_,rfl,Bn_,λz=>(by cases z),λi l kv z=>(by cases z),nd,λl z=>(by cases z)⟩;show bF_ (xs:=rs) (λi σ H'=>∃(e2 e3 e4:Option V)(S:Hp)(ls:List Addr),σ=[some (.ref pn),some (.ref d),e2,e3,e4]/\F0_ H S/\DE dP S H' d ls (Gq_ (occ (N.rows.take i)))) ⟨none,none,none,H,[],rfl,F0_.refl _,D0⟩ ?_ ?_ ?_
   .rintro i σ H' hi ⟨e2,e3,e4,S,ls,rfl,sS,de⟩;show .inl (.inl (de.sH _ _ (sS _ _ h1)))
   .rintro i x σ H' hx kk kb hk hbk G hG ⟨e2,e3,e4,S,ls,rfl,sS,de⟩;obtain⟨r,q,l,hr1,rfl,hq,hl⟩:=fV_ r1 hx;have s1:=sS.trans de.sH;rw[g6_ hr1]at hk;have occle:∀j,∃m,(occ (N.rows.take i)++(Gx_ r.1 0 r.2).take j)++m=occ N.rows:=λj=>by show⟨(Gx_ r.1 0 r.2).drop j++occ (N.rows.drop (i+1)),?_⟩;rw[AG_,<-AG_ (List.take j _),A1_,<-AG_,<-g6_ hr1];unfold occ;rw[<-BN_,<-As_,A1_]
    walk_at "rd";show⟨_,SqT.of (s1 _ _ hq),rfl,_,_,rfl,_,_,rfl,rfl,l,rfl,⟨_,.inl (.inl (s1 _ _ hl))⟩,?_⟩;show bF_ (xs:=r.2.map V.str) (λj σ H'=>∃(e4:Option V)(S:Hp)(ls:List Addr),σ=[some (.ref pn),some (.ref d),some (.str r.1),some (.ref l),e4]/\F0_ H S/\DE dP S H' d ls (Gq_ (occ (N.rows.take i)++(Gx_ r.1 0 r.2).take j))) ⟨e4,S,ls,rfl,sS,by rw[Fh_,AR_];show de⟩ ?_ ?_ ?_
    .rintro j σ H2 hj ⟨e4,S,ls,rfl,sS,de⟩;show .inl (.inl ((sS.trans de.sH) _ _ hl))
    .rintro j x σ H2 hx kk2 kb2 hk2 hbk2 G2 hG2 ⟨e4,S,ls,rfl,sS,de⟩;rw[Ae_]at hx
     obtain⟨wr,hw,rfl⟩:∃wr,r.2[j]?=some wr/\x=.str wr:=by
      cases e:r.2[j]? with
      |none=>rw[e]at hx;cases hx
      |some wr=>rw[e]at hx;cases hx;show⟨wr,rfl,rfl⟩
     have tk:(Gx_ r.1 0 r.2).take (j+1)=(Gx_ r.1 0 r.2).take j++[(wr,(r.1,j))]:=by rw[Ct_,eS_,hw];simp
     obtain⟨m,hm⟩:=occle j;have few:=jC_ ok _ _ hm;have short:=iL_ ok _ _ hm;rw[tk,<-AG_,cH_]at hk2;generalize Gq_ (occ (N.rows.take i)++(Gx_ r.1 0 r.2).take j)=acc at*;walk_at "rd";show⟨.inr (.inr (.inl (.inl ⟨_,de.dict⟩))),Av_ _,λq nq=>?_⟩;have qd:q≠d:=(ah_ de.dict nq).symm;have ql:q∉ls:=λz=>by obtain⟨i0,hi0,ei⟩:=Az_.mp z;obtain⟨vs,z2,_⟩:=de.lst i0 q (acc[i0]'(by rw[<-de.len];show hi0)) (by rw[Ab_ hi0,ei]) (Ab_ _);rw[nq]at z2;cases z2
     have Sq:S q=none:=de.sH.free nq;have de3:=de.mono (F0_.new nq (o:=HO.lst []));have hq4:=aa_ (H:=H2) (a:=q) (o:=HO.lst []);generalize upd H2 q (HO.lst [])=H4 at*;show⟨_,.inr wr,rfl,de3.dict,by rw[jB_ de3.len];lia,λv2 hv2=>?_,λhnone=>?_⟩
     .have hex:∃kv∈acc,kv.1=wr:=by
       by_cases hc:∃kv∈acc,kv.1=wr
       .show hc
       .rw[eR_ (λkv hkv z=>hc ⟨kv,hkv,z⟩)]at hv2;cases hv2
      obtain⟨i0,es,g1,g2,g3⟩:=bT_ (e:=(r.1,j)) hex;obtain⟨lw,l1,l2⟩:=cj_ de3.len g1 g2;rw[l2]at hv2;cases hv2;obtain⟨vs,hvs,hrep⟩:=de3.lst i0 lw _ l1 g1;have vle:vs.length<=30:=by rw[hrep.length,Aa_];show short _ (Am_ g1)
      show⟨.inl ⟨_,.inl (.inl hvs)⟩,lw,rfl,vs,hvs,F3_ o_,?_⟩;rw[g3]at hk2;show hk2 _ _ ⟨_,S,ls,rfl,sS,de3.old g1 l1 hvs hrep (e:=(r.1,j)) rfl⟩
     .have hno:∀kv∈acc,kv.1≠wr:=λkv hkv z=>by obtain⟨i0,es,g1,g2,g3⟩:=bT_ (e:=(r.1,j)) ⟨kv,hkv,z⟩;obtain⟨lw,l1,l2⟩:=cj_ de3.len g1 g2;rw[l2]at hnone;cases hnone
      have hqd:upd H4 d (HO.dK (G1_ (GO_ acc ls) (Sum.inr wr) (V.ref q))) q=some (.lst []):=by rw[ae_ qd];show hq4
      rw[fF_ hno]at hk2;show⟨.inl ⟨_,.inl (.inl hqd)⟩,[],hqd,F3_ d_,hk2 _ _ ⟨_,S,ls++[q],rfl,sS,de3.new (e:=(r.1,j)) (q:=q) hno hq4 qd ql Sq rfl⟩⟩
    .rintro σ H2 ⟨e4,S,ls,rfl,sS,de⟩;rw[AV_ (l:=Gx_ r.1 0 r.2) (by rw[iK_,Aa_];show Af_ _)]at de;show hk _ _ ⟨_,_,_,S,ls,rfl,sS,de⟩
   .rintro σ H' ⟨e2,e3,e4,S,ls,rfl,sS,de⟩;rw[AV_ o_]at de;have deN:DE dP S H' d ls (GP_ N):=de;walk_at "rd";have sH:=sS.trans de.sH;have wl:ws.length=N.worths.length:=by rw[r2.length,Aa_]
    have w15:=ok.wl;have h2':=sH _ _ h2;show⟨_,sH _ _ hn,_,HF_,p2,rfl,⟨_,.inl (.inl h2')⟩,?_⟩;show c7_ (n:=N.worths.length) (B:=λ_=>none) (Pσ:=λσ=>∃e e',σ=[e,e',some (.ref d)]) (ds:=(Ij_ N).map dTi) (λb o e=>by cases e) ⟨_,_,rfl⟩ (by unfold Ij_;simp) o_ (λi H' hi s'=>⟨ws,ws[i]'o_,.inl (.inl (s' _ _ h2')),Ab_ _⟩) (λH' s'=>⟨ws,.inl (.inl (s' _ _ h2')),o_⟩) ?_ ?_
    .rintro D i x dd σ' H2 H2' hD hDo hs2 hi hdi ⟨rfl,hy⟩ ⟨e,e',rfl⟩ R kR;have hx:=hy _ (.inl (.inl (hs2 _ _ h2')));obtain⟨r,q,u,hr1,rfl,hq,hu⟩:=h0_ r2 hx;have hd:dd=dTi (Rim23.p1 (Hp_ N r.1),Rim23.p2 (Hp_ N r.1),r.2):=by rw[Ae_]at hdi;unfold Ij_ at hdi;rw[Ae_,hr1]at hdi;show(Ar_ hdi).symm
     obtain⟨oD,hDo⟩:=hDo;have rin:r.1∈(GP_ N).map (·.1):=og_.mpr ((wo.mem r.1).mp (Ay_.mpr ⟨r,Am_ hr1,rfl⟩));obtain⟨kv,kv1,kv2⟩:=Ay_.mp rin;obtain⟨j,hj,ej⟩:=Az_.mp kv1;obtain⟨ea,eb,e2⟩:=jl_ ok kv1;have aj:(GP_ N)[j]?=some (r.1,kv.2):=by rw[Ab_ hj,ej,<-kv2]
     obtain⟨lw,l1,l2⟩:=cj_ deN.len aj (λj' kv' hj' e' z=>by have hj2:=(Ai_.mp e').1;have z1:=(CY_ (h₀:=by rw[Aa_];show hj2) (h₁:=by rw[Aa_];show hj) (jk_ N)).mp (by rw[DC_,DC_,ej,(Ai_.mp e').2,kv2];show z);lia);obtain⟨vs,hvs,hrep⟩:=deN.lst j lw _ l1 aj;rw[show(r.1,kv.2).2=[ea,eb]from e2]at hrep;have evs:=lx_ hrep;rw[evs]at hvs;have dg:=HC_.k (k:=.inr r.1) (hs2 _ _ deN.dict);rw[l2]at dg;have hvs2:=hs2 _ _ hvs;have eo:Hp_ N r.1=kv:=by rw[<-kv2];show mm_ kv1
     have hu2:=hs2 _ _ (sH _ _ hu);walk_at "rd";show⟨_,SqT.of (hs2 _ _ (sH _ _ hq)),rfl,_,_,rfl,_,_,rfl,rfl,_,dg,lw,rfl,_,hvs2,_,G2_,_,dg,lw,rfl,_,hvs2,_,Hm_,d_,λt nt=>kR _ _ _ ⟨_,_,rfl⟩ (F0_.new nt) ?_⟩;have tD:t≠D:=(ah_ hDo nt).symm;have uD:u≠D:=λc=>by have z:=sH _ _ hu;rw[c,hD]at z;cases z
     rw[hd,eo];unfold Rim23.p1 Rim23.p2;rw[e2];show⟨t,_,rfl,by rw[dK_ tD rfl];show aa_,_,_,rfl,rfl,_,_,rfl,rfl,_,_,rfl,⟨u,_,rfl,by rw[dK_ uD rfl];show(F0_.new nt) _ _ hu2,_,_,rfl,rfl,_,_,rfl,rfl,rfl⟩,rfl⟩
    .intro D H2 hD s2 rep2;show k D H2 (sH.trans s2) (sH.free hD) (Rep.mono bS_ _ rep2)
theorem Fz.rd(f:Fz H H')(h:Rd H d (.dK (kP A))):Rd H' d (.dK (kP A)):=by
 rcases h with h|⟨o,h⟩
 .rcases f _ _ h with h|⟨ob,B,e,h⟩
  .show .inl h
  .show .inr ⟨ob,h⟩
 .rcases f _ _ h with h|⟨ob,B,e,h⟩
  .show .inr ⟨o,h⟩
  .cases e
theorem Fz.rdK{kvs:List (Key×V)}(f:Fz H H')(h:H d=some (.dK kvs)):Rd H' d (.dK kvs):=by
 rcases f _ _ h with h|⟨ob,B,e,h⟩
 .show .inl h
 .show .inr ⟨ob,h⟩
variable{g:Addr}
theorem noD_same:F0_ (L2.noD g H) H:=λb u h=>by
 unfold L2.noD at h;by_cases e:b=g
 .rw[if_pos e]at h;cases h
 .rwa[if_neg e]at h
theorem Fz.upd(f:Fz H H')(n:H g=none):Fz H (upd H' g o):=λc u h=>by
 have cg:c≠g:=λe=>by rw[e,n]at h;cases h
 rw[ae_ cg];show f c u h
theorem ee_{c:Addr}(h:c≠g):L2.noD g H c=H c:=by unfold L2.noD;rw[if_neg h]
theorem Fz.tup(f:Fz H H')(h:H d=some (.tup xs)):H' d=some (.tup xs):=(f _ _ h).resolve_right λ⟨_,_,e,_⟩=>nomatch e
theorem Fz.lst(f:Fz H H')(h:H d=some (.lst xs)):H' d=some (.lst xs):=(f _ _ h).resolve_right λ⟨_,_,e,_⟩=>nomatch e
theorem Fz.frz{o:Obj}{u:HO}(f:Fz H H')(h:H d=some (.frz o u)):H' d=some (.frz o u):=(f _ _ h).resolve_right λ⟨_,_,e,_⟩=>nomatch e
theorem Fz.of(s:F0_ H H'):Fz H H':=λc u h=>.inl (s c u h)
theorem Fz.trans{H'':Hp}(f:Fz H H')(g:Fz H' H''):Fz H H'':=λc u h=>by
 rcases f c u h with h|⟨ob,B,e,h⟩
 .show g c u h
 .show .inr ⟨ob,B,e,g.frz h⟩
theorem Fz.some{c:Addr}{u:HO}(f:Fz H H')(h:H c=some u):∃u',H' c=some u':=by rcases f c u h with h|⟨_,_,_,h⟩ <;> show⟨_,h⟩
theorem Fz.free{c:Addr}(f:Fz H H')(h:H' c=none):H c=none:=by
 cases e:H c with
 |none=>rfl
 |some u=>obtain⟨u',h'⟩:=f.some e;rw[h]at h';cases h'
theorem Fz.noD(f:Fz H H'):Fz (noD g H) (noD g H'):=λc u h=>by
 unfold L2.noD at h⊢;by_cases e:c=g
 .rw[if_pos e]at h;cases h
 .rw[if_neg e]at h⊢;show f c u h
def GH_(S H:Hp)(us:List V)(ss:List (List Str×Pt)):Prop:=us.length=ss.length/\∀(i:Nat) s,ss[i]?=some s->∃t l d,us[i]?=some (.ref t)/\H t=some (.tup [.ref l,.ref d])/\H l=some (.lst (s.1.map V.str))/\Rd H d (.dK (kP s.2))/\S d=none/\S l=none/\S t=none
theorem GH_.mono{us:List V}{ss:List (List Str×Pt)}(h:GH_ S H us ss)(f:Fz H H'):GH_ S H' us ss :=
 ⟨h.1,λi s hs=>let⟨t,l,d,h1,h2,h3,h4,h5⟩:=h.2 i s hs;⟨t,l,d,h1,f.tup h2,f.lst h3,f.rd h4,h5⟩⟩
theorem GH_.app{us gs:List V}{ss tt:List (List Str×Pt)}(h:GH_ S H us ss)(k:GH_ S H gs tt):GH_ S H (us++gs) (ss++tt):=by
 show⟨by rw[Ak_,Ak_,h.1,k.1],λi s hs=>?_⟩;by_cases e:i<ss.length
 .rw[AH_ e]at hs;rw[AH_ (by rw[h.1];show e)];show h.2 i s hs
 .rw[AI_ o_]at hs;rw[AI_ (by rw[h.1];lia),h.1];show k.2 _ s hs
variable{s:List Str×Pt}
theorem GH_.one{t:Addr}(h2:H t=some (.tup [.ref l,.ref d]))(h3:H l=some (.lst (s.1.map V.str)))(h4:Rd H d (.dK (kP s.2)))(h5:S d=none/\S l=none/\S t=none):GH_ S H [.ref t] [s] :=
 ⟨rfl,λi s' hs=>by
  cases i with
  |zero=>cases hs;show⟨t,l,d,rfl,h2,h3,h4,h5⟩
  |succ i=>cases hs⟩
theorem GH_.nil:GH_ S H [] []:=⟨rfl,λi s h=>by cases h⟩
def eN(N:Net Str)(w:Str):Str×Str:=(p1 (w,Ja_ N w),p2 (w,Ja_ N w))
def pN(N:Net Str):Pt:=(N.rows.map (·.1)).map λp=>(p,p)
theorem fZ_:∀{kvs acc:List (Key×V)},((acc++kvs).map (·.1)).Nodup->G0_ acc kvs=acc++kvs
 |[],acc,_=>(AR_ acc).symm
 |q::kvs,acc,nd=>by
  have nq:Gw_ acc q.1=none:=by
   have:q.1∉acc.map (·.1):=λz=>by rw[As_,Be_]at nd;show nd.2.2 _ z _ Al_ rfl
   cases e:Gw_ acc q.1 with
   |none=>rfl
   |some v =>have h:=cf_ (kvs:=acc) (k:=q.1);rw[e]at h;obtain⟨p,hp,e2⟩:=List.any_eq_true.mp h;show absurd (Ay_.mpr ⟨p,hp,AN_ e2⟩) this
  change G0_ (G1_ acc q.1 q.2) kvs=_;rw[lw_ nq,fZ_ (by rw[AG_];show nd),AG_];rfl
theorem jG_(N:Net Str):(pN N).map (·.1)=N.rows.map (·.1):=by unfold pN;rw[AT_];show FR_ _
theorem jH_{w:Str}(h:e∈Ja_ N w):e.1∈N.rows.map (·.1):=by have h:=n0_.mp h;unfold occ at h;obtain⟨l,hl,hx⟩:=List.mem_flatten.mp h;obtain⟨r,hr,rfl⟩:=Ay_.mp hl;obtain⟨j,hj⟩:=A8_.mp hx;rw[eS_]at hj;obtain⟨x,_,e2⟩:=BL_.mp hj;cases e2;show B9_ hr
theorem oh_(h:Rep H v (dE e)):∃q,v=.ref q/\H q=some (.tup [.str e.1,.int e.2]):=by obtain⟨q,_,rfl,hq,_,_,rfl,hx1,_,_,rfl,hx2,rfl⟩:=h;cases hx1;cases hx2;show⟨q,rfl,hq⟩
theorem qU_{a b:End Str}(h:Rep H (.ref l) (.lst [dE a,dE b])):∃p q,H l=some (.lst [.ref p,.ref q])/\H p=some (.tup [.str a.1,.int a.2])/\H q=some (.tup [.str b.1,.int b.2]):=by obtain⟨_,ys,e0,hl,x,_,rfl,hx,y,_,rfl,hy,rfl⟩:=h;cases e0;obtain⟨p,rfl,hp⟩:=oh_ hx;obtain⟨q,rfl,hq⟩:=oh_ hy;show⟨p,q,hl,hp,hq⟩
theorem pk_(ok:G4_ N)(de:DE dE S H d ls (GP_ N)){w:Str}(hw:w∈(GP_ N).map (·.1)):∃(l q1 q2:Addr)(a b:End Str),Gw_ (GO_ (GP_ N) ls) (.inr w)=some (.ref l)/\H l=some (.lst [.ref q1,.ref q2])/\H q1=some (.tup [.str a.1,.int a.2])/\H q2=some (.tup [.str b.1,.int b.2])/\eN N w=(a.1,b.1)/\a.1∈N.rows.map (·.1)/\b.1∈N.rows.map (·.1):=by
 obtain⟨kv,hkv,rfl⟩:=Ay_.mp hw;obtain⟨i,hi,ei⟩:=Az_.mp hkv;obtain⟨a,b,eab⟩:=jl_ ok hkv;have ew:=mf_ hkv;obtain⟨l,hl,vl⟩:=cj_ (w:=kv.1) (acc:=GP_ N) (ls:=ls) (i:=i) (es:=kv.2) de.len (by rw[Ab_ hi,ei]) (λj kv' hj hj' e=>by have:=(Bb_ (l:=(GP_ N).map (·.1)) (i:=j) (j:=i) (by rw[Aa_];lia) (jk_ N)).mp (by rw[Ae_,Ae_,hj',Ab_ hi,ei];show congrArg some e);lia);obtain⟨vs,hvs,rvs⟩:=de.lst i l kv hl (by rw[Ab_ hi,ei]);rw[eab]at rvs;obtain⟨q1,q2,h1,h2,h3⟩:=qU_ (H:=H) ⟨l,vs,rfl,hvs,Gt_.mono de.sH _ rvs⟩;show⟨l,q1,q2,a,b,vl,h1,h2,h3,?_,jH_ (w:=kv.1) (by rw[<-ew,eab];show Al_),jH_ (w:=kv.1) (by rw[<-ew,eab];show Aj_ _ Al_)⟩;unfold eN;rw[<-ew,eab];rfl
theorem mn_{H:Hp}:∀{us:List V}{l:List Str},Gt_ H us (l.map λp=>Dt.tup [.str p,.str p])->us.length=(kP (l.map λp=>(p,p))).length/\∀(i:Nat)(q:Key×V),(kP (l.map λp=>(p,p)))[i]?=some q->∃a,us[i]?=some (.ref a)/\H a=some (.tup [kV q.1,q.2])
 |us,[],h=>by cases h;show⟨rfl,λi q e=>by cases e⟩
 |us,p::l,⟨x,us',e,hx,h⟩=>by
  subst e;obtain⟨h1,h2⟩:=mn_ h;obtain⟨a,_,rfl,ha,_,_,rfl,hx1,_,_,rfl,hx2,rfl⟩:=hx;cases hx1;cases hx2;show⟨by rw[A0_,h1];rfl,λi q e=>?_⟩;cases i with
  |zero=>cases e;show⟨a,rfl,ha⟩
  |succ i=>show h2 i q e
theorem iV_:∀{acc:List (Str×List (End Str))}{ls:List Addr},ls.length=acc.length->(GO_ acc ls).map (λq=>q.1)=(acc.map (·.1)).map λn=>(Sum.inr n:Key)
 |[],[],_=>rfl
 |kv::acc,l::ls,h=>by change(Sum.inr kv.1:Key)::(GO_ acc ls).map _=_;rw[iV_ (by simpa using h)];rfl
abbrev F4_:Stmt:=stN 23
theorem ay_:ZL ["net","sets","ends","wire","grown","wires","part_of","one","other"] ["net"] (F1_ F4_):=zL
theorem eD_:LK F4_ "dict" .globalImplicit:=r_
theorem cx_:LK F4_ "ends_by_wire" .globalImplicit:=r_
theorem c2_:LK F4_ "points_of" .globalImplicit:=r_
theorem d3_:LK F4_ "sorted" .globalImplicit:=r_
theorem bQ_:LK F4_ "with_parts_joined" .globalImplicit:=r_
def LP_:Sp:=λvs H Q _=>∃(v:V)(N:Net Str)(ws:List Str),vs=[v]/\Rep H v (Ic_ N)/\G4_ N/\ws.Perm ((GP_ N).map (·.1))/\ws.Pairwise sLe/\ws.length<=15 /\
 ∀D us H',F0_ H H'->H D=none->H' D=some (.lst us)->GH_ H H' us (G6_ (eN N) (pN N) ws)->Q (.ref D) H'
theorem gT_(T:Txt K mg)(F:Fn0 K mg "ringless_sets" F4_) (IL_:Cal P w K mg base "points_of" ["net"] 1 Ku_) (HX_:Cal P w K mg base "ends_by_wire" ["net"] 1 JP_) (Hq_:Cal P w K mg base "with_parts_joined" ["part_of","one","other"] 1 KG_):Cal P w K mg base "ringless_sets" ["net"] 2 LP_:=by
  show aP_ F ay_.1 λf cdv A0 outer s H vs Q E hr h=>?_;obtain⟨v,N,ws,rfl,hv,ok,wp,wr,w15,k⟩:=h;refine'⟨_,?D,?R⟩
  case D =>
   refine' ag_ ?a (ag_ (zas 2 ay_ (al_ HX_ (hr.mono d_) cx_ (pa_c (zv 0 ay_) ab_))) ?b)
   case' a=>refine' zas 1 ay_ (aY_ (pa_c (aK_ (pa_c (aY_ ab_) (pa_c (bE_ (eL_ rfl) eD_ T.n_dict jE_ ?c) ab_))) ab_))
   case' c=>refine' pa_c (di_ (N':=["point"]) (ix:=[none]) rfl rfl (cy_ ?d) (aO_ (K:=K) rfl (al_ IL_ (hr.mono d_) c2_ (pa_c (zv 0 ay_) ab_))) (λ_ _ _=>?e) (λ_ _ _=>?f) (λ_ _ _=>(aK_ (pa_c (pv1 0 rfl rfl) (pa_c (pv1 0 rfl rfl) ab_))))) ab_
   case d=>show(by change Ih_ (F1_ F4_) ["net","sets","ends","wire","grown","wires","part_of","one","other"] _ _ _=true;decide +kernel)
   case e=>show ak_ (i:=0) (by change List.Nodup (["point"]:List Str);decide +kernel) rfl rfl
   case f=>show e1_
   case' b=>refine' ag_ (a6_ AF_ rfl (aO_ (K:=K) rfl (aj_ (k5_ rfl) d3_ T.n_sorted bB_ (pa_c (zv 2 ay_) ab_))) ?g ?h) (ad_ (ap_ (zv 1 ay_)))
   case g=>show zh 3 ay_
   case' h=>refine' ag_ (zas 4 ay_ (aY_ ab_)) (ag_ ?i (ad_ (zas 1 ay_ (F2_ lP_ (zv 1 ay_) (zv 4 ay_)))))
   case' i=>refine' a6_ AF_ rfl (aO_ (K:=K) rfl (zv 1 ay_)) (bk_ (K:=K) (n:=2) rfl rfl (am_ ?j (am_ ?k bd_))) ?l
   case j=>show zh 5 ay_
   case k=>show zh 6 ay_
   case' l=>refine' ag_ (zas 7 ay_ (bl_ (un1 hr.units) (zv 6 ay_) (F9_ au_ (F9_ ar_ (bl_ (un1 hr.units) (zv 2 ay_) (zv 3 ay_)) ac_) ac_))) ?m
   case' m=>refine' ag_ ?n (ad_ (Gz_ (ao_ J8_ (zv 7 ay_) (zv 8 ay_) (Gf_ _)) (ad_ ?o) aB_))
   case' n=>refine' zas 8 ay_ (bl_ (un1 hr.units) (zv 6 ay_) (F9_ au_ (F9_ ar_ (bl_ (un1 hr.units) (zv 2 ay_) (zv 3 ay_)) ac_) ac_))
   case' o=>refine' a4_ (Hc_ AP_ A2_ A3_ a0_ (zv 4 ay_) (pa_c (aK_ (pa_c (F2_ lP_ (zv 5 ay_) (aY_ (pa_c (zv 3 ay_) ab_))) ?p)) ab_))
   case' p=>refine' pa_c (al_ Hq_ (hr.mono d_) bQ_ (pa_c (zv 6 ay_) (pa_c (zv 7 ay_) (pa_c (zv 8 ay_) ab_)))) ab_
  case R =>
   walk_at "rd";show⟨Av_ _,λq nq=>?_⟩;have S0:F0_ H (upd H q (.lst [])):=F0_.new nq;have hq0:=aa_ (H:=H) (a:=q) (o:=HO.lst []);generalize upd H q (HO.lst [])=Ha at*;show⟨v,N,rfl,Rep.mono S0 _ hv,ok,λD1 Hb s1 nD1 hD1=>?_⟩;have few:=ok.few;show⟨D1,rfl,⟨_,.inl (.inl hD1)⟩,?_⟩;show c7_ (n:=N.rows.length) (B:=λ_=>none) (Pσ:=λσ=>∃e,σ=[e]) (ds:=(N.rows.map (·.1)).map λp=>Dt.tup [.str p,.str p]) (λb o e=>by cases e) ⟨_,rfl⟩ s_ o_ (λi H' hi s'=>⟨_,((N.rows.map (·.1)).map V.str)[i]'(by simpa using hi),.inl (.inl (s' _ _ hD1)),Ab_ _⟩) (λH' s'=>⟨_,.inl (.inl (s' _ _ hD1)),s_⟩) ?_ ?_
   .rintro D i x d σ' H2 H2' hD hDo hs2 hi hdi ⟨rfl,hy⟩ ⟨e,rfl⟩ R kR;have hx:=hy _ (.inl (.inl (hs2 _ _ hD1)))
    obtain⟨p,rfl,rfl⟩:∃p,x=.str p/\d=.tup [.str p,.str p]:=by
     rw[Ae_]at hx hdi;cases e:(N.rows.map (·.1))[i]? with
     |none=>rw[e]at hx;cases hx
     |some p=>rw[e]at hx hdi;cases hx;cases hdi;show⟨p,rfl,rfl⟩
    walk_at "rd";obtain⟨o,ho⟩:=hDo;show⟨d_,λz nz=>kR _ _ _ ⟨_,rfl⟩ (F0_.new nz) ⟨z,_,rfl,by rw[dK_ (ah_ ho nz).symm rfl];show aa_,_,_,rfl,rfl,_,_,rfl,rfl,rfl⟩⟩
   intro D2 Hc nD2 s2 rep2;obtain⟨_,us2,e0,hu2',hus2⟩:=id rep2;cases e0;have hu2:=(bs_ hu2').2;rw[nn_]at hus2;obtain⟨ul,uk⟩:=mn_ hus2;have rl:(kP (pN N)).length<=900:=by unfold kP pN;simp;lia
   show⟨D2,rfl,us2,hu2,kP (pN N),ul,rl,uk,λdP0 ndP0=>⟨d_,λt0 nt0=>⟨d_,λls nls=>?_⟩⟩⟩;have mg0:G0_ [] (kP (pN N))=kP (pN N):=fZ_ (by rw[DW_];unfold kP;rw[AT_];have:=ok.nd;rw[<-jG_]at this;have:=this.map (f:=λn=>(Sum.inr n:Key)) (R:=(· ≠ ·)) (S:=(· ≠ ·)) (λa b e z=>e (BW_ z));rw[AT_]at this;show this);rw[mg0]at nt0 nls⊢;have S3:F0_ Hc (upd (upd (upd Hc dP0 (.dK (kP (pN N)))) t0 (.tup [.ref q,.ref dP0])) ls (.lst [.ref t0])):=((F0_.new ndP0).trans (F0_.new nt0)).trans (F0_.new nls);have q1:=((F0_.new nt0 (o:=.tup [.ref q,.ref dP0])).trans (F0_.new nls (o:=.lst [.ref t0]))) _ _ (aa_ (H:=Hc) (a:=dP0) (o:=HO.dK (kP (pN N))));have q2:=(F0_.new nls (o:=.lst [.ref t0])) _ _ (aa_ (H:=upd Hc dP0 (.dK (kP (pN N)))) (a:=t0) (o:=HO.tup [.ref q,.ref dP0]));have q3:=aa_ (H:=upd (upd Hc dP0 (.dK (kP (pN N)))) t0 (.tup [.ref q,.ref dP0])) (a:=ls) (o:=HO.lst [.ref t0]);have f1:=(S0.trans (s1.trans s2)).free ndP0;have f2:=(S0.trans (s1.trans (s2.trans (F0_.new ndP0)))).free nt0;have f3:=(S0.trans (s1.trans (s2.trans ((F0_.new ndP0).trans (F0_.new nt0))))).free nls;generalize upd (upd (upd Hc dP0 (.dK (kP (pN N)))) t0 (.tup [.ref q,.ref dP0])) ls (.lst [.ref t0])=Hd at*;have Sd:F0_ H Hd:=S0.trans (s1.trans (s2.trans S3));have hqd:Hd q=some (.lst []):=(s1.trans (s2.trans S3)) _ _ hq0;show⟨v,N,rfl,Rep.mono Sd _ hv,ok,λde S ll He sS dE0 nde=>?_⟩;have Se:F0_ Hd He:=sS.trans dE0.sH;have e30:=jC_ ok (occ N.rows) [] (AR_ _);show⟨de,rfl,_,dE0.dict,(GP_ N).map (·.1),iV_ dE0.len,by rw[Aa_];show Bz_ e30 d_,λlz zs nlz pz sz=>?_⟩;obtain rfl:zs=ws:=hA_ (λx y=>sLe.antisymm) (pz.trans wp.symm) sz wr;have Sf:F0_ He (upd He lz (.lst (zs.map V.str))):=F0_.new nlz;have hlz:=aa_ (H:=He) (a:=lz) (o:=HO.lst (zs.map V.str));have dE1:=dE0.mono Sf;generalize upd He lz (HO.lst (zs.map V.str))=Hf at*;have Sg:F0_ H Hf:=Sd.trans (Se.trans Sf);have base0:GH_ H Hf [.ref t0] (G6_ (eN N) (pN N) (zs.take 0)):=GH_.one (s:=([],pN N)) ((Se.trans Sf) _ _ q2) ((Se.trans Sf) _ _ hqd) (.inl ((Se.trans Sf) _ _ q1)) ⟨f1,nq,f2⟩;show⟨⟨_,.inl (.inl hlz)⟩,?_⟩;show bF_ (xs:=zs.map V.str) (λi σ H'=>∃e3 e4 e5 e6 e7 e8 ls us,σ=[some v,some (.ref ls),some (.ref de),e3,e4,e5,e6,e7,e8]/\Fz Hf H'/\F0_ H H'/\H ls=none/\H' ls=some (.lst us)/\GH_ H H' us (G6_ (eN N) (pN N) (zs.take i))) ⟨none,none,none,none,none,none,ls,_,rfl,.of (F0_.refl _),Sg,f3,(Se.trans Sf) _ _ q3,base0⟩ ?_ ?_ ?_
   .rintro i σ H' hi ⟨e3,e4,e5,e6,e7,e8,ls,us,rfl,fz,sh,nls,hls,sa⟩;show .inl (.inl (fz.lst hlz))
   .rintro i x σ H' hx kk kb hk hbk G hG ⟨e3,e4,e5,e6,e7,e8,ls,us,rfl,fz,sh,nls,hls,sa⟩;rw[Ae_]at hx
    obtain⟨wr',hw,rfl⟩:∃wr',zs[i]?=some wr'/\x=.str wr':=by
     cases e:zs[i]? with
     |none=>rw[e]at hx;cases hx
     |some wr=>rw[e]at hx;cases hx;show⟨wr,rfl,rfl⟩
    have hin:wr'∈(GP_ N).map (·.1):=wp.mem_iff.mp (Am_ hw);obtain⟨l,q1',q2',a,b,v1,v2,v3,v4,v5,v6,v7⟩:=pk_ ok dE1 hin;rw[bx_ hw,mN_]at hk;have sl:(G6_ (eN N) (pN N) (zs.take i)).length<=2 ^ 15:=Au_ hJ_ (Cr_ d_ (by rw[Aw_];lia));have keys:∀s∈G6_ (eN N) (pN N) (zs.take i),s.2.map (·.1)=N.rows.map (·.1):=λs hs=>by rw[iH_ hs,jG_]
    have lens:∀s∈G6_ (eN N) (pN N) (zs.take i),s.1.length<=15:=λs hs=>by obtain⟨S,hS,e⟩:=BQ_.mp hs;obtain⟨P',_,rfl⟩:=BL_.mp e;have:=(fK_ _ _ hS).length_le;rw[Aw_]at this;change S.length<=15;lia
    generalize G6_ (eN N) (pN N) (zs.take i)=SS at*;walk_at "rd";show⟨Av_ _,λg ng=>?_⟩;have Sg2:F0_ H' (upd H' g (.lst [])):=F0_.new ng;have hg0:=aa_ (H:=H') (a:=g) (o:=HO.lst []);generalize upd H' g (HO.lst [])=Hg at*;show⟨⟨_,.inl (.inl (Sg2 _ _ hls))⟩,?_⟩;have sl2:us.length=SS.length:=sa.1;have nHg:H g=none:=sh.free ng;show bF_ (xs:=us) (λj σ H2=>∃e5 e6 e7 e8 gs,σ=[some v,some (.ref ls),some (.ref de),some (.str wr'),some (.ref g),e5,e6,e7,e8]/\Fz H' H2/\F0_ H H2/\H2 g=some (.lst gs)/\GH_ H (noD g H2) gs ((SS.take j).filterMap (JQ_ (eN N) wr'))) ⟨_,_,_,_,[],rfl,.of Sg2,sh.trans Sg2,hg0,.nil⟩ ?_ ?_ ?_
    .rintro j σ H2 hj ⟨e5,e6,e7,e8,gs,rfl,fz2,sh2,hg,sg⟩;show .inl (.inl (fz2.lst hls))
    .rintro j x σ H2 hx kk2 kb2 hk2 hbk2 G2 hG2 ⟨e5,e6,e7,e8,gs,rfl,fz2,sh2,hg,sg⟩;have jl:j<us.length:=(Ai_.mp hx).1;have hs:SS[j]?=some (SS[j]'o_):=Ab_ _;obtain⟨t,l0,d0,u1,u2,u3,u4,u5,u6⟩:=sa.2 j _ hs;rw[hx]at u1;cases u1;have kj:=keys _ (Am_ hs);rw[bx_ hs,Fm_]at hk2;have lj:=lens _ (Am_ hs);generalize SS[j]'o_=s at*;walk_at "rd";show⟨_,.inl (.inl (fz2.tup u2)),rfl,_,_,rfl,_,_,rfl,rfl,?_⟩;have f2:=fz.trans fz2;have rdE:=f2.rdK dE1.dict;have ra:=fz2.rd u4;have ka:a.1∈s.2.map (·.1):=by rw[kj];show v6
     have kb':b.1∈s.2.map (·.1):=by rw[kj];show v7
     show⟨_,.inl ⟨_,.inr wr',rdE,rfl,v1.symm⟩,l,rfl,_,f2.lst v2,_,G2_,q1',rfl,_,f2.tup v3,_,G2_,d0,rfl,_,.inl ⟨_,.inr a.1,ra,rfl,(eB_ ka).symm⟩,?_⟩;show⟨_,.inl ⟨_,.inr wr',rdE,rfl,v1.symm⟩,l,rfl,_,f2.lst v2,_,Hm_,q2',rfl,_,f2.tup v4,_,G2_,d0,rfl,_,.inl ⟨_,.inr b.1,ra,rfl,(eB_ kb').symm⟩,?_⟩
     have gw:JQ_ (eN N) wr' s=if look s.2 a.1=look s.2 b.1 then none else some (s.1++[wr'],GS_ s.2 (look s.2 a.1) (look s.2 b.1)):=by
      unfold JQ_ Ho_;rw[v5]
      dsimp only
      split <;> rfl
     show⟨rfl,ite2 (λne=>?_) (λe=>?_)⟩
     .have ne':¬ look s.2 a.1=look s.2 b.1:=λz=>ne (by rw[z]);rw[if_neg ne']at gw;have s16:s.2.length<=16:=by have:=congrArg List.length kj;rw[Aa_,Aa_]at this;lia
      have snd:(s.2.map (·.1)).Nodup:=by rw[kj];show ok.nd
      show⟨.inl ⟨_,.inl (.inl hg)⟩,d_,λp np=>⟨l0,rfl,_,(F0_.new np) _ _ (fz2.lst u3),by rw[Aa_,Bv_];lia,λp2 np2=>?_⟩⟩;have Sp2:F0_ H2 (upd (upd H2 p (.lst [.str wr'])) p2 (.lst (s.1.map V.str++[.str wr']))):=(F0_.new np).trans (F0_.new np2);have hp2:=aa_ (H:=upd H2 p (.lst [.str wr'])) (a:=p2) (o:=HO.lst (s.1.map V.str++[.str wr']));have fp2:H2 p2=none:=(F0_.new np).free np2;generalize upd (upd H2 p (.lst [.str wr'])) p2 (.lst (s.1.map V.str++[.str wr']))=H3 at*;show⟨d0,s.2,_,_,rfl,Fz.rd (.of Sp2) ra,s16,snd,λp3 H4 np3 hp3 rd4 fz4 kp4=>?_⟩;have gd:g≠d0:=λe=>by rcases u4 with h|⟨_,h⟩ <;> (rw[<-e,ng]at h;cases h)
      have hg3:=Sp2 _ _ hg;have hg4:=kp4 g _ gd hg3;have s3:F0_ H H3:=sh2.trans Sp2;have s4:F0_ H H4:=λc u hc=>kp4 c u (λe=>by rw[e,u5]at hc;cases hc) (s3 c u hc);show⟨d_,λp4 np4=>?_⟩;have S5:F0_ H4 (upd H4 p4 (.tup [.ref p2,.ref p3])):=F0_.new np4;have h4t:=aa_ (H:=H4) (a:=p4) (o:=HO.tup [.ref p2,.ref p3]);have fp4:=s4.free np4;have p4g:p4≠g:=(ah_ hg4 np4).symm;have p3g:p3≠g:=(ah_ hg3 np3).symm;have p2g:p2≠g:=(ah_ hg fp2).symm;generalize upd H4 p4 (.tup [.ref p2,.ref p3])=H5 at*;have f25:Fz H2 H5:=(Fz.of Sp2).trans (fz4.trans (.of S5));have gl:gs.length<=2 ^ 15:=by rw[sg.1];show Au_ (Cz_ _ _) ?_;rw[Aw_];lia
      show⟨gs,S5 _ _ hg4,by rw[Bv_];lia,hk2 _ _ ⟨_,_,_,_,gs++[.ref p4],rfl,(fz2.trans f25).upd ng,λc u hc=>?_,aa_,?_⟩⟩
      .rw[ae_ (show c≠g from λe=>by rw[e,nHg]at hc;cases hc)];show S5 _ _ (s4 c u hc)
      .rw[lg_];show(sg.mono f25.noD).app ?_;rw[BT_,gw,List.filterMap_nil];show GH_.one (s:=(s.1++[wr'],GS_ s.2 (look s.2 a.1) (look s.2 b.1))) (by rw[ee_ p4g];show h4t) (l:=p2) (d:=p3) ?_ (.inl ?_) ⟨s3.free np3,sh2.free fp2,fp4⟩
       .rw[ee_ p2g];have:=(fz4.trans (.of S5)).lst hp2;rw[this,As_];rfl
       .rw[ee_ p3g];show S5 _ _ hp3
     .have e':look s.2 a.1=look s.2 b.1:=by have:=BS_.mp e;show V.str.inj this
      rw[if_pos e']at gw;show hk2 _ _ ⟨_,_,_,_,gs,rfl,fz2,sh2,hg,by rw[BT_,gw,List.filterMap_nil,AR_];show sg⟩
    .rintro σ H2 ⟨e5,e6,e7,e8,gs,rfl,fz2,sh2,hg,sg⟩;rw[sl2,Bp_]at sg;walk_at "rd";have gl:gs.length<=SS.length:=by rw[sg.1];show Cz_ _ _
     show⟨us,fz2.lst hls,gs,hg,by rw[Bv_];lia,λp np=>hk _ _ ⟨_,_,_,_,_,_,p,_,rfl,(fz.trans fz2).trans (.of (F0_.new np)),sh2.trans (F0_.new np),sh2.free np,aa_,?_⟩⟩;show(sa.mono (fz2.trans (.of (F0_.new np)))).app (sg.mono (.of (noD_same.trans (F0_.new np))))
   .rintro σ H' ⟨e3,e4,e5,e6,e7,e8,ls,us,rfl,fz,sh,nls,hls,sa⟩;rw[Aa_,Bp_]at sa;walk_at "rd";show k ls us H' sh nls hls sa
structure Nt(K:PySem.W.Frag)(mg:Str->Option Value)(CN:Addr):Prop where
 m:mg "NO_POSTS"=some (.ref CN)
 sq:∀H:Hp,SqT K H CN []
variable {CN:Addr}
theorem Ie_:bootBuiltins "tuple"=some (.type "tuple"):=r_
def Mq_:List V->Hp->VK->Prop:=λvs H Q=>∃(p:Addr)(ys:List V),vs=[.ref p]/\Rd H p (.lst ys)/\∀l,H l=none->Q (.ref l) (upd H l (.tup ys))
theorem oi_:GM_ X (.type "tuple") Mq_:=by intro pins s σ H xs us Q I r h;obtain⟨p,ys,rfl,hp,q⟩:=h;show i6_ pins s σ H _ us Q I r ⟨p,ys,rfl,.inl ⟨.inl hp,q⟩⟩
def kvP(L:List Str)(ls:List Addr):List (Key×V):=List.zipWith (λl a=>(Sum.inr l,V.ref a)) L ls
variable{L:List Str}
theorem qV_(h:ls.length=L.length):(kvP L ls).length=L.length:=by unfold kvP;rw[FK_];lia
theorem p7_:∀{i:Nat}{a:Addr},L.Nodup->L[i]?=some x->ls[i]?=some a->Gw_ (kvP L ls) (.inr x)=some (.ref a):=by
 induction L generalizing ls with
 |nil=>intro i a _ h;cases h
 |cons y L ih =>
  intro i a nd h1 h2;cases ls with
  |nil=>cases h2
  |cons b ls =>
   change Gw_ ((Sum.inr y,V.ref b)::kvP L ls) (.inr x)=_;cases i with
   |zero=>cases h1;cases h2;show aW_ rfl
   |succ i =>have ne:y≠x:=λe=>(AS_.mp nd).1 (e▸Am_ h1);rw[aJ_ (show ¬ (Sum.inr y:Key)=.inr x from λe=>ne (BW_ e))];show ih (AS_.mp nd).2 h1 h2
theorem rO_(h:x∉L):Gw_ (kvP L ls) (.inr x)=none:=by
 induction L generalizing ls with
 |nil=>unfold kvP;rw[DF_];rfl
 |cons y L ih =>
  cases ls with
  |nil=>rfl
  |cons b ls =>change Gw_ ((Sum.inr y,V.ref b)::kvP L ls) (.inr x)=_;rw[aJ_ (show ¬ (Sum.inr y:Key)=.inr x from λe=>h (BW_ e▸Al_))];show ih λz=>h (Aj_ _ z)
variable{a:Addr}
theorem pl_(h:ls.length=L.length):kvP (L++[x]) (ls++[a])=kvP L ls++[(.inr x,.ref a)]:=by unfold kvP;rw[FL_ (by rw[h])];rfl
theorem qW_(nd:L.Nodup)(hl:ls.length=L.length)(h:L[i]?=some x):G1_ (kvP L ls) (.inr x) (.ref a)=kvP L (ls.set i a):=by
 have hi:=(Ai_.mp h).1;unfold G1_;rw[if_pos (by rw[cf_,p7_ (a:=ls[i]'o_) nd h (Ab_ _)];rfl)];apply Dt_;intro j;unfold kvP;rw[Ae_,DG_,DG_];cases ej:L[j]? with
 |none=>rfl
 |some y =>
  have hj:=(Ai_.mp ej).1;by_cases e:j=i
  .subst e;rw[h]at ej;cases ej;rw[Cd_ o_,Ab_ (by lia:j<ls.length)];change some (if(Sum.inr x:Key)=Sum.inr x then _ else _)=_;rw[if_pos rfl]
  .have ne:y≠x:=λz=>e ((Bb_ hj nd).mp (by rw[ej,h,z]));rw[Cn_ o_];cases ls[j]? with
   |none=>rfl
   |some b =>change some (if(Sum.inr y:Key)=Sum.inr x then _ else _)=_;rw[if_neg (λz=>ne (BW_ z))]
theorem fo_:∀(ps:List (Str×Addr))(L:List Str)(ls:List Addr),ls.length=L.length->L.Nodup->ls.Nodup->(ps.map (·.2)).Nodup->(∀p∈ps,p.2∉ls) ->
  ∃ls',ls'.length=(uniq L (ps.map (·.1))).length/\ls'.Nodup/\(∀a∈ls',a∈ls\/a∈ps.map (·.2))/\G0_ (kvP L ls) (ps.map λp=>(Sum.inr p.1,V.ref p.2))=kvP (uniq L (ps.map (·.1))) ls'
 |[],L,ls,hl,nd,nl,np,dj=>⟨ls,hl,nl,λa h=>.inl h,rfl⟩
 |p::ps,L,ls,hl,nd,nl,np,dj=>by
  have np1:=(AS_.mp np).1;have np2:=(AS_.mp np).2;have pl:=dj p Al_;change ∃ls',ls'.length=(uniq (if p.1∈L then L else L++[p.1]) (ps.map (·.1))).length/\_/\_/\G0_ (G1_ (kvP L ls) (.inr p.1) (.ref p.2)) _=kvP (uniq (if p.1∈L then L else L++[p.1]) (ps.map (·.1))) ls';by_cases e:p.1∈L
  .obtain⟨i,hi⟩:=A8_.mp e;rw[if_pos e,qW_ nd hl hi];have sub:∀a∈ls.set i p.2,a=p.2\/a∈ls:=λa ha=>(Dh_ ha).symm
   obtain⟨ls',h1,h2,h3,h4⟩:=fo_ ps L (ls.set i p.2) (by rw[BO_];show hl) nd (hS_ pl nl) np2 λq hq z=>by
    rcases sub _ z with z|z
    .show np1 (Ay_.mpr ⟨q,hq,z⟩)
    .show dj q (Aj_ _ hq) z
   show⟨ls',h1,h2,λa ha=>(h3 a ha).elim (λz=>(sub a z).elim (λz=>.inr (z▸Al_)) .inl) λz=>.inr (Aj_ _ z),h4⟩
  .have hn:Gw_ (kvP L ls) (.inr p.1)=none:=rO_ e;rw[if_neg e,lw_ hn,<-pl_ hl]
   obtain⟨ls',h1,h2,h3,h4⟩:=fo_ ps (L++[p.1]) (ls++[p.2]) (by rw[Ak_,Ak_,hl];rfl) (Be_.mpr ⟨nd,s_,λa ha b hb c=>e (Ag_.mp hb▸c▸ha)⟩) (Be_.mpr ⟨nl,s_,λa ha b hb c=>pl (Ag_.mp hb▸c▸ha)⟩) np2 λq hq z=>by
    rcases At_.mp z with z|z
    .show dj q (Aj_ _ hq) z
    .show np1 (Ay_.mpr ⟨q,hq,Ag_.mp z⟩)
   show⟨ls',h1,h2,λa ha=>(h3 a ha).elim (λz=>(At_.mp z).elim .inl λz=>.inr (Ag_.mp z▸Al_)) λz=>.inr (Aj_ _ z),h4⟩
def PrA(S H:Hp)(A:Pt)(vs:List V)(as:List Addr):Prop:=vs.length=A.length/\as.length=A.length/\as.Nodup/\(∀a∈as,S a=none/\H a=some (.lst []))/\∀(i:Nat) q a,A[i]?=some q->as[i]?=some a->∃t,vs[i]?=some (.ref t)/\H t=some (.tup [.str q.2,.ref a])
theorem PrA.mono{as:List Addr}(h:PrA S H A vs as)(s:F0_ H H'):PrA S H' A vs as :=
 ⟨h.1,h.2.1,h.2.2.1,λa ha=>⟨(h.2.2.2.1 a ha).1,s _ _ (h.2.2.2.1 a ha).2⟩,λi q a h1 h2=>let⟨t,e1,e2⟩:=h.2.2.2.2 i q a h1 h2;⟨t,e1,s _ _ e2⟩⟩
theorem PrA.snoc{as:List Addr}{t:Addr}(h:PrA S H A vs as)(na:a∉as)(sa:S a=none)(ha:H a=some (.lst []))(ht:H t=some (.tup [.str q.2,.ref a])):PrA S H (A++[q]) (vs++[.ref t]) (as++[a]):=by
 show⟨by rw[Ak_,Ak_,h.1];rfl,by rw[Ak_,Ak_,h.2.1];rfl,Be_.mpr ⟨h.2.2.1,s_,λx hx y hy c=>na (Ag_.mp hy▸c▸hx)⟩,λx hx=>?_,λi q' a' h1 h2=>?_⟩
 .rcases At_.mp hx with hx|hx
  .show h.2.2.2.1 x hx
  .rw[Ag_.mp hx];show⟨sa,ha⟩
 .by_cases e:i<A.length
  .rw[AH_ e]at h1;rw[AH_ (by rw[h.2.1];show e)]at h2;rw[AH_ (by rw[h.1];show e)];show h.2.2.2.2 i q' a' h1 h2
  .rw[AI_ o_]at h1;rw[AI_ (by rw[h.2.1];lia),h.2.1]at h2;rw[AI_ (by rw[h.1];lia),h.1];generalize i-A.length=j at*;cases j with
   |zero=>cases h1;cases h2;show⟨t,rfl,ht⟩
   |succ j=>cases h1
structure PJ(S H:Hp)(dd:Addr)(L:List Str)(ls:List Addr)(F:Str->List Nat):Prop where
 sH:F0_ S H
 dict:H dd=some (.dK (kvP L ls))
 len:ls.length=L.length
 nL:L.Nodup
 nd:ls.Nodup
 dn:dd∉ls
 lst:∀(i:Nat) l a,L[i]?=some l->ls[i]?=some a->H a=some (.lst ((F l).map λn:Nat=>V.int n))
 fd:S dd=none
 fl:∀a∈ls,S a=none
theorem PJ.mono{dd:Addr}{F:Str->List Nat}(h:PJ S H dd L ls F)(s:F0_ H H'):PJ S H' dd L ls F:=⟨h.sH.trans s,s _ _ h.dict,h.len,h.nL,h.nd,h.dn,λi l a h1 h2=>s _ _ (h.lst i l a h1 h2),h.fd,h.fl⟩
theorem PJ.put{dd:Addr}{F G:Str->List Nat}(h:PJ S H dd L ls F)(h1:L[i]?=some x)(h2:ls[i]?=some a)(hx:G x=F x++[n])(ho:∀y,y≠x->G y=F y):PJ S (upd H a (.lst ((F x).map (λn:Nat=>V.int n)++[V.int n]))) dd L ls G:=by
 have am:a∈ls:=Am_ h2;show⟨h.sH.upd (h.fl a am),?_,h.len,h.nL,h.nd,h.dn,λj l b e1 e2=>?_,h.fd,h.fl⟩
 .rw[ae_ (show dd≠a from λe=>h.dn (e▸am))];show h.dict
 .by_cases e:b=a
  .subst e;have:j=i:=(Bb_ (Ai_.mp e2).1 h.nd).mp (e2.trans h2.symm);subst this;rw[h1]at e1;cases e1;rw[aa_,hx,As_];rfl
  .have:l≠x:=λz=>by subst z;have:j=i:=(Bb_ (Ai_.mp e1).1 h.nL).mp (e1.trans h1.symm);subst this;show e (Ar_ (e2.symm.trans h2))
   rw[ae_ e,ho l this];show h.lst j l b e1 e2
def Ib_(posts:List Str)(A:Pt)(i:Nat)(l:Str):List Nat:=(List.range i).filter λi=>decide (look A (posts.getD i Str.empty)=l)
variable{posts:List Str}
theorem mU_(h:look A (posts.getD i Str.empty)=x):Ib_ posts A (i+1) x=Ib_ posts A i x++[i]:=by unfold Ib_;rw[BA_,A5_,Bo_,if_pos (by rw[h];show AL_ rfl),CN_]
theorem pm_(h:look A (posts.getD i Str.empty)≠x):Ib_ posts A (i+1) x=Ib_ posts A i x:=by unfold Ib_;rw[BA_,A5_,Bo_,if_neg (by rw[Bl_];show h),CN_,AR_]
theorem f0_{α:Type}{p:α->Bool}{x:α}(h:p x=true):[x].filter p=[x]:=by rw[Bo_,if_pos h,CN_]
theorem g7_{α:Type}{p:α->Bool}{x:α}(h:p x=false):[x].filter p=[]:=by rw[Bo_,h];rfl
def Ht_(H:Hp)(vs:List V)(tt:List (List Nat)):Prop:=vs.length=tt.length/\∀(i:Nat) u,tt[i]?=some u->∃b,vs[i]?=some (.ref b)/\H b=some (.tup (u.map λn:Nat=>V.int n))
theorem Ht_.mono{tt:List (List Nat)}(h:Ht_ H vs tt)(s:F0_ H H'):Ht_ H' vs tt:=⟨h.1,λi u e=>let⟨b,e1,e2⟩:=h.2 i u e;⟨b,e1,s _ _ e2⟩⟩
variable{b:Addr}{u:List Nat}
theorem Ht_.snoc{tt:List (List Nat)}(h:Ht_ H vs tt)(hb:H b=some (.tup (u.map λn:Nat=>V.int n))):Ht_ H (vs++[.ref b]) (tt++[u]):=by
 show⟨by rw[Ak_,Ak_,h.1];rfl,λi u' e=>?_⟩;by_cases c:i<tt.length
 .rw[AH_ c]at e;rw[AH_ (by rw[h.1];show c)];show h.2 i u' e
 .rw[AI_ o_]at e;rw[AI_ (by rw[h.1];lia),h.1];generalize i-tt.length=j at*;cases j with
  |zero=>cases e;show⟨b,rfl,hb⟩
  |succ j=>cases e
abbrev F6_:Stmt:=stN 24
theorem bv_:ZL ["posts","part_of","posts_in","number","post","unlike_one"] ["posts","part_of"] (F1_ F6_):=zL
theorem ba_:LK F6_ "unlike_one" .local:=r_
theorem dC_:LK F6_ "NO_POSTS" .globalImplicit:=r_
theorem eZ_:LK F6_ "dict" .globalImplicit:=r_
theorem dl_:LK F6_ "enumerate" .globalImplicit:=r_
theorem bJ_:LK F6_ "len" .globalImplicit:=r_
def kN(u:List Nat):List Key:=u.map λi:Nat=>Sum.inl (i:Int)
def isJ(K:PySem.W.Frag)(H:Hp)(v:V):Option (List Nat)->Prop
 |none=>v=.non
 |some u=>∃b,v=.ref b/\JL_ K H b (kN u)
def Lz_(K:PySem.W.Frag):Sp:=λvs H Q _=>∃(p0 d:Addr)(posts:List Str)(A:Pt),vs=[.ref p0,.ref d]/\H p0=some (.lst (posts.map V.str))/\Rd H d (.dK (kP A))/\A.length<=16/\posts.length<=6/\(∀p∈posts,p∈A.map (·.1)) /\
 ∀v H',Fz H H'->(∀c u,c≠d->H c=some u->H' c=some u)->isJ K H' v (JP posts A)->Q v H'
theorem h1_(T:Txt K mg)(hN:Nt K mg CN)(F:Fn0 K mg "posts_joined" F6_):Cal P w K mg base "posts_joined" ["posts","part_of"] 1 (Lz_ K):=by
  show aP_ F bv_.1 λf cdv A0 outer s H vs Q E hr h=>?_;obtain⟨p0,d,posts,A,rfl,hp0,hd,A16,p6,pin,k⟩:=h;refine'⟨_,?D,?R⟩
  case D =>
   refine' ag_ (zas 2 bv_ ?a) ?b
   case' a=>refine' bE_ (eL_ rfl) eZ_ T.n_dict jE_ (pa_c (di_ (N':=["part"]) (ix:=[none]) rfl rfl (cy_ ?c) (hH_ (zv 1 bv_)) (λ_ _ _=>?d) (λ_ _ _=>?e) (λ_ _ _=>(aK_ (pa_c (pv1 0 rfl rfl) (pa_c (aY_ ab_) ab_))))) ab_)
   case c=>show(by change Ih_ (F1_ F6_) ["posts","part_of","posts_in","number","post","unlike_one"] _ _ _=true;decide +kernel)
   case d=>show ak_ (i:=0) (by change List.Nodup (["part"]:List Str);decide +kernel) rfl rfl
   case e=>show e1_
   case' b=>refine' ag_ (a6_ AF_ rfl (nr_ (K:=K) rfl dl_ T.n_enumerate (pa_c (zv 0 bv_) ab_)) (bk_ (K:=K) (n:=2) rfl rfl (am_ ?f (am_ ?g bd_))) ?h) ?i
   case f=>show zh 3 bv_
   case g=>show zh 4 bv_
   case' h=>refine' ad_ (a4_ (Hc_ AP_ A2_ A3_ a0_ (bl_ (un1 hr.units) (zv 2 bv_) (bl_ (un1 hr.units) (zv 1 bv_) (zv 4 bv_))) (pa_c (zv 3 bv_) ab_)))
   case' i=>refine' ag_ ?j (ag_ (Gz_ (ao_ Hb_ (aj_ an_ bJ_ T.n_len aQ_ (pa_c (zv 5 bv_) ab_)) ac_ (Gf_ _)) (ad_ (ap_ ?k)) aB_) ?l)
   case' j=>refine' hm_ (i:=5) (N':=["numbers"]) (ix:=[none]) rfl rfl bv_.nd rfl ba_ rfl (cy_ ?m) (hH_ (zv 2 bv_)) (λ_ _ _=>?n) (λ_ _ _=>(iv_ (ao_ J8_ (aj_ an_ rfl T.n_len aQ_ (pa_c (pv1 0 rfl rfl) ab_)) ac_ (Gf_ _)))) (λ_ _ _=>(bE_ oi_ rfl T.n_tuple Ie_ (pa_c (pv1 0 rfl rfl) ab_)))
   case m=>show(by change Ih_ (F1_ F6_) ["posts","part_of","posts_in","number","post","unlike_one"] _ _ _=true;decide +kernel)
   case n=>show ak_ (i:=0) (by change List.Nodup (["numbers"]:List Str);decide +kernel) rfl rfl
   case k=>show hw_ hN.m dC_
   case' l=>refine' ag_ (Gz_ ?o (ad_ (ap_ (F9_ ar_ (zv 5 bv_) ac_))) aB_) (ad_ (ap_ ?p))
   case' o=>refine' PW.pt (lJ_ (ao_ Hb_ (aj_ an_ bJ_ T.n_len aQ_ (pa_c (zv 5 bv_) ab_)) ac_ (Gf_ _)) ?q)
   case' q=>refine' i1_ (ao_ Hb_ (aj_ an_ bJ_ T.n_len aQ_ (pa_c (F9_ ar_ (zv 5 bv_) ac_) ab_)) ac_ (Gf_ _))
   case p=>show lG_
  case R =>
   walk_at "rd";show⟨kP A,hd,λob H2 h0 h2 h2'=>?_⟩;have nHd:∀c u,c≠d->H c=some u->H2 c=some u:=λc u e h=>(h2' c e).trans h
   have F2:Fz H H2:=λc u hc=>by
    by_cases e:c=d
    .subst e
     rcases h0 with h|h
     .rw[h]at hc;cases hc;show .inr ⟨ob,A,rfl,h2⟩
     .rw[h]at hc;cases hc;show .inl h2
    .show .inl (nHd c u e hc)
   have pd:p0≠d:=λe=>by
    rw[e]at hp0
    rcases hd with h|⟨_,h⟩ <;> (rw[hp0]at h;cases h)
   have hp2:=nHd p0 _ pd hp0;show ks_ (n:=A.length) (Pσ:=λσ=>∃e,σ=[e]) (Pv:=λi vs H'=>∃as,PrA H2 H' (A.take i) vs as) ⟨_,rfl⟩ o_ ⟨[],rfl,rfl,Bn_,nofun,nofun⟩ (λi vs H1 H3 s ⟨as,p⟩=>⟨as,p.mono s⟩) (λi vs H1 ⟨as,p⟩=>by rw[p.1,Aw_];lia) (λi H' hi s=>⟨s _ _ h2,by rw[gQ_];show hi⟩) (λH' s=>⟨s _ _ h2,by rw[gQ_];show Af_ _⟩) ?_ ?_
   .rintro D i x σ' H3 H3' vs hD ⟨oD,hDo⟩ hs2 hi ⟨rfl,kk,hx⟩ ⟨e,rfl⟩ ⟨as,pr⟩ Y R kY kR
    obtain⟨q,hq,rfl⟩:∃q,A[i]?=some q/\x=.str q.2:=by
     unfold kP at hx;rw[Ae_]at hx;cases e:A[i]? with
     |none=>rw[e]at hx;cases hx
     |some q=>rw[e]at hx;cases hx;show⟨q,rfl,rfl⟩
    have tk:A.take (i+1)=A.take i++[q]:=bx_ hq;walk_at "rd";show⟨Av_ _,λp np=>⟨d_,λt nt=>kY _ _ _ ⟨_,rfl⟩ ((F0_.new np).trans (F0_.new nt)) ⟨as++[p],?_⟩⟩⟩;have pD:p≠D:=(ah_ hDo np).symm;have tD:t≠D:=(ah_ ((F0_.new np) _ _ hDo) nt).symm;rw[tk];show PrA.snoc (pr.mono (L2.noD_same ((F0_.new np).trans (F0_.new nt)))) (λz=>?_) (hs2.free np) ?_ ?_
    .have:=(pr.2.2.2.1 p z).2;rw[ee_ pD,np]at this;cases this
    .rw[ee_ pD];show(F0_.new nt) _ _ aa_
    .rw[ee_ tD];show aa_
   .rintro D H3 vs hD s3 hDD ⟨as,pr⟩;rw[Bp_]at pr
    replace pr:=pr.mono noD_same
    obtain⟨v1,a1,and_,aN,ap⟩:=pr;have zf:((A.map (·.2)).zip as).map (·.1)=A.map (·.2):=List.map_fst_zip (by rw[Aa_];lia);have zs:((A.map (·.2)).zip as).map (·.2)=as:=List.map_snd_zip (by rw[Aa_];lia);obtain⟨ls,l1,l2,l3,l4⟩:=fo_ ((A.map (·.2)).zip as) [] [] rfl Bn_ Bn_ (by rw[zs];show and_) (λ_ _=>nofun);rw[zf]at l1 l4
    replace l1:ls.length=(labels A).length:=l1
    rw[zs]at l3;have zl:((A.map (·.2)).zip as).length=A.length:=by rw[List.length_zip,Aa_];lia
    show⟨D,rfl,vs,hDD,((A.map (·.2)).zip as).map λp=>(Sum.inr p.1,V.ref p.2),by rw[Aa_,zl,v1],by rw[Aa_,zl];lia,λi q hq=>?_,λdd ndd=>?_⟩
    .rw[Ae_]at hq;obtain⟨z,hz,rfl⟩:=BL_.mp hq;obtain⟨z1,z2⟩:=List.getElem?_zip_eq_some.mp hz;rw[Ae_]at z1;obtain⟨q0,hq0,e⟩:=BL_.mp z1;obtain⟨t,e1,e2⟩:=ap i q0 z.2 hq0 z2;show⟨t,e1,by rw[<-e];show e2⟩
    .have l5:G0_ [] (((A.map (·.2)).zip as).map λp=>((Sum.inr p.1:Key),V.ref p.2))=kvP (labels A) ls:=l4;rw[l5];have pj:PJ H2 (upd H3 dd (.dK (kvP (labels A) ls))) dd (labels A) ls (Ib_ posts A 0):=by have al:∀a∈ls,H2 a=none/\H3 a=some (.lst []):=λa ha=>aN a ((l3 a ha).resolve_left nofun);show⟨s3.trans (F0_.new ndd),aa_,l1,hL_ A,l2,λz=>(by have:=(al _ z).2;rw[ndd]at this;cases this),λi l a e1 e2=>(F0_.new ndd) _ _ (al a (Am_ e2)).2,s3.free ndd,λa ha=>(al a ha).1⟩
     generalize upd H3 dd (.dK (kvP (labels A) ls))=H5 at*;have hp5:=pj.sH _ _ hp2;show⟨⟨_,.inl (.inl hp5)⟩,?_⟩;show oX_ (xs:=posts.map V.str) (λi σ H'=>∃e3 e4,σ=[some (.ref p0),some (.ref d),some (.ref dd),e3,e4,none]/\PJ H2 H' dd (labels A) ls (Ib_ posts A i)) ⟨_,_,rfl,pj⟩ (λi σ H' hi ⟨e3,e4,_,pj⟩=>.inl (.inl (pj.sH _ _ hp2))) ?_ ?_
     .rintro i x T σ H' hx kk kb hk hbk G hG ⟨e3,e4,rfl,pj⟩ nT
      obtain⟨post,hpo,rfl⟩:∃p,posts[i]?=some p/\x=.str p:=by
       rw[Ae_]at hx;cases e:posts[i]? with
       |none=>rw[e]at hx;cases hx
       |some q=>rw[e]at hx;cases hx;show⟨q,rfl,rfl⟩
      have pj2:=pj.mono (F0_.new nT (o:=.tup [.int i,.str post]));have hT:=aa_ (H:=H') (a:=T) (o:=HO.tup [.int i,.str post]);generalize upd H' T (.tup [.int i,.str post])=H6 at*;walk_at "rd";have hin:post∈A.map (·.1):=pin post (Am_ hpo);have hlb:look A post∈labels A:=fL_.mpr (.inr (iI_ hin));obtain⟨j,hj⟩:=A8_.mp hlb;have jl:=(Ai_.mp hj).1;have ha:ls[j]?=some (ls[j]'o_):=Ab_ _;have hpd:posts.getD i Str.empty=post:=by rw[Ac_,hpo];rfl
      have ll:=pj2.lst j _ _ hj ha;have i6:i<posts.length:=(Ai_.mp hpo).1;have nl:(Ib_ posts A i (look A post)).length<=i:=by show Au_ (Bj_ _ _) ?_;rw[Bx_];show Af_ _
      show⟨_,SqT.of hT,rfl,_,_,rfl,_,_,rfl,rfl,_,.inl ⟨kP A,.inr post,.inr ⟨ob,pj2.sH _ _ h2⟩,rfl,(eB_ hin).symm⟩,_,.inl ⟨_,.inr (look A post),.inl pj2.dict,rfl,(p7_ (hL_ A) hj ha).symm⟩,.inl ⟨_,.inl (.inl ll)⟩,_,rfl,_,ll,by rw[Aa_];show F3_ o_,hk _ _ ⟨_,_,rfl,pj2.put hj ha (mU_ (by rw[hpd])) λy hy=>pm_ (by rw[hpd];show λz=>hy z.symm)⟩⟩
     .rintro σ H' ⟨e3,e4,rfl,pj⟩;rw[Aa_]at pj;have kl:=qV_ l1;have lb16:(labels A).length<=16:=Au_ mg_ (by rw[Aa_];simpa using A16);walk_at "rd";show⟨kvP (labels A) ls,.inl pj.dict,λob2 H7 h0 h7 h7'=>?_⟩;have S7:∀c u,H2 c=some u->H7 c=some u:=λc u h=>(h7' c (λe=>by rw[e,pj.fd]at h;cases h)).trans (pj.sH c u h);have F7:Fz H H7:=F2.trans (.of S7);have k7:∀c u,c≠d->H c=some u->H7 c=some u:=λc u e h=>S7 _ _ (nHd c u e h);have ll:∀(i:Nat) l a,(labels A)[i]?=some l->ls[i]?=some a->H7 a=some (.lst ((GK_ posts A l).map λn:Nat=>V.int n)):=λi l a e1 e2=>(h7' a (λe=>pj.dn (e▸Am_ e2))).trans (pj.lst i l a e1 e2);show ks_ (n:=(labels A).length) (Pσ:=λσ=>∃e,σ=[e]) (Pv:=λi vs H'=>Ht_ H' vs ((((labels A).take i).filter λl=>decide ((GK_ posts A l).length≠1)).map (GK_ posts A))) ⟨_,rfl⟩ o_ ⟨rfl,nofun⟩ (λi vs H1 H3 s p=>p.mono s) (λi vs H1 p=>?_) (λi H' hi s=>⟨s _ _ h7,by rw[kl];show hi⟩) (λH' s=>⟨s _ _ h7,by rw[kl];show Af_ _⟩) ?_ ?_
      .rw[p.1,Aa_];show Au_ (Bj_ _ _) ?_;rw[Aw_];lia
      .rintro D i x σ' H8 H8' vs hD ⟨oD,hDo⟩ hs2 hi ⟨rfl,kk,hx⟩ ⟨e,rfl⟩ pr Y R kY kR;have e1:(labels A)[i]?=some ((labels A)[i]'hi):=Ab_ _;have e2:ls[i]?=some (ls[i]'o_):=Ab_ _;have ex:x=.ref (ls[i]'o_):=by unfold kvP at hx;rw[DG_,e1,e2]at hx;cases hx;rfl
       subst ex;have hl:=hs2 _ _ (ll i _ _ e1 e2);rw[bx_ e1,A5_,As_]at kY kR;generalize(labels A)[i]'hi=lb at*;generalize ls[i]'o_=a at*;walk_at "rd";show⟨_,.inl hl,ite2 (λne=>?_) (λe1=>?_)⟩
       .rw[f0_ (p:=λl=>decide ((GK_ posts A l).length≠1)) (x:=lb) (show(λl=>decide ((GK_ posts A l).length≠1)) lb=true from AL_ (show(GK_ posts A lb).length≠1 from λz=>ne (by rw[Aa_,z];rfl)))]at kY;show⟨_,_,rfl,.inl hl,λb nb=>kY _ _ _ ⟨_,rfl⟩ (F0_.new nb) ?_⟩;show Ht_.snoc (pr.mono (L2.noD_same (F0_.new nb))) ?_;rw[ee_ (show b≠D from λz=>by rw[<-z,nb]at hDo;cases hDo)];show aa_
       .have e1:=BS_.mp e1;rw[g7_ (p:=λl=>decide ((GK_ posts A l).length≠1)) (x:=lb) (show(λl=>decide ((GK_ posts A l).length≠1)) lb=false from AE_ (show ¬ (GK_ posts A lb).length≠1 from λz=>z (by rw[Aa_]at e1;lia))),Cu_,AR_]at kR;show kR _ _ ⟨_,rfl⟩ (F0_.refl _) pr
      .rintro D H8 vs hD s8 hDD pr;rw[Bp_]at pr;have pu:Ht_ H8 vs (G3_ posts A):=pr.mono noD_same;have ul:=pu.1;have F8:Fz H H8:=F7.trans (.of s8);have k8:∀c u,c≠d->H c=some u->H8 c=some u:=λc u e h=>s8 _ _ (k7 c u e h);show⟨D,rfl,vs,.inl hDD,ite2 (λe=>?_) (λne=>?_)⟩
       .show k _ _ F8 k8 (by rw[pZ_.mpr (AB_ o_)];show⟨CN,rfl,hN.sq _⟩)
       .have nn:G3_ posts A≠[]:=λe=>ne (by rw[ul,e];rfl);show⟨D,rfl,vs,.inl hDD,ite2 (λe1=>?_) (λn1=>?_)⟩
        .obtain⟨u,hu⟩:=BM_.mp (show(G3_ posts A).length=1 by lia);obtain⟨b,hb1,hb2⟩:=pu.2 0 u (by rw[hu];rfl);have v1:vs.length=1:=o_
         obtain⟨v0,rfl⟩:=BM_.mp v1;cases hb1;show⟨D,rfl,_,hDD,_,G2_,b,rfl,_,.inr hb2,ite2 (λe2=>?_) (λn2=>?_)⟩
         .have e2:u.length=2:=by rw[Aa_]at e2;lia
          show⟨D,rfl,_,hDD,_,G2_,k _ _ F8 k8 ?_⟩;rw[(p0_ e2).mpr hu];show⟨b,rfl,SqT.of ?_⟩;rw[hb2];unfold kN;rw[AT_];rfl
         .show k _ _ F8 k8 (by rw[LZ_ nn λu' hu' z=>n2 (by rw[hu]at hu';cases hu';rw[Aa_,z];rfl)];rfl)
        .show k _ _ F8 k8 (by rw[LZ_ nn λu' hu' z=>n1 (by rw[ul,hu'];rfl)];rfl)
structure Exs(K:PySem.W.Frag)(mg:Str->Option Value)(CR CA CO CW:Addr):Prop where
 m_RimError:mg "RimError"=some (.ref CR)
 m_TooMany:mg "TooMany"=some (.ref CA)
 m_NoAnswer:mg "NoAnswer"=some (.ref CO)
 m_NoNet:mg "NoNet"=some (.ref CW)
 own_TooMany:ExC K CA
 hnd_RimError:HnC K CR
 sub:PySem.W.mroIn K CA (.ref CR)=some true
 kit:K3_ K CA
 isA:PySem.W.kitOne K (.ref CA) (.ref CA)=some true
 isV:PySem.W.kitOne K (.ref CA) (.type "ValueError")=some true
 isN:PySem.W.kitAny K (.ref CA) [.ref CO,.ref CW]=some false
variable {CR CA CO CW:Addr}
theorem gw_{C:Addr}(hg:Gl X x)(hm:X.mg x=some (.ref C))(hd:(x == ("__debug__" : Str))=false:=by decide):PE X (.Name x pos) (tC (.ref C)):=kS_ (v:=.ref C) hg hm rfl hd
def Hd_(N:Net Str)(ws:List Str)(u:List Nat):List (List Str):=((G6_ (eN N) (pN N) ws).filter λs=>decide (JP N.posts s.2=some u)).map (·.1)
def Lu_(H H':Hp)(o:Option V)(tt:List (List Str)):Prop:=match o with
 |none=>tt=[]
 |some v=>∃(a:Addr)(ls:List Addr),v=.ref a/\H a=none/\H' a=some (.lst (ls.map V.ref))/\ls.length=tt.length/\Iw_ H' ls tt/\∀l∈ls,H l=none
variable{tt:List (List Str)}
theorem h2_{x:List Str}(h:Iw_ H ls tt)(e:ls.length=tt.length)(hl:H l=some (.lst (x.map V.str))):Iw_ H (ls++[l]) (tt++[x]):=λi a ha=>by
 by_cases c:i<ls.length
 .rw[AH_ c]at ha;have:=h i a ha;rw[Ac_,AH_ o_,<-Ac_];show this
 .rw[AI_ o_]at ha;rw[Ac_,AI_ o_,<-e];generalize i-ls.length=j at*;cases j with
  |zero=>cases ha;show hl
  |succ j=>cases ha
theorem oj_(h:Iw_ H ls tt)(f:Fz H H'):Iw_ H' ls tt:=λi a ha=>f.lst (h i a ha)
theorem p8_{v:List Nat}(h:kN u=kN v):u=v:=by
 unfold kN at h
 induction u generalizing v with
 |nil=>cases v with
  |nil=>rfl
  |cons b v=>cases h
 |cons a u ih=>cases v with
  |nil=>cases h
  |cons b v =>obtain⟨h1,h2⟩:=C9_ h;have:=FT_ h1;rw[ih h2,show a=b by lia]
def ttL(posts:List Str)(ds:List (List Str×Pt))(u:List Nat):List (List Str):=(ds.filter λs=>decide (JP posts s.2=some u)).map (·.1)
variable{ds:List (List Str×Pt)}
theorem Ka_(h:JP posts s.2=some u):ttL posts (ds++[s]) u=ttL posts ds u++[s.1]:=by unfold ttL;rw[A5_,As_,f0_ (p:=λs:List Str×Pt=>decide (JP posts s.2=some u)) (x:=s) (AL_ h)];rfl
theorem Ji_(h:JP posts s.2≠some u):ttL posts (ds++[s]) u=ttL posts ds u:=by unfold ttL;rw[A5_,As_,g7_ (p:=λs:List Str×Pt=>decide (JP posts s.2=some u)) (x:=s) (AE_ h),Cu_,AR_]
structure WL(posts:List Str)(B X1 H':Hp)(W:Addr)(ds:List (List Str×Pt))(kvs:List (List Key×V)):Prop where
 at_:∀k v,Gw_ kvs k=some v->∃u a ls,k=kN u/\v=.ref a/\a≠W/\B a=none/\X1 a=none/\H' a=some (.lst (ls.map V.ref))/\ls.length=(ttL posts ds u).length/\Iw_ X1 ls (ttL posts ds u)/\∀l∈ls,B l=none
 no:∀u,Gw_ kvs (kN u)=none->ttL posts ds u=[]
 inj:∀k k' a,Gw_ kvs k=some (.ref a)->Gw_ kvs k'=some (.ref a)->k=k'
 len:kvs.length<=ds.length+1
 zero:∃v,Gw_ kvs (kN [])=some v
variable{W:Addr}{kvs:List (List Key×V)}
theorem WL.keep{X1:Hp}(h:WL posts B X1 H W ds kvs)(k:∀c u,c≠W->X1 c=none->(∃k,Gw_ kvs k=some (.ref c))->H c=some u->H' c=some u):WL posts B X1 H' W ds kvs :=
 ⟨λq v e=>by obtain⟨u,a,ls,e1,e2,e3,e4,e5,e6,e7⟩:=h.at_ q v e;show⟨u,a,ls,e1,e2,e3,e4,e5,k _ _ e3 e5 ⟨q,e2▸e⟩ e6,e7⟩,h.no,h.inj,h.len,h.zero⟩
theorem WL.skip{X1:Hp}(h:WL posts B X1 H W ds kvs)(hs:JP posts s.2=none):WL posts B X1 H W (ds++[s]) kvs:=by have e:∀u,ttL posts (ds++[s]) u=ttL posts ds u:=λu=>Ji_ (by rw[hs];nofun);show⟨λq v z=>?_,λu z=>by rw[e];show h.no u z,h.inj,by have:=h.len;rw[Ak_];lia,h.zero⟩;obtain⟨u,a,ls,e1,e2,e3,e4,e5,e6,e7⟩:=h.at_ q v z;show⟨u,a,ls,e1,e2,e3,e4,e5,e6,by rw[e];show e7⟩
theorem WL.add{X1:Hp}(h:WL posts B X1 H W ds kvs)(hs:JP posts s.2=some u)(ha:Gw_ kvs (kN u)=some (.ref a))(hl:H a=some (.lst (ls.map V.ref)))(xl:X1 l=some (.lst (s.1.map V.str)))(bl:B l=none):WL posts B X1 (upd H a (.lst (ls.map V.ref++[.ref l]))) W (ds++[s]) kvs:=by
 show⟨λq v z=>?_,λu' z=>?_,h.inj,by have:=h.len;rw[Ak_];lia,h.zero⟩
 .obtain⟨u',a',ls',e1,e2,e3,e4,e5,e6,e7,e8,e9⟩:=h.at_ q v z;subst e1 e2;by_cases c:u'=u
  .subst c;rw[ha]at z;cases z;rw[hl]at e6;have:ls=ls':=by have:=HO.lst.inj (Ar_ e6);show(List.map_inj_right λx y e=>V.ref.inj e).mp this
   subst this;show⟨u',a,ls++[l],rfl,rfl,e3,e4,e5,by rw[aa_,As_];rfl,?_,?_,λx hx=>?_⟩
   .rw[Ka_ hs,Ak_,Ak_,e7];rfl
   .rw[Ka_ hs];show h2_ e8 e7 xl
   .rcases At_.mp hx with hx|hx
    .show e9 x hx
    .rw[Ag_.mp hx];show bl
  .have ne:a'≠a:=λe=>c (p8_ (h.inj _ _ a (e▸z) ha));show⟨u',a',ls',rfl,rfl,e3,e4,e5,by rw[ae_ ne];show e6,by rw[Ji_ (by rw[hs];show λe=>c (Ar_ e).symm)];show e7,by rw[Ji_ (by rw[hs];show λe=>c (Ar_ e).symm)];show e8,e9⟩
 .have c:u'≠u:=λe=>by rw[e,ha]at z;cases z
  rw[Ji_ (by rw[hs];show λe=>c (Ar_ e).symm)];show h.no u' z
theorem WL.new{X1:Hp}(h:WL posts B X1 H W ds kvs)(hs:JP posts s.2=some u)(hn:Gw_ kvs (kN u)=none)(aW:a≠W)(na:∀k,Gw_ kvs k≠some (.ref a))(xa:X1 a=none)(ba:B a=none)(ha:H a=some (.lst [.ref l]))(xl:X1 l=some (.lst (s.1.map V.str)))(bl:B l=none):WL posts B X1 H W (ds++[s]) (G1_ kvs (kN u) (.ref a)):=by
 show⟨λq v z=>?_,λu' z=>?_,λk k' b e1 e2=>?_,?_,?_⟩
 .rw[dL_]at z;split at z
  .rename_i e;cases z;show⟨u,a,[l],e,rfl,aW,ba,xa,ha,?_,?_,λx hx=>by rw[Ag_.mp hx];show bl⟩
   .rw[Ka_ hs,h.no u hn];rfl
   .rw[Ka_ hs,h.no u hn];show h2_ (ls:=[]) (tt:=[]) nofun rfl xl
  .rename_i e;obtain⟨u',a',ls',e1,e2,e3,e4,e5,e6,e7⟩:=h.at_ q v z;subst e1;show⟨u',a',ls',rfl,e2,e3,e4,e5,e6,by rw[Ji_ (by rw[hs];show λc=>e (by rw[Ar_ c]))];show e7⟩
 .rw[dL_]at z;split at z
  .cases z
  .rename_i e;rw[Ji_ (by rw[hs];show λc=>e (by rw[Ar_ c]))];show h.no u' z
 .rw[dL_]at e1 e2;split at e1
  .rename_i c1;split at e2
   .rename_i c2;rw[c1,c2]
   .cases e1;show absurd e2 (na _)
  .split at e2
   .cases e2;show absurd e1 (na _)
   .show h.inj k k' b e1 e2
 .have:=h.len;have:=bt_ kvs (kN u) (.ref a);rw[Ak_];simp only[A0_,DP_];lia
 .obtain⟨v,e⟩:=h.zero;rw[dL_];split
  .show⟨_,rfl⟩
  .show⟨v,e⟩
theorem ok_{ys:List V}(hd:H d=some (.lst xs))(h:SqT K H b ys):SqT K (upd H d o) b ys:=by
 have ne:∀{u:HO},H b=some u->u≠.lst xs->b≠d:=λ{u} h k e=>by rw[e,hd]at h;show k (Ar_ h).symm
 rcases h with(h|⟨ob,h⟩)|h
 .show .inl (.inl ((ae_ (ne h nofun)).trans h))
 .show .inl (.inr ⟨ob,(ae_ (ne h nofun)).trans h⟩)
 .show .inr h
abbrev F5_:Stmt:=stN 25
theorem aS_:ZL ["net","woods","wires","part_of","joined"] ["net"] (F1_ F5_):=zL
theorem br_:LK F5_ "MOST_WIRES" .globalImplicit:=r_
theorem c3_:LK F5_ "NO_POSTS" .globalImplicit:=r_
theorem dm_:LK F5_ "TooMany" .globalImplicit:=r_
theorem cq_:LK F5_ "len" .globalImplicit:=r_
theorem cr_:LK F5_ "posts_joined" .globalImplicit:=r_
theorem cc_:LK F5_ "ringless_sets" .globalImplicit:=r_
def JG_(K:PySem.W.Frag)(P:Program)(w:World):Sp:=λvs H Q _=>∃(v:V)(N:Net Str)(ws:List Str),vs=[v]/\Rep H v (Ic_ N)/\G4_ N/\Hh_ N/\ws.Perm ((GP_ N).map (·.1))/\ws.Pairwise sLe/\N.worths.length<=10/\ws.length<=10 /\
 ∀W H' kvs,F0_ H H'->H W=none->DN K P w H' W kvs->(∀u,Lu_ H H' (Gw_ kvs (kN u)) (Hd_ N ws u))->(∃v,Gw_ kvs (kN [])=some v)->Q (.ref W) H'
theorem gx_(T:Txt K mg)(hN:Nt K mg CN)(F:Fn0 K mg "woods_by_posts" F5_) (HO_:Cal P w K mg base "ringless_sets" ["net"] 2 LP_) (HY_:Cal P w K mg base "posts_joined" ["posts","part_of"] 1 (Lz_ K)):Cal P w K mg base "woods_by_posts" ["net"] 3 (JG_ K P w):=by
  show aP_ F aS_.1 λf cdv A0 outer s H vs Q E hr h=>?_;obtain⟨v,N,ws,rfl,hv,ok,po,wp,wr,w10,ws10,k⟩:=h;obtain⟨pn,p0,p1,p2,rs,wos,rfl,hn,h0,h1,r1,h2,r2⟩:=cv_ hv;have wl:wos.length=N.worths.length:=by rw[r2.length,Aa_]
  refine'⟨_,?D,?R⟩
  case D =>
   refine' af_ (Gz_ (ao_ HV_ (aj_ an_ cq_ T.n_len aQ_ (pa_c (F9_ au_ (zv 0 aS_) ac_) ab_)) ?a (Gf_ _)) (ad_ ?b) aB_) ?c
   case a=>show kW_ T.c_MOST_WIRES br_
   case b=>show lK_
   case' c=>refine' af_ (zas 1 aS_ (o4_ (K:=K) (P:=P) (w:=w) rfl rfl rfl hr.units ?d (aY_ ab_))) (ag_ ?e (ad_ (ap_ (zv 1 aS_))))
   case d=>show hw_ hN.m c3_
   case' e=>refine' a6_ AF_ rfl (aO_ (K:=K) rfl (al_ HO_ (hr.mono d_) cc_ (pa_c (zv 0 aS_) ab_))) (bk_ (K:=K) (n:=2) rfl rfl (am_ ?f (am_ ?g bd_))) ?h
   case f=>show zh 2 aS_
   case g=>show zh 3 aS_
   case' h=>refine' af_ ?i (ad_ (Gz_ (lI_ (qh_ (zv 4 aS_))) ?j aB_))
   case' i=>refine' zas 4 aS_ (al_ HY_ (hr.mono d_) cr_ (pa_c (F9_ au_ (zv 0 aS_) ac_) (pa_c (zv 3 aS_) ab_)))
   case' j=>refine' ad_ (a4_ (Hc_ AP_ A2_ A3_ a0_ (rG_ (K:=K) (P:=P) (w:=w) rfl rfl rfl BH_ BD_ Cc_ (mL_ (K:=K) (P:=P) (w:=w) rfl rfl rfl hr.units) (zv 1 aS_) (pa_c (zv 4 aS_) (pa_c (aY_ ab_) ab_))) (pa_c (zv 2 aS_) ab_)))
  case R =>
   walk_at "rd";show⟨_,hn,_,HF_,p2,rfl,_,.inl h2,?_⟩;rw[if_neg o_];walk_at "rd";intro W nW H0 s0 hW o0;show⟨Av_ _,λa0 na0=>⟨[],hN.sq _,(ae_ (ah_ hW na0)).trans hW,λHa oH dnW=>?_⟩⟩;have aW:a0≠W:=(ah_ hW na0).symm;have ha0:Ha a0=some (.lst []):=(oH a0 aW).trans aa_;have sHa:F0_ H Ha:=λc u h=>(oH c (λe=>by rw[e,nW]at h;cases h)).trans ((ae_ (λe=>by rw[e]at h;have:=s0 _ _ h;rw[na0]at this;cases this)).trans (s0 _ _ h));have nHa0:H a0=none:=s0.free na0;clear s0 hW o0 na0 oH;walk_at "rd";show⟨_,N,ws,rfl,Rep.mono sHa _ hv,ok,wp,wr,o_,λD us H1 s1 nD hD sa=>⟨D,rfl,⟨_,.inl (.inl hD)⟩,?_⟩⟩;obtain⟨φ,hW⟩:=dnW.some;have dn1:=dnW.mono s1;have hW1:=s1 _ _ hW;have ha1:=s1 _ _ ha0
   let X1:Hp:=noD W (noD a0 H1)
   have xW:X1 W=none:=if_pos rfl;have xa0:X1 a0=none:=by change noD W (noD a0 H1) a0=none;rw[ee_ aW];show if_pos rfl
   have xs:∀c u,H1 c=some u->c≠W->c≠a0->X1 c=some u:=λc u h e1 e2=>by change noD W (noD a0 H1) c=_;rw[ee_ e1,ee_ e2];show h
   have sX:F0_ X1 H1:=λc u h=>noD_same _ _ (noD_same _ _ h);have DW:D≠W:=λe=>by rw[e,hW]at nD;cases nD
   have Da:D≠a0:=λe=>by rw[e,ha0]at nD;cases nD
   have saX:GH_ Ha X1 us (G6_ (eN N) (pN N) ws):=⟨sa.1,λi s hs=>by obtain⟨t,l,d,q1,q2,q3,q4,q5,q6,q7⟩:=sa.2 i s hs;have g:∀{c:Addr},Ha c=none->c≠W/\c≠a0:=λ{c} h=>⟨λe=>(by rw[e,hW]at h;cases h),λe=>(by rw[e,ha0]at h;cases h)⟩;show⟨t,l,d,q1,xs _ _ q2 (g q7).1 (g q7).2,xs _ _ q3 (g q6).1 (g q6).2,q4.imp (λz=>xs _ _ z (g q5).1 (g q5).2) (λ⟨o,z⟩=>⟨o,xs _ _ z (g q5).1 (g q5).2⟩),q5,q6,q7⟩⟩;have keys:∀s∈G6_ (eN N) (pN N) ws,s.2.map (·.1)=N.rows.map (·.1):=λs hs=>by rw[iH_ hs,jG_]
   have sl:(G6_ (eN N) (pN N) ws).length<=1024:=Au_ hJ_ (show 2 ^ ws.length<=2 ^ 10 from Cr_ d_ ws10);have fin:Hd_ N ws=ttL N.posts (G6_ (eN N) (pN N) ws):=rfl;generalize G6_ (eN N) (pN N) ws=SS at*;have uD:X1 D=some (.lst us):=xs _ _ hD DW Da;show bF_ (xs:=us) (λi σ H'=>∃e2 e3 e4 kvs,σ=[some (.ref pn),some (.ref W),e2,e3,e4]/\Fz X1 H'/\F0_ H H'/\DN K P w H' W kvs/\WL N.posts H X1 H' W (SS.take i) kvs) ⟨none,none,none,_,rfl,.of sX,sHa.trans s1,dn1,?_⟩ ?_ ?_ ?_
   .show⟨λq v z=>?_,λu z=>rfl,λk k' a e1 e2=>?_,s_,⟨_,aW_ rfl⟩⟩
    .by_cases e:([]:List Key)=q
     .subst e;rw[aW_ rfl]at z;cases z;show⟨[],a0,[],rfl,rfl,aW,nHa0,xa0,ha1,rfl,nofun,nofun⟩
     .rw[aJ_ e]at z;cases z
    .by_cases c1:([]:List Key)=k
     .by_cases c2:([]:List Key)=k'
      .rw[<-c1,<-c2]
      .rw[aJ_ c2]at e2;cases e2
     .rw[aJ_ c1]at e1;cases e1
   .rintro i σ H' hi ⟨e2,e3,e4,kvs,rfl,fz,sh,dn,wl⟩;show .inl (.inl (fz.lst uD))
   .rintro i x σ H' hx kk kb hk hbk G hG ⟨e2,e3,e4,kvs,rfl,fz,sh,dn,wl⟩;have il:i<us.length:=(Ai_.mp hx).1;have hs:SS[i]?=some (SS[i]'(by rw[<-saX.1];show il)):=Ab_ _;obtain⟨t,l0,d0,u1,u2,u3,u4,u5,u6,u7⟩:=saX.2 i _ hs;rw[hx]at u1;cases u1;have kj:=keys _ (Am_ hs);rw[bx_ hs]at hk;generalize SS[i]'(by rw[<-saX.1];show il)=s at*;walk_at "rd";show⟨_,SqT.of (fz.tup u2),rfl,_,_,rfl,_,_,rfl,rfl,?_⟩;walk_at "rd";have s16:s.2.length<=16:=by have:=congrArg List.length kj;rw[Aa_,Aa_]at this;have:=ok.few;lia
    have dW:d0≠W:=λe=>by rw[e]at u4;rcases u4 with h|⟨_,h⟩ <;> (rw[xW]at h;cases h)
    show⟨_,sh _ _ hn,_,G2_,p0,d0,N.posts,s.2,rfl,sh _ _ h0,fz.rd u4,s16,ok.pl,λp hp=>by rw[kj];show po.pin p hp,λy H2 f2 k2 hy=>?_⟩;have fz2:=fz.trans f2;have nd:H d0=none:=sHa.free u5;have sh2:F0_ H H2:=λc u h=>k2 c u (λe=>by rw[e,nd]at h;cases h) (sh c u h);obtain⟨ψ,hψ⟩:=dn.some;have hψ':H2 W=some (.ext ψ):=k2 _ _ dW.symm hψ;have dn2:DN K P w H2 W kvs:=dn.keep ((k2 _ _ dW.symm hψ).trans hψ.symm) λb ys z=>z.imp (λz=>z.imp (λz=>f2.tup z) λ⟨o,z⟩=>⟨o,f2.frz z⟩) id;have wl2:WL N.posts H X1 H2 W (SS.take i) kvs:=wl.keep λc u cW xc _ hc=>k2 c u (λe=>by rw[e]at xc;rcases u4 with h|⟨_,h⟩ <;> (rw[xc]at h;cases h)) hc;have kl:=wl2.len;rw[Aw_]at kl;have k3:kvs.length<100000:=o_
    clear wl dn fz sh k2 f2;walk_at "rd";cases hj:JP N.posts s.2 with
    |none =>
     rw[hj]at hy;cases hy;rw[if_neg (λz=>z rfl)];show hk _ _ ⟨_,_,_,kvs,rfl,fz2,sh2,dn2,wl2.skip hj⟩
    |some u =>
     rw[hj]at hy;obtain⟨b,rfl,kb'⟩:=hy;rw[if_pos (λz=>nomatch z)];show⟨⟨_,dn2⟩,Av_ _,λp np=>?_⟩;have pW:p≠W:=(ah_ hψ' np).symm;have S3:F0_ H2 (upd H2 p (.lst [])):=F0_.new np;have hp3:=aa_ (H:=H2) (a:=p) (o:=HO.lst []);have dn3:=dn2.mono S3;have nap:∀k,Gw_ kvs k≠some (.ref p):=λk e=>by obtain⟨_,a,ls,_,q2,_,_,_,q6,_⟩:=wl2.at_ _ _ e;cases q2;rw[np]at q6;cases q6
     have wl3:=wl2.keep (H':=upd H2 p (.lst [])) λc u _ _ _ h=>S3 _ _ h;have fz3:=fz2.trans (.of S3);have sh3:=sh2.trans S3;have xp:X1 p=none:=fz2.free np;have Hp:H p=none:=sh2.free np;generalize upd H2 p (.lst [])=H3 at*;show⟨b,rfl,kvs,dn3,kN u,S3.sqT kb',k3,λv hv=>?_,λhn H4 o4 dn4=>?_⟩
     .obtain⟨u',a,ls,q1,rfl,q3,q4,q5,q6,q7,q8,q9⟩:=wl3.at_ _ v hv;have ll:ls.length<=1024:=by rw[q7];unfold ttL;rw[Aa_];show Au_ (Bj_ _ _) ?_;rw[Aw_];lia
      show⟨.inl ⟨_,.inl (.inl q6)⟩,a,rfl,_,q6,by rw[Aa_,Bv_];lia,hk _ _ ⟨_,_,_,kvs,rfl,fz3.upd q5,sh3.upd q4,?_,wl3.add hj hv q6 u3 (sHa.free u6)⟩⟩;show dn3.keep (ae_ q3.symm) λb ys z=>ok_ q6 z
     .have hp4:H4 p=some (.lst []):=(o4 p pW).trans hp3
      have fz4:Fz X1 H4:=λc u h=>by
       have cW:c≠W:=λe=>by rw[e,xW]at h;cases h
       rw[o4 c cW];show fz3 c u h
      have sh4:F0_ H H4:=λc u h=>(o4 c (λe=>by rw[e,nW]at h;cases h)).trans (sh3 c u h);have wl4:WL N.posts H X1 H4 W (SS.take i) kvs:=wl3.keep λc u cW _ _ h=>(o4 c cW).trans h;show⟨.inl ⟨_,.inl (.inl hp4)⟩,[],hp4,by rw[Bv_];decide,hk _ _ ⟨_,_,_,_,rfl,fz4.upd xp,sh4.upd Hp,dn4.keep (ae_ pW.symm) λb ys z=>ok_ hp4 z,?_⟩⟩;show WL.new (l:=l0) (wl4.keep λc u cW xc ⟨k,e⟩ h=>(ae_ (λz=>nap k (by rw[e,z]))).trans h) hj hn pW nap xp Hp aa_ u3 (sHa.free u6)
   .rintro σ H' ⟨e2,e3,e4,kvs,rfl,fz,sh,dn,wl⟩;rw[saX.1,Bp_]at wl;walk_at "rd";show k W H' kvs sh nW dn (λu=>?_) wl.zero;rw[fin];cases e:Gw_ kvs (kN u)with
    |none=>show wl.no u e
    |some v =>obtain⟨u',a,ls,q1,q2,q3,q4,q5,q6,q7,q8,q9⟩:=wl.at_ _ v e;obtain rfl:=p8_ q1;show⟨a,ls,q2,q4,q6,q7,oj_ q8 fz,q9⟩
variable {CZ:Addr}
theorem un2{A:Around}(h:A.units+64<cLine):A.units+2<cLine:=o_
def G9_(CA:Addr)(ps:List V):Sp:=λvs H _ E=>∃(v:V)(N:Net Str),vs=v::ps/\Rep H v (Ic_ N)/\10<N.worths.length/\∀H',F0_ H H'->E (.ref CA) none H'
theorem f1_(T:Txt K mg)(EX:Exs K mg CR CA CO CW)(F:Fn0 K mg "woods_by_posts" F5_):JI_ P w K mg base "woods_by_posts" ["net"] 1 (G9_ CA []):=by
 show kZ_ F aS_.1 (λ_ _ _ _ _ _=>byL1 λ_=>rfl) ?len ?body
 case len=>rintro vs H Q E ⟨a,b,rfl,_⟩;rfl
 case body =>
  intro f cdv A0 outer s H vs Q E hr h;obtain⟨v,N,rfl,hv,w10,k⟩:=h;obtain⟨pn,p0,p1,p2,rs,wos,rfl,hn,h0,h1,r1,h2,r2⟩:=cv_ hv;have wl:wos.length=N.worths.length:=by rw[r2.length,Aa_]
  refine'⟨_,?D,?R⟩
  case D =>
   refine' af_ ?a ?b
   case' a=>refine' Gz_ (ao_ HV_ (aj_ an_ cq_ T.n_len aQ_ (pa_c (F9_ au_ (zv 0 aS_) ac_) ab_)) ?c (Gf_ _)) (ad_ (oH_ EX.own_TooMany EX.m_TooMany hr.hd dm_ (pa_c lH_ ab_))) aB_
   case c=>show kW_ T.c_MOST_WIRES br_
   case b=>show jT_
  case R =>walk_at "rd";show⟨_,hn,_,HF_,p2,rfl,_,.inl h2,?_⟩;rw[if_pos o_];show⟨(by decide:1<=sizeLine),k _ (F0_.refl _)⟩
abbrev GE_:Stmt:=stN 26
theorem h3_:ZL ["net"] ["net"] (F1_ GE_):=zL
theorem cA_:LK GE_ "NO_POSTS" .globalImplicit:=r_
theorem dg_:LK GE_ "sorted" .globalImplicit:=r_
theorem bA_:LK GE_ "woods_by_posts" .globalImplicit:=r_
def Jc_(H:Hp)(D:Addr)(H':Hp)(tt:List (List Str)):Prop:=∃zs uss,H' D=some (.lst (zs.map V.ref))/\zs.length=uss.length/\Iw_ H' zs uss/\uss.Perm tt/\uss.Pairwise (λx y=>G5_ y x=false)/\(∀z∈zs,H z=none)/\H D=none/\D∉zs
def KF_:Sp:=λvs H Q _=>∃(v:V)(N:Net Str)(ws:List Str),vs=[v]/\Rep H v (Ic_ N)/\G4_ N/\Hh_ N/\ws.Perm ((GP_ N).map (·.1))/\ws.Pairwise sLe/\N.worths.length<=10/\ws.length<=10 /\
 ∀D H',F0_ H H'->Jc_ H D H' (Hd_ N ws [])->Q (.ref D) H'
theorem kK_{ws:List Str}(h:ws.length<=10):(Hd_ N ws u).length<=1024:=by unfold Hd_;rw[Aa_];show Au_ (Bj_ _ _) (Au_ hJ_ (show 2 ^ ws.length<=2 ^ 10 from Cr_ d_ h))
theorem ly_(T:Txt K mg)(hN:Nt K mg CN)(F:Fn0 K mg "woods_of" GE_) (GN_:Cal P w K mg base "woods_by_posts" ["net"] 3 (JG_ K P w)):Cal P w K mg base "woods_of" ["net"] 4 KF_:=by
  show aP_ F h3_.1 λf cdv A0 outer s H vs Q E hr h=>?_;obtain⟨v,N,ws,rfl,hv,ok,po,wp,wr,w10,ws10,k⟩:=h;refine'⟨_,?D,?R⟩
  case D =>
   refine' ad_ (ap_ (aj_ (cK_ hr.units) dg_ T.n_sorted bB_ (pa_c (nX_ (K:=K) (P:=P) (w:=w) rfl rfl rfl (un2 hr.units) (al_ GN_ (hr.mono d_) bA_ (pa_c (zv 0 h3_) ab_)) ?a) ab_)))
   case a=>show hw_ hN.m cA_
  case R =>
   walk_at "rd";show⟨v,N,ws,rfl,hv,ok,po,wp,wr,w10,ws10,λW H1 kvs s1 nW dn wa ⟨v0,hz⟩=>?_⟩;have w0:=wa [];rw[hz]at w0;obtain⟨a,ls,rfl,na,ha,le,la,nl⟩:=w0;have few:=kK_ (N:=N) (u:=[]) ws10;show⟨W,rfl,kvs,dn,[],hN.sq _,.ref a,hz,a,rfl,ls,ha,_,le,o_,la,λl zs uss nl2 zu zp lz up sr=>?_⟩;have sl:F0_ H1 (upd H1 l (.lst (zs.map V.ref))):=F0_.new nl2;show k l _ (s1.trans sl) ⟨zs,uss,aa_,zu,λi b hb=>sl _ _ (lz i b hb),up,sr,λz hz=>nl z (zp.mem_iff.mp hz),s1.free nl2,λhz=>by obtain⟨i,hi⟩:=A8_.mp hz;have:=lz i l hi;rw[nl2]at this;cases this⟩
theorem kL_(T:Txt K mg)(hN:Nt K mg CN)(F:Fn0 K mg "woods_of" GE_) (R_woods_by_posts:JI_ P w K mg base "woods_by_posts" ["net"] 1 (G9_ CA [])):JI_ P w K mg base "woods_of" ["net"] 2 (G9_ CA []):=by
 show kZ_ F h3_.1 (λ_ _ _ _ _ _=>byL1 λ_=>rfl) ?len ?body
 case len=>rintro vs H Q E ⟨a,b,rfl,_⟩;rfl
 case body =>
  intro f cdv A0 outer s H vs Q E hr h;obtain⟨v,N,rfl,hv,w10,k⟩:=h;refine'⟨_,?D,?R⟩
  case D =>
   refine' ad_ (ap_ (aj_ (cK_ hr.units) dg_ T.n_sorted bB_ (pa_c (nX_ (K:=K) (P:=P) (w:=w) rfl rfl rfl (un2 hr.units) (lW_ R_woods_by_posts (hr.mono d_) LV_ bA_ (pa_c (zv 0 h3_) ab_)) ?a) ab_)))
   case a=>show hw_ hN.m cA_
  case R =>walk_at "rd";show⟨v,N,rfl,hv,w10,k⟩
abbrev Gh_:Stmt:=stN 27
theorem eE_:ZL ["net","i","j"] ["net","i","j"] (F1_ Gh_):=zL
theorem cW_:LK Gh_ "max" .globalImplicit:=r_
theorem cX_:LK Gh_ "min" .globalImplicit:=r_
theorem b4_:LK Gh_ "sorted" .globalImplicit:=r_
theorem bc_:LK Gh_ "woods_by_posts" .globalImplicit:=r_
def Lx_:Sp:=λvs H Q _=>∃(v:V)(N:Net Str)(ws:List Str)(i j:Nat),vs=[v,.int i,.int j]/\Rep H v (Ic_ N)/\G4_ N/\Hh_ N/\ws.Perm ((GP_ N).map (·.1))/\ws.Pairwise sLe/\N.worths.length<=10/\ws.length<=10 /\
 ∀D H',F0_ H H'->Jc_ H D H' (Hd_ N ws [min i j,max i j])->Q (.ref D) H'
theorem h4_(T:Txt K mg)(F:Fn0 K mg "joined_woods" Gh_) (GN_:Cal P w K mg base "woods_by_posts" ["net"] 3 (JG_ K P w)):Cal P w K mg base "joined_woods" ["net","i","j"] 4 Lx_:=by
  show aP_ F eE_.1 λf cdv A0 outer s H vs Q E hr h=>?_;obtain⟨v,N,ws,i,j,rfl,hv,ok,po,wp,wr,w10,ws10,k⟩:=h;have e1:(if(j:Int)<(i:Int)then(j:Int)else(i:Int))=((min i j:Nat):Int):=by split <;> lia
  have e2:(if(j:Int) > (i:Int)then(j:Int)else(i:Int))=((max i j:Nat):Int):=by split <;> lia
  refine'⟨_,?D,?R⟩
  case D =>
   refine' ad_ ?a
   case' a=>refine' ap_ (aj_ (cK_ hr.units) b4_ T.n_sorted bB_ (pa_c (me_ (K:=K) (P:=P) (w:=w) rfl rfl rfl (un2 hr.units) (al_ GN_ (hr.mono d_) bc_ (pa_c (zv 0 eE_) ab_)) (aK_ ?b) (aY_ ab_) ⟨rfl,rfl,rfl,rfl⟩) ab_))
   case' b=>refine' pa_c (aj_ (he_ rfl) cX_ T.n_min nj_ (pa_c (zv 1 eE_) (pa_c (zv 2 eE_) ab_))) (pa_c (aj_ (fx_ rfl) cW_ T.n_max lR_ (pa_c (zv 1 eE_) (pa_c (zv 2 eE_) ab_))) ab_)
  case R =>
   walk_at "rd";rw[e1,e2];show⟨v,N,ws,rfl,hv,ok,po,wp,wr,w10,ws10,λW H1 kvs s1 nW dn wa _=>?_⟩;show⟨W,rfl,⟨_,dn⟩,d_,λp np=>⟨Av_ _,λq nq=>?_⟩⟩;have S2:F0_ H1 (upd (upd H1 p (.tup [.int ((min i j:Nat):Int),.int ((max i j:Nat):Int)])) q (.lst [])):=(F0_.new np).trans (F0_.new nq);have hq:=aa_ (H:=upd H1 p (.tup [.int ((min i j:Nat):Int),.int ((max i j:Nat):Int)])) (a:=q) (o:=HO.lst []);have hp:=(F0_.new nq (o:=HO.lst [])) _ _ (aa_ (H:=H1) (a:=p) (o:=HO.tup [.int ((min i j:Nat):Int),.int ((max i j:Nat):Int)]));have fq:=(F0_.new np).free nq;generalize upd (upd H1 p (.tup [.int ((min i j:Nat):Int),.int ((max i j:Nat):Int)])) q (.lst [])=H3 at*;show⟨kvs,dn.mono S2,kN [min i j,max i j],SqT.of hp,?_⟩;have w0:=wa [min i j,max i j];have few:=kK_ (N:=N) (u:=[min i j,max i j]) ws10
   obtain⟨a,ls,hv',h1,h2,h3,h4⟩:∃a ls,(Gw_ kvs (kN [min i j,max i j])).getD (.ref q)=.ref a/\H3 a=some (.lst (ls.map V.ref))/\ls.length=(Hd_ N ws [min i j,max i j]).length/\Iw_ H3 ls (Hd_ N ws [min i j,max i j])/\∀l∈ls,H l=none:=by
    cases hz:Gw_ kvs (kN [min i j,max i j])with
    |none =>
     rw[hz]at w0;show⟨q,[],rfl,hq,by rw[show Hd_ N ws [min i j,max i j]=[]from w0];rfl,nofun,nofun⟩
    |some v0 =>rw[hz]at w0;obtain⟨a,ls,rfl,na,ha,le,la,nl⟩:=w0;show⟨a,ls,rfl,S2 _ _ ha,le,λi b hb=>S2 _ _ (la i b hb),nl⟩
   show⟨a,hv',ls,h1,_,h2,o_,h3,λl zs uss nl2 zu zp lz up sr=>?_⟩;have sl:F0_ H3 (upd H3 l (.lst (zs.map V.ref))):=F0_.new nl2;show k l _ ((s1.trans S2).trans sl) ⟨zs,uss,aa_,zu,λi b hb=>sl _ _ (lz i b hb),up,sr,λz hz=>h4 z (zp.mem_iff.mp hz),(s1.trans S2).free nl2,λhz=>by obtain⟨i,hi⟩:=A8_.mp hz;have:=lz i l hi;rw[nl2]at this;cases this⟩
theorem ol_{kvs:List (Key×V)}{k:Key}(h:(kvs.map (·.1)).Nodup)(hm:(k,v)∈kvs):Gw_ kvs k=some v:=by
 induction kvs with
 |nil=>show(Bk_ hm).elim
 |cons kv kvs ih =>
  rcases Aq_.mp hm with e|e
  .rw[<-e];show aW_ rfl
  .have h':=AS_.mp h;rw[aJ_ (λc=>h'.1 (Ay_.mpr ⟨_,e,(show kv.1=k from c).symm⟩))];show ih h'.2 e
theorem h5_{H:Hp}:∀{ws:List V}{wo:List (Str×(Int×Int))},Gt_ H ws (wo.map dWo)->∃kvs:List (Key×V),kvs.map (·.1)=wo.map (λr=>Sum.inr r.1)/\ws.length=kvs.length/\(∀(i:Nat)(q:Key×V),kvs[i]?=some q->∃a,ws[i]?=some (.ref a)/\H a=some (.tup [kV q.1,q.2]))/\∀r∈wo,∃v,(Sum.inr r.1,v)∈kvs/\Rep H v (dF r.2)
 |_,[],h=>by
  cases h;show⟨[],rfl,rfl,λi q e=>(nomatch e),λr hr=>(nomatch hr)⟩
 |_,r::wo,⟨x,l,e,hx,hl⟩=>by
  subst e;obtain⟨kvs,k1,k2,k3,k4⟩:=h5_ hl;obtain⟨a,_,ea,ha,x1,_,e1,hx1,x2,_,e2,hx2,e3⟩:=hx;subst e3 e2 e1;cases hx1;show⟨(.inr r.1,x2)::kvs,by rw[AW_,AW_,k1],by rw[A0_,A0_,k2],λi q e=>?_,λr' hr=>?_⟩
  .cases i with
   |zero=>cases e;show⟨a,by rw[ea];rfl,ha⟩
   |succ i=>show k3 i q e
  .rcases Aq_.mp hr with rfl|hr
   .show⟨x2,Al_,hx2⟩
   .obtain⟨v,hv1,hv2⟩:=k4 r' hr;show⟨v,Aj_ _ hv1,hv2⟩
abbrev Gp_:Stmt:=stN 28
theorem cs_:ZL ["net","wires","worths","weight","wire"] ["net","wires"] (F1_ Gp_):=zL
theorem gU_:LK Gp_ "ONE" .globalImplicit:=r_
theorem gy_:LK Gp_ "dict" .globalImplicit:=r_
theorem f3_:LK Gp_ "times" .globalImplicit:=r_
def Je_(N:Net Str)(x:Str):Int×Int:=((N.worths.find? λr=>decide (r.1=x)).map (·.2)).getD (1,1)
def wgt(N:Net Str)(S:List Str):Int×Int:=S.foldl (λa x=>nf (a.1*(Je_ N x).1) (a.2*(Je_ N x).2)) (1,1)
theorem jI_(N:Net Str)(S:List Str)(x:Str):wgt N (S++[x])=nf ((wgt N S).1*(Je_ N x).1) ((wgt N S).2*(Je_ N x).2):=by unfold wgt;rw[En_];rfl
theorem lz_(h:x∈N.worths.map (·.1)):(x,Je_ N x)∈N.worths:=by
 obtain⟨r,hr,e⟩:=Ay_.mp h;unfold Je_;cases z:N.worths.find? λr=>decide (r.1=x)with
 |none =>
  have:=Do_.mp z r hr;simp[e]at this
 |some r' =>have h1:=Cq_ z;have h2:r'.1=x:=AN_ (by simpa using ES_ z);rw[<-h2];show h1
theorem p9_{N:Net Str}(wo:WOk N):∀(n:Nat)(S:List Str),S.length=n->(∀x∈S,x∈N.worths.map (·.1))->Low (wgt N S)/\(wgt N S).1.natAbs<=1000 ^ n/\(wgt N S).2.natAbs<=1000 ^ n
 |0,S,h,_=>by
  rw[AB_ h];change Low ((1:Int),(1:Int))/\_;show⟨⟨d_,d_⟩,(by decide:(1:Int).natAbs<=1000 ^ 0),(by decide:(1:Int).natAbs<=1000 ^ 0)⟩
 |n+1,S,h,hin=>by
  obtain⟨us,x,rfl⟩:∃us w,S=us++[w]:=have ne:S≠[]:=(by intro e;rw[e]at h;cases h);⟨S.dropLast,S.getLast ne,(Bf_ ne).symm⟩;have hl:us.length=n:=by simpa using h
  obtain⟨lo,a1,a2⟩:=p9_ wo n us hl λy hy=>hin y (Ba_ _ hy);obtain⟨wl,w1,w2,w3⟩:=(show Ws (Je_ N x)from wo.ws _ (lz_ (hin x s_)));have wp:=wl.pos;rw[jI_];have b0:(wgt N us).2*(Je_ N x).2≠0:=by have:=EZ_ lo.pos wp;lia
  have ha:=kl_ (t:=(wgt N us).1*(Je_ N x).1) b0;have m1:(Je_ N x).1.natAbs<=1000:=o_
  have m2:(Je_ N x).2.natAbs<=1000:=o_
  show⟨(nx_ b0).1,Au_ ha.1 ?_,Au_ ha.2 ?_⟩
  .rw[Int.natAbs_mul,EI_];show Nat.mul_le_mul a1 m1
  .rw[Int.natAbs_mul,EI_];show Nat.mul_le_mul a2 m2
theorem mo_(wo:WOk N){S:List Str}(h:S.length<=10)(hin:∀x∈S,x∈N.worths.map (·.1)):Sm (wgt N S):=by obtain⟨lo,a1,a2⟩:=p9_ wo _ S rfl hin;have m:1000 ^ S.length<=((1000 ^ 10:Int)).natAbs:=Au_ (Cr_ d_ h) r_;show⟨lo,Bi_ (b:=1000 ^ 10) (Au_ a1 m) r_,Bi_ (b:=1000 ^ 10) (Au_ a2 m) r_⟩
theorem LU_{p:Int×Int}(h:Ws p):Sm p:=by have:=h.1.pos;obtain⟨h1,h2,h3,h4⟩:=h;show⟨h1,Bi_ (b:=1000) o_ d_,Bi_ (b:=1000) o_ d_⟩
structure No(K:PySem.W.Frag)(mg:Str->Option Value)(CO:Addr):Prop where
 m:mg "ONE"=some (.ref CO)
 sq:∀H:Hp,SqT K H CO [.int 1,.int 1]
def LD_(K:PySem.W.Frag):Sp:=λvs H Q _=>∃(v:V)(lw:Addr)(N:Net Str)(S:List Str),vs=[v,.ref lw]/\Rep H v (Ic_ N)/\G4_ N/\WOk N/\H lw=some (.lst (S.map V.str))/\(∀x∈S,x∈N.worths.map (·.1))/\S.length<=10 /\
 ∀z H',F0_ H H'->FQ K H' z (wgt N S)->Q z H'
theorem kM_(T:Txt K mg)(hO:No K mg CZ)(F:Fn0 K mg "weight_of" Gp_) (KW_:Cal P w K mg base "times" ["one","other"] 3 (Kv_ K (λp q=>p.1*q.1) (λp q=>p.2*q.2))):Cal P w K mg base "weight_of" ["net","wires"] 4 (LD_ K):=by
  show aP_ F cs_.1 λf cdv A0 outer s H vs Q E hr h=>?_;obtain⟨v,lw,N,S,rfl,hv,ok,wo,hl,hin,s10,k⟩:=h;obtain⟨pn,p0,p1,p2,rs,wos,rfl,hn,h0,h1,r1,h2,r2⟩:=cv_ hv;have wl:wos.length=N.worths.length:=by rw[r2.length,Aa_]
  refine'⟨_,?D,?R⟩
  case D =>
   refine' ag_ (zas 2 cs_ (bE_ (eL_ rfl) gy_ T.n_dict jE_ (pa_c (F9_ au_ (zv 0 cs_) ac_) ab_))) ?a
   case' a=>refine' ag_ (zas 3 cs_ ?b) (ag_ ?c (ad_ (ap_ (zv 3 cs_))))
   case b=>show hw_ hO.m gU_
   case' c=>refine' a6_ AF_ rfl (aO_ (K:=K) rfl (zv 1 cs_)) ?d (ad_ (zas 3 cs_ (al_ KW_ (hr.mono d_) f3_ (pa_c (zv 3 cs_) (pa_c (bl_ (un1 hr.units) (zv 2 cs_) (zv 4 cs_)) ab_)))))
   case d=>show zh 4 cs_
  case R =>
   walk_at "rd";obtain⟨kvs,k1,k2,k3,k4⟩:=h5_ r2;have kl:kvs.length=N.worths.length:=by rw[<-k2,wl]
   have w15:=ok.wl;show⟨_,hn,_,HF_,p2,rfl,_,h2,kvs,k2,o_,k3,λd nd=>?_⟩;have knd:(kvs.map (·.1)).Nodup:=by rw[k1];have:=wo.nd;have:=this.map (f:=λn=>(Sum.inr n:Key)) (R:=(· ≠ ·)) (S:=(· ≠ ·)) (λa b e z=>e (BW_ z));rw[AT_]at this;show this
   have em:G0_ [] kvs=kvs:=fZ_ (by rw[DW_];show knd);rw[em];have S1:F0_ H (upd H d (.dK kvs)):=F0_.new nd;have hd:=aa_ (H:=H) (a:=d) (o:=HO.dK kvs);generalize upd H d (.dK kvs)=H1 at*;have hl1:=S1 _ _ hl;show⟨⟨_,.inl (.inl hl1)⟩,?_⟩;show bF_ (xs:=S.map V.str) (λi σ H'=>∃e4 z,σ=[some (.ref pn),some (.ref lw),some (.ref d),some z,e4]/\F0_ H1 H'/\FQ K H' z (wgt N (S.take i))) ⟨none,_,rfl,F0_.refl _,CZ,rfl,hO.sq _⟩ (λi σ H' hi ⟨e4,z,_,s',_⟩=>.inl (.inl (s' _ _ hl1))) ?_ ?_
   .rintro i x σ H' hx kk kb hk hbk G hG ⟨e4,z,rfl,s',hz⟩;rw[Ae_]at hx
    obtain⟨x0,hx0,rfl⟩:∃p,S[i]?=some p/\x=.str p:=by
     cases e:S[i]? with
     |none=>rw[e]at hx;cases hx
     |some q=>rw[e]at hx;cases hx;show⟨q,rfl,rfl⟩
    have xin:=hin x0 (Am_ hx0);have hr1:=lz_ xin;obtain⟨v,v1,v2⟩:=k4 _ hr1;obtain⟨q,rfl,hq⟩:=gG_ v2;have vg:=ol_ knd v1;have il:i<S.length:=(Ai_.mp hx0).1;have sub:∀y∈S.take i,y∈N.worths.map (·.1):=λy hy=>hin y (B4_ hy);have tl:(S.take i).length<=10:=by rw[Aw_];lia
    have wsx:Ws (Je_ N x0):=wo.ws _ hr1;have lo:=(mo_ wo tl sub).low.pos;have nz:=EZ_ lo wsx.1.pos;rw[bx_ hx0,jI_]at hk;walk_at "rd";have dg:=HC_.k (k:=.inr x0) (s' _ _ hd);show⟨_,.inl ⟨_,_,.inl (s' _ _ hd),rfl,vg.symm⟩,_,_,_,_,rfl,hz,⟨q,rfl,SqT.of (s' _ _ (S1 _ _ hq))⟩,mo_ wo tl sub,LU_ wsx,Int.ne_of_gt nz,λy H2 s2 ny hy=>?_⟩;show hk _ _ ⟨_,_,rfl,s'.trans s2,y,rfl,SqT.of hy⟩
   .rintro σ H' ⟨e4,z,rfl,s',hz⟩;rw[Aa_,Bp_]at hz;walk_at "rd";show k z H' (S1.trans s') hz
theorem qa_(hK:X.K=K):OpR X (compareOp .In) (rIn K false):=by subst hK;show ne_
theorem qb_(x:Str):∀(r:List Str),inV (.str x) (r.map V.str)=decide (x∈r)
 |[]=>rfl
 |y::r=>by
  have:=qb_ x r;simp only[inV,AW_,C6_,eqV]at this⊢;rw[this];by_cases h:y=x
  .subst h;simp
  .have h2:x≠y:=λz=>h z.symm;simp[h,h2]
theorem pn_:∀(r:List Str),(r.map V.str).all HE_=true
 |[]=>rfl
 |y::r=>by simp[HE_]
theorem om_(nd:(A.map (·.1)).Nodup)(h:A[i]?=some q):look A q.1=q.2:=by
 unfold look;have hm:q∈A:=Am_ h;cases e:A.find? λr=>decide (r.1=q.1)with
 |none =>
  have:=Do_.mp e q hm;simp at this
 |some r =>have h1:=Cq_ e;have h2:r.1=q.1:=AN_ (by simpa using ES_ e);obtain⟨j,hj⟩:=A8_.mp h1;have:j=i:=(Bb_ (by rw[Aa_];show(Ai_.mp hj).1) nd).mp (by rw[Ae_,Ae_,hj,h];show congrArg some h2);subst this;rw[hj]at h;cases h;rfl
theorem rP_{y z:Str}(nd:(A.map (·.1)).Nodup)(h:A[i]?=some (x,y)):G1_ (kP A) (.inr x) (.str z)=kP (A.set i (x,z)):=by
 have hi:=(Ai_.mp h).1;have hx:x∈A.map (·.1):=Ay_.mpr ⟨_,Am_ h,rfl⟩;unfold G1_;rw[if_pos (by rw[cf_,eB_ hx];rfl)];apply Dt_;intro j;unfold kP;rw[Ae_,Ae_,Ae_];by_cases e:j=i
 .subst e;rw[h,Cd_ hi];change some (if(Sum.inr x:Key)=Sum.inr x then _ else _)=_;rw[if_pos rfl];rfl
 .rw[Cn_ o_];cases ej:A[j]? with
  |none=>rfl
  |some q =>have hj:=(Ai_.mp ej).1;have ne:q.1≠x:=λz=>e ((Bb_ (by rw[Aa_];show hj) nd).mp (by rw[Ae_,Ae_,ej,h];show congrArg some z));change some (if(Sum.inr q.1:Key)=Sum.inr x then _ else _)=_;rw[if_neg (λz=>ne (BW_ z))];rfl
def sqH(H:Hp):Hp:=λb=>match H b with
 |some (.tup xs)=>some (.tup xs)
 |some (.lst xs)=>some (.lst xs)
 |_=>none
theorem MJ_(h:H b=some (.tup xs)):sqH H b=some (.tup xs):=by unfold sqH;rw[h]
theorem L3_(h:H b=some (.lst xs)):sqH H b=some (.lst xs):=by unfold sqH;rw[h]
theorem MA_{kvs:List (Key×V)}(h:H b=some (.dK kvs)):sqH H b=none:=by unfold sqH;rw[h]
theorem po_(H:Hp):F0_ (sqH H) H:=λb o h=>by
 unfold sqH at h;split at h
 .rename_i e;rw[e];show h
 .rename_i e;rw[e];show h
 .cases h
mutual
theorem Rep.sq{H:Hp}:∀{v:V}(d:Dt),Rep H v d->Rep (sqH H) v d
 |v,.non,h=>h
 |v,.bl b,h=>h
 |v,.int i,h=>h
 |v,.str x,h=>h
 |v,.tup ds,⟨p,xs,h1,h2,h3⟩=>⟨p,xs,h1,MJ_ h2,Gt_.sq ds h3⟩
 |v,.lst ds,⟨p,xs,h1,h2,h3⟩=>⟨p,xs,h1,L3_ h2,Gt_.sq ds h3⟩
theorem Gt_.sq{H:Hp}:∀{xs:List V}(ds:List Dt),Gt_ H xs ds->Gt_ (sqH H) xs ds
 |xs,[],h=>h
 |xs,d::ds,⟨x,r,h1,h2,h3⟩=>⟨x,r,h1,Rep.sq d h2,Gt_.sq ds h3⟩
end
theorem qX_{r:Str×(Int×Int)}(h:Gt_ H vs ((Ij_ N).map dTi))(e:N.worths[i]?=some r):∃t u,vs[i]?=some (.ref t)/\H t=some (.tup [.str (p1 (Hp_ N r.1)),.str (p2 (Hp_ N r.1)),.ref u]):=by
 have ti:(Ij_ N)[i]?=some (p1 (Hp_ N r.1),p2 (Hp_ N r.1),r.2):=by unfold Ij_;rw[Ae_,e];rfl
 have il:i<vs.length:=by rw[h.length,Aa_];show(Ai_.mp ti).1
 obtain⟨d,hd,hr⟩:=h.of_get (Ab_ il);rw[Ae_,ti]at hd;cases hd;obtain⟨a,_,ea,ha,x1,_,e1,hx1,x2,_,e2,hx2,x3,_,e3,hx3,e4⟩:=hr;subst e4 e3 e2 e1;cases hx1;cases hx2;obtain⟨u,rfl,hu⟩:=gG_ hx3;show⟨a,u,by rw[Ab_ il,ea],ha⟩
def jP(A:Pt)(a b:Str)(i:Nat):Pt:=GS_ (A.take i) a b++A.drop i
theorem qY_(A:Pt)(a b:Str)(i:Nat):(jP A a b i).map (·.1)=A.map (·.1):=by unfold jP;rw[As_,iP_,<-As_,A1_]
theorem MD_{a b:Str}(h:A[i]?=some q):(jP A a b i)[i]?=some q:=by
 have hi:=(Ai_.mp h).1;have hl:(GS_ (A.take i) a b).length=i:=by unfold GS_;rw[Aa_,Aw_];lia
 unfold jP;rw[AI_ o_,hl,List.getElem?_drop];simpa using h
theorem qZ_{a b:Str}(h:A[i]?=some q):jP A a b (i+1)=if q.2=b then(jP A a b i).set i (q.1,a)else jP A a b i:=by
 have hi:=(Ai_.mp h).1;have hl:(GS_ (A.take i) a b).length=i:=by unfold GS_;rw[Aa_,Aw_];lia
 have e1:GS_ (A.take (i+1)) a b=GS_ (A.take i) a b++[(q.1,if q.2=b then a else q.2)]:=by rw[bx_ h];unfold GS_;rw[As_];rfl
 have e2:A.drop i=q::A.drop (i+1):=by rw[BP_ hi];rw[Ab_ hi]at h;rw[Ar_ h]
 unfold jP;rw[e1,e2,AG_];split
 .rw[Fi_ _ _ o_,hl,DQ_];rfl
 .rfl
theorem mp_(E:Str->Str×Str)(T:List Str):∀(S:List Str)(P:Pt),HK_ E P (S++T)=(HK_ E P S).bind λP'=>HK_ E P' T
 |[],P=>rfl
 |x::S,P=>by
  change(Ho_ E P x).bind (λP'=>HK_ E P' (S++T))=((Ho_ E P x).bind λP'=>HK_ E P' S).bind _;cases Ho_ E P x with
  |none=>rfl
  |some P'=>show mp_ E T S P'
theorem rQ_(A:Pt)(a b:Str):jP A a b A.length=GS_ A a b:=by unfold jP;rw[Bp_,List.drop_length,AR_]
theorem rR_(ok:G4_ N)(h:x∈N.all):(p1 (Hp_ N x),p2 (Hp_ N x))=eN N x/\(eN N x).1∈N.rows.map (·.1)/\(eN N x).2∈N.rows.map (·.1):=by
 obtain⟨kv,hkv,rfl⟩:=pa_ h;obtain⟨a,b,eab⟩:=jl_ ok hkv;have ew:=mf_ hkv;rw[mm_ hkv];have e:eN N kv.1=(p1 kv,p2 kv):=by unfold eN;rw[<-ew]
 have e1:(p1 kv,p2 kv)=(a.1,b.1):=by unfold p1 p2;rw[eab];rfl
 rw[e,e1];show⟨rfl,jH_ (w:=kv.1) (by rw[<-ew,eab];show Al_),jH_ (w:=kv.1) (by rw[<-ew,eab];show Aj_ _ Al_)⟩
theorem iW_{S:List Str}(h:HK_ (eN N) (pN N) S=some A):A.map (·.1)=N.rows.map (·.1):=by rw[hI_ _ S _ _ h,jG_]
def Ge_(N:Net Str):List Str:=N.worths.map (·.1)
def IG_(N:Net Str)(S:List Str):List Str:=(Ge_ N).filter λx=>decide (x∈S)
abbrev Gr_:Stmt:=stN 47
theorem b1_:ZL ["_law_net","_law_wires","_law_lump","_law_point","_law_turns","_law_ties_here","_law_k","_law_one","_law_other"] ["_law_net","_law_wires"] (F1_ Gr_):=zL
theorem h6_:LK Gr_ "_law_ties" .globalImplicit:=r_
theorem jJ_:LK Gr_ "len" .globalImplicit:=r_
theorem im_:LK Gr_ "list" .globalImplicit:=r_
theorem h7_:LK Gr_ "range" .globalImplicit:=r_
def Mt_(H H':Hp)(v:V):Option Pt->Prop
 |none=>v=.non
 |some A=>∃d,v=.ref d/\H' d=some (.dK (kP A))/\H d=none
def IU_(K:PySem.W.Frag):Sp:=λvs H Q _=>∃(v:V)(lw:Addr)(N:Net Str)(S:List Str),vs=[v,.ref lw]/\Rep H v (Ic_ N)/\G4_ N/\WOk N/\H lw=some (.lst (S.map V.str)) /\
 ∀x H',F0_ H H'->Mt_ H H' x (HK_ (eN N) (pN N) (IG_ N S))->Q x H'
theorem on_(T:Txt K mg)(F:Fn0 K mg "_law_lumps" Gr_) (KX_:Cal P w K mg base "_law_ties" ["_law_net"] 1 Jw_):Cal P w K mg base "_law_lumps" ["_law_net","_law_wires"] 2 (IU_ K):=by
  show aP_ F b1_.1 λf cdv A0 outer s H vs Q E hr h=>?_;obtain⟨v,lw,N,S,rfl,hv,ok,wo,hS,k⟩:=h;obtain⟨pn,p0,p1,p2,rs,wos,rfl,hn,h0,h1,r1,h2,r2⟩:=cv_ hv;have rl:rs.length=N.rows.length:=by rw[r1.length,Aa_]
  have wl:wos.length=N.worths.length:=by rw[r2.length,Aa_]
  refine'⟨_,?D,?R⟩
  case D =>
   refine' af_ ?a (af_ ?b (af_ (zas 5 b1_ (al_ KX_ (hr.mono d_) h6_ (pa_c (zv 0 b1_) ab_))) ?c))
   case a=>show zas 2 b1_ eK_
   case' b=>refine' a6_ AF_ rfl (aO_ (K:=K) rfl (F9_ au_ (zv 0 b1_) ac_)) (bk_ (K:=K) (n:=2) rfl rfl (am_ ?d (am_ ?e bd_))) (ad_ (gh_ (un1 hr.units) (zv 2 b1_) (zv 3 b1_) (zv 3 b1_) rfl))
   case d=>show zh 3 b1_
   case e=>show zh 4 b1_
   case' c=>refine' ag_ (a6_ AF_ rfl (aZ_ h7_ T.n_range (pa_c (aj_ an_ jJ_ T.n_len aQ_ (pa_c (zv 5 b1_) ab_)) ab_)) ?f ?g) (ad_ (ap_ (zv 2 b1_)))
   case f=>show zh 6 b1_
   case' g=>refine' ad_ (Gz_ (ao_ (qa_ (K:=K) rfl) (F9_ au_ (F9_ ar_ (F9_ au_ (zv 0 b1_) ac_) (zv 6 b1_)) ac_) (zv 1 b1_) (by with_unfolding_all rfl)) ?h aB_)
   case' h=>refine' af_ (zas 7 b1_ (bl_ (un1 hr.units) (zv 2 b1_) (F9_ au_ (F9_ ar_ (zv 5 b1_) (zv 6 b1_)) ac_))) ?i
   case' i=>refine' af_ (zas 8 b1_ (bl_ (un1 hr.units) (zv 2 b1_) (F9_ au_ (F9_ ar_ (zv 5 b1_) (zv 6 b1_)) ac_))) ?j
   case' j=>refine' af_ (Gz_ (ao_ Hb_ (zv 7 b1_) (zv 8 b1_) (Gf_ _)) (ad_ (ap_ ?k)) aB_) ?l
   case k=>show lG_
   case' l=>refine' ad_ (a6_ AF_ rfl (aO_ (K:=K) rfl (bE_ (lh_ rfl) im_ T.n_list e6_ (pa_c (zv 2 b1_) ab_))) ?m ?n)
   case m=>show zh 3 b1_
   case' n=>refine' ad_ (Gz_ (ao_ Hb_ (bl_ (un1 hr.units) (zv 2 b1_) (zv 3 b1_)) (zv 8 b1_) (Gf_ _)) (ad_ (gh_ (un1 hr.units) (zv 2 b1_) (zv 3 b1_) (zv 7 b1_) rfl)) aB_)
  case R =>
   walk_at "rd";intro dd nd;have S0:F0_ H (upd H dd (.dK [])):=F0_.new nd;have hd0:=aa_ (H:=H) (a:=dd) (o:=HO.dK []);generalize upd H dd (.dK [])=Ha at*;walk_at "rd";have few:=ok.few;have rnd:=ok.nd;show⟨_,S0 _ _ hn,_,Hm_,p1,rfl,⟨_,.inl (.inl (S0 _ _ h1))⟩,?_⟩;show bF_ (xs:=rs) (λi σ H'=>∃e3 e4,σ=[some (.ref pn),some (.ref lw),some (.ref dd),e3,e4,none,none,none,none]/\F0_ H H'/\H' dd=some (.dK (kP (((N.rows.map (·.1)).take i).map λp=>(p,p))))) ⟨none,none,rfl,S0,hd0⟩ (λi σ H' hi ⟨e3,e4,_,s',_⟩=>.inl (.inl (s' _ _ h1))) ?_ ?_
   .rintro i x σ H' hx kk kb hk hbk G hG ⟨e3,e4,rfl,s',hd⟩;obtain⟨r,q,l,hr1,rfl,hq,hl⟩:=fV_ r1 hx;have hrow:(N.rows.map (·.1))[i]?=some r.1:=by rw[Ae_,hr1];rfl
    have il:=(Ai_.mp hrow).1;rw[bx_ hrow,As_]at hk
    have nin:r.1∉(((N.rows.map (·.1)).take i).map λp=>(p,p)).map (·.1):=by
     rw[AT_,show((λx:Str×Str=>x.1) ∘ λp=>(p,p))=id from rfl,FY_];intro z;obtain⟨j,hj⟩:=A8_.mp z;rw[Dn_]at hj;split at hj
     .have:=(Bb_ il rnd).mp (hrow.trans hj.symm);lia
     .cases hj
    walk_at "rd";have i16:i<16:=by rw[Aa_]at il;lia
    show⟨_,SqT.of (s' _ _ hq),rfl,_,_,rfl,_,_,rfl,rfl,_,Jb_.k (k:=.inr r.1) hd (by rw[gQ_,Aa_,Aw_];show F3_ o_),hk _ _ ⟨_,_,rfl,s'.upd nd,by rw[aa_];show congrArg _ (congrArg _ (p6_ nin))⟩⟩
   .rintro σ H' ⟨e3,e4,rfl,s',hd⟩;rw[rl,<-Aa_ (f:=λx:Str×List Str=>x.1),Bp_]at hd
    replace hd:H' dd=some (.dK (kP (pN N))):=hd
    walk_at "rd";show⟨_,N,rfl,Rep.mono s' _ hv,ok,wo,λD Hb sb nD rD=>?_⟩;obtain⟨_,ts,e0,hts,rts⟩:=id rD;cases e0;have sHb:=s'.trans sb;have hdb:=sb _ _ hd;have tl:ts.length=N.worths.length:=by rw[rts.length,Aa_];unfold Ij_;rw[Aa_]
    have w15:=ok.wl;walk_at "rd";have el:(((ts.length:Nat):Int)).toNat=N.worths.length:=by rw[tl];show AK_ _
    have nnd:(Ge_ N).Nodup:=wo.nd;show⟨ts,.inl hts,o_,o_,?_⟩;rw[el];have sq:=po_ Hb;have qd:=MA_ hdb;have qD:=L3_ hts;have rq:=Gt_.sq _ rts;show bU_ (λi σ H'=>∃e3 e4 e6 e7 e8 A,σ=[some (.ref pn),some (.ref lw),some (.ref dd),e3,e4,some (.ref D),e6,e7,e8]/\F0_ H H'/\F0_ (sqH Hb) H'/\H' dd=some (.dK (kP A))/\HK_ (eN N) (pN N) (((Ge_ N).take i).filter λx=>decide (x∈S))=some A) ⟨e3,e4,none,none,none,_,rfl,sHb,sq,hdb,rfl⟩ ?_ ?_
    .rintro i σ H' hi kk kb hk hbk G hG ⟨e3,e4,e6,e7,e8,A,rfl,sh,s2,hdd,run⟩;have hr1:N.worths[i]?=some (N.worths[i]'hi):=Ab_ _;generalize N.worths[i]'hi=r at*;have hnm:(Ge_ N)[i]?=some r.1:=by unfold Ge_;rw[Ae_,hr1];rfl
     obtain⟨q,hq,hrep⟩:∃q,wos[i]?=some (.ref q)/\∃u,H q=some (.tup [.str r.1,.ref u]):=by
      have il:i<wos.length:=o_
      obtain⟨r',q,u,e1,e2,e3,_⟩:=h0_ r2 (Ab_ il);rw[hr1]at e1;cases e1;show⟨q,by rw[Ab_ il,e2],u,e3⟩
     obtain⟨u,hq2⟩:=hrep;obtain⟨t,u2,ht1,ht2⟩:=qX_ rq hr1;have xall:r.1∈N.all:=(wo.mem _).mp (Am_ hnm);obtain⟨ee,in1,in2⟩:=rR_ ok xall;have ee1:Rim23.p1 (Hp_ N r.1)=(eN N r.1).1:=congrArg Prod.fst ee;have ee2:Rim23.p2 (Hp_ N r.1)=(eN N r.1).2:=congrArg Prod.snd ee;rw[ee1,ee2]at ht2;have keys:=iW_ run;have A16:A.length<=16:=by have:=congrArg List.length keys;rw[Aa_,Aa_]at this;lia
     have And:(A.map (·.1)).Nodup:=by rw[keys];show ok.nd
     rw[bx_ hnm,A5_]at hk;walk_at "rd";have at0:∀{xs:List V}{v:V},xs[i]?=some v->atI xs (0+(i:Int))=some v:=λ{xs v} h=>by rw[Cx_];show i3_ h
     show⟨_,sh _ _ hn,_,HF_,p2,rfl,_,sh _ _ h2,_,at0 hq,q,rfl,_,sh _ _ hq2,_,G2_,_,.inl (.inl (.inl (sh _ _ hS))),rfl,pn_ _,?_⟩;rw[qb_];by_cases hin:r.1∈S
     .rw[if_pos (AL_ hin)];rw[f0_ (p:=λx=>decide (x∈S)) (x:=r.1) (AL_ hin),fJ_,run]at hk;walk_at "rd";have dg:∀{x:Str},x∈N.rows.map (·.1)->HC_ H' dd (.str x) (some (.str (look A x))):=λ{x} hx=>by have:=HC_.k (k:=.inr x) hdd;rw[eB_ (by rw[keys];show hx)]at this;show this
      show⟨_,s2 _ _ qD,_,at0 ht1,t,rfl,_,s2 _ _ ht2,_,G2_,_,dg in1,?_⟩;walk_at "rd";show⟨_,s2 _ _ qD,_,at0 ht1,t,rfl,_,s2 _ _ ht2,_,Hm_,_,dg in2,?_⟩;walk_at "rd";have stp:Ho_ (eN N) A r.1=if look A (eN N r.1).1=look A (eN N r.1).2 then none else some (GS_ A (look A (eN N r.1).1) (look A (eN N r.1).2)):=rfl;generalize look A (eN N r.1).1=la at*;generalize look A (eN N r.1).2=lb at*;show ite2 (λe=>?_) (λne=>?_)
      .rw[if_pos e]at stp;show k _ _ sh ?_;have e0:HK_ (eN N) (pN N) (((Ge_ N).take (i+1)).filter λx=>decide (x∈S))=none:=by rw[bx_ hnm,A5_,f0_ (p:=λx=>decide (x∈S)) (x:=r.1) (AL_ hin),fJ_,run];show stp
       have e1:HK_ (eN N) (pN N) (IG_ N S)=none:=by unfold IG_;rw[<-A1_ (i+1) (Ge_ N),A5_,mp_,e0];rfl
       rw[e1];show rfl
      .rw[if_neg ne]at stp;walk_at "rd";show⟨dd,_,A.map (·.1),rfl,hdd,by unfold kP;rw[AT_,AT_];rfl,by rw[Aa_];lia,λl nl=>?_⟩;have S3:F0_ H' (upd H' l (.lst ((A.map (·.1)).map V.str))):=F0_.new nl;have hl3:=aa_ (H:=H') (a:=l) (o:=HO.lst ((A.map (·.1)).map V.str));have ldd:l≠dd:=λe=>by rw[e,hdd]at nl;cases nl
       generalize upd H' l (.lst ((A.map (·.1)).map V.str))=H3 at*;show⟨l,rfl,⟨_,.inl (.inl hl3)⟩,?_⟩;show bF_ (xs:=(A.map (·.1)).map V.str) (λj σ H4=>∃e3,σ=[some (.ref pn),some (.ref lw),some (.ref dd),e3,e4,some (.ref D),some (.int (0+(i:Int))),some (.str la),some (.str lb)]/\F0_ H H4/\F0_ (sqH Hb) H4/\H4 l=some (.lst ((A.map (·.1)).map V.str))/\H4 dd=some (.dK (kP (jP A la lb j)))) ⟨e3,rfl,sh.trans S3,s2.trans S3,hl3,S3 _ _ hdd⟩ (λj σ H4 hj ⟨e3,_,_,_,h4,_⟩=>.inl (.inl h4)) ?_ ?_
       .rintro j x σ H4 hx kk2 kb2 hk2 hbk2 G2 hG2 ⟨e3,rfl,sh4,s24,hl4,hd4⟩
        obtain⟨q,hq,rfl⟩:∃q,A[j]?=some q/\x=.str q.1:=by
         rw[Ae_,Ae_]at hx;cases e:A[j]? with
         |none=>rw[e]at hx;cases hx
         |some q=>rw[e]at hx;cases hx;show⟨q,rfl,rfl⟩
        have jk:=qY_ A la lb j;have jn:((jP A la lb j).map (·.1)).Nodup:=by rw[jk];show And
        have ja:=MD_ (a:=la) (b:=lb) hq;have jl:(jP A la lb j).length<=16:=by have:=congrArg List.length jk;rw[Aa_,Aa_]at this;lia
        have dg:=HC_.k (k:=.inr q.1) hd4;rw[eB_ (by rw[jk];show B9_ (Am_ hq)),om_ jn ja]at dg;have nx:=qZ_ (a:=la) (b:=lb) hq;walk_at "rd";show⟨_,dg,rfl,ite2 (λe=>?_) (λne=>?_)⟩
        .have e:q.2=lb:=by first|show e|show V.str.inj e
         rw[if_pos e]at nx;show⟨_,Jb_.k (k:=.inr q.1) hd4 (by rw[gQ_];show F3_ o_),hk2 _ _ ⟨_,rfl,sh4.upd nd,s24.upd qd,?_,?_⟩⟩
         .rw[ae_ ldd];show hl4
         .rw[aa_,nx];show congrArg some (congrArg HO.dK (rP_ jn (x:=q.1) (y:=q.2) ja))
        .have ne:¬ q.2=lb:=λz=>ne (by first|show z|show congrArg V.str z);rw[if_neg ne]at nx;show hk2 _ _ ⟨_,rfl,sh4,s24,hl4,by rw[nx];show hd4⟩
       .rintro σ H4 ⟨e3,rfl,sh4,s24,hl4,hd4⟩;rw[Aa_,Aa_,rQ_]at hd4;show hk _ _ ⟨_,_,_,_,_,_,rfl,sh4,s24,hd4,stp⟩
     .rw[if_neg (by rw[Bl_];show hin)];rw[g7_ (p:=λx=>decide (x∈S)) (x:=r.1) (AE_ hin),AR_]at hk;show hk _ _ ⟨e3,e4,_,e7,e8,A,rfl,sh,s2,hdd,run⟩
    .rintro σ H' ⟨e3,e4,e6,e7,e8,A,rfl,sh,s2,hdd,run⟩;walk_at "rd";show k _ _ sh ?_;rw[AV_ (by unfold Ge_;rw[Aa_];lia)]at run;unfold IG_;rw[run];show⟨dd,rfl,hdd,nd⟩
def HJ_(N:Net Str)(S:List Str)(u:List Nat):Prop:=∃A,HK_ (eN N) (pN N) (IG_ N S)=some A/\JP N.posts A=some u
def JT_(N:Net Str)(pair:List Str)(u:List Nat):Prop:=(pair=[]/\u=[])\/∃i j:Nat,i<N.posts.length/\j<N.posts.length/\i≠j/\pair=[N.posts.getD i Str.empty,N.posts.getD j Str.empty]/\u=[min i j,max i j]
theorem jK_(l:List Dt):deq (.lst l) (.lst [])=some (decide (l.length=0)):=by
 cases l with
 |nil=>rfl
 |cons a l=>simp[deq,deqs]
theorem mq_(l:List Str):dep (.lst (l.map Dt.str))<=60:=Au_ (BY_ (ez_ (f:=Dt.str) (n:=1) (λr=>by simp[dep]) _)) d_
theorem kN_:∀(a b:List Str),deqs (a.map Dt.str) (b.map Dt.str)=some (decide (a=b))
 |[],[]=>by simp[deqs]
 |[],_::_=>by simp[deqs]
 |_::_,[]=>by simp[deqs]
 |x::a,y::b=>by rw[AW_,AW_];simp only[deqs,deq,kN_ a b];congr 1;rw[CI_];simp
theorem pp_(a b:List Str):deq (.lst (a.map Dt.str)) (.lst (b.map Dt.str))=some (decide (a=b)):=by
 simp only[deq,Aa_];split
 .show kN_ a b
 .rename_i h;rw[AE_ (λz=>h (by rw[z]))]
theorem mV_{α β:Type}(d:α)(f:α->Bool)(g:α->β)(ls:List α):((List.range ls.length).filter λi=>f (ls.getD i d)).map (λi=>g (ls.getD i d))=(ls.filter f).map g:=by
 conv=>rhs;rw[<-RimT.iC_ d ls,ET_,AT_]
 rfl
theorem oo_(a b:Str):sLe a b\/sLe b a:=by
 unfold sLe;by_cases h:b.cps.toList<a.cps.toList
 .show .inr (λz=>Fz_ h z)
 .show .inl h
def srt(l:List Str):List Str:=l.mergeSort λa b=>decide (¬ b.cps.toList<a.cps.toList)
theorem g8_(l:List Str):(srt l).Perm l:=List.mergeSort_perm _ _
theorem mr_(l:List Str):(srt l).Pairwise sLe:=by
 have:=List.pairwise_mergeSort (le:=λa b:Str=>decide (¬ b.cps.toList<a.cps.toList)) (λa b c h1 h2=>AL_ (p:=¬ c.cps.toList<a.cps.toList) (sLe.trans (a:=a) (b:=b) (c:=c) (show ¬ b.cps.toList<a.cps.toList from AN_ h1) (show ¬ c.cps.toList<b.cps.toList from AN_ h2))) (λa b=>by
  rcases oo_ a b with h|h
  .rw[AL_ (p:=¬ b.cps.toList<a.cps.toList) h];rfl
  .rw[AL_ (p:=¬ a.cps.toList<b.cps.toList) h,Bool.or_true]) l
 show this.imp λh=>AN_ h
theorem op_{l zs:List Str}(h:zs.Perm l)(s:zs.Pairwise sLe):zs=srt l:=hA_ (λx y=>sLe.antisymm) (h.trans (g8_ l).symm) s (mr_ l)
theorem rS_{l m:List Str}(h:l.Perm m):srt l=srt m:=op_ ((g8_ l).trans h) (mr_ l)
theorem pq_{l m:List Str}(h:srt l=srt m):l.Perm m:=(g8_ l).symm.trans (h▸g8_ m)
theorem oq_{m:Str}(nd:posts.Nodup){j:Nat}(hi:i<posts.length)(hj:j<posts.length)(hij:i≠j):srt (GX_ posts A m)=srt [posts.getD i Str.empty,posts.getD j Str.empty]↔GX_ posts A m=[posts.getD (min i j) Str.empty,posts.getD (max i j) Str.empty]:=by
 constructor
 .intro h;have hp:=pq_ h;rw[ep_]at hp⊢;have asc:=n2_ posts A m;have lt:∀k∈GK_ posts A m,k<posts.length:=λk hk=>(eo_.mp hk).1;have hl:=hp.length_eq;rw[Aa_]at hl;generalize GK_ posts A m=ns at*
  obtain⟨x,y,rfl⟩:∃x y,ns=[x,y]:=by
   cases ns with
   |nil=>cases hl
   |cons x t=>cases t with
    |nil=>cases hl
    |cons y t=>cases t with
     |nil=>show⟨x,y,rfl⟩
     |cons z t=>simp at hl
  have xy:x<y:=(CM_.mp asc).1 y s_;have mx:=hp.mem_iff.mp (Al_ (a:=posts.getD x Str.empty));have my:=hp.mem_iff.mp (Aj_ _ (Ag_.mpr rfl):posts.getD y Str.empty∈[x,y].map λi=>posts.getD i Str.empty);simp only[Aq_,Bk_,Ez_]at mx my;have lx:=lt x s_;have ly:=lt y s_;have ex:x=i\/x=j:=mx.imp (GQ_ nd lx hi) (GQ_ nd lx hj);have ey:y=i\/y=j:=my.imp (GQ_ nd ly hi) (GQ_ nd ly hj);have e1:x=min i j:=o_
  have e2:y=max i j:=o_
  rw[e1,e2];rfl
 .intro h;rw[h];show rS_ ?_
  rcases Nat.lt_or_ge i j with c|c
  .rw[Ck_ o_,Nat.max_eq_right o_]
  .rw[EG_ o_,Nat.max_eq_left o_];show List.Perm.swap _ _ _
def dLs(l:List (List Str)):Dt:=.lst (l.map λt=>.lst (t.map Dt.str))
theorem ms_:∀(a b:List (List Str)),deqs (a.map λt=>Dt.lst (t.map Dt.str)) (b.map λt=>Dt.lst (t.map Dt.str))=some (decide (a=b))
 |[],[]=>by simp[deqs]
 |[],_::_=>by simp[deqs]
 |_::_,[]=>by simp[deqs]
 |x::a,y::b=>by rw[AW_,AW_,deqs,pp_ x y,ms_ a b];change some (decide (x=y) && decide (a=b))=_;congr 1;rw[CI_];simp
theorem lC_(a b:List (List Str)):deq (dLs a) (dLs b)=some (decide (a=b)):=by
 unfold dLs;rw[deq,Aa_,Aa_];split
 .show ms_ a b
 .rename_i h;rw[AE_ (λz=>h (by rw[z]))]
theorem lD_(l:List (List Str)):dep (dLs l)<=60:=by have:deps (l.map λt=>Dt.lst (t.map Dt.str))<=2:=ez_ (f:=λt:List Str=>Dt.lst (t.map Dt.str)) (n:=2) (λr=>BY_ (ez_ (f:=Dt.str) (n:=1) (λr=>by simp[dep]) _)) _;show Au_ (BY_ this) d_
theorem or_:∀{acc:List (Str×List (End Str))}{ls:List Addr}{i:Nat}{k:Key}{x:V},(GO_ acc ls)[i]?=some (k,x)->∃kv l,acc[i]?=some kv/\ls[i]?=some l/\k=.inr kv.1/\x=.ref l
 |[],_,_,_,_,h=>by unfold GO_ at h;rw[DF_]at h;cases h
 |_::_,[],_,_,_,h=>by cases h
 |kv::acc,l::ls,0,_,_,h=>by cases h;show⟨kv,l,rfl,rfl,rfl,rfl⟩
 |kv::acc,l::ls,i+1,_,_,h=>or_ (acc:=acc) (ls:=ls) (i:=i) h
theorem q0_(hl:ls.length=acc.length):(Gw_ (GO_ acc ls) (.inr x)).isSome=decide (x∈acc.map (·.1)):=by
 by_cases h:∃kv∈acc,kv.1=x
 .obtain⟨i0,es,g1,g2,_⟩:=bT_ (e:=((x,0):End Str)) h;obtain⟨lw,l1,l2⟩:=cj_ hl g1 g2;rw[l2,AL_]
  .rfl
  .obtain⟨kv,h1,h2⟩:=h;show Ay_.mpr ⟨kv,h1,h2⟩
 .rw[eR_ (λkv hkv z=>h ⟨kv,hkv,z⟩),AE_]
  .rfl
  .intro z;obtain⟨kv,h1,h2⟩:=Ay_.mp z;show h ⟨kv,h1,h2⟩
theorem h8_:∀(n:Nat)(l:List (Str×End Str)),l.length=n->(Gq_ l).length<=n
 |0,l,h=>by rw[AB_ h];show Af_ _
 |n+1,l,h=>by
  obtain⟨us,x,rfl⟩:∃us w,l=us++[w]:=have ne:l≠[]:=(by intro e;rw[e]at h;cases h);⟨l.dropLast,l.getLast ne,(Bf_ ne).symm⟩;have hl:us.length=n:=by simpa using h
  have ih:=h8_ n us hl;rw[cH_];have:=congrArg List.length (dp_ (a:=Gq_ us) (w:=x.1) (e:=x.2));rw[Aa_]at this;split at this
  .rw[Aa_]at this;lia
  .rw[Ak_,Aa_]at this;simp only[A0_,DP_]at this;lia
theorem pr_(l:Str):l∈(Gq_ (posts.map λp=>(look A p,((p,0):End Str)))).map (·.1)↔GK_ posts A l≠[]:=by
 have fs:=bj_ _ (posts.map λp=>(look A p,((p,0):End Str))) rfl;constructor
 .intro h;obtain⟨kv,h1,rfl⟩:=Ay_.mp h;obtain⟨x,hx,e⟩:=fs.2.2.2 kv h1;obtain⟨p,hp,rfl⟩:=Ay_.mp hx;obtain⟨i,hi,rfl⟩:=Az_.mp hp;show List.ne_nil_of_mem (a:=i) (eo_.mpr ⟨hi,?_⟩);rw[Ac_,Ab_ hi];show e
 .intro h;obtain⟨i,hi⟩:=Eu_ _ h;obtain⟨h1,h2⟩:=eo_.mp hi;rw[Ac_,Ab_ h1]at h2;obtain⟨kv,k1,k2⟩:=fs.2.2.1 (look A posts[i],(posts[i],0)) (Ay_.mpr ⟨posts[i],BJ_ h1,rfl⟩);show Ay_.mpr ⟨kv,k1,k2.trans h2⟩
theorem os_{kv:Str×List (End Str)}(h:kv.2=((posts.map λp=>(look A p,((p,0):End Str))).filter λx=>decide (x.1=kv.1)).map (·.2)):kv.2.map (·.1)=GX_ posts A kv.1:=by rw[h,ET_,AT_,AT_];show FR_ _
abbrev Gm_:Stmt:=stN 48
theorem cY_:ZM ["_law_net","_law_wires","_law_pair","_law_lump","_law_met","_law_post","_law_double"] ["_law_net","_law_wires","_law_pair"] (F1_ Gm_):=zM
theorem cG_:LK Gm_ "_law_lump" .cell:=r_
theorem d6_:LK Gm_ "_law_met" .cell:=r_
theorem d7_:LK Gm_ "_law_post" .local:=r_
theorem f5_:LK Gm_ "_law_double" .local:=r_
theorem f6_:LK Gm_ "_law_lumps" .globalImplicit:=r_
def Kn_(K:PySem.W.Frag):Sp:=λvs H Q _=>∃(v:V)(lw pr:Addr)(N:Net Str)(S pair:List Str)(u:List Nat),vs=[v,.ref lw,.ref pr]/\Rep H v (Ic_ N)/\G4_ N/\Hh_ N/\WOk N/\H lw=some (.lst (S.map V.str))/\H pr=some (.lst (pair.map V.str))/\JT_ N pair u /\
 ∀b H',F0_ H H'->(b=true↔HJ_ N S u)->Q (.bl b) H'
theorem lE_(T:Txt K mg)(F:Fn0 K mg "_law_is_wood" Gm_) (Kf_:Cal P w K mg base "_law_lumps" ["_law_net","_law_wires"] 2 (IU_ K)):Cal P w K mg base "_law_is_wood" ["_law_net","_law_wires","_law_pair"] 3 (Kn_ K):=by
  show aP_ F cY_.1 λf cdv A0 outer s H vs Q E hr h=>?_;obtain⟨v,lw,pr,N,S,pair,u,rfl,hv,ok,po,wo,hS,hpr,pk,k⟩:=h;obtain⟨pn,p0,p1,p2,rs,wos,rfl,hn,h0,h1,r1,h2,r2⟩:=cv_ hv;refine'⟨_,?D,?R⟩
  case D =>
   refine' af_ (e7_ (i:=3) cY_.nd rfl cG_ rfl (al_ Kf_ (hr.mono d_) f6_ (pa_c (zw 0 cY_) (pa_c (zw 1 cY_) ab_))) rfl) ?a
   case' a=>refine' af_ (Gz_ (lI_ (pB_ (zw 3 cY_))) (ad_ (ap_ HN_)) aB_) ?b
   case' b=>refine' af_ (e7_ (i:=4) cY_.nd rfl d6_ rfl eK_ rfl) (af_ (a6_ AF_ rfl (aO_ (K:=K) rfl (F9_ au_ (zw 0 cY_) ac_)) ?c (ad_ ?d)) ?e)
   case c=>show ak_ (i:=5) cY_.nd rfl d7_
   case' d=>refine' a4_ (Hc_ AP_ A2_ A3_ a0_ (Hc_ BH_ BD_ Cc_ dO_ (zw 4 cY_) (pa_c (bl_ (un1 hr.units) (zw 3 cY_) (zw 5 cY_)) (pa_c (aY_ ab_) ab_))) (pa_c (zw 5 cY_) ab_))
   case' e=>refine' af_ (Gz_ ?f (ad_ (ap_ HN_)) aB_) (af_ ?g (ad_ ?h))
   case' f=>refine' ao_ (iw_ (hr.units)) (di_ (N':=["_law_point","_law_lump","_law_met"]) (ix:=[none,some 3,some 4]) rfl rfl (cy_ ?i) (oV_ (zw 3 cY_)) (λ_ _ _=>?j) (λ_ _ _=>(iv_ (lI_ (nw_ (un1 hr.units) (bl_ (un1 hr.units) (pvc 1 rfl rfl) (pv1 0 rfl rfl)) (pvc 2 rfl rfl))))) (λ_ _ _=>(pv1 0 rfl rfl))) (aY_ ab_) (Gf_ _)
   case i=>show(by change Ih_ (F1_ Gm_) ["_law_net","_law_wires","_law_pair","_law_lump","_law_met","_law_post","_law_double"] _ _ _=true;decide +kernel)
   case j=>show ak_ (i:=0) (by change List.Nodup (["_law_point","_law_lump","_law_met"]:List Str);decide +kernel) rfl rfl
   case' g=>refine' hm_ (i:=6) (N':=["_law_posts"]) (ix:=[none]) rfl rfl cY_.nd rfl f5_ rfl (cy_ ?k) (hH_ (zw 4 cY_)) (λ_ _ _=>?l) (λ_ _ _=>(iv_ (ao_ HV_ (aj_ an_ rfl T.n_len aQ_ (pa_c (pv1 0 rfl rfl) ab_)) ac_ (Gf_ _)))) (λ_ _ _=>(aj_ iF_ rfl T.n_sorted bB_ (pa_c (pv1 0 rfl rfl) ab_)))
   case k=>show(by change Ih_ (F1_ Gm_) ["_law_net","_law_wires","_law_pair","_law_lump","_law_met","_law_post","_law_double"] _ _ _=true;decide +kernel)
   case l=>show ak_ (i:=0) (by change List.Nodup (["_law_posts"]:List Str);decide +kernel) rfl rfl
   case' h=>refine' ap_ (el_ (nl_ (hr.units)) (zw 6 cY_) (di_ (N':=["_law_one"]) (ix:=[none]) rfl rfl (cy_ ?m) (aO_ (K:=K) rfl (aY_ (pa_c (zw 2 cY_) ab_))) (λ_ _ _=>?n) (λ_ _ _=>?o) (λ_ _ _=>(aj_ iF_ rfl T.n_sorted bB_ (pa_c (pv1 0 rfl rfl) ab_)))) (Gf_ _))
   case m=>show(by change Ih_ (F1_ Gm_) ["_law_net","_law_wires","_law_pair","_law_lump","_law_met","_law_post","_law_double"] _ _ _=true;decide +kernel)
   case n=>show ak_ (i:=0) (by change List.Nodup (["_law_one"]:List Str);decide +kernel) rfl rfl
   case' o=>refine' iv_ (ao_ (iw_ (hr.units)) (pv1 0 rfl rfl) (aY_ ab_) (Gf_ _))
  case R =>
   walk_at "rd";show⟨_,lw,N,S,rfl,hv,ok,wo,hS,λx H1 s1 hx=>?_⟩;walk_at "rd";cases hrun:HK_ (eN N) (pN N) (IG_ N S)with
   |none =>
    rw[hrun]at hx;rw[if_pos (show x=.non from hx)];show k false _ s1 ⟨nofun,λ⟨A,e,_⟩=>?_⟩;rw[hrun]at e;cases e
   |some A =>
    rw[hrun]at hx;obtain⟨d,rfl,hd,nd⟩:=hx;rw[if_neg (λz=>nomatch z)];have iw:HJ_ N S u↔JP N.posts A=some u:=⟨λ⟨B,e,j⟩=>by rw[hrun]at e;cases e;show j,λj=>⟨A,hrun,j⟩⟩;have keys:=iW_ hrun;have A16:A.length<=16:=by have:=congrArg List.length keys;rw[Aa_,Aa_]at this;have:=ok.few;lia
    have And:(A.map (·.1)).Nodup:=by rw[keys];show ok.nd
    have pin:∀p∈N.posts,p∈A.map (·.1):=λp hp=>by rw[keys];show po.pin p hp
    have p6:=ok.pl;rw[iw]at k;clear hrun iw;walk_at "rd";intro md nmd;have S2:F0_ H1 (upd H1 md (.dK [])):=F0_.new nmd;have hm2:=aa_ (H:=H1) (a:=md) (o:=HO.dK []);generalize upd H1 md (.dK [])=H2 at*;have mS:H1 md=none:=nmd;walk_at "rd";have h02:=S2 _ _ (s1 _ _ h0);show⟨_,S2 _ _ (s1 _ _ hn),_,G2_,p0,rfl,⟨_,.inl (.inl h02)⟩,?_⟩;have D0:DE dP H1 H2 md [] (Gq_ (((N.posts.take 0).map λp=>(look A p,(p,0))))):=⟨S2,hm2,rfl,Bn_,λz=>(by cases z),λi l kv z=>(by cases z),nmd,λl z=>(by cases z)⟩;show bF_ (xs:=N.posts.map V.str) (λi σ H'=>∃(e5:Option V)(ls:List Addr),σ=[some (.ref pn),some (.ref lw),some (.ref pr),some (.ref d),some (.ref md),e5,none]/\DE dP H1 H' md ls (Gq_ ((N.posts.take i).map λp=>(look A p,(p,0))))) ⟨none,[],rfl,D0⟩ (λi σ H' hi ⟨e5,ls,_,de⟩=>.inl (.inl (de.sH _ _ (s1 _ _ h0)))) ?_ ?_
    .rintro i x σ H' hx kk kb hk hbk G hG ⟨e5,ls,rfl,de⟩;rw[Ae_]at hx
     obtain⟨post,hpo,rfl⟩:∃p,N.posts[i]?=some p/\x=.str p:=by
      cases e:N.posts[i]? with
      |none=>rw[e]at hx;cases hx
      |some q=>rw[e]at hx;cases hx;show⟨q,rfl,rfl⟩
     have i6:i<N.posts.length:=(Ai_.mp hpo).1;have hin:=pin post (Am_ hpo);rw[bx_ hpo,As_,BG_,cH_]at hk;have alen:∀kv∈Gq_ ((N.posts.take i).map λp=>(look A p,((p,0):End Str))),kv.2.length<=6:=λkv hkv=>by rw[(bj_ _ _ rfl).2.1 kv hkv,Aa_];show Au_ (Bj_ _ _) ?_;rw[Aa_,Aw_];lia
     have klen:(Gq_ ((N.posts.take i).map λp=>(look A p,((p,0):End Str)))).length<=30:=by show Au_ (h8_ _ _ rfl) ?_;rw[Aa_,Aw_];lia
     generalize Gq_ ((N.posts.take i).map λp=>(look A p,((p,0):End Str)))=acc at*;walk_at "rd";have dg:=HC_.k (k:=.inr post) (de.sH _ _ hd);rw[eB_ hin]at dg;show⟨.inr (.inr (.inl (.inl ⟨_,de.dict⟩))),_,dg,Av_ _,λq nq=>?_⟩;have qd:q≠md:=(ah_ de.dict nq).symm;have ql:q∉ls:=λz=>by obtain⟨i0,hi0,ei⟩:=Az_.mp z;obtain⟨vs,z2,_⟩:=de.lst i0 q (acc[i0]'(by rw[<-de.len];show hi0)) (by rw[Ab_ hi0,ei]) (Ab_ _);rw[nq]at z2;cases z2
     have Sq:H1 q=none:=de.sH.free nq;have de3:=de.mono (F0_.new nq (o:=HO.lst []));have hq4:=aa_ (H:=H') (a:=q) (o:=HO.lst []);generalize upd H' q (HO.lst [])=H4 at*;generalize look A post=wr at*;show⟨_,.inr wr,rfl,de3.dict,by rw[jB_ de3.len];lia,λv2 hv2=>?_,λhnone=>?_⟩
     .have hex:∃kv∈acc,kv.1=wr:=by
       by_cases hc:∃kv∈acc,kv.1=wr
       .show hc
       .rw[eR_ (λkv hkv z=>hc ⟨kv,hkv,z⟩)]at hv2;cases hv2
      obtain⟨i0,es,g1,g2,g3⟩:=bT_ (e:=(post,0)) hex;obtain⟨lw,l1,l2⟩:=cj_ de3.len g1 g2;rw[l2]at hv2;cases hv2;obtain⟨vs,hvs,hrep⟩:=de3.lst i0 lw _ l1 g1;have vle:vs.length<=30:=by rw[hrep.length,Aa_];show Au_ (alen _ (Am_ g1)) d_
      show⟨.inl ⟨_,.inl (.inl hvs)⟩,lw,rfl,vs,hvs,F3_ o_,?_⟩;rw[g3]at hk;show hk _ _ ⟨_,ls,rfl,de3.old g1 l1 hvs hrep (e:=(post,0)) rfl⟩
     .have hno:∀kv∈acc,kv.1≠wr:=λkv hkv z=>by obtain⟨i0,es,g1,g2,g3⟩:=bT_ (e:=(post,0)) ⟨kv,hkv,z⟩;obtain⟨lw,l1,l2⟩:=cj_ de3.len g1 g2;rw[l2]at hnone;cases hnone
      have hqd:upd H4 md (HO.dK (G1_ (GO_ acc ls) (Sum.inr wr) (V.ref q))) q=some (.lst []):=by rw[ae_ qd];show hq4
      rw[fF_ hno]at hk;show⟨.inl ⟨_,.inl (.inl hqd)⟩,[],hqd,F3_ d_,hk _ _ ⟨_,ls++[q],rfl,de3.new (e:=(post,0)) (q:=q) hno hq4 qd ql Sq rfl⟩⟩
    .rintro σ H' ⟨e5,ls,rfl,de⟩;rw[Aa_,Bp_]at de;have fs:=bj_ _ ((N.posts.map λp=>(look A p,((p,0):End Str)))) rfl;have klen:(Gq_ ((N.posts.map λp=>(look A p,((p,0):End Str))))).length<=6:=by show Au_ (h8_ _ _ rfl) ?_;rw[Aa_];lia
     have fM:∀l,l∈(Gq_ ((N.posts.map λp=>(look A p,((p,0):End Str))))).map (·.1)↔GK_ N.posts A l≠[]:=pr_;have fN:∀kv∈Gq_ ((N.posts.map λp=>(look A p,((p,0):End Str)))),kv.2.map (·.1)=GX_ N.posts A kv.1:=λkv h=>os_ (fs.2.1 kv h);have ndM:=fs.1;generalize Gq_ ((N.posts.map λp=>(look A p,((p,0):End Str))))=acc at*;clear fs;walk_at "rd";have hd':=de.sH _ _ hd;have lfl:=de.fl;have ll:=de.len;have hmd0:=de.dict;have hls0:∀(i:Nat) l kv,ls[i]?=some l->acc[i]?=some kv->H' l=some (.lst (kv.2.map λe=>V.str e.1)):=λi l kv e1 e2=>by obtain⟨vs,h1,h2⟩:=de.lst i l kv e1 e2;rw[h1,lx_ h2]
     show⟨_,hd',λob=>?_⟩;have mdd:md≠d:=λe=>by have:=de.fd;rw[e,hd]at this;cases this
     have hmd:upd H' d (HO.frz ob (HO.dK (kP A))) md=some (.dK (GO_ acc ls)):=(ae_ mdd).trans hmd0;have hls:∀(i:Nat) l kv,ls[i]?=some l->acc[i]?=some kv->upd H' d (HO.frz ob (HO.dK (kP A))) l=some (.lst (kv.2.map λe=>V.str e.1)):=λi l kv e1 e2=>(ae_ (λe=>by have:=lfl l (Am_ e1);rw[e,hd]at this;cases this)).trans (hls0 i l kv e1 e2);have S4:F0_ H (upd H' d (HO.frz ob (HO.dK (kP A)))):=(s1.trans de.sH).upd nd;have hdf:=aa_ (H:=H') (a:=d) (o:=HO.frz ob (HO.dK (kP A)));generalize upd H' d (HO.frz ob (HO.dK (kP A)))=H4 at*;clear de hls0 hmd0 hd';show fC_ (n:=A.length) (B:=λ_=>none) (Pσ:=λσ=>∃e,σ=[e,some (.ref d),some (.ref md)]) (bs:=λi=>decide ((A.getD i (Str.empty,Str.empty)).2∉acc.map (·.1))) (val:=λi=>.str (A.getD i (Str.empty,Str.empty)).1) (λ_ _ e=>nomatch e) ⟨_,rfl⟩ o_ (λi H' hi s=>⟨s _ _ hdf,by rw[gQ_];show hi⟩) (λH' s=>⟨s _ _ hdf,by rw[gQ_];show Af_ _⟩) ?_ ?_
     .rintro D i x σ' H5 H5' hD ⟨oD,hDo⟩ hs2 hi ⟨rfl,kk,vv,hx,rfl⟩ ⟨e,rfl⟩ Y R kY kR
      obtain⟨q,hq,rfl,rfl⟩:∃q,A[i]?=some q/\kk=.inr q.1/\vv=.str q.2:=by
       unfold kP at hx;rw[Ae_]at hx;cases e:A[i]? with
       |none=>rw[e]at hx;cases hx
       |some q=>rw[e]at hx;cases hx;show⟨q,rfl,rfl,rfl⟩
      have eq':A.getD i (Str.empty,Str.empty)=q:=by rw[Ac_,hq];rfl
      rw[eq']at kY kR;have g1:HC_ H5' d (.str q.1) (some (.str q.2)):=.inl ⟨kP A,.inr q.1,.inr ⟨ob,hs2 _ _ hdf⟩,rfl,by rw[eB_ (B9_ (Am_ hq)),om_ And hq]⟩;have g2:=HC_.k (k:=.inr q.2) (hs2 _ _ hmd);have vh:=q0_ (x:=q.2) ll;walk_at "rd";show⟨_,g1,_,g2,ite2 (λe=>?_) (λne=>?_)⟩
      .rw[e]at vh;show kY (AL_ (BB_ vh.symm)) _ _ _ ⟨_,rfl⟩ (F0_.refl _) rfl
      .have ne:(Gw_ (GO_ acc ls) (.inr q.2)).isSome=true:=(Bool.not_eq_false _).mp ne;rw[ne]at vh;show kR (AE_ (λz=>z (AN_ vh.symm))) _ _ ⟨_,rfl⟩ (F0_.refl _)
     .rintro D H5 hD s5 rep
      replace rep:=Rep.mono bS_ _ rep
      have em:((List.range A.length).filter λi=>decide ((A.getD i (Str.empty,Str.empty)).2∉acc.map (·.1))).map (λi=>Dt.str (A.getD i (Str.empty,Str.empty)).1)=(((List.range A.length).filter λi=>decide ((A.getD i (Str.empty,Str.empty)).2∉acc.map (·.1))).map λi=>(A.getD i (Str.empty,Str.empty)).1).map Dt.str:=by rw[AT_];rfl
      rw[em]at rep
      have ze:(((List.range A.length).filter λi=>decide ((A.getD i (Str.empty,Str.empty)).2∉acc.map (·.1))).map λi=>(A.getD i (Str.empty,Str.empty)).1)=[]↔∀l∈labels A,l∈acc.map (·.1):=by
       rw[Dd_,Cf_];constructor
       .intro h l hl;have:=(fL_.mp hl).resolve_left s_;obtain⟨q,hq,rfl⟩:=Ay_.mp this;obtain⟨i,hi,rfl⟩:=Az_.mp hq;have:=h i (AX_.mpr hi);rw[Ac_,Ab_ hi,Bl_]at this;show BS_.mp this
       .intro h i hi;have hi:=AX_.mp hi;rw[Ac_,Ab_ hi,Bl_,BS_];show h _ (fL_.mpr (.inr (B9_ (BJ_ hi))))
      generalize(((List.range A.length).filter λi=>decide ((A.getD i (Str.empty,Str.empty)).2∉acc.map (·.1))).map λi=>(A.getD i (Str.empty,Str.empty)).1)=ms at*;clear em;walk_at "rd";show⟨Av_ _,λp np=>?_⟩;have S6:F0_ H5 (upd H5 p (.lst [])):=F0_.new np;have hp6:=aa_ (H:=H5) (a:=p) (o:=HO.lst []);generalize upd H5 p (.lst [])=H6 at*;show⟨_,Rep.mono S6 _ rep,.lst [],⟨p,_,rfl,hp6,rfl⟩,_,jK_ _,mq_ _,ite2 (λe=>?_) (λne=>?_)⟩
      .show k false _ ((S4.trans s5).trans S6) ⟨nofun,λj=>?_⟩;have e:=BB_ e;rw[Aa_]at e;have ne:¬ ms=[]:=λz=>e (by rw[z];rfl);rw[ze]at ne
       rcases pk with⟨_,rfl⟩|⟨i,j',hi,hj,hij,_,rfl⟩
       .show absurd ((gF_ fM pin).mp j).1 ne
       .show absurd ((hM_ ndM fM po.pnd pin o_ o_).mp j).1 ne
      .have e:ms=[]:=by have:=BS_.mp (λz=>ne (AE_ z));rw[Aa_]at this;show AB_ this
       have allM:=ze.mp e;have SA:F0_ H H6:=(S4.trans s5).trans S6;have hmd6:=S6 _ _ (s5 _ _ hmd);have hls6:∀(i:Nat) l kv,ls[i]?=some l->acc[i]?=some kv->H6 l=some (.lst (kv.2.map λe=>V.str e.1)):=λi l kv e1 e2=>S6 _ _ (s5 _ _ (hls i l kv e1 e2));walk_at "rd";have kl:=jB_ ll;show⟨_,.inl hmd6,λob2 H7 h0 h7 h7'=>?_⟩;have S7:F0_ H H7:=λc u h=>(h7' c (λe=>by have:=s1 _ _ h;rw[e,mS]at this;cases this)).trans (SA c u h);have hls7:∀(i:Nat) l kv,ls[i]?=some l->acc[i]?=some kv->H7 l=some (.lst (kv.2.map λe=>V.str e.1)):=λi l kv e1 e2=>(h7' l (λe=>by have h:=hls6 i l kv e1 e2;rw[e,hmd6]at h;cases h)).trans (hls6 i l kv e1 e2);clear h0 hmd6 hls6 hls h7';show fC_ (n:=acc.length) (B:=λ_=>none) (Pσ:=λσ=>∃e,σ=[e]) (bs:=λi=>decide (1<(acc.getD i (Str.empty,[])).2.length)) (val:=λi=>.lst ((srt ((acc.getD i (Str.empty,[])).2.map (·.1))).map .str)) (λ_ _ e=>nomatch e) ⟨_,rfl⟩ o_ (λi H' hi s=>⟨s _ _ h7,by rw[kl];show hi⟩) (λH' s=>⟨s _ _ h7,by rw[kl];show Af_ _⟩) ?_ ?_
       .rintro D2 i x σ' H8 H8' hD2 ⟨oD,hDo⟩ hs2 hi ⟨rfl,kk,hx⟩ ⟨e,rfl⟩ Y R kY kR;obtain⟨kv,l,e1,e2,rfl,rfl⟩:=or_ hx;have eq':acc.getD i (Str.empty,[])=kv:=by rw[Ac_,e1];rfl
        rw[eq']at kY kR;have hl:=hs2 _ _ (hls7 i l kv e2 e1);have kn:=fN kv (Am_ e1);have k64:(kv.2.map (·.1)).length<=6:=by rw[kn];show Au_ (Bj_ _ _) p6
        walk_at "rd";show⟨_,.inl hl,ite2 (λh1=>?_) (λh1=>?_)⟩
        .show⟨kv.2.map (·.1),by rw[hl,AT_];rfl,o_,λl2 zs nl2 zp zr=>kY (AL_ (by rw[Aa_]at h1;lia)) _ _ _ ⟨_,rfl⟩ (F0_.new nl2) ?_⟩;rw[<-op_ zp zr];show⟨l2,_,rfl,?_,bD_ zs⟩;rw[dK_ (ah_ hDo nl2).symm rfl];show aa_
        .show kR (AE_ (by rw[Aa_]at h1;lia)) _ _ ⟨_,rfl⟩ (F0_.refl _)
       .rintro D2 H8 hD2 s8 rep2
        replace rep2:=Rep.mono bS_ _ rep2
        have em:((List.range acc.length).filter λi=>decide (1<(acc.getD i (Str.empty,[])).2.length)).map (λi=>Dt.lst ((srt ((acc.getD i (Str.empty,[])).2.map (·.1))).map Dt.str))=(((List.range acc.length).filter λi=>decide (1<(acc.getD i (Str.empty,[])).2.length)).map λi=>srt ((acc.getD i (Str.empty,[])).2.map (·.1))).map λt=>Dt.lst (t.map Dt.str):=by rw[AT_];rfl
        rw[em]at rep2
        have em2:(((List.range acc.length).filter λi=>decide (1<(acc.getD i (Str.empty,[])).2.length)).map λi=>srt ((acc.getD i (Str.empty,[])).2.map (·.1)))=((acc.map (·.1)).filter λl=>decide (1<(GX_ N.posts A l).length)).map λl=>srt (GX_ N.posts A l):=by
         rw[mV_ (Str.empty,[]) (λkv:Str×List (End Str)=>decide (1<kv.2.length)) (λkv=>srt (kv.2.map (·.1))) acc,ET_,AT_];rw[Du_ (q:=(λl=>decide (1<(GX_ N.posts A l).length)) ∘ λx=>x.1) λkv hkv=>by change decide (1<kv.2.length)=decide (1<(GX_ N.posts A kv.1).length);rw[<-fN kv hkv,Aa_]];show BV_ λkv hkv=>congrArg srt (fN kv (Bc_.mp hkv).1)
        rw[em2]at rep2;clear em em2;walk_at "rd";show⟨d_,λp2 np2=>?_⟩;have S9:F0_ H8 (upd H8 p2 (.lst [.ref pr])):=F0_.new np2;have hp9:=aa_ (H:=H8) (a:=p2) (o:=HO.lst [.ref pr]);have hpr9:=S9 _ _ (s8 _ _ (S7 _ _ hpr));have SB:=S7.trans (s8.trans S9)
        replace rep2:=Rep.mono S9 _ rep2
        generalize upd H8 p2 (.lst [.ref pr])=H9 at*;show⟨⟨_,.inl (.inl hp9)⟩,?_⟩;show fC_ (n:=1) (B:=λ_=>none) (Pσ:=λσ=>∃e,σ=[e]) (bs:=λ_=>decide (pair≠[])) (val:=λ_=>.lst ((srt pair).map .str)) (λ_ _ e=>nomatch e) ⟨_,rfl⟩ d_ (λi H' hi s=>⟨_,_,.inl (.inl (s _ _ hp9)),Ab_ (by simpa using hi)⟩) (λH' s=>⟨_,.inl (.inl (s _ _ hp9)),s_⟩) ?_ ?_
        .rintro D3 i x σ' H10 H10' hD3 ⟨oD,hDo⟩ hs2 hi ⟨rfl,hx⟩ ⟨e,rfl⟩ Y R kY kR;have hx:=hx _ (.inl (.inl (hs2 _ _ hp9)));obtain rfl:i=0:=o_
         cases hx;have hq:=hs2 _ _ hpr9;have p64:pair.length<64:=by rcases pk with⟨e,_⟩|⟨i,j,_,_,_,e,_⟩ <;> rw[e] <;> show Nat.le_of_ble_eq_true rfl
         walk_at "rd";show⟨Av_ _,λp3 np3=>?_⟩;have SC:F0_ H10' (upd H10' p3 (.lst [])):=F0_.new np3;have hp3:=aa_ (H:=H10') (a:=p3) (o:=HO.lst []);have hq3:=SC _ _ hq;have hDo3:=SC _ _ hDo;generalize upd H10' p3 (.lst [])=H11 at*;show⟨.lst (pair.map .str),⟨pr,_,rfl,hq3,bD_ pair⟩,.lst [],⟨p3,_,rfl,hp3,rfl⟩,_,jK_ _,mq_ _,ite2 (λe=>?_) (λne=>?_)⟩
         .have e:=BB_ e;rw[Aa_]at e;show⟨pair,hq3,p64,λl2 zs nl2 zp zr=>kY (AL_ (λz=>e (by rw[z];rfl))) _ _ _ ⟨_,rfl⟩ (SC.trans (F0_.new nl2)) ?_⟩;rw[<-op_ zp zr];show⟨l2,_,rfl,?_,bD_ zs⟩;rw[dK_ (ah_ hDo3 nl2).symm rfl];show aa_
         .have e:=BS_.mp (λz=>ne (AE_ z));rw[Aa_]at e;show kR (AE_ (λz=>z (AB_ e))) _ _ ⟨_,rfl⟩ SC
        .rintro D3 H10 hD3 s10 rep3
         replace rep3:=Rep.mono bS_ _ rep3
         have em3:((List.range 1).filter λ_=>decide (pair≠[])).map (λ_=>Dt.lst ((srt pair).map Dt.str))=(if pair=[]then[]else[srt pair]).map λt=>Dt.lst (t.map Dt.str):=by
          by_cases e:pair=[]
          .rw[if_pos e,e];rfl
          .rw[if_neg e,show decide (pair≠[])=true from AL_ e];rfl
         rw[em3]at rep3;show⟨D3,rfl,dLs _,Rep.mono s10 _ rep2,dLs _,rep3,_,lC_ _ _,lD_ _,k _ _ (SB.trans s10) ?_⟩;rw[Bl_]
         rcases pk with⟨rfl,rfl⟩|⟨i,j',hi,hj,hij,rfl,rfl⟩
         .rw[if_pos rfl,Dd_,gF_ fM pin];show⟨λh=>⟨allM,h⟩,λh=>h.2⟩
         .rw[if_neg (λz=>nomatch z),hM_ ndM fM po.pnd pin o_ o_];have key:=λm=>oq_ (A:=A) (m:=m) po.pnd hi hj hij;generalize(acc.map (·.1)).filter (λl=>decide (1<(GX_ N.posts A l).length))=fl;constructor
          .intro h;obtain⟨m,rfl,hm⟩:=jw_ h;show⟨allM,by rw[BG_,(key m).mp hm]⟩
          .rintro⟨_,h⟩;obtain⟨m,rfl,hm⟩:=jw_ h;rw[BG_,(key m).mpr hm]
theorem q1_(b k:Nat):Builtin.bitAnd ((b:Int)/2 ^ k) 1=(if b.testBit k then 1 else 0:Int):=by
 have e:((b:Int)/2 ^ k)=((b >>> k:Nat):Int):=by rw[Nat.shiftRight_eq_div_pow];norm_cast
 rw[e];change(((b >>> k) &&& 1:Nat):Int)=_;rw[Nat.and_one_is_mod]
 have:b.testBit k=decide ((b >>> k)%2=1):=by
  rw[Nat.testBit,Nat.one_and_eq_mod_two]
  rcases Ej_ (b >>> k)with h|h <;> rw[h] <;> rfl
 rw[this]
 rcases Ej_ (b >>> k)with h|h <;> rw[h] <;> rfl
theorem ps_(nd:(Ge_ N).Nodup){S:List Str}(h:S.Sublist (Ge_ N)):IG_ N S=S:=ih_ h nd
theorem g9_{H:Hp}:∀{zs:List Addr}{uss:List (List Str)},zs.length=uss.length->Iw_ H zs uss->Gt_ H (zs.map V.ref) (uss.map λt=>Dt.lst (t.map Dt.str))
 |[],[],_,_=>rfl
 |z::zs,t::uss,e,h=>⟨_,_,rfl,⟨z,_,rfl,h 0 z rfl,bD_ t⟩,g9_ (by simpa using e) λi a ha=>h (i+1) a ha⟩
abbrev GT_:Stmt:=stN 49
theorem h9_:ZM ["_law_net","_law_pair","_law_names_here","_law_due_here","_law_bits","_law_wires"] ["_law_net","_law_pair"] (F1_ GT_):=zM
theorem ia_:LK GT_ "_law_names_here" .cell:=r_
theorem ib_:LK GT_ "_law_due_here" .local:=r_
theorem ou_:LK GT_ "_law_bits" .cell:=r_
theorem ic_:LK GT_ "_law_wires" .local:=r_
theorem gV_:LK GT_ "_law_is_wood" .globalImplicit:=r_
theorem id_:LK GT_ "len" .globalImplicit:=r_
theorem f7_:LK GT_ "range" .globalImplicit:=r_
theorem in_:LK GT_ "sorted" .globalImplicit:=r_
noncomputable def Hi_(N:Net Str)(u:List Nat)(n:Nat):List (List Str):=((List.range n).map (Hy_ (Ge_ N))).filter λS=>@decide _ (Classical.propDecidable (HJ_ N S u))
def KB_(K:PySem.W.Frag):Sp:=λvs H Q _=>∃(v:V)(pr:Addr)(N:Net Str)(pair:List Str)(u:List Nat),vs=[v,.ref pr]/\Rep H v (Ic_ N)/\G4_ N/\Hh_ N/\WOk N/\N.worths.length<=10/\H pr=some (.lst (pair.map V.str))/\JT_ N pair u /\
 ∀D uss H',F0_ H H'->H D=none->Rep (H7_ H H') (.ref D) (dLs uss)->uss.Perm (Hi_ N u (2 ^ N.worths.length))->uss.Pairwise (λx y=>G5_ y x=false)->Q (.ref D) H'
theorem q2_(T:Txt K mg)(F:Fn0 K mg "_law_due" GT_) (Jm_:Cal P w K mg base "_law_is_wood" ["_law_net","_law_wires","_law_pair"] 3 (Kn_ K)):Cal P w K mg base "_law_due" ["_law_net","_law_pair"] 4 (KB_ K):=by
  show aP_ F h9_.1 λf cdv A0 outer s H vs Q E hr h=>?_;obtain⟨v,pr,N,pair,u,rfl,hv,ok,po,wo,w10,hpr,pk,k⟩:=h;obtain⟨pn,p0,p1,p2,rs,wos,rfl,hn,h0,h1,r1,h2,r2⟩:=cv_ hv;have wl:wos.length=N.worths.length:=by rw[r2.length,Aa_]
  refine'⟨_,?D,?R⟩
  case D =>
   refine' af_ (e7_ (i:=2) h9_.nd rfl ia_ rfl (di_ (N':=["_law_wire","_law_worth"]) (ix:=[none,none]) rfl rfl (cy_ ?a) (aO_ (K:=K) rfl (F9_ au_ (zw 0 h9_) ac_)) (λ_ _ _=>(bk_ (K:=K) (n:=2) rfl rfl (am_ ?b (am_ ?c bd_)))) (λ_ _ _=>?d) (λ_ _ _=>(pv1 0 rfl rfl))) rfl) ?e
   case a=>show(by change Ih_ (F1_ GT_) ["_law_net","_law_pair","_law_names_here","_law_due_here","_law_bits","_law_wires"] _ _ _=true;decide +kernel)
   case b=>show ak_ (i:=0) (by change List.Nodup (["_law_wire","_law_worth"]:List Str);decide +kernel) rfl rfl
   case c=>show ak_ (i:=1) (by change List.Nodup (["_law_wire","_law_worth"]:List Str);decide +kernel) rfl rfl
   case d=>show e1_
   case' e=>refine' af_ (ai_ (i:=3) h9_.nd rfl ib_ (aY_ ab_)) (ag_ ?f (ad_ (ap_ (aj_ (cK_ hr.units) in_ T.n_sorted bB_ (pa_c (zw 3 h9_) ab_)))))
   case' f=>refine' a6_ AF_ rfl (aZ_ f7_ T.n_range (pa_c (F2_ rh_ ac_ (aj_ an_ id_ T.n_len aQ_ (pa_c (zw 2 h9_) ab_))) ab_)) ?g ?h
   case g=>show gX_ (i:=4) h9_.nd rfl ou_ rfl
   case' h=>refine' af_ (hm_ (i:=5) (N':=["_law_k","_law_bits","_law_names_here"]) (ix:=[none,some 4,some 2]) rfl rfl h9_.nd rfl ic_ rfl (cy_ ?i) (aZ_ f7_ T.n_range (pa_c (aj_ an_ id_ T.n_len aQ_ (pa_c (zw 2 h9_) ab_)) ab_)) (λ_ _ _=>?j) (λ_ _ _=>?k) (λ_ _ _=>(F9_ ar_ (pvc 2 rfl rfl) (pv1 0 rfl rfl)))) ?l
   case i=>show(by change Ih_ (F1_ GT_) ["_law_net","_law_pair","_law_names_here","_law_due_here","_law_bits","_law_wires"] _ _ _=true;decide +kernel)
   case j=>show ak_ (i:=0) (by change List.Nodup (["_law_k","_law_bits","_law_names_here"]:List Str);decide +kernel) rfl rfl
   case' k=>refine' iv_ (ao_ Hb_ (F2_ rj_ (F2_ ri_ (pvc 1 rfl rfl) (pv1 0 rfl rfl)) ac_) ac_ (Gf_ _))
   case' l=>refine' ad_ (Gz_ ?m (ad_ (a4_ (Hc_ AP_ A2_ A3_ a0_ (zw 3 h9_) (pa_c (zw 5 h9_) ab_)))) aB_)
   case' m=>refine' ek_ (al_ Jm_ (hr.mono d_) gV_ (pa_c (zw 0 h9_) (pa_c (zw 5 h9_) (pa_c (zw 1 h9_) ab_))))
  case R =>
   walk_at "rd";show⟨_,hn,_,HF_,p2,rfl,⟨_,.inl (.inl h2)⟩,?_⟩;show c7_ (n:=N.worths.length) (B:=λ_=>none) (Pσ:=λσ=>∃e e',σ=[e,e']) (ds:=(Ge_ N).map dS) (λb o e=>by cases e) ⟨_,_,rfl⟩ (by unfold Ge_;simp) o_ (λi H' hi s'=>⟨wos,wos[i]'o_,.inl (.inl (s' _ _ h2)),Ab_ _⟩) (λH' s'=>⟨wos,.inl (.inl (s' _ _ h2)),o_⟩) ?_ ?_
   .rintro D i x d σ' H2 H2' hD hDo hs2 hi hdi ⟨rfl,hy⟩ ⟨e,e',rfl⟩ R kR;have hx:=hy _ (.inl (.inl (hs2 _ _ h2)));obtain⟨r,q,u,hr1,rfl,hq,hu⟩:=h0_ r2 hx;have hd:d=dS r.1:=by unfold Ge_ at hdi;rw[Ae_,Ae_,hr1]at hdi;show(Ar_ hdi).symm
    walk_at "rd";show⟨_,SqT.of (hs2 _ _ hq),rfl,_,_,rfl,_,_,rfl,rfl,kR _ _ _ ⟨_,_,rfl⟩ (F0_.refl _) ?_⟩;rw[hd];rfl
   intro D1 H1 nD1 S1 rep1
   replace rep1:=Rep.mono bS_ _ rep1
   obtain⟨_,ns,e0,hD1,rns⟩:=rep1;cases e0;have en:ns=(Ge_ N).map V.str:=eQ_ (show Gt_ H1 ns ((Ge_ N).map Dt.str)from rns);subst en;walk_at "rd";show⟨Av_ _,λdd nd=>?_⟩;have S2:F0_ H1 (upd H1 dd (.lst [])):=F0_.new nd;have hd0:=aa_ (H:=H1) (a:=dd) (o:=HO.lst []);have Sd:F0_ H (upd H1 dd (.lst [])):=S1.trans S2;have ndH:H dd=none:=S1.free nd;have hD2:=S2 _ _ hD1;generalize upd H1 dd (.lst [])=H2 at*;walk_at "rd";have nl:((Ge_ N).map V.str).length=N.worths.length:=by unfold Ge_;simp
   have p2n:2 ^ N.worths.length<=1024:=show 2 ^ N.worths.length<=2 ^ 10 from Cr_ d_ w10
   show⟨_,.inl hD2,?_⟩;rw[nl,AK_];have e2:(1*2 ^ N.worths.length:Int)=((2 ^ N.worths.length:Nat):Int):=by rw[Int.one_mul];norm_cast
   rw[e2,AK_];generalize hpn:2 ^ N.worths.length=n2 at*;show⟨o_,o_,d_,o_,o_,?_⟩;have Ddd:D1≠dd:=λe=>by rw[e,nd]at hD1;cases hD1
   have XD:noD dd H2 D1=some (.lst ((Ge_ N).map V.str)):=by rw[ee_ Ddd];show hD2
   have Xd:noD dd H2 dd=none:=if_pos rfl;have XH:F0_ H (noD dd H2):=λc u hc=>by rw[ee_ (show c≠dd from λe=>by rw[e,ndH]at hc;cases hc)];show Sd c u hc
   have X2:F0_ (noD dd H2) H2:=noD_same;generalize noD dd H2=X at*;show bU_ (λb σ H'=>∃e4 e5 ls,σ=[some (.ref pn),some (.ref pr),some (.ref D1),some (.ref dd),e4,e5]/\F0_ X H'/\H' dd=some (.lst (ls.map V.ref))/\dd∉ls/\ls.length=(Hi_ N u b).length/\Iw_ H' ls (Hi_ N u b)/\∀l∈ls,H l=none) ⟨none,none,[],rfl,X2,hd0,nofun,rfl,nofun,nofun⟩ ?_ ?_
   .rintro b σ H' hb kk kb hk hbk G hG ⟨e4,e5,ls,rfl,sX,hdd,nin,le,la,fr⟩;walk_at "rd";have hD':=sX _ _ XD;show⟨_,.inl hD',?_⟩;rw[nl,AK_];show⟨o_,o_,?_⟩;show oM_ (n:=N.worths.length) (Pσ:=λσ=>∃e,σ=[e,some (.int (0+(b:Int))),some (.ref D1)]) (bs:=λk=>b.testBit k) (val:=λk=>.str ((Ge_ N).getD k Str.empty)) ⟨_,rfl⟩ o_ (λi H' hi _=>hi) (λH' _=>Af_ _) ?_ ?_
    .rintro D i x σ' H5 H5' hD hDo hs2 hi ⟨rfl,rfl⟩ ⟨e,rfl⟩ Y R kY kR;walk_at "rd";have i0:(0+(i:Int)).toNat=i:=o_
     have b0:(0+(b:Int))=(b:Int):=o_
     have gi:((Ge_ N).map V.str)[i]?=some (.str ((Ge_ N).getD i Str.empty)):=by
      have il:i<(Ge_ N).length:=by unfold Ge_;rw[Aa_];show hi
      rw[Ae_,Ac_,Ab_ il];rfl
     rw[i0,b0,q1_];rw[b0]at kY kR;show⟨o_,?_⟩;cases hb2:b.testBit i with
     |true =>
      rw[if_pos rfl,if_pos rfl];show⟨_,hs2 _ _ hD',_,by rw[Cx_];show i3_ gi,kY hb2 _ _ ⟨_,rfl⟩ (F0_.refl _)⟩
     |false =>rw[if_neg AD_,if_neg d_];show kR hb2 _ _ ⟨_,rfl⟩ (F0_.refl _)
    .intro D H5 nD s5 hD5;have ep:((List.range N.worths.length).filter λk=>b.testBit k).map (λk=>V.str ((Ge_ N).getD k Str.empty))=(Hy_ (Ge_ N) b).map V.str:=by unfold Hy_ Ge_;rw[AT_,Aa_];rfl
     rw[ep]at hD5;have sX5:=sX.trans s5;have sH5:=XH.trans sX5;have ed:Hi_ N u (b+1)=Hi_ N u b++[Hy_ (Ge_ N) b].filter λS=>@decide _ (Classical.propDecidable (HJ_ N S u)):=by unfold Hi_;rw[BA_,As_,A5_];rfl
     have ndd:D≠dd:=(ah_ hdd nD).symm;walk_at "rd";show⟨_,D,pr,N,_,pair,u,rfl,Rep.mono sH5 _ hv,ok,po,wo,hD5,sH5 _ _ hpr,pk,λbb H6 s6 hb6=>?_⟩;have hd6:=s6 _ _ (s5 _ _ hdd);have la6:Iw_ H6 ls (Hi_ N u b):=λi a ha=>s6 _ _ (s5 _ _ (la i a ha));have hD6:=s6 _ _ hD5;walk_at "rd";cases bb with
     |true =>
      rw[if_pos rfl];rw[f0_ (p:=λS=>@decide _ (Classical.propDecidable (HJ_ N S u))) (x:=Hy_ (Ge_ N) b) (@AL_ _ (Classical.propDecidable _) (hb6.mp rfl))]at ed;have few:(Hi_ N u b).length<=1024:=by unfold Hi_;show Au_ (Bj_ _ _) ?_;rw[Aa_,Bx_];lia
      show⟨.inl ⟨_,.inl (.inl hd6)⟩,_,hd6,by rw[Aa_,Bv_];lia,hk _ _ ⟨_,_,ls++[D],rfl,(sX5.trans s6).upd Xd,by rw[aa_,As_];rfl,λz=>?_,by rw[ed,Ak_,Ak_,le];rfl,?_,λl hl=>?_⟩⟩
      .rcases At_.mp z with z|z
       .show nin z
       .show ndd (Ag_.mp z).symm
      .rw[ed];show h2_ (λi a ha=>?_) le ?_
       .rw[ae_ (show a≠dd from λe=>nin (e▸Am_ ha))];show la6 i a ha
       .rw[ae_ ndd];show hD6
      .rcases At_.mp hl with hl|hl
       .show fr l hl
       .rw[Ag_.mp hl];show(XH.trans sX).free nD
     |false =>rw[if_neg AD_];rw[g7_ (p:=λS=>@decide _ (Classical.propDecidable (HJ_ N S u))) (x:=Hy_ (Ge_ N) b) (@AE_ _ (Classical.propDecidable _) (λz=>AD_ (hb6.mpr z))),AR_]at ed;show hk _ _ ⟨_,_,ls,rfl,sX5.trans s6,hd6,nin,by rw[ed];show le,by rw[ed];show la6,fr⟩
   .rintro σ H' ⟨e4,e5,ls,rfl,sX,hdd,nin,le,la,fr⟩;walk_at "rd";have few:(Hi_ N u n2).length<=1024:=by unfold Hi_;show Au_ (Bj_ _ _) ?_;rw[Aa_,Bx_];show p2n
    show⟨ls,hdd,_,le,o_,la,λl zs uss nl2 zu zp lz up sr=>?_⟩;have sl:F0_ H' (upd H' l (.lst (zs.map V.ref))):=F0_.new nl2;have sA:=XH.trans sX;show k l uss _ (sA.trans sl) (sA.free nl2) ⟨l,_,rfl,by rw[cI_ (sA.free nl2)];show aa_,g9_ zu λi a ha=>by rw[cI_ (fr a (zp.mem_iff.mp (Am_ ha)))];show sl _ _ (lz i a ha)⟩ (hpn▸up) sr
theorem iX_(wo:WOk N):(Ge_ N).Perm ((GP_ N).map (·.1)):=hB_ wo.nd (jk_ N) λx=>(wo.mem x).trans og_.symm
theorem mW_(h:N.worths.Pairwise λa b=>eLe (a.1,0) (b.1,0)):(Ge_ N).Pairwise sLe:=by
 unfold Ge_;rw[B8_];show h.imp λ{a b} e=>?_
 rcases MM_ e with e|e
 .show e
 .rw[e];unfold sLe;show List.lt_irrefl _
theorem Jc_.mono{H1 H2:Hp}{D:Addr}(h:Jc_ H D H1 tt)(s:F0_ H1 H2):Jc_ H D H2 tt:=let⟨zs,uss,a,b,c,d⟩:=h;⟨zs,uss,s _ _ a,b,λi l e=>s _ _ (c i l e),d⟩
def uOf(i j:Nat):List Nat:=if i=j then[]else[min i j,max i j]
abbrev GB_:Stmt:=stN 50
theorem jN_:ZL ["_law_net","_law_i","_law_j","e"] ["_law_net","_law_i","_law_j"] (F1_ GB_):=zL
theorem bP_:LK GB_ "e" .local:=r_
theorem dE_:LK GB_ "NoAnswer" .globalImplicit:=r_
theorem e4_:LK GB_ "NoNet" .globalImplicit:=r_
theorem dF_:LK GB_ "RimError" .globalImplicit:=r_
theorem ef_:LK GB_ "TooMany" .globalImplicit:=r_
theorem cZ_:LK GB_ "ValueError" .globalImplicit:=r_
theorem aM_:LK GB_ "isinstance" .globalImplicit:=r_
theorem ct_:LK GB_ "joined_woods" .globalImplicit:=r_
theorem dG_:LK GB_ "woods_of" .globalImplicit:=r_
def Jy_:Sp:=λvs H Q _=>∃(v:V)(N:Net Str)(i j:Nat),vs=[v,.int i,.int j]/\Rep H v (Ic_ N)/\G4_ N/\Hh_ N/\WOk N/\(Ge_ N).Pairwise sLe /\
 ∀z fv H',F0_ H H'->H z=none->H' z=some (.tup [fv,.bl true])->((10<N.worths.length/\fv=.non)\/(N.worths.length<=10/\∃D,fv=.ref D/\Jc_ H D H' (Hd_ N (Ge_ N) (uOf i j))))->Q (.ref z) H'
theorem pt_(T:Txt K mg)(EX:Exs K mg CR CA CO CW)(F:Fn0 K mg "_law_told" GB_) (Jn_:Cal P w K mg base "woods_of" ["net"] 4 KF_) (HZ_:Cal P w K mg base "joined_woods" ["net","i","j"] 4 Lx_) (R_woods_of:JI_ P w K mg base "woods_of" ["net"] 2 (G9_ CA [])) (R_joined_woods:∀i j:Int,JI_ P w K mg base "joined_woods" ["net","i","j"] 2 (G9_ CA [.int i,.int j])):Cal P w K mg base "_law_told" ["_law_net","_law_i","_law_j"] 5 Jy_:=by
  show aP_ F jN_.1 λf cdv A outer s H vs Q E hr h=>?_;obtain⟨v,N,i,j,rfl,hv,ok,po,wo,ns,k⟩:=h;by_cases w10:N.worths.length<=10
  .have n10:(Ge_ N).length<=10:=by unfold Ge_;rw[Aa_];show w10
   refine'⟨_,?D,?R⟩
   case D =>
    refine' ad_ (oL_ (λ_=>(ag_ (Gz_ (ao_ Hb_ (zv 1 jN_) (zv 2 jN_) (Gf_ _)) ?a aB_) (ad_ ?b))))
    case' a=>refine' ad_ (ap_ (aK_ (pa_c (al_ Jn_ (hr.mono d_) dG_ (pa_c (zv 0 jN_) ab_)) (pa_c HN_ ab_))))
    case' b=>refine' ap_ (aK_ (pa_c (al_ HZ_ (hr.mono d_) ct_ (pa_c (zv 0 jN_) (pa_c (zv 1 jN_) (pa_c (zv 2 jN_) ab_)))) (pa_c HN_ ab_)))
   case R =>
    walk_at "rd";show ite2 (λe=>?_) (λne=>?_)
    .have e:i=j:=o_
     show⟨v,N,Ge_ N,rfl,hv,ok,po,iX_ wo,ns,w10,n10,λD H1 s1 td=>⟨d_,λz nz=>?_⟩⟩;show k z _ _ (s1.trans (F0_.new nz)) (s1.free nz) aa_ (.inr ⟨w10,D,rfl,?_⟩);rw[show uOf i j=[]from if_pos e];show td.mono (F0_.new nz)
    .have e:¬ i=j:=o_
     show⟨v,N,Ge_ N,i,j,rfl,hv,ok,po,iX_ wo,ns,w10,n10,λD H1 s1 td=>⟨d_,λz nz=>?_⟩⟩;show k z _ _ (s1.trans (F0_.new nz)) (s1.free nz) aa_ (.inr ⟨w10,D,rfl,?_⟩);rw[show uOf i j=[min i j,max i j]from if_neg e];show td.mono (F0_.new nz)
  .replace R_joined_woods:=R_joined_woods i j
   refine'⟨_,?D,?R⟩
   case D =>
    refine' ad_ (qI_ (ME_ (ao_ Hb_ (zv 1 jN_) (zv 2 jN_) (Gf_ _)) ?q4 (p2_ (i:=3) R_joined_woods (hr.mono d_) ct_ rfl rfl EX.m_RimError EX.hnd_RimError dF_ jN_.nd rfl bP_ (λ_=>(pa_c (zv 0 jN_) (pa_c (zv 1 jN_) (pa_c (zv 2 jN_) ab_)))) (λ_=>?q46))))
    case' q4=>refine' p2_ (i:=3) R_woods_of (hr.mono d_) dG_ rfl rfl EX.m_RimError EX.hnd_RimError dF_ jN_.nd rfl bP_ (λ_=>(pa_c (zv 0 jN_) ab_)) (λ_=>(ad_ (ap_ (aK_ (pa_c ?q15 (pa_c ?q17 ab_))))))
    case q15=>show lG_
    case' q17=>refine' hc_ (aj_ (do_ (K:=K) rfl) aM_ T.n_isinstance aC_ (pa_c (zv 3 jN_) (pa_c ?q24 ab_))) (hc_ (aj_ (do_ (K:=K) rfl) aM_ T.n_isinstance aC_ (pa_c (zv 3 jN_) (pa_c ?q31 ab_))) ?q27)
    case q24=>show gw_ ef_ EX.m_TooMany
    case q31=>show gz_ cZ_ T.n_ValueError fB_
    case' q27=>refine' jS_ (m1_ (aj_ (do_ (K:=K) rfl) aM_ T.n_isinstance aC_ (pa_c (zv 3 jN_) (pa_c (aK_ (pa_c ?q41 (pa_c ?q43 ab_))) ab_))))
    case q41=>show gw_ dE_ EX.m_NoAnswer
    case q43=>show gw_ e4_ EX.m_NoNet
    case' q46=>refine' ad_ (ap_ (aK_ (pa_c ?q56 (pa_c ?q58 ab_))))
    case q56=>show lG_
    case' q58=>refine' hc_ (aj_ (do_ (K:=K) rfl) aM_ T.n_isinstance aC_ (pa_c (zv 3 jN_) (pa_c ?q65 ab_))) (hc_ (aj_ (do_ (K:=K) rfl) aM_ T.n_isinstance aC_ (pa_c (zv 3 jN_) (pa_c ?q72 ab_))) ?q68)
    case q65=>show gw_ ef_ EX.m_TooMany
    case q72=>show gz_ cZ_ T.n_ValueError fB_
    case' q68=>refine' jS_ (m1_ (aj_ (do_ (K:=K) rfl) aM_ T.n_isinstance aC_ (pa_c (zv 3 jN_) (pa_c (aK_ (pa_c ?q82 (pa_c ?q84 ab_))) ab_))))
    case q82=>show gw_ dE_ EX.m_NoAnswer
    case q84=>show gw_ e4_ EX.m_NoNet
   case R =>
    walk_at "rd"
    have fin:∀H1 (ea:Addr),F0_ H H1->H1 ea=none->∀p,upd H1 ea (exO (.ref CA) ea) p=none->∀p1,upd (upd H1 ea (exO (.ref CA) ea)) p (.tup [.ref CO,.ref CW]) p1=none->Q (.ref p1) (upd (upd (upd H1 ea (exO (.ref CA) ea)) p (.tup [.ref CO,.ref CW])) p1 (.tup [.non,.bl true])):=λH1 ea s1 hea p np p1 np1 =>
     have st:=(s1.trans (F0_.new hea)).trans (F0_.new np)
     k p1 _ _ (st.trans (F0_.new np1)) (st.free np1) aa_ (.inl ⟨o_,rfl⟩)
    show ite2 (λe=>⟨v,N,rfl,hv,o_,λH1 s1=>⟨CA,rfl,EX.sub,λea hea=>?_⟩⟩) (λne=>⟨v,N,rfl,hv,o_,λH1 s1=>⟨CA,rfl,EX.sub,λea hea=>?_⟩⟩)
    all_goals
     show⟨CA,rfl,EX.kit,true,.inr (.inl EX.isA),?_⟩;rw[if_pos rfl];show⟨CA,rfl,EX.kit,true,.inl EX.isV,?_⟩;rw[if_pos rfl];show⟨d_,λp hp=>?_⟩;show⟨CA,(F0_.new hp) _ _ aa_,EX.kit,false,.inr (.inr ⟨[CO,CW],rfl,EX.isN⟩),⟨d_,λz nz=>fin H1 ea s1 hea p hp z nz⟩⟩
def hwo(Z:List Addr)(H:Hp):Hp:=λa=>if a∈Z then none else H a
variable{Z:List Addr}
theorem qc_(h:a∉Z):hwo Z H a=H a:=if_neg h
theorem rT_(h:a∈Z):hwo Z H a=none:=if_pos h
theorem pu_:F0_ (hwo Z H) H:=λa o h=>by
 unfold hwo at h;split at h
 .cases h
 .show h
theorem pv_{H0:Hp}(s:F0_ H0 H)(h:∀z∈Z,H0 z=none):F0_ H0 (hwo Z H):=λa o q=>by rw[qc_ λz=>by rw[h a z]at q;cases q];show s a o q
theorem mt_{α:Type}(f:List Str->Option Pt)(q:Pt->Bool)(iw:List Str->Bool):∀L:List (List Str),(∀S∈L,(iw S=true↔∃A,f S=some A/\q A=true))->((L.filterMap λS=>(f S).map λA=>(S,A)).filter λs=>q s.2).map (·.1)=L.filter iw
 |[],_=>rfl
 |S::L,h=>by
  have ih:=mt_ (α:=α) f q iw L λS hS=>h S (Aj_ _ hS);have hS:=h S Al_;cases e:f S with
  |none =>
   rw[BT_,e]
   have:iw S=false:=by
    cases z:iw S with
    |false=>rfl
    |true=>obtain⟨A,e2,_⟩:=hS.mp z;rw[e]at e2;cases e2
   rw[Bo_,this];show ih
  |some A =>
   rw[BT_,e];change List.map _ (List.filter _ ((S,A)::_))=_;rw[Bo_,Bo_];by_cases z:q A=true
   .rw[if_pos (show(λs:List Str×Pt=>q s.2) (S,A)=true from z),if_pos (hS.mpr ⟨A,e,z⟩),AW_,ih]
   .rw[if_neg (show ¬ (λs:List Str×Pt=>q s.2) (S,A)=true from z),if_neg (λc=>by obtain⟨B,e2,z2⟩:=hS.mp c;rw[e]at e2;cases e2;show z z2),ih]
theorem iY_(wo:WOk N)(u:List Nat):Hd_ N (Ge_ N) u=Hi_ N u (2 ^ N.worths.length):=by
 have nl:(Ge_ N).length=N.worths.length:=by unfold Ge_;rw[Aa_]
 unfold Hd_ Hi_ G6_;rw[<-nl,hK_];show mt_ (α:=Str) (HK_ (eN N) (pN N)) (λA=>decide (JP N.posts A=some u)) _ (HI_ (Ge_ N)) λS hS=>?_;rw[@Bl_ _ (Classical.propDecidable _)];unfold HJ_;rw[ps_ wo.nd (fK_ _ _ hS)];simp only[Bl_]
theorem qd_{p:Addr}(h:H p=some (.lst xs)):HR_ H (.ref p)=some "list" := by change(match H p with|some (.lst _)=>some "list" | some (.tup _)=>some "tuple" | _=>none)=_;rw[h]
theorem pw_(xs:List V)(k:Nat):IE_ xs none (some (k:Int))=xs.take k:=by
 by_cases h:k<=xs.length
 .show np_ xs k h
 .unfold IE_;rw[HT.sIx_nat,HT.sIx_none,EG_ o_,Fg_,Nat.sub_zero,Bp_,AV_ o_]
theorem mu_:∀(n:Nat)(ws:List Str),ws.length=n->ws.Nodup->(HI_ ws).Nodup
 |0,ws,h,_=>by rw[AB_ h];show AS_.mpr ⟨nofun,Bn_⟩
 |n+1,ws,h,nd=>by
  obtain⟨us,x,rfl⟩:∃us w,ws=us++[w]:=have ne:ws≠[]:=(by intro e;rw[e]at h;cases h);⟨ws.dropLast,ws.getLast ne,(Bf_ ne).symm⟩;have hl:us.length=n:=by simpa using h
  have nd':=Be_.mp nd;have xu:x∉us:=λz=>nd'.2.2 x z x s_ rfl;have ih:=mu_ n us hl nd'.1;rw[dq_];show Be_.mpr ⟨ih,?_,λa ha b hb e=>?_⟩
  .unfold List.Nodup;rw[B8_];show ih.imp λne z=>ne (List.append_inj_left' z rfl)
  .obtain⟨c,_,rfl⟩:=Ay_.mp hb;show xu ((fK_ _ _ ha).subset (e▸AQ_ _ (Ag_.mpr rfl)))
theorem px_{t:List Str}(h:t∈Hi_ N u (2 ^ N.worths.length)):t.Sublist (Ge_ N):=by
 have nl:(Ge_ N).length=N.worths.length:=by unfold Ge_;rw[Aa_]
 unfold Hi_ at h;rw[<-nl,hK_]at h;show fK_ _ _ (Bc_.mp h).1
theorem q3_(wo:WOk N)(u:List Nat):(Hi_ N u (2 ^ N.worths.length)).Nodup:=by
 have nl:(Ge_ N).length=N.worths.length:=by unfold Ge_;rw[Aa_]
 unfold Hi_;rw[<-nl,hK_];show(mu_ _ _ rfl wo.nd).filter _
theorem MF_{zs:List Addr}{tss:List (List Str)}(e:zs.length=tss.length)(h:Iw_ H zs tss)(nd:tss.Nodup):zs.Nodup:=by show B1_.mpr λi j hi hj hij z=>?_;have a:=h i _ (Ab_ hi);have b:=h j _ (Ab_ hj);rw[z,b]at a;have c:=(List.map_inj_right λx y e=>V.str.inj e).mp (HO.lst.inj (Ar_ a));rw[Ac_,Ac_,Ab_ o_,Ab_ o_]at c;have:=(CY_ nd).mp (show tss[j]'o_=tss[i]'o_ from c);lia
abbrev Gj_:Stmt:=stN 51
theorem cu_:ZL ["_law_net","_law_i","_law_j","_law_found","_law_own","_law_due_here","_law_wires","_law_weight","_law_wire"] ["_law_net","_law_i","_law_j"] (F1_ Gj_):=zL
theorem io_:LK Gj_ "_law_due" .globalImplicit:=r_
theorem ej_:LK Gj_ "_law_is_fraction" .globalImplicit:=r_
theorem ip_:LK Gj_ "_law_mul" .globalImplicit:=r_
theorem eF_:LK Gj_ "_law_told" .globalImplicit:=r_
theorem iq_:LK Gj_ "dict" .globalImplicit:=r_
theorem jO_:LK Gj_ "int" .globalImplicit:=r_
theorem cB_:LK Gj_ "isinstance" .globalImplicit:=r_
theorem jP_:LK Gj_ "len" .globalImplicit:=r_
theorem e5_:LK Gj_ "list" .globalImplicit:=r_
theorem c0_:LK Gj_ "weight_of" .globalImplicit:=r_
def IZ_:Sp:=λvs H Q _=>∃(v:V)(N:Net Str)(i j:Nat),vs=[v,.int i,.int j]/\Rep H v (Ic_ N)/\G4_ N/\Hh_ N/\WOk N/\(Ge_ N).Pairwise sLe/\i<N.posts.length/\j<N.posts.length/\∀H',F0_ H H'->Q (.bl true) H'
theorem ov_(T:Txt K mg)(F:Fn0 K mg "_law_right" Gj_) (J0_:Cal P w K mg base "_law_told" ["_law_net","_law_i","_law_j"] 5 Jy_) (L5_:Cal P w K mg base "_law_due" ["_law_net","_law_pair"] 4 (KB_ K)) (L6_:Cal P w K mg base "_law_mul" ["_law_one","_law_other"] 2 (Lq_ (λp q=>p.1*q.1))) (HP_:Cal P w K mg base "weight_of" ["net","wires"] 4 (LD_ K)) (H0_:Cal P w K mg base "_law_is_fraction" ["_law_found"] 2 (Kr_ K)):Cal P w K mg base "_law_right" ["_law_net","_law_i","_law_j"] 6 IZ_:=by
  show aP_ F cu_.1 λf cdv A outer s H vs Q E hr h=>?_;obtain⟨v,N,i,j,rfl,hv,ok,po,wo,ns,hi,hj,k⟩:=h;obtain⟨pn,p0,p1,p2,rs,wos,rfl,hn,h0,h1,r1,h2,r2⟩:=cv_ hv;have wl:wos.length=N.worths.length:=by rw[r2.length,Aa_]
  refine'⟨_,?D,?R⟩
  case D =>
   refine' af_ ?a (af_ ?b (af_ (zas 5 cu_ (al_ L5_ (hr.mono d_) io_ (pa_c (zv 0 cu_) (pa_c ?c ab_)))) ?d))
   case' a=>refine' hd_ (al_ J0_ (hr.mono d_) eF_ (pa_c (zv 0 cu_) (pa_c (zv 1 cu_) (pa_c (zv 2 cu_) ab_)))) (bk_ (K:=K) (n:=2) rfl rfl (am_ ?e (am_ ?f bd_)))
   case e=>show zh 3 cu_
   case f=>show zh 4 cu_
   case' b=>refine' Gz_ (PW.pt ?g) (ad_ (ap_ (hc_ (zv 4 cu_) (jS_ (re_ (pB_ (zv 3 cu_))))))) aB_
   case' g=>refine' Iz_ (e0_ (ek_ (zv 4 cu_))) (it_ (ao_ HV_ (aj_ an_ jP_ T.n_len aQ_ (pa_c (F9_ au_ (zv 0 cu_) ac_) ab_)) ac_ (Gf_ _)))
   case' c=>refine' F9_ ar_ (aY_ (pa_c ?h (pa_c (aY_ ab_) ab_))) (bE_ hf_ jO_ T.n_int lS_ (pa_c (el_ Hb_ (zv 1 cu_) (zv 2 cu_) (Gf_ _)) ab_)) (λ_ _=>rfl)
   case' h=>refine' aY_ (pa_c (F9_ ar_ (F9_ au_ (zv 0 cu_) ac_) (zv 1 cu_)) (pa_c (F9_ ar_ (F9_ au_ (zv 0 cu_) ac_) (zv 2 cu_)) ab_))
   case' d=>refine' af_ (Gz_ (PW.pt ?i) (ad_ (ap_ HN_)) aB_) ?j
   case' i=>refine' Iz_ (e0_ (ek_ (aj_ fy_ cB_ T.n_isinstance aC_ (pa_c (zv 3 cu_) (pa_c ?k ab_))))) (it_ (ao_ (iw_ (hr.units)) (zv 3 cu_) (zv 5 cu_) (Gf_ _)))
   case k=>show gz_ e5_ T.n_list e6_
   case' j=>refine' af_ (a6_ AF_ rfl (aO_ (K:=K) rfl (eI_ gZ_ (zv 3 cu_) ?l (gd_ ac_))) ?m ?n) (af_ (a4_ (pK_ AP_ PySem.F.slot_list_reverse PySem.F.type_list_reverse mB_ (zv 3 cu_))) ?o)
   case l=>show gc_
   case m=>show zh 6 cu_
   case' n=>refine' af_ ?p (af_ (zas 7 cu_ (aK_ (pa_c ac_ (pa_c ac_ ab_)))) ?q)
   case' p=>refine' Gz_ (PW.pt (Iz_ ?r (it_ (ao_ (iw_ (hr.units)) ?s (aY_ ab_) (Gf_ _))))) (ad_ (ap_ HN_)) aB_
   case' r=>refine' e0_ (ek_ (aj_ fy_ cB_ T.n_isinstance aC_ (pa_c (zv 6 cu_) (pa_c ?t ab_))))
   case t=>show gz_ e5_ T.n_list e6_
   case' s=>refine' di_ (N':=["_law_wire"]) (ix:=[none]) rfl rfl (cy_ ?u) (aO_ (K:=K) rfl (zv 6 cu_)) (λ_ _ _=>?v) (λ_ _ _=>(iv_ (e0_ (ek_ (aj_ fy_ rfl T.n_isinstance aC_ (pa_c (pv1 0 rfl rfl) (pa_c ?w ab_))))))) (λ_ _ _=>(pv1 0 rfl rfl))
   case u=>show(by change Ih_ (F1_ Gj_) ["_law_net","_law_i","_law_j","_law_found","_law_own","_law_due_here","_law_wires","_law_weight","_law_wire"] _ _ _=true;decide +kernel)
   case v=>show ak_ (i:=0) (by change List.Nodup (["_law_wire"]:List Str);decide +kernel) rfl rfl
   case w=>show gz_ rfl T.n_str rq_
   case' q=>refine' af_ (a6_ AF_ rfl (aO_ (K:=K) rfl (zv 6 cu_)) ?x (ad_ ?y)) ?z
   case x=>show zh 8 cu_
   case' y=>refine' zas 7 cu_ (al_ L6_ (hr.mono d_) ip_ (pa_c (zv 7 cu_) (pa_c (bl_ (un1 hr.units) (bE_ (eL_ rfl) iq_ T.n_dict jE_ (pa_c (F9_ au_ (zv 0 cu_) ac_) ab_)) (zv 8 cu_)) ab_)))
   case' z=>refine' af_ (Gz_ ?aa (ad_ (ap_ HN_)) aB_) (ad_ (a4_ (Hc_ AP_ A2_ A3_ a0_ (zv 6 cu_) (pa_c lH_ ab_))))
   case' aa=>refine' PW.pt (Iz_ ?ab (it_ (ao_ (pN_ rfl (hr.units)) (al_ HP_ (hr.mono d_) c0_ (pa_c (zv 0 cu_) (pa_c (zv 6 cu_) ab_))) (zv 7 cu_) (Gf_ _))))
   case' ab=>refine' e0_ (ek_ (al_ H0_ (hr.mono d_) ej_ (pa_c (al_ HP_ (hr.mono d_) c0_ (pa_c (zv 0 cu_) (pa_c (zv 6 cu_) ab_))) ab_)))
   case' o=>refine' ad_ (ap_ (el_ (nl_ (hr.units)) (F9_ au_ (al_ J0_ (hr.mono d_) eF_ (pa_c (zv 0 cu_) (pa_c (zv 1 cu_) (pa_c (zv 2 cu_) ab_)))) ac_) (zv 5 cu_) (Gf_ _)))
  case R =>
   walk_at "rd";show⟨_,N,i,j,rfl,hv,ok,po,wo,ns,λz fv H1 s1 nz hz hfv=>⟨z,rfl,_,SqT.of hz,rfl,_,_,rfl,_,_,rfl,rfl,?_⟩⟩;walk_at "rd"
   rcases hfv with⟨w10,rfl⟩|⟨w10,D,rfl,td⟩
   .show⟨_,s1 _ _ hn,_,HF_,p2,rfl,_,.inl (s1 _ _ h2),?_⟩;rw[if_pos o_];walk_at "rd";show k _ s1
   show⟨_,s1 _ _ hn,_,HF_,p2,rfl,_,.inl (s1 _ _ h2),?_⟩;rw[if_neg o_];walk_at "rd";have ai:(N.posts.map V.str)[i]?=some (.str (N.posts.getD i Str.empty)):=by rw[Ae_,Ac_,Ab_ hi];rfl
   have aj:(N.posts.map V.str)[j]?=some (.str (N.posts.getD j Str.empty)):=by rw[Ae_,Ac_,Ab_ hj];rfl
   show⟨_,s1 _ _ hn,_,G2_,p0,rfl,_,s1 _ _ h0,_,i3_ ai,_,s1 _ _ hn,_,G2_,p0,rfl,_,s1 _ _ h0,_,i3_ aj,d_,λa na=>⟨Av_ _,λb nb=>⟨d_,λc nc=>.inr ?_⟩⟩⟩;have S3:F0_ H1 (upd (upd (upd H1 a (.lst [.str (N.posts.getD i Str.empty),.str (N.posts.getD j Str.empty)])) b (.lst [])) c (.lst [.ref a,.ref b])):=((F0_.new na).trans (F0_.new nb)).trans (F0_.new nc);have ha3:=((F0_.new nb (o:=HO.lst [])).trans (F0_.new nc (o:=HO.lst [.ref a,.ref b]))) _ _ (aa_ (H:=H1) (a:=a) (o:=HO.lst [.str (N.posts.getD i Str.empty),.str (N.posts.getD j Str.empty)]));have hb3:=(F0_.new nc (o:=HO.lst [.ref a,.ref b])) _ _ (aa_ (H:=upd H1 a (.lst [.str (N.posts.getD i Str.empty),.str (N.posts.getD j Str.empty)])) (a:=b) (o:=HO.lst []));generalize upd (upd (upd H1 a (.lst [.str (N.posts.getD i Str.empty),.str (N.posts.getD j Str.empty)])) b (.lst [])) c (.lst [.ref a,.ref b])=H3 at*
   obtain⟨pr,pair,hat,hpr,pk⟩:∃pr pair,atI [V.ref a,V.ref b] (if(i:Int)=(j:Int)then 1 else 0)=some (.ref pr)/\H3 pr=some (.lst (pair.map V.str))/\JT_ N pair (uOf i j):=by
    by_cases e:i=j
    .show⟨b,[],by rw[if_pos o_];show Hm_,hb3,.inl ⟨rfl,if_pos e⟩⟩
    .show⟨a,[_,_],by rw[if_neg o_];show G2_,ha3,.inr ⟨i,j,hi,hj,e,rfl,if_neg e⟩⟩
   have s13:=s1.trans S3;show⟨_,hat,_,pr,N,pair,uOf i j,rfl,Rep.mono s13 _ hv,ok,po,wo,w10,hpr,pk,λD2 vss H4 s4 nD2 rep2 vp vr=>?_⟩;clear ha3 hb3 hat pk hpr na nb nc hz nz;have s14:F0_ H1 H4:=S3.trans s4;obtain⟨zs,uss,hD1,zu,lz1,up,ur,zf,nD,Dz⟩:=td;have evu:vss=uss:=nT_ (vp.trans ((iY_ wo _).symm▸up.symm)) vr ur;subst evu;have sH4:F0_ H H4:=s1.trans s14;have hD:=s14 _ _ hD1;have lz:Iw_ H4 zs vss:=λi a ha=>s14 _ _ (lz1 i a ha)
   have Zn:∀z∈D::zs,H z=none:=λz hz=>by
    rcases Aq_.mp hz with e|e
    .rw[e];show nD
    .show zf z e
   have Z3:∀z∈D::zs,∃o,H3 z=some o:=λz hz=>by
    rcases Aq_.mp hz with e|e
    .rw[e];show⟨_,S3 _ _ hD1⟩
    .obtain⟨m,hm⟩:=A8_.mp e;show⟨_,S3 _ _ (lz1 m z hm)⟩
   have XH:F0_ H (hwo (D::zs) H4):=pv_ sH4 Zn;have X4:F0_ (hwo (D::zs) H4) H4:=pu_;have XZ:∀z∈D::zs,hwo (D::zs) H4 z=none:=λz hz=>rT_ hz;have rep2X:Rep (hwo (D::zs) H4) (.ref D2) (dLs vss):=Rep.mono (λb o h=>by obtain⟨h1,h2⟩:=bs_ h;rw[qc_ λz=>by obtain⟨o',e⟩:=Z3 b z;rw[h1]at e;cases e];show h2) _ rep2;have vsub:=up;rw[iY_ wo]at vsub;have znd:zs.Nodup:=MF_ zu lz (vsub.nodup_iff.mpr (q3_ wo _));have vin:∀t∈vss,(∀x∈t,x∈N.worths.map (·.1))/\t.length<=10:=λt ht=>by have sb:=px_ (vsub.mem_iff.mp ht);show⟨λx hx=>sb.subset hx,Au_ sb.length_le ?_⟩;unfold Ge_;rw[Aa_];show w10
   clear vsub;walk_at "rd";show⟨"list",qd_ hD,?_⟩;rw[if_neg d_];show⟨dLs vss,⟨D,_,rfl,hD,g9_ zu lz⟩,dLs vss,Rep.mono X4 _ rep2X,_,lC_ _ _,lD_ _,?_⟩;rw[AL_ rfl,if_neg d_];generalize hwo (D::zs) H4=X at*;clear rep2 Z3 S3 s4 s14 s1 s13 hD1 lz1 ai aj vp vr;walk_at "rd";show⟨_,hD,λp np=>?_⟩;have ec:IE_ (zs.map V.ref) none (some 3)=(zs.take 3).map V.ref:=by rw[show(3:Int)=((3:Nat):Int)from rfl,pw_,Ei_]
   rw[ec];have S5:F0_ H4 (upd H4 p (.lst ((zs.take 3).map V.ref))):=F0_.new np;have hp5:=aa_ (H:=H4) (a:=p) (o:=HO.lst ((zs.take 3).map V.ref));have pZ:p∉zs:=λz=>by obtain⟨m,hm⟩:=A8_.mp z;have:=lz m p hm;rw[np]at this;cases this
   have pD:p≠D:=(ah_ hD np).symm;have X5:=X4.trans S5;have hD5:=S5 _ _ hD;have lz5:Iw_ (upd H4 p (.lst ((zs.take 3).map V.ref))) zs vss:=λm a ha=>S5 _ _ (lz m a ha);generalize upd H4 p (.lst ((zs.take 3).map V.ref))=H5 at*;clear S5 ec lz hD X4 np sH4;show⟨⟨_,.inl (.inl hp5)⟩,?_⟩;show bF_ (xs:=(zs.take 3).map V.ref) (λm σ H'=>∃e6 e7 e8,σ=[some (.ref pn),some (.int (i:Int)),some (.int (j:Int)),some (.ref D),some (.bl true),some (.ref D2),e6,e7,e8]/\F0_ X H'/\H' p=some (.lst ((zs.take 3).map V.ref))/\H' D=some (.lst (zs.map V.ref))/\∀(q:Nat) a,m<=q->zs[q]?=some a->H' a=some (.lst ((vss.getD q []).map V.str))) ⟨none,none,none,rfl,X5,hp5,hD5,λq a _ ha=>lz5 q a ha⟩ (λm σ H' hm ⟨_,_,_,_,_,h,_⟩=>.inl (.inl h)) ?_ ?_
   .rintro m x σ H' hx kk kb hk hbk G hG ⟨e6,e7,e8,rfl,sX,hp',hD',lz'⟩;rw[Ae_]at hx
    obtain⟨a,ha,rfl⟩:∃a,zs[m]?=some a/\x=.ref a:=by
     cases e:(zs.take 3)[m]? with
     |none=>rw[e]at hx;cases hx
     |some q =>
      rw[e]at hx;cases hx;rw[Dn_]at e;split at e
      .show⟨q,e,rfl⟩
      .cases e
    have hat:=lz' m a (Af_ _) ha
    have tin:vss.getD m []∈vss:=by
     have ml:m<vss.length:=by rw[<-zu];show(Ai_.mp ha).1
     rw[Ac_,Ab_ ml];show BJ_ ml
    obtain⟨v1,v2⟩:=vin _ tin;generalize vss.getD m []=tx at*;walk_at "rd";show⟨"list",qd_ hat,?_⟩;rw[if_neg d_];show⟨⟨_,.inl (.inl hat)⟩,?_⟩;show fC_ (n:=tx.length) (B:=λ_=>none) (Pσ:=λσ=>∃e,σ=[e]) (bs:=λ_=>false) (val:=λ_=>.non) (λ_ _ e=>nomatch e) ⟨_,rfl⟩ o_ (λi H' hi s=>⟨_,(tx.map V.str)[i]'(by rw[Aa_];show hi),.inl (.inl (s _ _ hat)),Ab_ _⟩) (λH' s=>⟨_,.inl (.inl (s _ _ hat)),by rw[Aa_];show Af_ _⟩) ?_ ?_
    .rintro D3 q x σ' H6 H6' hD3 hDo hs2 hq ⟨rfl,hy⟩ ⟨e,rfl⟩ Y R kY kR;have hx:=hy _ (.inl (.inl (hs2 _ _ hat)))
     obtain⟨t,rfl⟩:∃t,x=.str t:=by
      rw[Ae_]at hx;cases e:tx[q]? with
      |none=>rw[e]at hx;cases hx
      |some t=>rw[e]at hx;cases hx;show⟨t,rfl⟩
     walk_at "rd";show⟨"str",rfl,?_⟩;rw[if_neg d_];show kR rfl _ _ ⟨_,rfl⟩ (F0_.refl _)
    .rintro D3 H6 hD3 s6 rep3
     replace rep3:=Rep.mono bS_ _ rep3
     rw[show((List.range tx.length).filter λ_=>false)=[]from Cf_.mpr (λ_ _=>AD_)]at rep3;show⟨Av_ _,λp3 np3=>⟨D3,rfl,_,Rep.mono (F0_.new np3) _ rep3,.lst [],⟨p3,_,rfl,aa_,rfl⟩,_,jK_ _,d_,?_⟩⟩;rw[if_neg d_];have S7:F0_ H' (upd H6 p3 (.lst [])):=s6.trans (F0_.new np3);generalize upd H6 p3 (.lst [])=H7 at*;clear rep3 np3 s6 hD3;walk_at "rd";show⟨d_,λwz nwz=>?_⟩;have S8:F0_ H' (upd H7 wz (.tup [.int 1,.int 1])):=S7.trans (F0_.new nwz);have hw8:Rep (upd H7 wz (.tup [.int 1,.int 1])) (.ref wz) (dF (wgt N [])):=⟨wz,_,rfl,aa_,_,_,rfl,rfl,_,_,rfl,rfl,rfl⟩;generalize upd H7 wz (.tup [.int 1,.int 1])=H8 at*;clear nwz S7;walk_at "rd";have hat8:=S8 _ _ hat;show⟨⟨_,.inl (.inl hat8)⟩,?_⟩;show bF_ (xs:=tx.map V.str) (λq σ H9=>∃e8 z,σ=[some (.ref pn),some (.int (i:Int)),some (.int (j:Int)),some (.ref D),some (.bl true),some (.ref D2),some (.ref a),some z,e8]/\F0_ H8 H9/\Rep H9 z (dF (wgt N (tx.take q)))) ⟨e8,_,rfl,F0_.refl _,hw8⟩ (λq σ H9 hq ⟨_,_,_,h,_⟩=>.inl (.inl (h _ _ hat8))) ?_ ?_
     .rintro q x σ H9 hx kk2 kb2 hk2 hbk2 G2 hG2 ⟨e8,z,rfl,s9,hz⟩;rw[Ae_]at hx
      obtain⟨x0,hx0,rfl⟩:∃p,tx[q]?=some p/\x=.str p:=by
       cases e:tx[q]? with
       |none=>rw[e]at hx;cases hx
       |some q=>rw[e]at hx;cases hx;show⟨q,rfl,rfl⟩
      rw[bx_ hx0,jI_]at hk2;walk_at "rd";have sX9:F0_ X H9:=sX.trans (S8.trans s9);have sH9:F0_ H H9:=XH.trans sX9;obtain⟨kvs,k1,k2,k3,k4⟩:=h5_ r2;have kl:kvs.length=N.worths.length:=by rw[<-k2,wl]
      have knd:(kvs.map (·.1)).Nodup:=by rw[k1];have:=wo.nd;have:=this.map (f:=λn=>(Sum.inr n:Key)) (R:=(· ≠ ·)) (S:=(· ≠ ·)) (λa b e z=>e (BW_ z));rw[AT_]at this;show this
      have em:G0_ [] kvs=kvs:=fZ_ (by rw[DW_];show knd);have hr1:=lz_ (v1 x0 (Am_ hx0));obtain⟨u,u1,u2⟩:=k4 _ hr1;have wsx:Ws (Je_ N x0):=wo.ws _ hr1;have wsm:=LU_ wsx;have ql:=(Ai_.mp hx0).1;have gsm:=mo_ wo (S:=tx.take q) (by rw[Aw_];lia) λy hy=>v1 y (B4_ hy);show⟨_,sH9 _ _ hn,_,HF_,p2,rfl,_,sH9 _ _ h2,kvs,k2,o_,λm e he=>let⟨a,e1,e2⟩:=k3 m e he;⟨a,e1,sH9 _ _ e2⟩,λl nl=>?_⟩;rw[em];have Sl:F0_ H9 (upd H9 l (.dK kvs)):=F0_.new nl;have dg:=HC_.k (k:=.inr x0) (aa_ (H:=H9) (a:=l) (o:=HO.dK kvs));rw[ol_ knd u1]at dg;show⟨_,dg,_,_,_,_,rfl,Rep.mono Sl _ hz,Rep.mono (sH9.trans Sl) _ u2,gsm.low.pos,wsx.1.pos,Au_ gsm.top d_,Au_ gsm.bot d_,Au_ wsm.top d_,Au_ wsm.bot d_,λy H10 s10 ry=>hk2 _ _ ⟨_,_,rfl,(s9.trans Sl).trans s10,Rep.mono bS_ _ ry⟩⟩
     .rintro σ H9 ⟨e8,z,rfl,s9,hz⟩;rw[Aa_,Bp_]at hz;have sX9:F0_ X H9:=sX.trans (S8.trans s9);have sH9:F0_ H H9:=XH.trans sX9;have gsm:=mo_ wo (S:=tx) v2 v1;have hat9:=s9 _ _ hat8;walk_at "rd";show⟨_,a,N,tx,rfl,Rep.mono sH9 _ hv,ok,wo,hat9,v1,v2,λq1 H10 s10 f1=>?_⟩;show⟨q1,_,rfl,f1,gsm.low,Au_ gsm.bot d_,λH11 s11=>⟨true,rfl,?_⟩⟩;rw[if_neg d_];have s911:=s10.trans s11;show⟨_,a,N,tx,rfl,Rep.mono (sH9.trans s911) _ hv,ok,wo,s911 _ _ hat9,v1,v2,λq2 H12 s12 f2=>?_⟩;obtain⟨qa,rfl,sq⟩:=f2;obtain⟨za,rfl,hza⟩:=gG_ hz;have s912:=s911.trans s12;have hz12:=s912 _ _ hza;generalize hpp:wgt N tx=pp at*;have eJ:=aa_ (H:=H12) (a:=qa) (o:=HO.tup [.int pp.1,.int pp.2]);show⟨upd H12 qa (HO.tup [.int pp.1,.int pp.2]),⟨λb xs e=>?_,λb xs e=>?_⟩,qa,rfl,za,rfl,dF pp,⟨qa,_,rfl,eJ,_,_,rfl,rfl,_,_,rfl,rfl,rfl⟩,dF pp,⟨za,_,rfl,?_,_,_,rfl,rfl,_,_,rfl,rfl,rfl⟩,true,by simp[deq,deqs,dF],by simp[dep,deps,dF],?_⟩
      .by_cases h:b=qa
       .subst h;rw[eJ]at e;cases e;show sq
       .rw[ae_ h]at e;show SqT.of e
      .by_cases h:b=qa
       .subst h;rw[eJ]at e;cases e
       .rw[ae_ h]at e;show .inl (.inl e)
      .by_cases h:za=qa
       .rw[h];show eJ
       .rw[ae_ h];show hz12
      rw[if_neg d_];have s12':=(S8.trans s9).trans s912;clear eJ sq hz hpp gsm;have am:a∈zs:=Am_ ha;have hat12:=s12' _ _ hat;walk_at "rd";show⟨.inl ⟨_,.inl (.inl hat12)⟩,_,hat12,by rw[Aa_,Bv_];lia,hk _ _ ⟨_,_,_,rfl,(sX.trans s12').upd (XZ a (Aj_ _ am)),?_,?_,λq b mq hb=>?_⟩⟩
      .rw[ae_ (show p≠a from λe=>pZ (e▸am))];show s12' _ _ hp'
      .rw[ae_ (show D≠a from λe=>Dz (e▸am))];show s12' _ _ hD'
      .have ba:b≠a:=λe=>by have:=(Bb_ (Ai_.mp hb).1 znd).mp (hb.trans (e▸ha.symm));lia
       rw[ae_ ba];show s12' _ _ (lz' q b o_ hb)
   .rintro σ H' ⟨e6,e7,e8,rfl,sX,hp',hD',lz'⟩;walk_at "rd";show⟨.inl ⟨_,.inl (.inl hD')⟩,_,hD',?_⟩;have sE:F0_ X (upd H' D (.lst (zs.map V.ref).reverse)):=sX.upd (XZ D Al_);generalize upd H' D (.lst (zs.map V.ref).reverse)=H8 at*;walk_at "rd";show⟨_,N,i,j,rfl,Rep.mono (XH.trans sE) _ hv,ok,po,wo,ns,λz fv H9 s9 nz hz hfv=>?_⟩
    rcases hfv with⟨w11,_⟩|⟨_,D9,rfl,zs9,uss9,hD9,zu9,lz9,up9,ur9,_⟩
    .lia
    have evu:uss9=vss:=nT_ (up9.trans up.symm) ur9 ur;subst evu;show⟨z,rfl,_,hz,_,G2_,D9,rfl,dLs uss9,⟨D9,_,rfl,hD9,g9_ zu9 lz9⟩,dLs uss9,Rep.mono (sE.trans s9) _ rep2X,_,lC_ _ _,lD_ _,?_⟩;rw[AL_ rfl];show k _ (XH.trans (sE.trans s9))
theorem gW_(T:Txt K mg)(F:Fn0 K mg "joined_woods" Gh_) (R_woods_by_posts:JI_ P w K mg base "woods_by_posts" ["net"] 1 (G9_ CA [])) {i j:Int}:JI_ P w K mg base "joined_woods" ["net","i","j"] 2 (G9_ CA [.int i,.int j]):=by
 show kZ_ F eE_.1 (λ_ _ _ _ _ _=>byL3 λ_ _ _=>rfl) ?len ?body
 case len=>rintro vs H Q E ⟨a,b,rfl,_⟩;rfl
 case body =>
  intro f cdv A0 outer s H vs Q E hr h;obtain⟨v,N,rfl,hv,w10,k⟩:=h;refine'⟨_,?D,?R⟩
  case D =>
   refine' ad_ ?a
   case' a=>refine' ap_ (aj_ (cK_ hr.units) b4_ T.n_sorted bB_ (pa_c (me_ (K:=K) (P:=P) (w:=w) rfl rfl rfl (un2 hr.units) (lW_ R_woods_by_posts (hr.mono d_) LV_ bc_ (pa_c (zv 0 eE_) ab_)) (aK_ ?b) (aY_ ab_) ⟨rfl,rfl,rfl,rfl⟩) ab_))
   case' b=>refine' pa_c (aj_ (he_ rfl) cX_ T.n_min nj_ (pa_c (zv 1 eE_) (pa_c (zv 2 eE_) ab_))) (pa_c (aj_ (fx_ rfl) cW_ T.n_max lR_ (pa_c (zv 1 eE_) (pa_c (zv 2 eE_) ab_))) ab_)
  case R =>walk_at "rd";show⟨v,N,rfl,hv,w10,k⟩
abbrev Hl_:Stmt:=stN 52
theorem if_:ZL ["_law_script","_law_most","_law_net","_law_many","_law_i","_law_j","_law_handed"] ["_law_script"] (F1_ Hl_):=zL
theorem eb_:LK Hl_ "_law_big" .globalImplicit:=r_
theorem kP_:LK Hl_ "_law_copy" .globalImplicit:=r_
theorem ir_:LK Hl_ "_law_net_by" .globalImplicit:=r_
theorem gb_:LK Hl_ "_law_right" .globalImplicit:=r_
theorem iZ_:LK Hl_ "len" .globalImplicit:=r_
theorem mX_:LK Hl_ "max" .globalImplicit:=r_
def IS_(K:PySem.W.Frag):Sp:=λvs H Q _=>∃(a:Addr)(ns:List Int),vs=[.ref a]/\SqL K H a (ns.map V.int)/\∀H',Q (.bl true) H'
theorem rU_{f:Addr}{fd:FuncData}(T:Txt K mg)(F:Fun K "law" "law" Hl_ f fd) (J1_:Cal P w K mg base "_law_net_by" ["_law_script","_law_at","_law_most"] 4 (Kp_ K)) (Hu_:Cal P w K mg base "_law_big" ["_law_script","_law_at"] 2 (Jx_ K)) (KY_:Cal P w K mg base "_law_copy" ["_law_net"] 1 JH_) (I9_:Cal P w K mg base "_law_right" ["_law_net","_law_i","_law_j"] 6 IZ_):Jt_ P w K mg base CX0 7 f fd ["_law_script"] (IS_ K):=by
 show F.ok if_.1 ?len ?body
 case len=>rintro vs H Q E ⟨a,b,rfl,_⟩;rfl
 case body =>
  intro cdv A outer s H vs Q E hr h;obtain⟨a,ns,rfl,hS,k⟩:=h;refine'⟨_,?D,?R⟩
  case D =>
   refine' af_ (zas 1 if_ (F9_ ar_ ?a (F2_ aD_ (al_ Hu_ (hr.mono d_) eb_ (pa_c (zv 0 if_) (pa_c ac_ ab_))) ac_))) ?b
   case' a=>refine' aY_ (pa_c ac_ (pa_c ac_ (pa_c ac_ (pa_c ac_ ab_))))
   case' b=>refine' af_ (zas 2 if_ (al_ J1_ (hr.mono d_) ir_ (pa_c (zv 0 if_) (pa_c ac_ (pa_c (zv 1 if_) ab_))))) ?c
   case' c=>refine' af_ (iu_ (Gz_ (PW.pt ?d) (ad_ (ap_ HN_)) aB_)) ?e
   case' d=>refine' lJ_ (ao_ (qa_ (K:=K) rfl) (aj_ an_ iZ_ T.n_len aQ_ (pa_c (F9_ au_ (zv 2 if_) ac_) ab_)) (aK_ (pa_c ac_ (pa_c ac_ ab_))) (by with_unfolding_all rfl)) ?f
   case' f=>refine' i1_ (ao_ HV_ (F2_ aD_ (F2_ aq_ (al_ Hu_ (hr.mono d_) eb_ (pa_c (zv 0 if_) (pa_c ac_ ab_))) ac_) ac_) ac_ (Gf_ _))
   case' e=>refine' af_ (zas 3 if_ (aj_ an_ iZ_ T.n_len aQ_ (pa_c (F9_ au_ (zv 2 if_) ac_) ab_))) ?g
   case' g=>refine' af_ (zas 4 if_ (F2_ aD_ (F2_ aq_ (al_ Hu_ (hr.mono d_) eb_ (pa_c (zv 0 if_) (pa_c ac_ ab_))) ac_) (zv 3 if_))) ?h
   case' h=>refine' af_ (zas 5 if_ ?i) (af_ (zas 6 if_ (al_ KY_ (hr.mono d_) kP_ (pa_c (zv 2 if_) ab_))) ?j)
   case' i=>refine' F2_ aD_ (F2_ aT_ (F2_ aT_ (zv 4 if_) ac_) (F2_ aD_ (F2_ aq_ (al_ Hu_ (hr.mono d_) eb_ (pa_c (zv 0 if_) (pa_c ac_ ab_))) ac_) ?k)) (zv 3 if_)
   case' k=>refine' aj_ (fx_ rfl) mX_ T.n_max lR_ (pa_c ac_ (pa_c (F2_ pE_ (zv 3 if_) ac_) ab_))
   case' j=>refine' af_ (Gz_ ?l (ad_ (ap_ HN_)) aB_) (ad_ (ap_ (el_ (nl_ (hr.units)) (zv 6 if_) (zv 2 if_) (Gf_ _))))
   case' l=>refine' PW.pt (Iz_ ?m (it_ (PW.pt (lJ_ (ao_ HV_ (zv 3 if_) ac_ (Gf_ _)) ?n))))
   case' m=>refine' e0_ (ek_ (al_ I9_ (hr.mono d_) gb_ (pa_c (zv 6 if_) (pa_c ac_ (pa_c ac_ ab_)))))
   case' n=>refine' i1_ (e0_ (ek_ (al_ I9_ (hr.mono d_) gb_ (pa_c (zv 6 if_) (pa_c (zv 4 if_) (pa_c (zv 5 if_) ab_))))))
  case R =>
   walk_at "rd";show⟨d_,λp np=>?_⟩;have S0:F0_ H (upd H p (.lst [.int 6,.int 6,.int 6,.int 15])):=F0_.new np;have hp0:=aa_ (H:=H) (a:=p) (o:=HO.lst [.int 6,.int 6,.int 6,.int 15]);generalize upd H p (.lst [.int 6,.int 6,.int 6,.int 15])=H1 at*;show⟨a,ns,13,rfl,d_,S0.seq hS,λz H2 s2=>⟨z,rfl,d_,_,s2 _ _ hp0,?_⟩⟩
   obtain⟨mo,hmo,m0,m15⟩:∃mo:Int,atI [V.int 6,.int 6,.int 6,.int 15] (z%4)=some (.int mo)/\0<=mo/\mo<=15:=by
    have h0:=AU_ z (show(4:Int)≠0 by decide);have h1:=AO_ z (show(0:Int)<4 by decide);generalize z%4=y at*;have:y=0\/y=1\/y=2\/y=3:=o_
    rcases this with rfl|rfl|rfl|rfl
    .show⟨6,rfl,d_,d_⟩
    .show⟨6,rfl,d_,d_⟩
    .show⟨6,rfl,d_,d_⟩
    .show⟨15,rfl,d_,d_⟩
   show⟨_,hmo,?_⟩;have S2:=S0.trans s2;clear S0 s2 hp0 hmo np;walk_at "rd";show⟨a,ns,mo,rfl,m0,m15,S2.seq hS,λv N H3 s3 rep3 ok po wo rise=>?_⟩;have S3:=S2.trans s3;clear S2 s3;obtain⟨pn,p0,p1,p2,rs,wos,rfl,hn,h0,h1,r1,h2,r2⟩:=cv_ rep3;have p6:=ok.pl;have pp:=po.p0;have w15:=ok.wl;have wl:wos.length=N.worths.length:=by rw[r2.length,Aa_]
   walk_at "rd";show⟨λσ Hx=>σ=[some (.ref a),some (.int mo),some (.ref pn),none,none,none,none]/\F0_ H3 Hx,?_,?_⟩
   .walk_at "rd";show⟨_,hn,_,HF_,p2,rfl,_,.inl h2,d_,λq nq=>?_⟩;have sq:=F0_.new nq (o:=HO.tup [.int 9,.int 10]);show⟨_,.inr (SqT.of aa_),rfl,rfl,ite2 (λ_=>?_) (λ_=>sq)⟩;show⟨a,ns,13,rfl,d_,(S3.trans sq).seq hS,λz2 H4 s4=>⟨z2,rfl,d_,r_,d_,ite2 (λ_=>k _) (λ_=>sq.trans s4)⟩⟩
   rintro σ Hx ⟨rfl,sx⟩;have hn':=sx _ _ hn;have h0':=sx _ _ h0;have rep':=Rep.mono sx _ rep3;have Sx:=S3.trans sx;clear sx S3 rep3 hn h0 h1 h2 r1 r2 wl;walk_at "rd";show⟨_,hn',_,G2_,p0,rfl,_,.inl h0',?_⟩;rw[Aa_];walk_at "rd";show⟨a,ns,13,rfl,d_,Sx.seq hS,λz2 H4 s4=>⟨z2,rfl,d_,r_,o_,?_⟩⟩;have iz0:=AU_ (z2/16) (show(N.posts.length:Int)≠0 by lia);have iz1:=AO_ (z2/16) (show(0:Int)<(N.posts.length:Int) by lia);generalize z2/16%(N.posts.length:Int)=iz at*;obtain⟨i,rfl⟩:=CE_ iz0;walk_at "rd";show⟨a,ns,13,rfl,d_,(Sx.trans s4).seq hS,λz3 H5 s5=>⟨z3,rfl,d_,r_,by split <;> lia,o_,?_⟩⟩;obtain⟨j,ej,hj⟩:∃j:Nat,((i:Int)+1+z3/96%if(N.posts.length:Int)-1 > 1 then(N.posts.length:Int)-1 else 1)%(N.posts.length:Int)=(j:Int)/\j<N.posts.length:=by have h0:=AU_ ((i:Int)+1+z3/96%if(N.posts.length:Int)-1 > 1 then(N.posts.length:Int)-1 else 1) (show(N.posts.length:Int)≠0 by lia);have h1:=AO_ ((i:Int)+1+z3/96%if(N.posts.length:Int)-1 > 1 then(N.posts.length:Int)-1 else 1) (show(0:Int)<(N.posts.length:Int) by lia);obtain⟨j,e⟩:=CE_ h0;show⟨j,e,o_⟩
   rw[ej];have ns':(Ge_ N).Pairwise sLe:=mW_ rise;have hi:i<N.posts.length:=o_
   have rep5:=Rep.mono (s4.trans s5) _ rep';walk_at "rd";show⟨_,N,rfl,rep5,ok,λv' H6 s6 rep6=>?_⟩;have rep56:=Rep.mono s6 _ rep5;obtain⟨pv,_,rfl,_⟩:=id rep6;walk_at "rd";show⟨_,N,0,0,rfl,rep6,ok,po,wo,ns',pp,pp,λH7 s7=>⟨true,rfl,?_⟩⟩;rw[if_neg d_];show ite2 (λ_=>?_) (λ_=>?_)
   .show⟨_,N,i,j,rfl,Rep.mono s7 _ rep6,ok,po,wo,ns',hi,hj,λH8 s8=>⟨true,rfl,?_⟩⟩;rw[if_neg d_];walk_at "rd";show⟨_,Rep.mono (s7.trans s8) _ rep6,_,Rep.mono (s7.trans s8) _ rep56,true,jD_ _,oc_ _,k _⟩
   .walk_at "rd";show⟨_,Rep.mono s7 _ rep6,_,Rep.mono s7 _ rep56,true,jD_ _,oc_ _,k _⟩
theorem cl_of{C:Addr}(h:PySem.W.hasDictIn K C=true):(PySem.W.clsIn K C).isSome=true:=by
 unfold PySem.W.hasDictIn at h;cases e:PySem.W.clsIn K C with
 |none=>rw[e]at h;cases h
 |some c=>rfl
theorem nt_of{K:PySem.W.Frag}{mg:Str->Option Value}{h:Heap}(X:K.In h)(G:h.Ns mainGlobals mg){C:Addr}{n:Nat}{od:Option Addr}{osl:Array (Option Value)}
  (a:PySem.W.nsIn K mainGlobals "NO_POSTS"=some (some (.ref C))) (l:K.lookup C=some ⟨.type "tuple",od,.seq #[] n,osl⟩):Nt K mg C :=
 ⟨Ef_ X G a,λH=>.inr ⟨_,_,_,l,rfl,rfl,Av_ _,.nil⟩⟩
theorem no_of{K:PySem.W.Frag}{mg:Str->Option Value}{h:Heap}(X:K.In h)(G:h.Ns mainGlobals mg){C:Addr}{t u:Tok}{n:Nat}{od:Option Addr}{osl:Array (Option Value)}
  (a:PySem.W.nsIn K mainGlobals "ONE"=some (some (.ref C))) (l:K.lookup C=some ⟨.type "tuple",od,.seq #[.int 1 t,.int 1 u] n,osl⟩):No K mg C :=
 ⟨Ef_ X G a,λH=>.inr ⟨_,_,_,l,rfl,rfl,A6_ (F3_ (by change 2<=1000;decide)),.cons ⟨_,rfl⟩ (.cons ⟨_,rfl⟩ .nil)⟩⟩
theorem rV_{l:PySem.W.OpenLaw}{fa:Addr}(hfa:mg "law"=some (.ref fa)) (T:Txt K mg) (EX:Exs K mg CR CA CO CW) (hN:Nt K mg CN) (hO:No K mg CZ) (Hw_:Fn0 K mg "greatest_divisor" Gb_) (Jo_:Fn0 K mg "fraction" GD_) (KZ_:Fn0 K mg "times" Hz_) (H1_:Fn0 K mg "ends_by_wire" Gi_) (IM_:Fn0 K mg "points_of" GU_) (Hr_:Fn0 K mg "with_parts_joined" Gd_) (HQ_:Fn0 K mg "ringless_sets" F4_) (H2_:Fn0 K mg "posts_joined" F6_) (Hf_:Fn0 K mg "woods_by_posts" F5_) (Ia_:Fn0 K mg "woods_of" GE_) (Hn_:Fn0 K mg "joined_woods" Gh_) (IN_:Fn0 K mg "weight_of" Gp_) (Jp_:Fn0 K mg "_law_cell_at" GR_) (L7_:Fn0 K mg "_law_big" G7_) (L8_:Fn0 K mg "_law_low" HD_) (IO_:Fn0 K mg "_law_worth_of" GC_) (Kg_:Fn0 K mg "_law_mates" GF_) (Jq_:Fn0 K mg "_law_corners" Gs_) (HH_:Fn0 K mg "_law_corner_behind" Ga_) (J2_:Fn0 K mg "_law_region" GA_) (Kh_:Fn0 K mg "_law_grown" Gk_) (Ki_:Fn0 K mg "_law_names" Go_) (Kj_:Fn0 K mg "_law_begun" GI_) (J3_:Fn0 K mg "_law_net_by" F7_) (K0_:Fn0 K mg "_law_copy" HB_) (L9_:Fn0 K mg "_law_mul" H5_) (Kk_:Fn0 K mg "_law_whole" Ha_) (H3_:Fn0 K mg "_law_is_fraction" Gl_) (K1_:Fn0 K mg "_law_ties" G8_) (Kl_:Fn0 K mg "_law_lumps" Gr_) (Jr_:Fn0 K mg "_law_is_wood" Gm_) (Ma_:Fn0 K mg "_law_due" GT_) (K2_:Fn0 K mg "_law_told" GB_) (Km_:Fn0 K mg "_law_right" Gj_) (MN_:Fn0 K mg "law" Hl_):
  ∃fd:FuncData,(∀(s:Shared)(v:Value),BindsTo s fd ⟨[v],[]⟩ [("_law_script",v)])/\∀base:Heap,K.In base->base.Ns mainGlobals mg->Jt_ l.prog w K mg base CX0 7 fa fd ["_law_script"] (IS_ K):=by
 obtain⟨f,fd,FL,m⟩:=MN_;have e:=hfa.symm.trans m;cases e;show⟨fd,?_,λbase _ _=>?_⟩
 .obtain⟨oc,od,kV,doc,pm,an,cdv,ct,osl,rfl,lk,hcd⟩:=FL.ex;show λs v=>.of_eq rfl
 .have a1:=fl_ (P:=l.prog) (w:=w) (base:=base) T Hw_ ;have a2:=lv_ T Jo_ a1;have a3:=pi_ T KZ_ a2;have b1:=hV_ (P:=l.prog) (w:=w) (base:=base) T H1_ ;have b2:=kG_ (P:=l.prog) (w:=w) (base:=base) T IM_ ;have b3:=eX_ (P:=l.prog) (w:=w) (base:=base) T Hr_ ;have b4:=gT_ T HQ_ b2 b1 b3;have b5:=h1_ (P:=l.prog) (w:=w) (base:=base) T hN H2_ ;have b6:=gx_ T hN Hf_ b4 b5;have r6:=f1_ (P:=l.prog) (w:=w) (base:=base) T EX Hf_;have b7:=ly_ T hN Ia_ b6;have r7:=kL_ T hN Ia_ r6;have b8:=h4_ T Hn_ b6;have r8:=λi j:Int=>gW_ T Hn_ r6 (i:=i) (j:=j);have b9:=kM_ T hO IN_ a3;have d1:=ll_ (P:=l.prog) (w:=w) (base:=base) T Jp_ ;have d2:=qJ_ T L7_ d1;have d3:=qK_ (P:=l.prog) (w:=w) (base:=base) T L8_ ;have d4:=kC_ T IO_ d3;have d5:=n4_ (P:=l.prog) (w:=w) (base:=base) T Kg_ ;have d6:=lo_ (P:=l.prog) (w:=w) (base:=base) T Jq_ ;have d7:=gn_ (P:=l.prog) (w:=w) (base:=base) T HH_ ;have d8:=mQ_ T J2_ d7;have d9:=n5_ T Kh_ d6 d5 d8;have d10:=n8_ (P:=l.prog) (w:=w) (base:=base) T Ki_ ;have d11:=ob_ (P:=l.prog) (w:=w) (base:=base) T Kj_ ;have d12:=mR_ T J3_ d2 d9 d10 d11 d4;have d13:=Cal.of_Q (od_ (P:=l.prog) (w:=w) (base:=base) T K0_);have d14:=qT_ T L9_ d3;have d15:=of_ (P:=l.prog) (w:=w) (base:=base) T Kk_ ;have d16:=hZ_ T H3_ d15 d3;have d17:=pj_ (P:=l.prog) (w:=w) (base:=base) T K1_ ;have d18:=on_ T Kl_ d17;have d19:=lE_ T Jr_ d18;have d20:=q2_ T Ma_ d19;have d21:=pt_ T EX K2_ b7 b8 r7 r8;have d22:=ov_ T Km_ d21 d20 d14 b9 d16;show rU_ T FL d12 d2 d13 d22
theorem walk{l:PySem.W.OpenLaw}{q:Program}{loose:List Str}{XP:(Str->Option Value)->Heap->Prop}{YP:World->Heap->Prop}{d:DefRec}{K:Params->PySem.W.Frag}(hn:l.most=some 63)(hdf:d.params.defaults=[])
  (hY:∀(w:World)(h:Heap),YP w h->(K w.params).In h)
  (F:∀(w:World)(mg:Str->Option Value)(fa:Addr)(h:Heap),(K w.params).In h->h.Ns mainGlobals mg->mg d.name=some (.ref fa) ->
   ∃fd:FuncData,(∀(s:Shared)(u:Value),BindsTo s fd ⟨[u],[]⟩ [("_law_script",u)])/\∀base:Heap,(K w.params).In base->base.Ns mainGlobals mg->Jt_ l.prog w (K w.params) mg base CX0 7 fa fd ["_law_script"] (IS_ (K w.params))):
  PySem.W.WalkO q loose XP YP l.row.toRowW d [] (λf vs=>PySem.call f vs):=
 L2.qm_ (n:=63) (k:=7) (x := "_law_script") (CX:=λ_=>CX0) (sp:=λw=>IS_ (K w.params)) hn d_ hdf ⟨rfl,d_,d_⟩ hY F (λ_ _ a ns hl _ hS=>⟨a,ns,rfl,hS,λ_=>rfl⟩) λ_ _ _ _ _ z=>z
end Rim23
namespace PySem.W.Fast
def tw10004820867104505052:=0
def tw10008154198660317032:=0
def tw1001686608977314526:=0
def tw10039352245322251350:=0
def tw10073183402632782866:=0
def tw1014019289523952563:=0
def tw10140678464102981540:=0
def tw10165225838922034785:=0
def tw10234697969923054449:=0
def tw1028083325275489522:=0
def tw10316904719593204306:=0
def tw10349101567228085066:=0
def tw10385185670811674486:=0
def tw10387998114916236966:=0
def tw10465044366025245683:=0
def tw10466037152781024373:=0
def tw10509080310241377996:=0
def tw10630087183945523825:=0
def tw10909281914641047793:=0
def tw10911224608428076659:=0
def tw10949808697550767761:=0
def tw11004508963584302389:=0
def tw11171835670246499758:=0
def tw11293871317615127773:=0
def tw11300675709449815382:=0
def tw11350245343297189078:=0
def tw11352100224793345588:=0
def tw11393400660243077058:=0
def tw11472637681873960704:=0
def tw11522317109842324550:=0
def tw11769717466655157890:=0
def tw1179262397713528177:=0
def tw11864468245308524843:=0
def tw11874180910093653262:=0
def tw11917250490181323980:=0
def tw12022999109745170157:=0
def tw1208470202894436677:=0
def tw12092828461458981632:=0
def tw12118465750675059209:=0
def tw1214941932083503269:=0
def tw1217629793701792722:=0
def tw12316584797369475567:=0
def tw12404588436870468442:=0
def tw12459647387824058591:=0
def tw12551834552984471713:=0
def tw12553792677943236676:=0
def tw12695219122115832373:=0
def tw12698883175404584491:=0
def tw12699734428675360156:=0
def tw12863163647422645935:=0
def tw12875349176958998551:=0
def tw13060210762668447252:=0
def tw13068170305480835765:=0
def tw13082827339022933239:=0
def tw13189002927345424416:=0
def tw13241662695475156592:=0
def tw1326224037791262999:=0
def tw13302062587012589736:=0
def tw13361391649705002898:=0
def tw13441114744753762478:=0
def tw1353393342777107465:=0
def tw13542851817579273799:=0
def tw1357623878690025117:=0
def tw13602846169193468467:=0
def tw13642621564305263514:=0
def tw13792476276433911874:=0
def tw13887774775040031240:=0
def tw13931143308209882981:=0
def tw13937032795898836230:=0
def tw13954167607978214600:=0
def tw13959997245297912165:=0
def tw14064884741521324357:=0
def tw14176008890395362209:=0
def tw14296925681368250498:=0
def tw14353679783054722871:=0
def tw14507847766917116770:=0
def tw1462471990697834673:=0
def tw14789397987384066266:=0
def tw14807567400904075269:=0
def tw14828170782590564015:=0
def tw14833174544262237111:=0
def tw14850197678355530454:=0
def tw14865601517226390510:=0
def tw14924388251366905404:=0
def tw14979274873623921451:=0
def tw14988190787518568769:=0
def tw15270778102413832178:=0
def tw15356060295822461489:=0
def tw15440687014733957147:=0
def tw15555282614128625577:=0
def tw15566849201559365634:=0
def tw15571430211023577877:=0
def tw15806610745500894641:=0
def tw15852904291164588073:=0
def tw15890120356342079271:=0
def tw15929139851216231645:=0
def tw15967001208720287094:=0
def tw15975852554060322483:=0
def tw15995470439530089775:=0
def tw16055606383467085814:=0
def tw1605714234815749914:=0
def tw16103389073385298745:=0
def tw16109746077096177700:=0
def tw16149015095177077207:=0
def tw16219051742193782390:=0
def tw16256084778725307085:=0
def tw16261883203042587543:=0
def tw16300798966082553146:=0
def tw16322886457803808959:=0
def tw16532589325369639805:=0
def tw16568464392971580452:=0
def tw16639140440288084588:=0
def tw16694885625497673292:=0
def tw1674771337455324159:=0
def tw16855477766488697094:=0
def tw16931958701285769009:=0
def tw16985596299852493868:=0
def tw17016888180659730369:=0
def tw17063505005995859819:=0
def tw17208898685445821242:=0
def tw17246300127835326278:=0
def tw17343423596659902393:=0
def tw17346728663770202264:=0
def tw17391399043968225847:=0
def tw17456748220701322604:=0
def tw1755144552333487540:=0
def tw17613792125272649463:=0
def tw17621824399736634554:=0
def tw17678983793307446590:=0
def tw1778656124061313506:=0
def tw17791117718593276082:=0
def tw17841917202097795810:=0
def tw17870586499402952836:=0
def tw17979543123477712579:=0
def tw18004450841350420591:=0
def tw18115756876818672836:=0
def tw1814316428774792489:=0
def tw1823192220967140675:=0
def tw18308447247327344431:=0
def tw18329119483783163495:=0
def tw18336508260841637934:=0
def tw18344254941198824698:=0
def tw18442894962462438652:=0
def tw1848681729276479503:=0
def tw1861660943066597437:=0
def tw1985306681298983001:=0
def tw2000668183503586777:=0
def tw2025753511370698463:=0
def tw2084834368595055138:=0
def tw2112136031457510895:=0
def tw21249216375041908:=0
def tw213019028277273354:=0
def tw2168778630584203521:=0
def tw2304700852572842046:=0
def tw2310624556811275551:=0
def tw238480678774412299:=0
def tw2386264248722491900:=0
def tw2453255871069782531:=0
def tw253308654326419614:=0
def tw2550412259432094071:=0
def tw2551691522482777534:=0
def tw2565172124628456753:=0
def tw2625062719698476864:=0
def tw2668418996748233608:=0
def tw2690117491245907236:=0
def tw2861909212518992842:=0
def tw2925710601184362636:=0
def tw2955413004199027822:=0
def tw3024194990992359949:=0
def tw3053213298684257810:=0
def tw3067675823181258541:=0
def tw3215307879043385151:=0
def tw3305025192374226833:=0
def tw3429058029736820815:=0
def tw3456188620111784520:=0
def tw3525826329000141280:=0
def tw3561334336914751696:=0
def tw3659125975064612907:=0
def tw3690801736231747692:=0
def tw3744281661103465844:=0
def tw3821337525894786132:=0
def tw3887662157306524686:=0
def tw3910058091871519242:=0
def tw4013206603322881119:=0
def tw4258522029158549996:=0
def tw4260725289461962709:=0
def tw427726526525281998:=0
def tw4316689109128578453:=0
def tw4333608784736924702:=0
def tw4350387209940459456:=0
def tw4369014430550574616:=0
def tw4443778993749037035:=0
def tw4488276984454756383:=0
def tw4586673074419993655:=0
def tw4590951133302997200:=0
def tw4671428799159049740:=0
def tw4674713112088534740:=0
def tw4776454208434752247:=0
def tw4785731356576182549:=0
def tw482077134864291346:=0
def tw4857113327465940998:=0
def tw4857627638033795992:=0
def tw4925332333804989397:=0
def tw4961646881813341621:=0
def tw5006010295245216811:=0
def tw501186376233476426:=0
def tw5044240202420076900:=0
def tw5090354539364291640:=0
def tw5102774076635500494:=0
def tw5133035432306720273:=0
def tw520851407099404183:=0
def tw5236968051219548678:=0
def tw5257403476997114255:=0
def tw5258284001185018834:=0
def tw5276030680514991137:=0
def tw5301848517463326826:=0
def tw5377348939480066915:=0
def tw538138945298866081:=0
def tw542434001503869127:=0
def tw54441678415331783:=0
def tw5499120178404911827:=0
def tw5648358458330190308:=0
def tw5718966384962169277:=0
def tw5749684317169421434:=0
def tw5760971232800928245:=0
def tw5901311185327627467:=0
def tw5938937719750925570:=0
def tw5955666633403408300:=0
def tw6037128166934214148:=0
def tw6135281584389670144:=0
def tw6180161839609301783:=0
def tw6426030322822671177:=0
def tw6432257896032147137:=0
def tw6479365642337250001:=0
def tw6555617953476888793:=0
def tw6588318156321110118:=0
def tw6620526455468702046:=0
def tw6653188019395698122:=0
def tw6685634896393424357:=0
def tw6713145879851516908:=0
def tw6871432049036933360:=0
def tw6959105726019279655:=0
def tw7071123350488128939:=0
def tw7091239698485590857:=0
def tw7139568599134446928:=0
def tw7170388517723551166:=0
def tw7172808204614557648:=0
def tw721254289038514047:=0
def tw7321286031343039290:=0
def tw7375141309125975565:=0
def tw7388348660450198213:=0
def tw7481124879485270440:=0
def tw7506762401703813853:=0
def tw7510003830240507081:=0
def tw7720837670449665982:=0
def tw7851792582868299582:=0
def tw7888214289839769929:=0
def tw7954860761727551224:=0
def tw8151183316891419116:=0
def tw8204389378581252677:=0
def tw8223045232768005054:=0
def tw8251086042553906624:=0
def tw8319918472700758262:=0
def tw8341276770405334662:=0
def tw8406908024878722407:=0
def tw8411740151138786500:=0
def tw8422222718233712238:=0
def tw8473336337056348013:=0
def tw8570033115734751477:=0
def tw8633587516266387822:=0
def tw8659732273795718923:=0
def tw8739529789527186073:=0
def tw8798430673537226614:=0
def tw8820091455913647154:=0
def tw8862156260171973675:=0
def tw89126580568010156:=0
def tw8955045408558679323:=0
def tw9066838345371317016:=0
def tw910177400908093903:=0
def tw9337289813267544604:=0
def tw9369662664734983982:=0
def tw9495138870811462461:=0
def tw95252269521795447:=0
def tw9625499623959658099:=0
def tw9711286757594985394:=0
def tw9731063946402071825:=0
def tw9777560299799009995:=0
def tw9796752545983793346:=0
def tw987729138822471871:=0
def tw9897900454381703653:=0
def tw9917776650024169597:=0
def tw9941930030228744369:=0
def tw9967856025166182410:=0
def tw9976897349342001382:=0
def tw9990117206910548023:=0
end PySem.W.Fast
open PySem PySem.W PyProof.Rows
set_option maxRecDepth 100000 in
set_option maxHeartbeats 0 in
theorem PySem.Challenge.cw_rimread_k23_woods_listed_holds : PySem.Challenge.rw_rimread_k23_woods_listed.Holds := by
 w_on; o_law; k_head; (case hw=>w_witness2)
 k_fill
 refine Rim23.walk (l:=PySem.Challenge.rw_rimread_k23_woods_listed) rfl rfl (fun w h Y=>PySem.W.kIn_of Y) ?F
 case F =>
  intro w mg fa h KX G hmg;refine' Rim23.rV_ (CR:=?CR) (CA:=?CA) (CO:=?CO) (CW:=?CW) (CN:=?CN) (CZ:=?CZ) hmg ⟨?n_abs,?n_max,?n_min,?n_ValueError,?c_LONG_BITS,?c_MOST_WIRES,?n_dict,?n_len,?n_range,?n_list,?n_isinstance,?n_int,?n_bool,?n_tuple,?n_str,?n_enumerate,?n_sorted,?n_set⟩ ⟨?m1,?m2,?m3,?m4,L2.rs_ ?x1,⟨?x2,Rim23.cl_of ?x3,?x4⟩,?x5,⟨Rim23.cl_of ?y1,?y2,?y3,?y4,?y5,?y6,?y7,?y8⟩,?x6,?x7,?x8⟩ (Rim23.nt_of KX G ?na ?nl) (Rim23.no_of KX G ?oa ?ol) ?f_greatest_divisor ?f_fraction ?f_times ?f_ends_by_wire ?f_points_of ?f_with_parts_joined ?f_ringless_sets ?f_posts_joined ?f_woods_by_posts ?f_woods_of ?f_joined_woods ?f_weight_of ?f_Lcell_at ?f_Lbig ?f_Llow ?f_Lworth_of ?f_Lmates ?f_Lcorners ?f_Lcorner_behind ?f_Lregion ?f_Lgrown ?f_Lnames ?f_Lbegun ?f_Lnet_by ?f_Lcopy ?f_Lmul ?f_Lwhole ?f_Lis_fraction ?f_Lties ?f_Llumps ?f_Lis_wood ?f_Ldue ?f_Ltold ?f_Lright ?f_law
  case c_LONG_BITS=>refine' L2.pL_ KX G ?a; (case a=>k_is)
  case c_MOST_WIRES=>refine' L2.pL_ KX G ?a; (case a=>k_is)
  case m1=>refine' PySem.W.mg_of KX G ?a; (case a=>k_is)
  case m2=>refine' PySem.W.mg_of KX G ?a; (case a=>k_is)
  case m3=>refine' PySem.W.mg_of KX G ?a; (case a=>k_is)
  case m4=>refine' PySem.W.mg_of KX G ?a; (case a=>k_is)
  case x1=>k_exc
  case x2=>k_is
  case x3=>k_is
  case x4=>k_is
  case x5=>k_is
  case y1=>k_is
  case y2=>k_is
  case y3=>k_is
  case y4=>k_is
  case y5=>k_is
  case y6=>k_is
  case y7=>k_is
  case y8=>k_is
  case x6=>kit_is
  case x7=>kit_is
  case x8=>kit_is
  case na=>k_is
  case nl=>k_is
  case oa=>k_is
  case ol=>k_is
  case n_abs | n_max | n_min | n_ValueError | n_dict | n_len | n_range | n_list | n_isinstance | n_int | n_bool | n_tuple | n_str | n_enumerate | n_sorted | n_set=>refine' PySem.W.mg_none_of KX G ?a; (case a=>k_is)
  case f_greatest_divisor | f_fraction | f_times | f_ends_by_wire | f_points_of | f_with_parts_joined | f_ringless_sets | f_posts_joined | f_woods_by_posts | f_woods_of | f_joined_woods | f_weight_of | f_Lcell_at | f_Lbig | f_Llow | f_Lworth_of | f_Lmates | f_Lcorners | f_Lcorner_behind | f_Lregion | f_Lgrown | f_Lnames | f_Lbegun | f_Lnet_by | f_Lcopy | f_Lmul | f_Lwhole | f_Lis_fraction | f_Lties | f_Llumps | f_Lis_wood | f_Ldue | f_Ltold | f_Lright | f_law=>refine' L2.ro_ KX G ?a ?l ?c ?k; (case a=>k_is); (case l=>k_is); (case c=>k_is); (case k=>k_is)
