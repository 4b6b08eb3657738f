import PyProof.Rows.All
import Wide.All
import OpenK.AllK
import Wide.FinOn
import Lean
import PyProof.EqAt
import PyProof.EqKinds
import PyProof.TupleCall
import PySem.Challenge.RW_rimread_k49_ways_or_a_cut
local macro_rules|`(tactic|show $t:term)=>`(tactic|refine $t)
local macro_rules | `(tactic|rfl')=> `(tactic|decide +kernel)
local macro_rules | `(tactic|lia)=>`(tactic|first|lia -verbose|omega)
theorem o_{p:Prop}(h:p:=by lia):p:=h
theorem d_{p:Prop}(h:p:=by decide):p:=h
theorem r_{p:Prop}(h:p:=by rfl'):p:=h
theorem s_{p:Prop}(h:p:=by simp):p:=h
set_option Elab.async false
set_option linter.all false
set_option maxRecDepth 100000
set_option maxHeartbeats 4000000
set_option compiler.extract_closed false
def Aa_:=@List.getElem?_eq_getElem
def Ab_:=@List.length_map
def Ac_:=@PySem.wpAny_bind
def Ad_:=@List.getD_eq_getElem?_getD
def Ae_:=@List.mem_singleton
def Af_:=@List.getElem?_map
def Ag_:=@List.mem_of_getElem?
def Ah_:=@PySem.wpAny_pure
def Ai_:=@List.getElem?_eq_some_iff
def Aj_:=@Nat.le_refl
def Ak_:=@PySem.Heap.get?_push_of_some
def Al_:=@List.length_append
def Am_:=@List.mem_cons_of_mem
def An_:=@List.mem_cons_self
def Ao_:=@List.mem_map
def Ap_:=@List.mem_iff_getElem
def Aq_:=@List.mem_append
def Ar_:=@List.mem_cons
def As_:=@decide_eq_true
def At_:=@decide_eq_false
def Au_:=@List.size_toArray
def Av_:=@List.map_append
def Aw_:=@List.getElem?_append_left
def Ax_:=@List.mem_append_left
def Ay_:=@PySem.Heap.lt_size
def Az_:=@List.getElem?_append_right
def AA_:=@PySem.Heap.get?_push_size
def AB_:=@Option.some.inj
def AC_:=@PySem.PassesOwn.never
def AD_:=@List.mem_append_right
def AE_:=@Nat.zero_le
def AF_:=@PySem.F.plainAttrs_list
def AG_:=@List.nodup_append
def AH_:=@Nat.le_trans
def AI_:=@List.mem_filter
def AJ_:=@of_decide_eq_true
def AK_:=@Int.toNat_natCast
def AL_:=@Nat.ne_of_lt
def AM_:=@List.length_cons
def AN_:=@Bool.false_ne_true
def AO_:=@Nat.lt_of_lt_of_le
def AP_:=@List.length_singleton
def AQ_:=@Int.emod_lt_of_pos
def AR_:=@Option.map_eq_some_iff
def AS_:=@Nat.le_of_lt
def AT_:=@List.length_take
def AU_:=@List.nodup_cons
def AV_:=@PySem.F.slot_list_append
def AW_:=@PySem.F.type_list_append
def AX_:=@List.mem_range
def AY_:=@Int.emod_nonneg
def AZ_:=@List.map_cons
def A0_:=@List.take_of_length_le
def A1_:=@Nat.mod_eq_of_lt
def A2_:=@List.getElem_mem
def A3_:=@List.getElem?_set
def A4_:=@List.getElem?_inj
def A5_:=@Prod.mk.inj
def A6_:=@List.nodup_nil
def A7_:=@List.cons_ne_nil
def A8_:=@List.flatten_cons
def A9_:=@List.append_assoc
def Ba_:=@Array.getD_eq_getD_getElem?
def Bb_:=@PySem.Heap.get?_update_other
def Bc_:=@List.take_succ
def Bd_:=@Array.length_toList
def Be_:=@List.flatten_append
def Bf_:=@Nat.lt_irrefl
def Bg_:=@PySem.wpAny_holding
def Bh_:=@PySem.Around.in1_units
def Bi_:=@PyProof.Rows.callWith_type1
def Bj_:=@List.length_filter_le
def Bk_:=@List.take_append_drop
def Bl_:=@Prod.ext
def Bm_:=@Array.perm_iff_toList_perm
def Bn_:=@List.pairwise_map
def Bo_:=@List.eq_nil_of_length_eq_zero
def Bp_:=@List.dropLast_concat_getLast
def Bq_:=@PySem.mem_of_lookup
def Br_:=@List.length_range
def Bs_:=@List.count_pos_iff
def Bt_:=@PySem.wpAny_loadPart'
def Bu_:=@Array.getElem?_eq_getElem
def Bv_:=@List.map_map
def Bw_:=@List.Pairwise.imp_of_mem
def Bx_:=@PySem.wpAny_mono
def By_:=@Nat.lt_succ_of_lt
def Bz_:=@Decidable.byContradiction
def BA_:=@List.getElem?_eq_none
def BB_:=@Nat.lt_of_le_of_lt
def BC_:=@List.not_mem_nil
def BD_:=@List.take_length
def BE_:=@PySem.wpAny_call_entry
def BF_:=@PySem.Paired.length
def BG_:=@PySem.sizeLine_eq
def BH_:=@List.filter_cons_of_neg
def BI_:=@List.filter_cons_of_pos
def BJ_:=@PySem.wpAny_truthy_bool
def BK_:=@PySem.wpAny_dictEntries
def BL_:=@List.append_nil
def BM_:=@List.length_set
def BN_:=@Nat.mod_lt
def BO_:=@Nat.succ_le_succ
def BP_:=@Array.getElem?_toList
def BQ_:=@Bool.false_eq_true
def BR_:=@Bool.xor_false
def BS_:=@if_false
def BT_:=@List.forIn_cons
def BU_:=@List.find?_cons
def BV_:=@List.range_succ
def BW_:=@PySem.Around.under_plainId
def BX_:=@PySem.wpAny_typeNameOfWhole_itemiter
def BY_:=@List.getLast?_append
def BZ_:=@PySem.wpAny_newObj_type
def B0_:=@List.count_append
def B1_:=@PySem.F.slot_dict_itemiterator_next
def B2_:=@PySem.wpAny_typeNameOfWhole_keyiter
def B3_:=@PySem.F.plainAttrs_dict
def B4_:=@beq_eq_false_iff_ne
def B5_:=@List.length_reverse
def B6_:=@List.length_drop
def B7_:=@Bool.and_eq_true
def B8_:=@List.lookup_cons
def B9_:=@List.all_eq_true
def Ca_:=@PySem.F.slot_dict_keyiterator_next
def Cb_:=@List.mem_flatten
def Cc_:=@List.getElem_map
def Cd_:=@PySem.Calls.callWith_builtin
def Ce_:=@PySem.wpAny_Call_Name_kw
def Cf_:=@Nat.sub_self
def Cg_:=@PyProof.Rows.F.plain_set_update_loop
def Ch_:=@PySem.wpAny_passesOwn
def Ci_:=@List.count_cons
def Cj_:=@PySem.codeAny_builtin
def Ck_:=@Option.isSome_map
def Cl_:=@List.drop_eq_getElem_cons
def Cm_:=@PySem.wpAny_typeNameOf_itemiter
def Cn_:=@Classical.byContradiction
def Co_:=@PySem.Heap.size_push
def Cp_:=@Option.isSome_iff_exists
def Cq_:=@Nat.le_add_right
def Cr_:=@PySem.wpAny_isInstance
def Cs_:=@PySem.wpAny_typeNameOf_keyiter
def Ct_:=@List.getElem?_range
def Cu_:=@PySem.wpAny_callSpecial?_slot
def Cv_:=@Int.eq_ofNat_of_zero_le
def Cw_:=@List.map_take
def Cx_:=@Option.map_some
def Cy_:=@PySem.wpAny_dictEpoch
def Cz_:=@PySem.wpAny_setField_rec
def CA_:=@PyProof.Rows.bits_of_natAbs_le
def CB_:=@List.length_pos_of_mem
def CC_:=@Array.getElem?_eq_none
def CD_:=@List.Pairwise.imp
def CE_:=@List.getElem_take
def CF_:=@PySem.Heap.get?_update_self
def CG_:=@Nat.mod_self
def CH_:=@Int.zero_add
def CI_:=@PySem.F.slot_dict_setdefault
def CJ_:=@PySem.wpAny_notOrdered_dict
def CK_:=@PySem.call_meets
def CL_:=@Nat.not_lt
def CM_:=@List.ext_getElem
def CN_:=@List.any_cons
def CO_:=@PySem.plainId_quiet
def CP_:=@PySem.wpAny_specialOf
def CQ_:=@List.getElem?_eq_none_iff
def CR_:=@PyProof.Rows.get?_update_seq
def CS_:=@List.mem_of_find?_eq_some
def CT_:=@List.mem_filterMap
def CU_:=@Nat.ne_of_gt
def CV_:=@PySem.tupleKind_room_in1
def CW_:=@List.filter_append
def CX_:=@of_decide_eq_false
def CY_:=@List.pairwise_cons
def CZ_:=@PyProof.Rows.F.entry_set_update_loop
def C0_:=@List.getElem?_replicate
def C1_:=@PySem.wpAny_Call_method0_late
def C2_:=@List.getElem?_cons_succ
def C3_:=@PySem.Heap.get?_push_ne
def C4_:=@Int.gcd_dvd_right
def C5_:=@decide_eq_true_eq
def C6_:=@List.flatMap_cons
def C7_:=@PySem.wpAny_pyNext_list_item
def C8_:=@Nat.le_succ
def C9_:=@List.length_eq_one_iff
def Da_:=@PySem.wpAny_isOneOf_itemiter
def Db_:=@PyProof.Rows.listUpdate_at
def Dc_:=@List.map_drop
def Dd_:=@Nat.lt_succ_self
def De_:=@List.mem_flatMap
def Df_:=@PySem.Heap.size_update
def Dg_:=@PySem.wpAny_pyNext_list_end
def Dh_:=@List.contains_iff_mem
def Di_:=@List.getElem?_reverse
def Dj_:=@PySem.F.slot_list_pop
def Dk_:=@PySem.F.type_list_pop
def Dl_:=@List.eraseIdxIfInBounds_toArray
def Dm_:=@PySem.F.args_dict_itemiterator_next_1
def Dn_:=@PySem.wpAny_execs_nil
def Do_:=@Bool.eq_iff_iff
def Dp_:=@PySem.codeAny_mono
def Dq_:=@List.map_nil
def Dr_:=@PySem.SeqAt.EqAt.same
def Ds_:=@PySem.pushCells_keeps
def Dt_:=@Nat.not_lt_zero
def Du_:=@PySem.F.slot_list_lt
def Dv_:=@PySem.F.entry_dict_itemiterator_next
def Dw_:=@PySem.F.args_dict_keyiterator_next_1
def Dx_:=@PySem.F.entry_dict_keyiterator_next
def Dy_:=@List.take_append_of_le_length
def Dz_:=@Option.not_isSome_iff_eq_none
def DA_:=@List.filterMap_cons
def DB_:=@PySem.evalArgs_none
def DC_:=@List.flatMap_append
def DD_:=@PySem.Heap.SameBut.update
def DE_:=@List.length_zipWith
def DF_:=@List.zipWith_append
def DG_:=@List.forIn_nil
def DH_:=@PySem.wpAny_setField
def DI_:=@PySem.wpAny_fieldsOf
def DJ_:=@PySem.F.type_dict_setdefault
def DK_:=@Sum.inr.inj
def DL_:=@List.not_lt
def DM_:=@PySem.wpAny_field
def DN_:=@PyProof.Rows.assignInOrder_cons
def DO_:=@PySem.Calls.spliced_cons
def DP_:=@PySem.SeqAt.EqAt.int_int
def DQ_:=@PySem.SeqAt.EqAt.of_refs
def DR_:=@List.set_cons_zero
def DS_:=@List.set_cons_succ
def DT_:=@List.count_eq_zero
def DU_:=@PySem.wpAny_tupleItemsOf
def DV_:=@PySem.Calls.Name_function_global
def DW_:=@PySem.wpAny_standAt
def DX_:=@PySem.wpAny_newList
def DY_:=@PySem.wpAny_attempt
def DZ_:=@PySem.wpAny_pyIter_list
def D0_:=@PySem.Calls.spliced_nil
def D1_:=@PySem.wpAny_rule
def D2_:=@Int.natAbs_ediv_le_natAbs
def D3_:=@List.mem_or_eq_of_mem_set
def D4_:=@List.getElem_inj
def D5_:=@PySem.wpAny_getItem_list_slice
def D6_:=@PySem.wpAny_comprehension_free
def D7_:=@or_false
def D8_:=@PySem.wpAny_Dict_empty
def D9_:=@Int.mul_ediv_cancel_left
def Ea_:=@List.filter_cons
def Eb_:=@PySem.wpAny_typeOf
def Ec_:=@PySem.F.slot_dict_values
def Ed_:=@List.nodup_range
def Ee_:=@List.getLast_mem
def Ef_:=@List.length_filterMap_le
def Eg_:=@Int.natCast_emod
def Eh_:=@PySem.F.slot_list_insert
def Ei_:=@PySem.F.type_list_insert
def Ej_:=@Nat.add_comm
def Ek_:=@decide_eq_decide
def El_:=@PySem.F.slot_list_extend
def Em_:=@PySem.F.type_list_extend
def En_:=@List.eraseIdx_cons_succ
def Eo_:=@decide_eq_false_iff_not
def Ep_:=@PySem.F.slot_dict_items
def Eq_:=@Int.gcd_natCast_natCast
def Er_:=@List.of_mem_zip
def Es_:=@Nat.min_eq_left
def Et_:=@List.length_nil
def Eu_:=@List.find?_some
def Ev_:=@List.getElem?_set_self
def Ew_:=@PySem.W.cellsFrom_some
def Ex_:=@PySem.seqIndex_of
def Ey_:=@PyProof.Rows.subscriptTail_builtinR
def Ez_:=@PySem.wpAny_Call_method_late
def EA_:=@PySem.wpAny_Assign_Subscript
def EB_:=@List.drop_eq_nil_of_le
def EC_:=@PySem.F.args_list_lt_2
def ED_:=@PyProof.Rows.seqEpoch_at
def EE_:=@List.filter_eq_nil_iff
def EF_:=@PySem.F.slot_dict_items_iter
def EG_:=@Nat.log2_lt
def EH_:=@PySem.wpAny_isTrue_Compare1
def EI_:=@List.length_replicate
def EJ_:=@PySem.F.entry_list_lt
def EK_:=@PySem.wpAny_newTuple
def EL_:=@PySem.builtinLookup_eq_fast
def EM_:=@List.getElem_set_self
def EN_:=@PySem.isSubtype_tuple_tuple
def EO_:=@PySem.wpAny_isOneOf_keyiter
def EP_:=@Bool.false_xor
def EQ_:=@List.count_nil
def ER_:=@List.getElem?_zipWith
def ES_:=@List.zipWith_nil_left
def ET_:=@PySem.Heap.get?_none_of_le
def EU_:=@List.getElem?_set_ne
def EV_:=@PyProof.Rows.Subscript_
def EW_:=@PySem.SeqAt.EqAt.bool_bool
def EX_:=@PySem.Calls.evalArgs_plain
def EY_:=@PySem.wpAny_pyIter_keyiter
def EZ_:=@PySem.codeAny_call_builtin
def E0_:=@List.replicate_succ'
def E1_:=@List.getElem_zipWith
def E2_:=@Nat.pow_le_pow_right
def E3_:=@PySem.evalPart_none
def E4_:=@List.all_cons
def E5_:=@List.cons.inj
def E6_:=@PySem.IsiPair.tuple_tuple
def E7_:=@Int.neg_ediv_of_dvd
def E8_:=@List.getD_cons_zero
def E9_:=@List.getD_cons_succ
def Fa_:=@List.getElem_set_ne
def Fb_:=@List.map_congr_left
def Fc_:=@PyProof.Rows.getElem?_mirror_all
def Fd_:=@PySem.W.pyHash_slot
def Fe_:=@List.filter_eq_self
def Ff_:=@PySem.Heap.DictOfH.typeIs
def Fg_:=@List.length_pos_iff
def Fh_:=@PySem.seqIndex_neg
def Fi_:=@Nat.le_of_eq
def Fj_:=@PyProof.Rows.listItems_at
def Fk_:=@PySem.call_meetsIn
def Fl_:=@PySem.Paired.snoc
def Fm_:=@PySem.wpAny_letGo
def Fn_:=@PySem.wpAny_mkInt
namespace L2
open PySem PySem.Spec PyProof.Rows
abbrev Key:=Sum Int Str
def Im_:Key->Value->Bool
 | .inl k,v=>Value.isInt k v
 | .inr x,v=>Value.isStrOf x v
def keyH(w:World):Key->Int
 | .inl k=>hashInt k
 | .inr x=>hashStr w x
theorem be_:∀{k:Key}{v:Value},Im_ k v=true->(∃i t,k=Sum.inl i/\v=Value.int i t)\/(∃x t,k=Sum.inr x/\v=Value.str x t)
 | .inl i,v,h=>by
  obtain⟨t,e⟩:=Value.isInt_shape (k:=i) (v:=v) h;show .inl ⟨i,t,rfl,e⟩
 | .inr x,v,h=>by obtain⟨t,e⟩:=Value.isStrOf_shape (x:=x) (v:=v) h;show .inr ⟨x,t,rfl,e⟩
theorem lQ_(i:Int)(t:Tok):Im_ (.inl i) (.int i t)=true:=by simp[Im_,Value.isInt]
theorem lR_(x:Str)(t:Tok):Im_ (.inr x) (.str x t)=true:=by simp[Im_,Value.isStrOf]
theorem pA_(a b:Int):decide ((Sum.inl a:Key)=Sum.inl b)=(a == b):=by
 by_cases e:a=b
 .subst e;simp
 .have h:¬ (Sum.inl a:Key)=Sum.inl b:=λq=>e (Sum.inl.inj q);rw[At_ h];show(B4_.mpr e).symm
theorem pB_(a b:Str):decide ((Sum.inr a:Key)=Sum.inr b)=decide (a=b):=by
 by_cases e:a=b
 .subst e;simp
 .have h:¬ (Sum.inr a:Key)=Sum.inr b:=λq=>e (DK_ q);rw[At_ h,At_ e]
theorem pC_(a:Int)(b:Str):decide ((Sum.inl a:Key)=Sum.inr b)=false:=At_ (λq=>nomatch q)
theorem pD_(a:Str)(b:Int):decide ((Sum.inr a:Key)=Sum.inl b)=false:=At_ (λq=>nomatch q)
def FG_(prog:Program)(w:World):PySem.KeyKind prog w Key where
 is:=Im_
 hash:=keyH w
 inj:=λv a b ha hb=>by
  rcases be_ ha with⟨i,t,rfl,rfl⟩|⟨x,t,rfl,rfl⟩
  .rcases be_ hb with⟨j,u,rfl,e⟩|⟨y,u,rfl,e⟩
   .injection e with e1 _;rw[e1]
   .show nomatch e
  .rcases be_ hb with⟨j,u,rfl,e⟩|⟨y,u,rfl,e⟩
   .show nomatch e
   .injection e with e1 _;rw[e1]
 byValue:=λk v h=>by rcases be_ h with⟨i,t,rfl,rfl⟩|⟨x,t,rfl,rfl⟩ <;> rfl
 pyHash:=λhv h=>by
  rcases be_ hv with⟨i,t,rfl,rfl⟩|⟨x,t,rfl,rfl⟩
  .show wpAny_pyHash_int h
  .show wpAny_pyHash_str h
 eqBool:=λhu hv h=>by
  rcases be_ hu with⟨i,t,rfl,rfl⟩|⟨x,t,rfl,rfl⟩
  .rcases be_ hv with⟨j,u,rfl,rfl⟩|⟨y,u,rfl,rfl⟩
   .rw[pA_]at h;show wpAny_eqBool_int h
   .rw[pC_]at h;show SeqAt.EqAt.int_str i t y u _ _ _ _ h
  .rcases be_ hv with⟨j,u,rfl,rfl⟩|⟨y,u,rfl,rfl⟩
   .rw[pD_]at h;show SeqAt.EqAt.str_int x t j u _ _ _ _ h
   .rw[pB_]at h;show wpAny_eqBool_str h
 «strs»:=λk x t v h=>by
  rcases be_ h with⟨i,u,rfl,e⟩|⟨y,u,rfl,e⟩
  .show nomatch e
  .injection e with e1 _
   subst e1;cases v <;> rfl
theorem kc_(prog:Program)(w:World)(i:Int)(t:Tok):(FG_ prog w).is (.inl i) (.int i t)=true:=lQ_ i t
theorem kd_(prog:Program)(w:World)(x:Str)(t:Tok):(FG_ prog w).is (.inr x) (.str x t)=true:=lR_ x t
inductive V where
 |non|bl (b:Bool)|int (i:Int)|str (x:Str)|byt (b:Array UInt8)|flt (b:UInt64)|ref (a:Addr)|ty (n:String)
 deriving DecidableEq
def FU_:V->Value->Prop
 | .non,u=>u=Value.none
 | .bl b,u=>u=Value.bool b
 | .int i,u=>∃t,u=Value.int i t
 | .str x,u=>∃t,u=Value.str x t
 | .byt b,u=>∃t,u=Value.bytes b t
 | .flt b,u=>∃t,u=Value.float b t
 | .ref a,u=>u=Value.ref a
 | .ty n,u=>u=Value.type n
abbrev FO_:List V->List Value->Prop:=Paired FU_
theorem FO_.length{xs:List V}{us:List Value}(r:FO_ xs us):xs.length=us.length:=BF_ r
theorem FO_.get:∀{xs:List V}{us:List Value}{i:Nat}{x:V},FO_ xs us->xs[i]?=some x->∃u,us[i]?=some u/\FU_ x u
 |_,_,_,_,.nil,e=>by simp at e
 |_,_,0,_,.cons r _,e=>by simp at e;subst e;show⟨_,rfl,r⟩
 |_,_,i+1,x,.cons _ t,e=>by obtain⟨u,h1,h2⟩:=FO_.get (i:=i) (x:=x) t (by simpa using e);show⟨u,by simpa using h1,h2⟩
theorem FO_.set{x:V}{u:Value}(r:FU_ x u):∀{xs:List V}{us:List Value}(i:Nat),FO_ xs us->FO_ (xs.set i x) (us.set i u)
 |_,_,_,.nil=>.nil
 |_,_,0,.cons _ t=>.cons r t
 |_,_,i+1,.cons q t=>.cons q (FO_.set r i t)
theorem FO_.append:∀{xs ys:List V}{us ws:List Value},FO_ xs us->FO_ ys ws->FO_ (xs++ys) (us++ws)
 |_,_,_,_,.nil,s=>s
 |_,_,_,_,.cons r t,s=>.cons r (FO_.append t s)
theorem FO_.take:∀{xs:List V}{us:List Value}(n:Nat),FO_ xs us->FO_ (xs.take n) (us.take n)
 |_,_,0,_=>.nil
 |_,_,_+1,.nil=>.nil
 |_,_,n+1,.cons r t=>.cons r (FO_.take n t)
theorem FO_.drop:∀{xs:List V}{us:List Value}(n:Nat),FO_ xs us->FO_ (xs.drop n) (us.drop n)
 |_,_,0,r=>r
 |_,_,_+1,.nil=>.nil
 |_,_,n+1,.cons _ t=>FO_.drop n t
def HR_:Option V->Option Value->Prop
 |some v,some u=>FU_ v u
 |none,none=>True
 |_,_=>False
def KV{κ:Type}:List (κ×V)->List (κ×Value)->Prop:=Paired λ(p:κ×V)(q:κ×Value)=>p.1=q.1/\FU_ p.2 q.2
def kV:Key->V
 | .inl i=>.int i
 | .inr x=>.str x
inductive HO where
 |lst (xs:List V)
 |tup (xs:List V)
 |dK (kvs:List (Key×V))|dT (kvs:List (List Key×V))
 |set (S:Int->Bool) (n:Nat)
 |ins (C dx:Addr) (fs:List (Str×V))
 |own (x:Addr)
 |xd (fs:List (Str×V))
 |met (f x:Addr)
 |rng (lo hi:Int)
 |frz (o:Obj) (u:HO)
 |tbl (ps:Array Value)
 |ext (φ:Heap->Prop)
abbrev Hp:=Addr->Option HO
def upd(H:Hp)(a:Addr)(o:HO):Hp:=λb=>if b=a then some o else H b
variable{H:Hp}{a:Addr}{o:HO}
theorem aa_:upd H a o a=some o:=by unfold upd;rw[if_pos rfl]
variable{b:Addr}
theorem ae_(h:b≠a):upd H a o b=H b:=by unfold upd;rw[if_neg h]
theorem oC_{u:HO}:upd (upd H a o) a u=upd H a u:=by funext b;unfold upd;split <;> rfl
theorem IX_{u:HO}(h:H a=some o)(h':H b=some u)(d:o≠u):a≠b:=by intro e;subst e;rw[h]at h';show d (AB_ h')
theorem ag_(h:H a=some o)(h':H b=none):a≠b:=by intro e;subst e;rw[h]at h';cases h'
section
variable (P:Program)(w:World)
def FV_(H:Hp)(h:Heap)(a:Addr):HO->Prop
 | .lst xs=>xs.length<=sizeLine/\∃(its:List Value)(n:Nat),FO_ xs its/\h.get? a=some {cls:=.type "list",data:=.seq its.toArray n}
 | .tup xs=>xs.length<=sizeLine/\∃its:List Value,FO_ xs its/\IsTup h a its.toArray
 | .dK kvs=>kvs.length<=sizeLine/\(a == sysModules)=false/\∃vs,KV kvs vs/\h.DictOf (FG_ P w) a vs
 | .dT kvs=>kvs.length<=sizeLine/\(a == sysModules)=false/\∃xs:List (List Key×Addr×Value),
   Paired (λ(p:List Key×V)(q:List Key×Addr×Value)=>p.1=q.1/\H q.2.1=some (.tup (p.1.map kV))/\FU_ p.2 q.2.2) kvs xs /\
   ∃o es ep,h.get? a=some o/\o.ExactDict/\o.data=.dict es ep/\es.toList=xs.map (entryOfKey (tupleKind (FG_ P w)))/\(xs.map (·.1)).Nodup
 | .set S n=>h.SetOf (intKind P w) a S n
 | .ins C dx fs=>H dx=some (.own a)/\fs.length<=1000/\dx≠a/\h.get? a=some (PySem.W.instObj C dx) /\
   ∃mA,h.Ns1 dx mA/\(∀f,HR_ (fs.lookup f) (mA f))/\PySem.Within mA (fs.map (·.1))
 | .own _=>∃o,h.get? a=some o
 | .xd fs=>∃mA,h.Ns1 a mA/\∀f,HR_ (fs.lookup f) (mA f)
 | .rng lo hi=>∃t u v,h.get? a=some {cls:=.type "range",data:=.fields #[.int lo t,.int hi u,.int 1 v]}
 | .frz o u=>h.get? a=some o/\FV_ H h a u
 | .tbl ps=>h.get? a=some {cls:=.none,data:=.fields ps}
 | .met f x=>h.get? a=some (PySem.W.methodObj (.ref f) (.ref x))
 | .ext φ=>φ h/\(∃o,h.get? a=some o)/\∀h1 h2:Heap,φ h1->(∀o,h1.get? a=some o->h2.get? a=some o)->φ h2
def HOk(H:Hp)(h:Heap):Prop:=∀a o,H a=some o->FV_ P w H h a o
end
variable {P:Program}{w:World}{H H':Hp}{h h':Heap}{a:Addr}{o:HO}
theorem FV_.lt(x:FV_ P w H h a o):a<h.objs.size:=by
 cases o with
 |lst xs=>obtain⟨_,_,_,_,e⟩:=x;show Ay_ e
 |tup xs=>obtain⟨_,_,_,p⟩:=x;show p.lt
 |dK kvs=>obtain⟨_,_,_,_,o,_,_,e,_⟩:=x;show Ay_ e
 |dT kvs=>obtain⟨_,_,_,_,o,_,_,e,_⟩:=x;show Ay_ e
 |set S n=>obtain⟨o,_,_,_,e,_⟩:=x;show Ay_ e
 |ins C dx fs=>obtain⟨_,_,_,e,_⟩:=x;show Ay_ e
 |own y=>obtain⟨_,e⟩:=x;show Ay_ e
 |xd fs=>obtain⟨_,⟨_,_,_,e,_⟩,_⟩:=x;show Ay_ e
 |rng lo hi=>obtain⟨_,_,_,e⟩:=x;show Ay_ e
 |frz ob u=>obtain⟨e,_⟩:=x;show Ay_ e
 |tbl ps=>show Ay_ (show h.get? a=some _ from x)
 |met f y=>show Ay_ (show h.get? a=some _ from x)
 |ext φ=>obtain⟨_,⟨_,e⟩,_⟩:=x;show Ay_ e
theorem Paired.mapP{α β:Type}{F G:α->β->Prop}:∀{l₁:List α}{l₂:List β},Paired F l₁ l₂->(∀a b,F a b->G a b)->Paired G l₁ l₂
 |_,_,.nil,_=>.nil
 |_,_,.cons r t,f=>.cons (f _ _ r) (Paired.mapP t f)
theorem FV_.stay(x:FV_ P w H h a o)(k:∀b u,(b=a\/H b=some (.own a))->h.get? b=some u->h'.get? b=some u)
  (ho:∀b,H b=some (.own a)->H' b=some (.own a)) (ht:∀b xs,H b=some (.tup xs)->H' b=some (.tup xs)):FV_ P w H' h' a o:=by
 induction o with
 |lst xs=>obtain⟨z,its,n,r,e⟩:=x;show⟨z,its,n,r,k _ _ (.inl rfl) e⟩
 |tup xs=>obtain⟨z,its,r,ob,e,c⟩:=x;show⟨z,its,r,ob,k _ _ (.inl rfl) e,c⟩
 |dK kvs=>obtain⟨z,y,vs,r,ob,es,ep,e,c⟩:=x;show⟨z,y,vs,r,ob,es,ep,k _ _ (.inl rfl) e,c⟩
 |dT kvs =>
  obtain⟨z,y,xs,r,ob,es,ep,e,c⟩:=x;show⟨z,y,xs,Paired.mapP r λp q z=>⟨z.1,ht _ _ z.2.1,z.2.2⟩,ob,es,ep,k _ _ (.inl rfl) e,c⟩
 |set S n=>obtain⟨ob,es,ep,t,e,c⟩:=x;show⟨ob,es,ep,t,k _ _ (.inl rfl) e,c⟩
 |ins C dx fs =>
  obtain⟨d,z,ne,e,mA,⟨od,es,ep,e2,c⟩,r⟩:=x;show⟨ho _ d,z,ne,k _ _ (.inl rfl) e,mA,⟨od,es,ep,k _ _ (.inr d) e2,c⟩,r⟩
 |own y=>obtain⟨ob,e⟩:=x;show⟨ob,k _ _ (.inl rfl) e⟩
 |xd fs=>obtain⟨mA,⟨od,es,ep,e,c⟩,r⟩:=x;show⟨mA,⟨od,es,ep,k _ _ (.inl rfl) e,c⟩,r⟩
 |rng lo hi=>obtain⟨t,u,v,e⟩:=x;show⟨t,u,v,k _ _ (.inl rfl) e⟩
 |frz ob u ih=>obtain⟨e,q⟩:=x;show⟨k _ _ (.inl rfl) e,ih q⟩
 |tbl ps =>
  have e:h.get? a=some {cls:=.none,data:=.fields ps}:=x;change h'.get? a=some {cls:=.none,data:=.fields ps};show k a _ (.inl rfl) e
 |met f y =>
  have e:h.get? a=some (PySem.W.methodObj (.ref f) (.ref y)):=x;change h'.get? a=some (PySem.W.methodObj (.ref f) (.ref y));show k a _ (.inl rfl) e
 |ext φ=>obtain⟨p,⟨o,e⟩,st⟩:=x;show⟨st _ _ p λo q=>k _ _ (.inl rfl) q,⟨o,k _ _ (.inl rfl) e⟩,st⟩
theorem HOk.lt(x:HOk P w H h)(e:H a=some o):a<h.objs.size:=(x a o e).lt
theorem HOk.fresh(x:HOk P w H h)(e:h.objs.size<=a):H a=none:=by
 cases q:H a with
 |none=>rfl
 |some u=>show absurd (AO_ (x.lt q) e) (Bf_ _)
theorem HOk.kept(x:HOk P w H h)(k:∀b u,h.get? b=some u->h'.get? b=some u):HOk P w H h':=λa o e =>
 (x a o e).stay (λb u _ q=>k b u q) (λ_ q=>q) λ_ _ q=>q
theorem HOk.laid(x:HOk P w H h)(k:∀b u,h.get? b=some u->h'.get? b=some u)(hp:h.objs.size<=a)(new:FV_ P w (upd H a o) h' a o):HOk P w (upd H a o) h':=λb u e=>by
 have hn:=x.fresh hp;by_cases hb:b=a
 .subst hb;rw[aa_]at e;cases e;show new
 .rw[ae_ hb]at e;show(x b u e).stay (λc v _ q=>k c v q) (λc q=>by rw[ae_ (ag_ q hn)];show q) λc xs q=>by rw[ae_ (ag_ q hn)];show q
def Rd(H:Hp)(a:Addr)(u:HO):Prop:=H a=some u\/∃o,H a=some (.frz o u)
theorem Rd.ok{u:HO}(r:Rd H a u)(x:HOk P w H h):FV_ P w H h a u:=by
 rcases r with r|⟨o,r⟩
 .show x a u r
 .obtain⟨_,q⟩:=x a _ r;show q
def Mut:Option HO->Prop
 |some (.lst _)=>True
 |some (.dK _)=>True
 |some (.dT _)=>True
 |some (.set _ _)=>True
 |some (.ins _ _ _)=>True
 |some (.ext _)=>True
 |_=>False
variable {x e:Addr}{o':HO}
theorem HOk.write(ok:HOk P w H h)(mu:Mut (H x))(he:e=x\/H e=some (.own x))(k:∀b u,b≠e->h.get? b=some u->h'.get? b=some u)(heo:∃u,h'.get? e=some u)
  (new:FV_ P w (upd H x o') h' x o'):HOk P w (upd H x o') h':=λb u q=>by
 have nown:∀c y,H c=some (.own y)->c≠x:=λc y r z=>by subst z;rw[r]at mu;show mu
 have ntup:∀c xs,H c=some (.tup xs)->c≠x:=λc xs r z=>by subst z;rw[r]at mu;show mu
 by_cases hb:b=x
 .subst hb;rw[aa_]at q;cases q;show new
 .rw[ae_ hb]at q;by_cases hbe:b=e
  .have q':H b=some (.own x):=by
    rcases he with z|z
    .show absurd (hbe.trans z) hb
    .rw[hbe];show z
   rw[q]at q';cases q';obtain⟨v,hv⟩:=heo;show⟨v,by rw[hbe];show hv⟩
  .show(ok b u q).stay (λc v hc r=>k c v ?_ r) (λc r=>by rw[ae_ (nown c b r)];show r) λc xs r=>by rw[ae_ (ntup c xs r)];show r
   rcases hc with rfl|hc
   .show hbe
   .rintro rfl
    rcases he with z|z
    .show nown c b hc z
    .rw[hc]at z;cases z;show hb rfl
structure Un(fs ex:List Addr)(H H':Hp)(h h':Heap):Prop where
 keep:∀b o,h.get? b=some o->H b=none->b∉fs->b∉ex->h'.get? b=some o
 slot:∀b o,h.get? b=some o->H b=none->b∈fs->b∉ex->∃sl,h'.get? b=some {o with slots:=sl}
 free:∀b o,h.get? b=some o->H b=none->b∉ex->H' b=none
 there:∀b o,h.get? b=some o->b∉ex->∃o',h'.get? b=some o'
 tups:∀b xs,H b=some (.tup xs)->H' b=some (.tup xs)
 frzs:∀b o u,H b=some (.frz o u)->H' b=some (.frz o u)
 tbls:∀b ps,H b=some (.tbl ps)->∃more,H' b=some (.tbl (ps++more))
section
variable {fs fs' ex ex':List Addr}{H1 H2:Hp}{h1 h2:Heap}
theorem Un.any(u:Un fs ex H H1 h h1){ob:Obj}(q:h.get? b=some ob)(n:H b=none)(hx:b∉ex):∃sl,h1.get? b=some {ob with slots:=sl}:=by
 by_cases hb:b∈fs
 .show u.slot b ob q n hb hx
 .show⟨ob.slots,u.keep b ob q n hb hx⟩
theorem Un.kept(k:∀b u,h.get? b=some u->h'.get? b=some u):Un fs ex H H h h' :=
 ⟨λb ob q _ _ _=>k b ob q,λb ob q _ _ _=>⟨ob.slots,k b ob q⟩,λ_ _ _ n _=>n,λb ob q _=>⟨ob,k b ob q⟩,λ_ _ q=>q,λ_ _ _ q=>q,λ_ ps q=>⟨#[],by rw[q];simp⟩⟩
theorem Un.refl:Un fs ex H H h h:=Un.kept λ_ _ q=>q
theorem Un.laid(k:∀b u,h.get? b=some u->h'.get? b=some u)(hp:h.objs.size<=a)(hn:H a=none):Un fs ex H (upd H a o) h h' where
 keep:=λb u q _ _ _=>k b u q
 slot:=λb u q _ _ _=>⟨u.slots,k b u q⟩
 free:=λb u q n _=>by rw[ae_ (AL_ (AO_ (Ay_ q) hp))];show n
 there:=λb u q _=>⟨u,k b u q⟩
 tups:=λb xs q=>by rw[ae_ (ag_ q hn)];show q
 frzs:=λb u xs q=>by rw[ae_ (ag_ q hn)];show q
 tbls:=λb ps q=>⟨#[],by rw[ae_ (ag_ q hn),q];simp⟩
theorem Un.write(mu:Mut (H x))(he:e=x\/H e=some (.own x))(k:∀b u,b≠e->h.get? b=some u->h'.get? b=some u)(heo:∃u,h'.get? e=some u):Un fs ex H (upd H x o) h h':=by
 have hx:∀b,H b=none->b≠x:=λb n z=>by subst z;rw[n]at mu;show mu
 have hb:∀b,H b=none->b≠e:=λb n z=>by
  subst z
  rcases he with r|r
  .show hx b n r
  .rw[n]at r;cases r
 have hm:∀b u,H b=some u->¬ Mut (some u)->b≠x:=λb u q nm z=>by subst z;rw[q]at mu;show nm mu
 show⟨λb u q n _ _=>k b u (hb b n) q,λb u q n _ _=>⟨u.slots,k b u (hb b n) q⟩,λb u q n _=>by rw[ae_ (hx b n)];show n,λb u q _=>?_,
  λb xs q=>by rw[ae_ (hm b _ q λz=>z)];show q,λb u xs q=>by rw[ae_ (hm b _ q λz=>z)];show q,λb ps q=>⟨#[],by rw[ae_ (hm b _ q λz=>z),q];simp⟩⟩
 by_cases hbe:b=e
 .subst hbe;show heo
 .show⟨u,k b u hbe q⟩
end
def trk(h:Heap)(H:Hp):List Addr:=(List.range h.objs.size).filter λa=>(H a).isSome
def Jf_(h:Heap)(H:Hp):Heap:=PySem.W.hideAll h (trk h H)
theorem lS_(h:Heap)(H:Hp):(Jf_ h H).objs.size=h.objs.size:=PySem.W.hideAll_size _ _
theorem m6_{o:Obj}(e:h.get? b=some o)(n:H b=none):(Jf_ h H).get? b=some o :=
 PySem.W.hideAll_get _ e λhm=>by have q:(H b).isSome=true:=(AI_.mp hm).2;rw[n]at q;simp at q
theorem oD_{o:Obj}(e:(Jf_ h H).get? b=some o):h.get? b=some o/\H b=none:=by
 have e':h.get? b=some o:=PySem.W.of_hideAll (trk h H) e;show⟨e',?_⟩;cases q:H b with
 |none=>rfl
 |some x =>have hm:b∈trk h H:=AI_.mpr ⟨AX_.mpr (Ay_ e'),by simp[q]⟩;have z:(Jf_ h H).get? b=none:=PySem.W.hideAll_none (trk h H) hm;rw[z]at e;cases e
def F8_(g h:Heap)(L:Addr):List (Addr×Obj):=(List.range h.objs.size).filterMap λa=>if a=L\/(g.get? a).isSome=true then none else(h.get? a).map λo=>(a,o)
theorem dF_{g:Heap}{L:Addr}{o:Obj}(h1:a≠L)(h2:g.get? a=none)(h3:h.get? a=some o):(a,o)∈F8_ g h L :=
 CT_.mpr ⟨a,AX_.mpr (Ay_ h3),by simp[h1,h2,h3]⟩
theorem hL_{g:Heap}{L:Addr}{p:Addr×Obj}(hp:p∈F8_ g h L):p.1≠L/\g.get? p.1=none/\h.get? p.1=some p.2:=by
 obtain⟨b,_,e⟩:=CT_.mp hp;split at e
 .cases e
 .rename_i hn;cases q:h.get? b with
  |none=>rw[q]at e;simp at e
  |some u =>
   rw[q]at e;simp only[Cx_,Option.some.injEq]at e;subst e;show⟨λz=>hn (.inl z),?_,q⟩;change g.get? b=none;cases r:g.get? b with
   |none=>rfl
   |some v=>show(hn (.inr (by simp[r]))).elim
def rest(g h:Heap)(L d:Addr):List (Addr×Obj):=(F8_ g h L).filter λp=>decide (p.1≠d)
theorem eJ_{g:Heap}{L:Addr}:News g L h (F8_ g h L):=λp hp=>let⟨a,b,c⟩:=hL_ hp;⟨c,a,b⟩
structure Mod(K:PySem.W.Frag)(mg:Str->Option Value)(base:Heap):Prop where
 kin:K.In base
 glob:base.Ns mainGlobals mg
 blt:∃mb,base.Ns builtinsNs mb/\∀x:Str,x ≠ "__name__" -> mb x=bootBuiltins x
 nolimit:base.NoLimit
structure Cx where
 prog:Program
 w:World
 K:PySem.W.Frag
 mg:Str->Option Value
 base:Heap
 A:Around
 N:List Str
 s₀:Shared
 H₀:Hp
 env:Env
 outer:List Env
 stack:List Env
 ex:List Addr
 fn:Str->Bool
 calm:Bool
 pn:List (Addr×Obj)
 xe:Value->Shared->Prop
def frs(l:List Env):List Addr:=l.filterMap (·.frame)
abbrev Cx.fs(X:Cx):List Addr:=frs X.outer
def Vis(sc:Scope)(x:Str):Prop:=sc.names.lookup x=some .local\/sc.names.lookup x=some .cell\/sc.names.lookup x=some .free
def Loc(sc:Scope)(x:Str):Prop:=sc.names.lookup x=some .local\/sc.names.lookup x=some .cell
def Look(env:Env)(h:Heap)(m:Str->Option Value)(x:Str)(u:Value):Prop :=
 (env.kindOf x=some .local/\m x=some u)\/((env.kindOf x=some .cell\/env.kindOf x=some .free)/\∃c,env.cells.lookup x=some c/\h.IsCell c (some u))
structure Cx.Ok(X:Cx):Prop where
 mod:Mod X.K X.mg X.base
 kind:X.env.scope.kind=.function
 glob:X.env.globals=mainGlobals
 blt:X.env.builtins=builtinsNs
 above:X.s₀.heap.objs.size<=X.env.locals
 inj:∀x y c,X.env.cells.lookup x=some c->X.env.cells.lookup y=some c->x=y
 has:∀x,(X.env.kindOf x=some .cell\/X.env.kindOf x=some .free)->∃c,X.env.cells.lookup x=some c
 cab:∀x c,X.fn x=true->X.env.cells.lookup x=some c->X.s₀.heap.objs.size<=c
 hd:X.calm=true->X.A.handled=none
 frames:X.A.frames=some X.stack
 stk:X.stack=X.outer\/(X.stack=X.env::X.outer/\X.env.frame=some X.env.locals)
 exf:∀b∈X.ex,b≠X.env.locals/\∀x c,X.env.cells.lookup x=some c->c≠b
 bs:∀b o,X.base.get? b=some o->X.s₀.heap.get? b=some o/\X.H₀ b=none
 bsz:X.base.objs.size<=X.s₀.heap.objs.size
 noex:∀b o,X.base.get? b=some o->b∉X.ex
 exfs:∀b∈X.ex,b∉X.fs
 funs:X.s₀.heap.FunFrames X.base X.outer
 frf:∀b∈X.fs,X.H₀ b=none
structure Inv(X:Cx)(pins:List (Addr×Obj))(σ:List (Option V))(H:Hp)(s:Shared):Prop where
 ok:X.Ok
 os:s.os=X.s₀.os
 bare:AllBare s.gens
 base:Un X.fs X.ex X.H₀ H X.s₀.heap s.heap
 loc:∃m,s.heap.Ns X.env.locals m/\∀(i:Nat)(x:Str)(v:V),X.N[i]?=some x->σ[i]?=some (some v)->Vis X.env.scope x->∃u,FU_ v u/\Look X.env s.heap m x u
 cell:∀x c,X.env.cells.lookup x=some c->∃v,s.heap.IsCell c v
 free:H X.env.locals=none
 freeC:∀x c,X.env.cells.lookup x=some c->H c=none
 pin:∀p∈X.pn++pins,s.heap.get? p.1=some p.2/\H p.1=none/\p.1≠X.env.locals/\p.1∉X.fs/\∀v,p.2.data≠.cell v
 hok:HOk X.prog X.w H s.heap
 len:σ.length=X.N.length
variable {X:Cx}{pins:List (Addr×Obj)}{σ:List (Option V)}{s:Shared}
theorem Cx.Ok.nofr(ok:X.Ok){o:Obj}(e:X.base.get? b=some o):b∉X.fs:=λhb=>by have:=(ok.funs.mem hb).1;rw[e]at this;cases this
theorem Inv.bs(I:Inv X pins σ H s):∀b o,X.base.get? b=some o->s.heap.get? b=some o/\H b=none:=λb o e =>⟨I.base.keep b o (I.ok.bs b o e).1 (I.ok.bs b o e).2 (I.ok.nofr e) (I.ok.noex b o e),I.base.free b o (I.ok.bs b o e).1 (I.ok.bs b o e).2 (I.ok.noex b o e)⟩
theorem Inv.bk(I:Inv X pins σ H s):∀b o,X.base.get? b=some o->s.heap.get? b=some o:=λb o e=>(I.bs b o e).1
theorem Inv.mod(I:Inv X pins σ H s):Mod X.K X.mg X.base:=I.ok.mod
theorem Inv.kIn(I:Inv X pins σ H s):X.K.In s.heap:=I.ok.mod.kin.keeps I.bk
theorem Inv.lt(I:Inv X pins σ H s):X.env.locals<s.heap.objs.size:=let⟨_,hn,_⟩:=I.loc;hn.lt
theorem Inv.sz(I:Inv X pins σ H s):X.s₀.heap.objs.size<=s.heap.objs.size:=AH_ I.ok.above (AS_ I.lt)
theorem Inv.nofs(I:Inv X pins σ H s)(h:s.heap.objs.size<=a):a∉X.fs:=λhb=>by obtain⟨_,o,ho,_⟩:=I.ok.funs.mem hb;show absurd (AO_ (Ay_ ho) (AH_ I.sz h)) (Bf_ _)
theorem Inv.cne(I:Inv X pins σ H s):∀x c,X.env.cells.lookup x=some c->c≠X.env.locals:=λx c e z=>by obtain⟨v,o,ho,hd⟩:=I.cell x c e;obtain⟨m,⟨o',es,ep,ho',hd',_⟩,_⟩:=I.loc;rw[z,ho']at ho;cases ho;rw[hd']at hd;cases hd
theorem Inv.funs(I:Inv X pins σ H s):s.heap.FunFrames X.base X.outer:=by
 have all:∀(l:List Env),(∀b∈frs l,b∈X.fs)->X.s₀.heap.FunFrames X.base l->s.heap.FunFrames X.base l:=by
  intro l
  induction l with
  |nil=>intro _ _;trivial
  |cons env r ih =>intro hs hl;obtain⟨hk,⟨L,o,hf,hn,ho,hd⟩,hr⟩:=hl;have hL:L∈X.fs:=hs L (by unfold frs;rw[DA_,hf];show An_);obtain⟨sl,e⟩:=I.base.slot L o ho (I.ok.frf L hL) hL λz=>I.ok.exfs L z hL;show⟨hk,⟨L,_,hf,hn,e,hd⟩,ih (λb hb=>hs b (by unfold frs;rw[DA_,hf];show Am_ _ hb)) hr⟩
 show all X.outer (λ_ hb=>hb) I.ok.funs
theorem Inv.stack(I:Inv X pins σ H s):s.heap.FunFrames X.base X.stack:=by
 rcases I.ok.stk with e|⟨e,hf⟩
 .rw[e];show I.funs
 .rw[e];obtain⟨m,hn,_⟩:=I.loc;show .cons (by rw[I.ok.kind];decide) hf hn ?_ I.funs;show ET_ (AH_ I.ok.bsz I.ok.above)
theorem Inv.stkSub(I:Inv X pins σ H s):∀b∈frs X.stack,b∈X.env.locals::X.fs:=λb hb=>by
 rcases I.ok.stk with e|⟨e,hf⟩
 .rw[e]at hb;show Am_ _ hb
 .rw[e]at hb;unfold frs at hb;rw[DA_,hf]at hb;show hb
theorem Inv.stkFree(I:Inv X pins σ H s):∀b∈frs X.stack,H b=none:=λb hb=>by
 rcases Ar_.mp (I.stkSub b hb)with e|hb
 .rw[e];show I.free
 .obtain⟨_,o,ho,_⟩:=I.ok.funs.mem hb;show I.base.free b o ho (I.ok.frf b hb) λz=>I.ok.exfs b z hb
theorem Inv.step{g':Array GenState}{t':Nat}{d':Drawn}{ch:List Addr}(I:Inv X pins σ H s)
  (hch:∀b∈ch,(b∈X.ex\/X.s₀.heap.objs.size<=b)/\b≠X.env.locals/\(∀x c,X.env.cells.lookup x=some c->c≠b)/\∀p∈X.pn++pins,p.1≠b)
  (keep:∀b o,b≠X.env.locals->b∉X.fs->b∉ch->s.heap.get? b=some o->H b=none->h'.get? b=some o)
  (slot:∀b o,b≠X.env.locals->b∈X.fs->b∉ch->s.heap.get? b=some o->H b=none->∃sl,h'.get? b=some {o with slots:=sl}) (free:∀b o,b∉ch->s.heap.get? b=some o->H b=none->H' b=none)
  (there:∀b o,b∉ch->s.heap.get? b=some o->∃o',h'.get? b=some o')
  (tups:∀b xs,H b=some (.tup xs)->H' b=some (.tup xs)) (frzs:∀b o u,H b=some (.frz o u)->H' b=some (.frz o u)) (tbls:∀b ps,H b=some (.tbl ps)->∃more,H' b=some (.tbl (ps++more)))
  (ns:∀m,s.heap.Ns X.env.locals m->h'.Ns X.env.locals m) (hok:HOk X.prog X.w H' h') (hg:AllBare g'):
  Inv X pins σ H' {s with heap:=h',gens:=g',drawn:=d',toks:=t'}:=by
 have neL:∀b o,X.s₀.heap.get? b=some o->b≠X.env.locals:=λb o e=>AL_ (AO_ (Ay_ e) I.ok.above)
 have neC:∀b o,X.s₀.heap.get? b=some o->b∉X.ex->b∉ch:=λb o e hx hb=>by
  rcases(hch b hb).1 with z|z
  .show hx z
  .show absurd (AO_ (Ay_ e) z) (Bf_ _)
 have cellK:∀x c,X.env.cells.lookup x=some c->∀v,s.heap.IsCell c v->h'.IsCell c v:=λx c e v ⟨o,ho,hd⟩=>by
  have nch:c∉ch:=λz=>(hch c z).2.2.1 x c e rfl;by_cases hc:c∈X.fs
  .obtain⟨sl,q⟩:=slot c o (I.cne x c e) hc nch ho (I.freeC x c e);show⟨_,q,hd⟩
  .show⟨o,keep c o (I.cne x c e) hc nch ho (I.freeC x c e),hd⟩
 show⟨I.ok,I.os,hg,⟨λb o e n hb hx=>?_,λb o e n hb hx=>?_,λb o e n hx=>?_,λb o e hx=>?_,λb xs e=>tups b xs (I.base.tups b xs e),λb o xs e=>frzs b o xs (I.base.frzs b o xs e),λb ps e=>?_⟩,?_,λx c e=>?_,?_,λx c e=>?_,λp hp=>?_,hok,I.len⟩
 .show keep b o (neL b o e) hb (neC b o e hx) (I.base.keep b o e n hb hx) (I.base.free b o e n hx)
 .obtain⟨sl,e1⟩:=I.base.slot b o e n hb hx;obtain⟨sl',e2⟩:=slot b _ (neL b o e) hb (neC b o e hx) e1 (I.base.free b o e n hx);show⟨sl',e2⟩
 .obtain⟨o',e1⟩:=I.base.there b o e hx;show free b o' (neC b o e hx) e1 (I.base.free b o e n hx)
 .obtain⟨o',e1⟩:=I.base.there b o e hx;show there b o' (neC b o e hx) e1
 .obtain⟨m1,e1⟩:=I.base.tbls b ps e;obtain⟨m2,e2⟩:=tbls b _ e1;show⟨m1++m2,by rw[e2,Array.append_assoc]⟩
 .obtain⟨m,hn,hl⟩:=I.loc;show⟨m,ns m hn,λi x v e1 e2 e3=>?_⟩;obtain⟨u,r,l⟩:=hl i x v e1 e2 e3;show⟨u,r,?_⟩
  rcases l with l|⟨k,c,e,z⟩
  .show .inl l
  .show .inr ⟨k,c,e,cellK x c e _ z⟩
 .obtain⟨v,z⟩:=I.cell x c e;show⟨v,cellK x c e v z⟩
 .obtain⟨m,⟨o,_,_,ho,_⟩,_⟩:=I.loc;show free _ o (λz=>(hch _ z).2.1 rfl) ho I.free
 .obtain⟨v,o,ho,hd⟩:=I.cell x c e;show free c o (λz=>(hch c z).2.2.1 x c e rfl) ho (I.freeC x c e)
 .obtain⟨e,n,ne,nf,d⟩:=I.pin p hp;have nch:p.1∉ch:=λz=>(hch p.1 z).2.2.2 p hp rfl;show⟨keep p.1 p.2 ne nf nch e n,free p.1 p.2 nch e n,ne,nf,d⟩
theorem Inv.un{t':Nat}(I:Inv X pins σ H s)(u:Un X.fs [] H H' s.heap h')(hok:HOk X.prog X.w H' h'):Inv X pins σ H' {s with heap:=h',toks:=t'}:=by
 obtain⟨m,⟨o,es,ep,ho,r⟩,_⟩:=id I.loc;obtain⟨sl,hL⟩:=u.any ho I.free s_;show I.step (g':=s.gens) (d':=s.drawn) (ch:=[]) (λ_ z=>nomatch z) (λb o _ hb _ e n=>u.keep b o e n hb s_) (λb o _ hb _ e n=>u.slot b o e n hb s_) (λb o _ e n=>u.free b o e n s_) (λb o _ e=>u.there b o e s_) u.tups u.frzs u.tbls (λm' hm=>by obtain⟨o',es',ep',ho',r'⟩:=hm;rw[ho]at ho';cases ho';show⟨_,es',ep',hL,r'⟩) hok I.bare
theorem Inv.call{g':Array GenState}{t':Nat}{d':Drawn}{ch:List Addr}(I:Inv X pins σ H s)(u:Un (frs X.stack) ch H H' s.heap h')(hok:HOk X.prog X.w H' h')(hg:AllBare g')
  (hch:∀b∈ch,(b∈X.ex\/X.s₀.heap.objs.size<=b)/\b≠X.env.locals/\(∀x c,X.env.cells.lookup x=some c->c≠b)/\∀p∈X.pn++pins,p.1≠b):
  Inv X pins σ H' {s with heap:=h',gens:=g',drawn:=d',toks:=t'}:=by
 obtain⟨m,⟨o,es,ep,ho,r⟩,_⟩:=id I.loc;obtain⟨sl,hL⟩:=u.any ho I.free λz=>(hch _ z).2.1 rfl;show I.step (ch:=ch) hch (λb o hL hb hc e n=>u.keep b o e n (λz=>(Ar_.mp (I.stkSub b z)).elim hL hb) hc) (λb o _ _ hc e n=>u.any e n hc) (λb o hc e n=>u.free b o e n hc) (λb o hc e=>u.there b o e hc) u.tups u.frzs u.tbls (λm' hm=>by obtain⟨o',es',ep',ho',r'⟩:=hm;rw[ho]at ho';cases ho';show⟨_,es',ep',hL,r'⟩) hok hg
theorem Inv.turned{t':Nat}{it:Addr}(I:Inv X pins σ H s)(k:∀b o,b≠it->s.heap.get? b=some o->h'.get? b=some o)(hn:H it=none)(hL:it≠X.env.locals)
  (h1:it∈X.ex\/X.s₀.heap.objs.size<=it) (h2:∀x c,X.env.cells.lookup x=some c->c≠it) (h3:∀p∈X.pn++pins,p.1≠it):Inv X pins σ H {s with heap:=h',toks:=t'}:=by
 have nit:∀b u,H b=some u->b≠it:=λb u e z=>by rw[z,hn]at e;cases e
 show I.step (g':=s.gens) (d':=s.drawn) (ch:=[it]) (λb hb=>?_) (λb o _ _ hc e _=>k b o (λz=>hc (by simp[z])) e) (λb o _ _ hc e _=>⟨o.slots,k b o (λz=>hc (by simp[z])) e⟩) (λ_ _ _ _ n=>n)
  (λb o hc e=>⟨o,k b o (λz=>hc (by simp[z])) e⟩) (λ_ _ e=>e) (λ_ _ _ e=>e) (λb ps e=>⟨#[],by rw[e];simp⟩) (λm hm=>?_) (λb u e=>?_) I.bare
 .have e:b=it:=by simpa using hb
  subst e;show⟨h1,hL,h2,h3⟩
 .obtain⟨o,es,ep,ho,r⟩:=hm;show⟨o,es,ep,k _ o (Ne.symm hL) ho,r⟩
 .show(I.hok b u e).stay (λc v hc q=>k c v ?_ q) (λ_ q=>q) λ_ _ q=>q
  rcases hc with z|z
  .rw[z];show nit b u e
  .show nit c _ z
theorem Inv.tok(I:Inv X pins σ H s)(t:Nat):Inv X pins σ H {s with toks:=t}:=I.un (h':=s.heap) (t':=t) Un.refl I.hok
theorem Inv.kept{t':Nat}(I:Inv X pins σ H s)(k:∀b u,s.heap.get? b=some u->h'.get? b=some u):Inv X pins σ H {s with heap:=h',toks:=t'}:=I.un (Un.kept k) (I.hok.kept k)
theorem Inv.laid{t':Nat}(I:Inv X pins σ H s)(k:∀b u,s.heap.get? b=some u->h'.get? b=some u)(hp:s.heap.objs.size<=a)(new:FV_ X.prog X.w (upd H a o) h' a o):
  Inv X pins σ (upd H a o) {s with heap:=h',toks:=t'}:=I.un (Un.laid k hp (I.hok.fresh hp)) (I.hok.laid k hp new)
theorem Inv.write{x e:Addr}{o:HO}{t':Nat}(I:Inv X pins σ H s)(mu:Mut (H x))(he:e=x\/H e=some (.own x))(k:∀b u,b≠e->s.heap.get? b=some u->h'.get? b=some u)(heo:∃u,h'.get? e=some u)
  (new:FV_ X.prog X.w (upd H x o) h' x o):Inv X pins σ (upd H x o) {s with heap:=h',toks:=t'}:=I.un (Un.write mu he k heo) (I.hok.write mu he k heo new)
theorem Inv.pins_of{pins':List (Addr×Obj)}(I:Inv X pins σ H s)(h:∀p∈pins',s.heap.get? p.1=some p.2/\H p.1=none/\p.1≠X.env.locals/\p.1∉X.fs/\∀v,p.2.data≠.cell v):Inv X pins' σ H s :=
 ⟨I.ok,I.os,I.bare,I.base,I.loc,I.cell,I.free,I.freeC,λp hp=>(Aq_.mp hp).elim (λz=>I.pin p (Ax_ _ z)) (h p),I.hok,I.len⟩
theorem kR_{N:List Str}(hN:N.Nodup){i j:Nat}{x:Str}(a:N[i]?=some x)(b:N[j]?=some x):i=j:=by obtain⟨h1,e1⟩:=Ai_.mp a;obtain⟨h2,e2⟩:=Ai_.mp b;show(D4_ hN).mp (e1.trans e2.symm)
theorem i0_{M:Model}{A:Around}{E:Value->Shared->Prop}{i:Nat}{x:Str}{v:V}{u:Value}{Q:Unit->Shared->Prop}(I:Inv X pins σ H s)(hN:X.N.Nodup)(hi:X.N[i]?=some x)(hx:Loc X.env.scope x)(r:FU_ v u)
  (h:∀s',Inv X pins (σ.set i (some v)) H s'->(∃a,Heap.SameBut a s.heap s'.heap/\(a=X.env.locals\/X.env.cells.lookup x=some a))->Q () s') (hf:X.fn x=true\/X.env.scope.names.lookup x=some .local:=by first|show .inl rfl|show .inr rfl|assumption):wpAny M A (storeName X.env x u) Q E s:=by
 obtain⟨m,hn,hl⟩:=id I.loc;have hcls:(X.env.scope.kind == .class ||(X.env.scope.kind == .module && X.env.locals != X.env.globals))=false:=by rw[I.ok.kind];rfl
 have hiσ:i<σ.length:=by rw[I.len];show(Ai_.mp hi).1
 have cne:=I.cne
 have tracked:∀{a:Addr}{h':Heap},(∃o,s.heap.get? a=some o/\H a=none)->Heap.SameBut a s.heap h'->HOk X.prog X.w H h':=λ{a h'} ha hs b ob e=>by
  obtain⟨_,_,hfree⟩:=ha;show(I.hok b ob e).stay (λc w' hc q=>(hs.2 c ?_).trans q) (λ_ q=>q) λ_ _ q=>q;rintro rfl
  rcases hc with rfl|hc
  .rw[hfree]at e;cases e
  .rw[hfree]at hc;cases hc
 rcases hx with hk|hk
 .show wpAny_storeName_local hk hn (λh' hn' hs=>?_) hcls;obtain⟨oL,_,_,hoL,_⟩:=id hn;show h _ ⟨I.ok,I.os,I.bare,⟨λb o e n hb hx=>?_,λb o e n hb hx=>?_,I.base.free,λb o e hx=>?_,I.base.tups,I.base.frzs,I.base.tbls⟩,⟨_,hn',λj y v' e1 e2 e3=>?_⟩,λy c e=>?_,I.free,I.freeC,λp hp=>?_,tracked ⟨oL,hoL,I.free⟩ hs,by simpa using I.len⟩ ⟨_,hs,.inl rfl⟩
  .show(hs.2 b (AL_ (AO_ (Ay_ e) I.ok.above))).trans (I.base.keep b o e n hb hx)
  .obtain⟨sl,e1⟩:=I.base.slot b o e n hb hx;show⟨sl,(hs.2 b (AL_ (AO_ (Ay_ e) I.ok.above))).trans e1⟩
  .obtain⟨o',e1⟩:=I.base.there b o e hx;show⟨o',(hs.2 b (AL_ (AO_ (Ay_ e) I.ok.above))).trans e1⟩
  .by_cases hj:j=i
   .subst hj;rw[hi]at e1;cases e1;rw[Ev_ hiσ]at e2;cases e2;show⟨u,r,.inl ⟨hk,s_⟩⟩
   .rw[EU_ (Ne.symm hj)]at e2;obtain⟨u',r',q⟩:=hl j y v' e1 e2 e3;show⟨u',r',?_⟩
    rcases q with⟨k,e⟩|⟨k,c,e,z⟩
    .show .inl ⟨k,?_⟩;have:y≠x:=λe=>hj (kR_ hN e1 (e▸hi));simp[this,e]
    .show .inr ⟨k,c,e,z.sameBut hs (cne y c e)⟩
  .obtain⟨w',z⟩:=I.cell y c e;show⟨w',z.sameBut hs (cne y c e)⟩
  .obtain⟨e,n,ne,nf,d⟩:=I.pin p hp;show⟨(hs.2 p.1 ne).trans e,n,ne,nf,d⟩
 .have hfn:X.fn x=true:=by
   rcases hf with z|z
   .show z
   .rw[z]at hk;cases hk
  obtain⟨c,hc⟩:=I.ok.has x (.inl hk);obtain⟨w',z⟩:=I.cell x c hc;show wpAny_storeName_cell I.ok.kind hk hc z (λh' hc' hs=>?_);obtain⟨oc,hoc,hocd⟩:=id z;show h {s with heap:=h'} ⟨I.ok,I.os,I.bare,⟨λb o e n hb hx=>?_,λb o e n hb hx=>?_,I.base.free,λb o e hx=>?_,I.base.tups,I.base.frzs,I.base.tbls⟩,⟨m,hn.sameBut hs (Ne.symm (cne x c hc)),λj y v' e1 e2 e3=>?_⟩,λy c' e=>?_,I.free,I.freeC,λp hp=>?_,tracked ⟨oc,hoc,I.freeC x c hc⟩ hs,by simpa using I.len⟩ ⟨c,hs,.inr hc⟩
  .show(hs.2 b (AL_ (AO_ (Ay_ e) (I.ok.cab x c hfn hc)))).trans (I.base.keep b o e n hb hx)
  .obtain⟨sl,e1⟩:=I.base.slot b o e n hb hx;show⟨sl,(hs.2 b (AL_ (AO_ (Ay_ e) (I.ok.cab x c hfn hc)))).trans e1⟩
  .obtain⟨o',e1⟩:=I.base.there b o e hx;show⟨o',(hs.2 b (AL_ (AO_ (Ay_ e) (I.ok.cab x c hfn hc)))).trans e1⟩
  .by_cases hj:j=i
   .subst hj;rw[hi]at e1;cases e1;rw[Ev_ hiσ]at e2;cases e2;show⟨u,r,.inr ⟨.inl hk,c,hc,hc'⟩⟩
   .rw[EU_ (Ne.symm hj)]at e2;obtain⟨u',r',q⟩:=hl j y v' e1 e2 e3;show⟨u',r',?_⟩
    rcases q with q|⟨k,c',e,z'⟩
    .show .inl q
    .show .inr ⟨k,c',e,z'.sameBut hs ?_⟩;rintro rfl;show hj (kR_ hN e1 (I.ok.inj _ _ _ e hc▸hi))
  .by_cases hcc:c'=c
   .subst hcc;show⟨_,hc'⟩
   .obtain⟨w2,z2⟩:=I.cell y c' e;show⟨w2,z2.sameBut hs hcc⟩
  .obtain⟨e,n,ne,nf,d⟩:=I.pin p hp;show⟨(hs.2 p.1 ?_).trans e,n,ne,nf,d⟩;intro q;rw[q,hoc]at e;have q':oc=p.2:=AB_ e;show d w' (by rw[<-q'];show hocd)
theorem gN_{M:Model}{A:Around}{E:Value->Shared->Prop}{i:Nat}{x:Str}{v:V}{u:Value}{Q:Unit->Shared->Prop}(I:Inv X pins σ H s)(hN:X.N.Nodup)(hi:X.N[i]?=some x)(hx:Loc X.env.scope x)(r:FU_ v u)
  (h:∀s',Inv X pins (σ.set i (some v)) H s'->Q () s') (hf:X.fn x=true\/X.env.scope.names.lookup x=some .local:=by first|show .inl rfl|show .inr rfl|assumption):wpAny M A (storeName X.env x u) Q E s :=
 i0_ I hN hi hx r (λs' I' _=>h s' I') hf
theorem Inv.call'{s':Shared}{ch:List Addr}(I:Inv X pins σ H s)(ho:s'.os=s.os)(u:Un (frs X.stack) ch H H' s.heap s'.heap)(hok:HOk X.prog X.w H' s'.heap)(hg:AllBare s'.gens)
  (hch:∀b∈ch,(b∈X.ex\/X.s₀.heap.objs.size<=b)/\b≠X.env.locals/\(∀x c,X.env.cells.lookup x=some c->c≠b)/\∀p∈X.pn++pins,p.1≠b):Inv X pins σ H' s':=by
 obtain⟨h',g',d',t',o'⟩:=s';have e:o'=s.os:=ho;subst e;show I.call (g':=g') (t':=t') (d':=d') u hok hg hch
abbrev XK:=Value->Option Addr->Hp->Prop
abbrev St:=List (Option V)
abbrev VK:=V->Hp->Prop
abbrev TE:=St->Hp->VK->Prop
abbrev TT:=St->Hp->(Bool->Hp->Prop)->Prop
abbrev TA:=St->Hp->(List V->Hp->Prop)->Prop
structure Hv_ where
 nx:St->Hp->Prop
 rt:VK
 bk:St->Hp->Prop:=λ_ _=>False
 ct:St->Hp->Prop:=λ_ _=>False
abbrev TS:=Hv_->St->Hp->Prop
def EP(X:Cx)(pins:List (Addr×Obj))(σ:St)(Q:VK)(u:Value)(s':Shared):Prop:=∃v H',Inv X pins σ H' s'/\FU_ v u/\Q v H'
def TP(X:Cx)(pins:List (Addr×Obj))(σ:St)(Q:Bool->Hp->Prop)(b:Bool)(s':Shared):Prop:=∃H',Inv X pins σ H' s'/\Q b H'
def AP(X:Cx)(pins:List (Addr×Obj))(σ:St)(Q:List V->Hp->Prop)(us:List Value)(s':Shared):Prop:=∃vs H',Inv X pins σ H' s'/\FO_ vs us/\Q vs H'
def SP(X:Cx)(pins:List (Addr×Obj))(D:Hv_)(f:Flow)(s':Shared):Prop :=
 match f with
 | .next=>∃σ' H',Inv X pins σ' H' s'/\D.nx σ' H'
 | .brk=>∃σ' H',Inv X pins σ' H' s'/\D.bk σ' H'
 | .cont=>∃σ' H',Inv X pins σ' H' s'/\D.ct σ' H'
 | .ret u=>∃v σ' H',Inv X pins σ' H' s'/\FU_ v u/\D.rt v H'
def PE(X:Cx)(e:Expr)(t:TE):Prop :=
 ∀(pins:List (Addr×Obj))(s:Shared)(σ:St)(H:Hp)(Q:VK),Inv X pins σ H s->t σ H Q->wpAny (model X.prog X.w) X.A (eval e X.env) (EP X pins σ Q) X.xe s
def PT(X:Cx)(e:Expr)(t:TT):Prop :=
 ∀(pins:List (Addr×Obj))(s:Shared)(σ:St)(H:Hp)(Q:Bool->Hp->Prop),Inv X pins σ H s->t σ H Q->wpAny (model X.prog X.w) X.A (isTrue e X.env (eval e X.env)) (TP X pins σ Q) X.xe s
def PW(X:Cx)(e:Expr)(t:TT):Prop :=
 ∀(whole:Sem Value)(pins:List (Addr×Obj))(s:Shared)(σ:St)(H:Hp)(Q:Bool->Hp->Prop),Inv X pins σ H s->t σ H Q->wpAny (model X.prog X.w) X.A (isTrue e X.env whole) (TP X pins σ Q) X.xe s
theorem PW.pt{e:Expr}{t:TT}(h:PW X e t):PT X e t:=h _
def PA(X:Cx)(es:List Expr)(t:TA):Prop :=
 ∀(pos:Pos)(pins:List (Addr×Obj))(s:Shared)(σ:St)(H:Hp)(Q:List V->Hp->Prop),Inv X pins σ H s->t σ H Q->wpAny (model X.prog X.w) X.A (spliced (backTo pos (starEach es X.env))) (AP X pins σ Q) X.xe s
def PS(X:Cx)(st:Stmt)(t:TS):Prop :=
 ∀(pins:List (Addr×Obj))(s:Shared)(σ:St)(H:Hp)(D:Hv_),Inv X pins σ H s->t D σ H->wpAny (model X.prog X.w) X.A (exec st X.env) (SP X pins D) X.xe s
def PSs(X:Cx)(st:List Stmt)(t:TS):Prop :=
 ∀(pins:List (Addr×Obj))(s:Shared)(σ:St)(H:Hp)(D:Hv_),Inv X pins σ H s->t D σ H->wpAny (model X.prog X.w) X.A (execs st X.env) (SP X pins D) X.xe s
theorem thn{α:Type}{t:Sem α}{Q Q':α->Shared->Prop}{M:Model}{A:Around}{E:Value->Shared->Prop}(h:wpAny M A t Q E s)(hQ:∀a s,Q a s->Q' a s):wpAny M A t Q' E s:=Bx_ h hQ λ_ _ x=>x
section
theorem bin{a b:Expr}{ta tb:TE}(ha:PE X a ta)(hb:PE X b tb){pins:List (Addr×Obj)}{s:Shared}{σ:St}{H:Hp}{R:V->V->Hp->Prop}(I:Inv X pins σ H s)(h:ta σ H λx H1=>tb σ H1 λy H2=>R x y H2)
  {α:Type} {Q:α->Shared->Prop} {f:Value->Value->Sem α}
  (hf:∀v u s2 x y H2,Inv X pins σ H2 s2->FU_ x v->FU_ y u->R x y H2->wpAny (model X.prog X.w) X.A (f v u) Q X.xe s2):
  wpAny (model X.prog X.w) X.A (eval a X.env) (λv s₁=>wpAny (model X.prog X.w) X.A (eval b X.env) (λu s₂=>wpAny (model X.prog X.w) X.A (f v u) Q X.xe s₂) X.xe s₁) X.xe s:=by
 show thn (ha pins s σ H _ I h) λv s1 ⟨x,H1,I1,r1,q1⟩=>?_;show thn (hb pins s1 σ H1 _ I1 q1) λu s2 ⟨y,H2,I2,r2,q2⟩=>?_;show hf v u s2 x y H2 I2 r1 r2 q2
def onV:Option (Option V)->(V->Prop)->Prop
 |some (some v),Q=>Q v
 |_,_=>False
def onI:V->(Int->Prop)->Prop
 | .int i,Q=>Q i
 |_,_=>False
def onB:V->(Bool->Prop)->Prop
 | .bl i,Q=>Q i
 |_,_=>False
def onR:V->(Addr->Prop)->Prop
 | .ref i,Q=>Q i
 |_,_=>False
def on1:List V->(V->Prop)->Prop
 |[x],Q=>Q x
 |_,_=>False
def on2:List V->(V->V->Prop)->Prop
 |[x,y],Q=>Q x y
 |_,_=>False
theorem n2_{o:Option (Option V)}{Q:V->Prop}(h:onV o Q):∃v,o=some (some v)/\Q v:=by
 match o,h with
 |some (some v),h=>show⟨v,rfl,h⟩
theorem c1_{x:V}{Q:Int->Prop}(h:onI x Q):∃i,x=.int i/\Q i:=by
 cases x <;> first|show⟨_,rfl,h⟩|show h.elim
theorem kS_{x:V}{Q:Bool->Prop}(h:onB x Q):∃i,x=.bl i/\Q i:=by
 cases x <;> first|show⟨_,rfl,h⟩|show h.elim
theorem d6_{x:V}{Q:Addr->Prop}(h:onR x Q):∃i,x=.ref i/\Q i:=by
 cases x <;> first|show⟨_,rfl,h⟩|show h.elim
theorem kT_{x:List V}{Q:V->Prop}(h:on1 x Q):∃i,x=[i]/\Q i:=by
 match x,h with
 |[v],h=>show⟨v,rfl,h⟩
theorem n3_{x:List V}{Q:V->V->Prop}(h:on2 x Q):∃i j,x=[i,j]/\Q i j:=by
 match x,h with
 |[v,w],h=>show⟨v,w,rfl,h⟩
theorem pE_{o:Option (Option V)}{Q:V->Prop}:onV o Q = ∃v,o=some (some v)/\Q v:=propext ⟨n2_,λ⟨_,e,h⟩=>by rw[e];show h⟩
theorem pF_{x:V}{Q:Int->Prop}:onI x Q = ∃i,x=.int i/\Q i:=propext ⟨c1_,λ⟨_,e,h⟩=>by rw[e];show h⟩
theorem pG_{x:V}{Q:Bool->Prop}:onB x Q = ∃i,x=.bl i/\Q i:=propext ⟨kS_,λ⟨_,e,h⟩=>by rw[e];show h⟩
theorem pH_{x:V}{Q:Addr->Prop}:onR x Q = ∃i,x=.ref i/\Q i:=propext ⟨d6_,λ⟨_,e,h⟩=>by rw[e];show h⟩
theorem pI_{x:List V}{Q:V->Prop}:on1 x Q = ∃i,x=[i]/\Q i:=propext ⟨kT_,λ⟨_,e,h⟩=>by rw[e];show h⟩
theorem pJ_{x:List V}{Q:V->V->Prop}:on2 x Q = ∃i j,x=[i,j]/\Q i j:=propext ⟨n3_,λ⟨_,_,e,h⟩=>by rw[e];show h⟩
def Ki_(i:Nat):TE:=λσ H Q=>onV σ[i]? λv=>Q v H
def tC(v:V):TE:=λ_ H Q=>Q v H
theorem n4_{i:Nat}{x:Str}{pos:Pos}(hN:X.N[i]?=some x)(hv:Vis X.env.scope x)(hd:(x == ("__debug__" : Str))=false:=by decide) (hcd:(x == ("__classdict__" : Str))=false:=by decide):PE X (.Name x pos) (Ki_ i):=by
 intro pins s σ H Q I h;obtain⟨v,e,h⟩:=n2_ h;obtain⟨m,hn,hl⟩:=I.loc;obtain⟨u,r,l⟩:=hl i x v hN e hv;have fin:EP X pins σ Q u s:=⟨v,H,I,r,h⟩
 rcases l with⟨hk,hm⟩|⟨hk,c,hc,hcell⟩
 .show wpAny_Name (wpAny_loadName_local I.ok.kind hk hn hm fin) hd
 .rcases hk with hk|hk
  .show wpAny_Name (wpAny_loadName_cell I.ok.kind hk hc hcell fin) hd
  .show wpAny_Name (wpAny_loadName_free I.ok.kind hk hc hcell fin hcd) hd
theorem ac_{i j pos}:PE X (.Constant (.int i) j pos) (tC (.int i)):=λ_ _ _ H _ I h=>wpAny_Constant_int ⟨.int i,H,I.tok _,⟨_,rfl⟩,h⟩
theorem F7_{b j pos}:PE X (.Constant (.bool b) j pos) (tC (.bl b)):=λ_ _ _ H _ I h=>Constant_bool ⟨.bl b,H,I,rfl,h⟩
theorem pK_{j pos}:PE X (.Constant .none j pos) (tC .non):=λ_ _ _ H _ I h=>Constant_none ⟨.non,H,I,rfl,h⟩
theorem fs_{x j pos}:PE X (.Constant (.str x) j pos) (tC (.str x)):=λ_ _ _ H _ I h=>Calls.Constant_str ⟨.str x,H,I.tok _,⟨_,rfl⟩,h⟩
def Gl(X:Cx)(x:Str):Prop:=X.env.kindOf x=some .globalImplicit
theorem oE_{E:Value->Shared->Prop}{pins:List (Addr×Obj)}{s:Shared}{σ:St}{H:Hp}{x:Str}{u:Value}{pos:Pos}{Q:Value->Shared->Prop}(I:Inv X pins σ H s)(hg:Gl X x)(hm:X.mg x=some u)(h:Q u s)
  (hd:(x == ("__debug__" : Str))=false:=by decide):wpAny (model X.prog X.w) X.A (eval (.Name x pos) X.env) Q E s :=
 DV_ I.ok.kind hg (Calls.loadGlobal_global (by rw[I.ok.glob];show I.mod.glob.keeps I.bk) hm h) hd
theorem ef_{E:Value->Shared->Prop}{pins:List (Addr×Obj)}{s:Shared}{σ:St}{H:Hp}{x:Str}{u:Value}{pos:Pos}{Q:Value->Shared->Prop}(I:Inv X pins σ H s)(hg:Gl X x)(hm:X.mg x=none)(hv:bootBuiltins x=some u)(h:Q u s)
  (hn:x ≠ "__name__" := by decide) (hd:(x == ("__debug__" : Str))=false:=by decide):wpAny (model X.prog X.w) X.A (eval (.Name x pos) X.env) Q E s:=by
 obtain⟨mb,h1,h2⟩:=I.mod.blt;show DV_ I.ok.kind hg (Calls.loadGlobal_builtin (by rw[I.ok.glob];show I.mod.glob.keeps I.bk) hm (by rw[I.ok.blt];show h1.keeps I.bk) ((h2 x hn).trans hv) h) hd
theorem oF_{x:Str}{v:V}{u:Value}{pos:Pos}(hg:Gl X x)(hm:X.mg x=none)(hv:bootBuiltins x=some u)(r:FU_ v u)(hn:x ≠ "__name__" := by decide) (hd:(x == ("__debug__" : Str))=false:=by decide):PE X (.Name x pos) (tC v):=
 λ_ _ _ H _ I h=>ef_ I hg hm hv ⟨v,H,I,r,h⟩ hn hd
variable {a b:Expr}{ta tb:TE}{pos:Pos}
def PC(X:Cx)(op:CmpOp)(a b:Expr)(t:TE):Prop :=
 ∀(pins:List (Addr×Obj))(s:Shared)(σ:St)(H:Hp)(Q:VK),Inv X pins σ H s->t σ H Q ->
  wpAny (model X.prog X.w) X.A (eval a X.env) (λv s₁=>wpAny (model X.prog X.w) X.A (eval b X.env) (λu s₂=>wpAny (model X.prog X.w) X.A (compareOp op v u) (EP X pins σ Q) X.xe s₂) X.xe s₁) X.xe s
theorem Jk_(b:Expr){op:CmpOp}(h:op≠.In)(h2:op≠.NotIn):behindInMarks op b=false:=by
 have e1:(op == CmpOp.In)=false:=by cases op <;> first|rfl|show absurd rfl h
 have e2:(op == CmpOp.NotIn)=false:=by cases op <;> first|rfl|show absurd rfl h2
 cases b <;> simp[behindInMarks,e1,e2]
def tIsN(ta:TE):TE:=λσ H Q=>ta σ H λx H1=>Q (.bl (decide (x=.non))) H1
def Ko_(ta:TE):TE:=λσ H Q=>ta σ H λx H1=>Q (.bl (!decide (x=.non))) H1
theorem FU_.none_iff{x:V}{v:Value}(r:FU_ x v):(v == Value.none)=decide (x=.non):=by
 cases x with
 |non=>cases r;rfl
 |bl _=>cases r;rfl
 |int _=>obtain⟨t,rfl⟩:=r;rfl
 |str _=>obtain⟨t,rfl⟩:=r;rfl
 |byt _=>obtain⟨t,rfl⟩:=r;rfl
 |flt _=>obtain⟨t,rfl⟩:=r;rfl
 |ref _=>cases r;rfl
 |ty _=>cases r;rfl
theorem oG_{j pos'} (ha:PE X a ta):PC X .IsNot a (.Constant .none j pos') (Ko_ ta):=by intro pins s σ H Q I h;show thn (ha pins s σ H _ I h) λv s1 ⟨x,H1,I1,r1,q1⟩=>?_;show Constant_none (isnot_none_gen ⟨.bl _,H1,I1,by rw[r1.none_iff];rfl,q1⟩)
def tB(t:TE):TT:=λσ H Q=>t σ H λx H1=>onB x λc=>Q c H1
theorem ft_{op:CmpOp}{t:TE}(h:PC X op a b t)(h1:behindInMarks op b=false:=by first|show Jk_ _ d_ d_|rfl):PT X (.Compare a [op] [b] pos) (tB t):=by intro pins s σ H Q I hw;show EH_ (thn (h pins s σ H _ I hw) λv s1 h1=>thn h1 λu s2 h2=>thn h2 λc s3 ⟨x,H1,I1,r1,q1⟩=>?_) h1;obtain⟨d,rfl,q⟩:=kS_ q1;cases r1;show BJ_ ⟨H1,I1,q⟩
theorem d7_{e:Expr}{t:TE}(h:PE X e t)(he:∀whole,isTrue e X.env whole=(do let v <-whole;standAt e.pos;holding [v] (truthy v)):=by intro _;rfl):PT X e (tB t):=by intro pins s σ H Q I hw;show isTrue_plain (thn (h pins s σ H _ I hw) λv s1 ⟨x,H1,I1,r1,q1⟩=>?_) (he _);obtain⟨d,rfl,q⟩:=kS_ q1;cases r1;show BJ_ ⟨H1,I1,q⟩
variable {tA tB':TT}{rest:List Expr}
def LX_(t u:TT):TT:=λσ H Q=>t σ H λc H1=>if c=true then u σ H1 Q else Q false H1
def tOr(t u:TT):TT:=λσ H Q=>t σ H λc H1=>if c=true then Q true H1 else u σ H1 Q
def LQ_(t:TT):TT:=λσ H Q=>t σ H λc H1=>Q (!c) H1
theorem dG_(ha:PT X a tA):PW X (.BoolOp .And [a] pos) tA:=by
 intro wh pins s σ H Q I h;show isTrue_and (thn (ha pins s σ H Q I h) λc s1 e=>?_);cases c with
 |true=>show isTrue_and_nil e
 |false=>show e
theorem g1_(ha:PT X a tA):PW X (.BoolOp .Or [a] pos) tA:=by
 intro wh pins s σ H Q I h;show isTrue_or (thn (ha pins s σ H Q I h) λc s1 e=>?_);cases c with
 |false=>show isTrue_or_nil e
 |true=>show e
theorem eg_(ha:PT X a tA)(hb:PW X (.BoolOp .And (b::rest) pos) tB'):PW X (.BoolOp .And (a::b::rest) pos) (LX_ tA tB'):=by
 intro wh pins s σ H Q I h;show isTrue_and (thn (ha pins s σ H _ I h) λc s1 ⟨H1,I1,q1⟩=>?_);cases c with
 |true=>show hb wh pins s1 σ H1 Q I1 q1
 |false=>show⟨H1,I1,q1⟩
theorem GV_(ha:PT X a tA)(hb:PW X (.BoolOp .Or (b::rest) pos) tB'):PW X (.BoolOp .Or (a::b::rest) pos) (tOr tA tB'):=by
 intro wh pins s σ H Q I h;show isTrue_or (thn (ha pins s σ H _ I h) λc s1 ⟨H1,I1,q1⟩=>?_);cases c with
 |true=>show⟨H1,I1,q1⟩
 |false=>show hb wh pins s1 σ H1 Q I1 q1
theorem eh_(ha:PT X a tA):PT X (.UnaryOp .Not a pos) (LQ_ tA):=by intro pins s σ H Q I h;show isTrue_not (ha pins s σ H (λc H1=>Q (!c) H1) I h)
def Lc_(ta tb:TE):TE:=λσ H Q=>ta σ H λx H1=>onB x λc=>if c=true then tb σ H1 Q else Q (.bl false) H1
def tOrV(ta tb:TE):TE:=λσ H Q=>ta σ H λx H1=>onB x λc=>if c=true then Q (.bl true) H1 else tb σ H1 Q
def Le_(ta:TE):TE:=λσ H Q=>ta σ H λx H1=>onB x λc=>Q (.bl (!c)) H1
end
def SqL(K:PySem.W.Frag)(H:Hp)(a:Addr)(xs:List V):Prop :=
 Rd H a (.lst xs) \/
  ∃(o:Obj)(its:Array Value)(n:Nat),K.lookup a=some o/\o.cls=.type "list" /\ o.dict=none/\o.data=.seq its n/\its.size<=sizeLine/\FO_ xs its.toList
def SqT(K:PySem.W.Frag)(H:Hp)(a:Addr)(xs:List V):Prop :=
 Rd H a (.tup xs) \/
  ∃(o:Obj)(its:Array Value)(n:Nat),K.lookup a=some o/\o.cls=.type "tuple" /\ o.data=.seq its n/\its.size<=sizeLine/\FO_ xs its.toList
def absV:Value->Option V
 | .none=>some .non
 | .bool b=>some (.bl b)
 | .int i _=>some (.int i)
 | .str x _=>some (.str x)
 | .bytes b _=>some (.byt b)
 | .float b _=>some (.flt b)
 | .ref a=>some (.ref a)
 | .type n=>some (.ty n)
 |_=>none
theorem FU_.abs{x:V}{u:Value}(r:FU_ x u):absV u=some x:=by
 cases x with
 |non=>cases r;rfl
 |bl _=>cases r;rfl
 |int _=>obtain⟨t,rfl⟩:=r;rfl
 |str _=>obtain⟨t,rfl⟩:=r;rfl
 |byt _=>obtain⟨t,rfl⟩:=r;rfl
 |flt _=>obtain⟨t,rfl⟩:=r;rfl
 |ref _=>cases r;rfl
 |ty _=>cases r;rfl
theorem FU_.inj{x y:V}{u:Value}(r:FU_ x u)(q:FU_ y u):x=y:=AB_ (r.abs.symm.trans q.abs)
theorem FO_.inj:∀{xs ys:List V}{us:List Value},FO_ xs us->FO_ ys us->xs=ys
 |_,_,_,.nil,.nil=>rfl
 |_,_,_,.cons r t,.cons r' t'=>by rw[r.inj r',FO_.inj t t']
variable {σ:St}{xs ys:List V}
variable{K:PySem.W.Frag}
theorem SqL.of(h:H a=some (.lst xs)):SqL K H a xs:=.inl (.inl h)
theorem SqT.of(h:H a=some (.tup xs)):SqT K H a xs:=.inl (.inl h)
theorem Inv.list(I:Inv X pins σ H s)(h:SqL X.K H a xs):∃its:List Value,FO_ xs its/\PlainL s.heap a its.toArray/\xs.length<=sizeLine:=by
 rcases h with h|⟨o,its,n,hk,hc,hd,hs,hz,r⟩
 .obtain⟨z,its,n,r,e⟩:=h.ok I.hok;show⟨its,r,⟨_,n,e,rfl,rfl,rfl⟩,z⟩
 .show⟨its.toList,r,⟨o,n,I.kIn a o hk,hc,hd,by simpa using hs⟩,?_⟩;have e:=r.length;simp only[Bd_]at e;lia
theorem Inv.tuple(I:Inv X pins σ H s)(h:SqT X.K H a xs):∃its:List Value,FO_ xs its/\IsTup s.heap a its.toArray/\xs.length<=sizeLine:=by
 rcases h with h|⟨o,its,n,hk,hc,hs,hz,r⟩
 .obtain⟨z,its,r,p⟩:=h.ok I.hok;show⟨its,r,p,z⟩
 .show⟨its.toList,r,⟨o,I.kIn a o hk,hc,n,by simpa using hs⟩,?_⟩;have e:=r.length;simp only[Bd_]at e;lia
theorem Inv.list_inj(I:Inv X pins σ H s)(h:SqL X.K H a xs)(h':SqL X.K H a ys):xs=ys:=by
 obtain⟨its,r,⟨o,n,e,_,_,d⟩,_⟩:=I.list h;obtain⟨its',r',⟨o',n',e',_,_,d'⟩,_⟩:=I.list h';rw[e]at e';cases e';rw[d]at d';injection d' with d1 _
 have:its=its':=by simpa using congrArg Array.toList d1
 subst this;show r.inj r'
theorem Inv.tuple_inj(I:Inv X pins σ H s)(h:SqT X.K H a xs)(h':SqT X.K H a ys):xs=ys:=by
 obtain⟨its,r,⟨o,e,_,n,d⟩,_⟩:=I.tuple h;obtain⟨its',r',⟨o',e',_,n',d'⟩,_⟩:=I.tuple h';rw[e]at e';cases e';rw[d]at d';injection d' with d1 _
 have:its=its':=by simpa using congrArg Array.toList d1
 subst this;show r.inj r'
abbrev Cx.wish(X:Cx)(E:Value->Shared->Prop):Cx:={X with xe:=E}
abbrev Cx.nox(X:Cx):Cx:=X.wish λ_ _=>False
theorem Cx.Ok.wish(ok:X.Ok)(E:Value->Shared->Prop):(X.wish E).Ok :=
 ⟨ok.mod,ok.kind,ok.glob,ok.blt,ok.above,ok.inj,ok.has,ok.cab,ok.hd,ok.frames,ok.stk,ok.exf,ok.bs,ok.bsz,ok.noex,ok.exfs,ok.funs,ok.frf⟩
theorem Cx.Ok.unwish{E:Value->Shared->Prop}(ok:(X.wish E).Ok):X.Ok :=
 ⟨ok.mod,ok.kind,ok.glob,ok.blt,ok.above,ok.inj,ok.has,ok.cab,ok.hd,ok.frames,ok.stk,ok.exf,ok.bs,ok.bsz,ok.noex,ok.exfs,ok.funs,ok.frf⟩
variable {E:Value->Shared->Prop}
theorem Inv.wish(I:Inv X pins σ H s)(E:Value->Shared->Prop):Inv (X.wish E) pins σ H s:=⟨I.ok.wish E,I.os,I.bare,I.base,I.loc,I.cell,I.free,I.freeC,I.pin,I.hok,I.len⟩
theorem Inv.unwish(I:Inv (X.wish E) pins σ H s):Inv X pins σ H s:=⟨I.ok.unwish,I.os,I.bare,I.base,I.loc,I.cell,I.free,I.freeC,I.pin,I.hok,I.len⟩
theorem SP.unwish{D:Hv_}{f:Flow}{s':Shared}(h:SP (X.wish E) pins D f s'):SP X pins D f s':=by
 cases f with
 |next=>obtain⟨σ',H',I,q⟩:=h;show⟨σ',H',I.unwish,q⟩
 |brk=>obtain⟨σ',H',I,q⟩:=h;show⟨σ',H',I.unwish,q⟩
 |cont=>obtain⟨σ',H',I,q⟩:=h;show⟨σ',H',I.unwish,q⟩
 |ret u=>obtain⟨v,σ',H',I,r,q⟩:=h;show⟨v,σ',H',I.unwish,r,q⟩
theorem PSs.nox{st:List Stmt}{t:TS}(h:PSs X.nox st t):PSs X st t:=λpins s σ H D I hw =>Bx_ (h pins s σ H D (I.wish _) hw) (λ_ _ q=>q.unwish) λ_ _ z=>False.elim z
section
variable {st:Stmt}{rest:List Stmt}{t u:TS}{e:Expr}{te:TE}{pos:Pos}
def Kr_:TS:=λD σ H=>D.nx σ H
def LL_(t u:TS):TS:=λD σ H=>t {D with nx:=u D} σ H
theorem aI_:PSs X [] Kr_:=λ_ _ σ H _ I h=>Dn_ ⟨σ,H,I,h⟩
theorem ad_(h1:PS X st t)(h2:PSs X rest u):PSs X (st::rest) (LL_ t u):=by
 intro pins s σ H D I h;show wpAny_execs_cons (thn (h1 pins s σ H {D with nx:=u D} I h) λf s1 q=>?_);cases f with
 |next =>
  obtain⟨σ',H',I',q⟩:=q;show h2 pins s1 σ' H' D I' q
 |ret v=>show q
 |brk=>show q
 |cont=>show q
theorem af_(h1:PS X st t):PSs X [st] t:=by
 intro pins s σ H D I h;show wpAny_execs_cons (thn (h1 pins s σ H D I h) λf s1 q=>?_);cases f with
 |next=>show Dn_ q
 |ret v=>show q
 |brk=>show q
 |cont=>show q
theorem Inv.quiet(I:Inv X pins σ H s):interactive X.env=false:=by simp[interactive,I.ok.kind]
def JX_(te:TE):TS:=λD σ H=>te σ H λ_ H1=>D.nx σ H1
theorem oH_(he:PE X e te)(hs:swapsWith e none pos.line X.env=pure false:=by rfl):PS X (.Expr e pos) (JX_ te):=by intro pins s σ H D I h;show wpAny_Expr_any (thn (he pins s σ H _ I h) λv s1 ⟨x,H1,I1,r1,q1⟩=>⟨σ,H1,I1,q1⟩) I.quiet hs
def LN_(te:TE):TS:=λD σ H=>te σ H D.rt
theorem az_(he:PE X e te):PS X (.Return (some e) pos) (LN_ te):=by intro pins s σ H D I h;show wpAny_Return_some (thn (he pins s σ H _ I h) λv s1 ⟨x,H1,I1,r1,q1⟩=>⟨x,σ,H1,I1,r1,q1⟩)
def Lo_:TS:=λD _ H=>D.rt .non H
def LZ_(c:TT)(t u:TS):TS:=λD σ H=>c σ H λb H1=>if b=true then t D σ H1 else u D σ H1
theorem F4_{c:Expr}{a b:List Stmt}{tc:TT}(hc:PT X c tc)(ha:PSs X a t)(hb:PSs X b u):PS X (.If c a b pos) (LZ_ tc t u):=by
 intro pins s σ H D I h;show wpAny_If (thn (hc pins s σ H _ I h) λd s1 ⟨H1,I1,q1⟩=>?_);cases d with
 |true=>show ha pins s1 σ H1 D I1 q1
 |false=>show hb pins s1 σ H1 D I1 q1
end
abbrev TG:=V->St->Hp->(St->Hp->Prop)->Prop
abbrev TGs:=List V->St->Hp->(St->Hp->Prop)->Prop
def PG(X:Cx)(target:Expr)(t:TG):Prop :=
 ∀(pins:List (Addr×Obj))(s:Shared)(σ:St)(H:Hp)(v:V)(u:Value)(Q:St->Hp->Prop),Inv X pins σ H s->FU_ v u->t v σ H Q ->
  wpAny (model X.prog X.w) X.A (assign target X.env u) (λ_ s'=>∃σ' H',Inv X pins σ' H' s'/\Q σ' H') X.xe s
def PGs(X:Cx)(ts:List Expr)(t:TGs):Prop :=
 ∀(pins:List (Addr×Obj))(s:Shared)(σ:St)(H:Hp)(vs:List V)(us:List Value)(Q:St->Hp->Prop),Inv X pins σ H s->FO_ vs us->t vs σ H Q ->
  wpAny (model X.prog X.w) X.A (assignInOrder ((assignEach ts X.env).map (·.2)) us) (λ_ s'=>∃σ' H',Inv X pins σ' H' s'/\Q σ' H') X.xe s
abbrev Ll_:=V->V->V->Hp->(Hp->Prop)->Prop
def L4_(X:Cx)(t:Ll_):Prop :=
 ∀(pins:List (Addr×Obj))(s:Shared)(σ:St)(H:Hp)(o i v:V)(ov iv u:Value)(Q:Hp->Prop),Inv X pins σ H s->FU_ o ov->FU_ i iv->FU_ v u->t o i v H Q ->
  wpAny (model X.prog X.w) X.A (setItem ov iv u) (λ_ s'=>∃H',Inv X pins σ H' s'/\Q H') X.xe s
variable {pos:Pos}
def Hm_(i:Nat):TG:=λv σ H Q=>Q (σ.set i (some v)) H
theorem lT_{i:Nat}{x:Str}(hN:X.N.Nodup)(hi:X.N[i]?=some x)(hx:Loc X.env.scope x)(hf:X.fn x=true\/X.env.scope.names.lookup x=some .local:=by first|show .inl rfl|show .inr rfl|assumption):PG X (.Name x pos) (Hm_ i):=by intro pins s σ H v u Q I r h;show wpAny_assign_Name (gN_ I hN hi hx r (λs' I'=>⟨_,H,I',h⟩) hf)
def LK_:TGs:=λvs σ H Q=>vs=[]/\Q σ H
def Kn_(t:TG)(u:TGs):TGs:=λvs σ H Q=>∃v r,vs=v::r/\t v σ H λσ' H'=>u r σ' H' Q
theorem bm_:PGs X [] LK_:=by intro pins s σ H vs us Q I r h;obtain⟨e,h⟩:=h;subst e;cases r;show assignInOrder_nil ⟨σ,H,I,h⟩
theorem au_{e:Expr}{es:List Expr}{t:TG}{u:TGs}(h1:PG X e t)(h2:PGs X es u)
  (hs:(assignEach (e::es) X.env).map (·.2)=assign e X.env::(assignEach es X.env).map (·.2):=by rfl):PGs X (e::es) (Kn_ t u):=by
 intro pins s σ H vs us Q I r h;obtain⟨v,vr,e1,h⟩:=h;subst e1;cases r with
 |cons r rr =>rw[hs];show DN_ (thn (h1 pins s σ H _ _ _ I r h) λ_ s1 ⟨σ1,H1,I1,q1⟩=>?_);show h2 pins s1 σ1 H1 _ _ Q I1 rr q1
def Lq_(K:PySem.W.Frag)(n:Nat)(t:TGs):TG:=λv σ H Q=>onR v λa=>∃xs,SqT K H a xs/\xs.length=n/\t xs σ H Q
theorem pL_{es:List Expr}{k:Nat}{t:TGs}{n:Nat}(hc:X.calm=true)(h:PGs X es t)
  (hn:(assignEach es X.env).length=n:=by rfl) (hst:(assignEach es X.env).findIdx? (·.1)=none:=by rfl):PG X (.Tuple es k pos) (Lq_ X.K n t):=by
 intro pins s σ H v u Q I r hw;have hw0:=d6_ hw;clear hw;obtain⟨a,e1,xs,hq,hl,hw⟩:=hw0;subst e1;cases r;obtain⟨its,rv,ht,hz⟩:=I.tuple hq;show assign_Tuple_tuple (I.ok.hd hc) ht (by simp[hn,<-hl,rv.length]) hst λh' hx=>?_;have I1:Inv X pins σ H {s with heap:=h'}:=I.kept (t':=s.toks) λb o e=>hx b o (AL_ (Ay_ e)) e;show h pins _ σ H xs _ Q I1 (by simpa using rv) hw
def Mf_(to ti:TE)(t:Ll_):TG:=λv σ H Q=>to σ H λo H1=>ti σ H1 λi H2=>t o i v H2 λH3=>Q σ H3
theorem pM_{o i:Expr}{to ti:TE}{t:Ll_}(ho:PE X o to)(hi:PE X i ti)(hs:L4_ X t)
  (ha:∀v,assign (.Subscript o i pos) X.env v=(do
   let ov <-holding [v] (eval o X.env)
   let iv <-holding [v,ov] (eval i X.env)
   standAt pos
   holding [v,ov,iv] (setItem ov iv v)
   release [v,ov,iv] []):=by intro _;rfl):PG X (.Subscript o i pos) (Mf_ to ti t):=by
 intro pins s σ H v u Q I r h;rw[ha];show Ac_ (Bg_ (thn (ho pins s σ H _ I h) λov s1 ⟨x,H1,I1,r1,q1⟩=>?_));show Ac_ (Bg_ (thn (hi pins s1 σ H1 _ I1 q1) λiv s2 ⟨y,H2,I2,r2,q2⟩=>?_));show Ac_ (DW_ (Ac_ (Bg_ (thn (hs pins s2 σ H2 x y v ov iv u _ I2 r1 r2 r q2) λ_ s3 ⟨H3,I3,q3⟩=>?_))));show wpAny_release ⟨σ,H3,I3,q3⟩
def Kj_(te:TE)(g:TG):TS:=λD σ H=>te σ H λx H1=>g x σ H1 D.nx
theorem i1_{tg e:Expr}{te:TE}{g:TG}(he:PE X e te)(hg:PG X tg g)(hs:swapsWithSole [tg] e pos.line X.env=pure false:=by rfl) (hw:swappedStores [tg] e X.env=pure none:=by rfl)
  (h1:(assignEach [tg] X.env).map (·.2)=[assign tg X.env]:=by rfl):PS X (.Assign [tg] e pos) (Kj_ te g):=by
 intro pins s σ H D I h;show wpAny_Assign_stores (thn (he pins s σ H _ I h) λv s1 ⟨x,H1,I1,r1,q1⟩=>?_) hs hw;rw[h1];show thn (hg pins s1 σ H1 x v _ I1 r1 q1) λ_ s2 q=>q
theorem n5_{i:Nat}{x:Str}{e:Expr}{te:TE}{pos':Pos}(hN:X.N.Nodup)(hi:X.N[i]?=some x)(hx:Loc X.env.scope x)(he:PE X e te)(hs:swapsWith e (some (.Name x pos')) pos.line X.env=pure false:=by rfl) (hf:X.fn x=true\/X.env.scope.names.lookup x=some .local:=by first|show .inl rfl|show .inr rfl|assumption):
  PS X (.Assign [.Name x pos'] e pos) (Kj_ te (Hm_ i)):=by
 intro pins s σ H D I h;show wpAny_Assign_Name (thn (he pins s σ H _ I h) λv s1 ⟨y,H1,I1,r1,q1⟩=>?_) hs;show gN_ I1 hN hi hx r1 (λs2 I2=>⟨_,H1,I2,q1⟩) hf
def LR_(i j:Nat)(ta:TA):TS:=λD σ H=>ta σ H λvs H1=>∃v w,vs=[v,w]/\D.nx ((σ.set i (some v)).set j (some w)) H1
theorem n6_{i j:Nat}{x y:Str}{a b:Expr}{ta:TA}{px py pt:Pos}{kt k2 pt2} (hc:X.calm=true) (hN:X.N.Nodup) (hi:X.N[i]?=some x) (hj:X.N[j]?=some y) (hij:i≠j)
  (hx:X.env.scope.names.lookup x=some .local) (hy:X.env.scope.names.lookup y=some .local) (ha:PA X [a,b] ta)
  (hw:swappedStores [.Tuple [.Name x px,.Name y py] kt pt] (.Tuple [a,b] k2 pt2) X.env=pure (some [x,y]))
  (hs:swapsWithSole [.Tuple [.Name x px,.Name y py] kt pt] (.Tuple [a,b] k2 pt2) pos.line X.env=pure false:=by rfl):
  PS X (.Assign [.Tuple [.Name x px,.Name y py] kt pt] (.Tuple [a,b] k2 pt2) pos) (LR_ i j ta):=by
 intro pins s σ H D I h;rw[exec_Assign_arm];show Ac_ (DW_ ?_);rw[hs];show Ac_ (Ah_ ?_);rw[if_neg d_];show Ac_ (Tuple_ (thn (ha _ pins s σ H _ I h) λus s1 ⟨vs,H1,I1,r1,q1⟩=>?_));obtain⟨v,w,e1,q1⟩:=q1;subst e1
 obtain⟨u1,u2,rfl,rv,rw'⟩:∃u1 u2,us=[u1,u2]/\FU_ v u1/\FU_ w u2:=by
  cases r1 with
  |cons p q =>
   cases q with
   |cons p' q' =>
    cases q';show⟨_,_,rfl,p,p'⟩
 show BZ_ ?_ (by change 2<=sizeLine;decide);have I2:Inv X pins σ H1 {s1 with heap:=s1.heap.push {cls:=.type "tuple",data:=.seq [u1,u2].toArray}}:=I1.kept (t':=s1.toks) λb o e=>Ak_ _ e;rw[hw];show Ac_ (Ah_ ?_);change wpAny (model X.prog X.w) X.A (do rule "assign.swapped-stores";let items <-unpackItems (.ref s1.heap.objs.size) 2 none;assignInOrder [λv=>bindName X.env y v,λv=>bindName X.env x v] items.reverse;pure Flow.next) _ _ _;show Ac_ (D1_ (Ac_ (unpackItems_tuple (items:=#[u1,u2]) (I.ok.hd hc) (IsTup.new s1.heap _) λh' hx'=>?_)));have I3:=I2.kept (h':=h') (t':=s1.toks) λb o e=>hx' b o (AL_ (Ay_ e)) e;change wpAny _ _ (assignInOrder [λv=>bindName X.env y v,λv=>bindName X.env x v] [u2,u1] >>= λ_=>pure Flow.next) _ _ _;show Ac_ (DN_ (wpAny_bindName (gN_ I3 hN hj (.inl hy) rw' (λs2 I4=>?_) (.inr hy))));show DN_ (wpAny_bindName (gN_ I4 hN hi (.inl hx) rv (λs3 I5=>assignInOrder_nil (Ah_ ?_)) (.inr hx)));rw[List.set_comm _ _ (Ne.symm hij)]at I5;show⟨_,H1,I5,q1⟩
def H5_(c:TT)(tb:TS):TS:=λD σ H=>∃W:Nat->St->Hp->Prop,(∃m,W m σ H)/\∀m σ H,W m σ H ->
 c σ H λb H1=>if b=true then ∃N:St->Hp->Prop,(∀σ' H',N σ' H'->∃m',m'<m/\W m' σ' H')/\tb {D with nx:=N,ct:=N,bk:=D.nx} σ H1 else D.nx σ H1
theorem dH_{c:Expr}{body:List Stmt}{tc:TT}{tb:TS}(hp:PassesOwn (model X.prog X.w) X.A X.env X.xe)(hc:PT X c tc)(hb:PSs X body tb):PS X (.While c body [] pos) (H5_ tc tb):=by
 intro pins s σ H D I h;obtain⟨W,⟨m0,w0⟩,turn⟩:=h;show wpAny_While (codeAny_whileLoop (λn s'=>∃σ' H',Inv X pins σ' H' s'/\W n σ' H') ?_ m0 ⟨σ,H,I,w0⟩);rintro n s1 ⟨σ1,H1,I1,w1⟩;show Ch_ hp (thn (hc pins s1 σ1 H1 _ I1 (turn n σ1 H1 w1)) λb s2 ⟨H2,I2,q2⟩=>?_);cases b with
 |true =>
  obtain⟨N,hN,q2⟩:=q2;rw[if_pos rfl];show Ch_ hp (thn (hb pins s2 σ1 H2 _ I2 q2) λf s3 q3=>?_);cases f with
  |next =>
   obtain⟨σ3,H3,I3,n3⟩:=q3;obtain⟨m',hm,w3⟩:=hN σ3 H3 n3;show⟨m',hm,σ3,H3,I3,w3⟩
  |cont =>
   obtain⟨σ3,H3,I3,n3⟩:=q3;obtain⟨m',hm,w3⟩:=hN σ3 H3 n3;show⟨m',hm,σ3,H3,I3,w3⟩
  |brk=>show q3
  |ret v=>show q3
 |false =>rw[if_neg AN_];show Dn_ ⟨σ1,H2,I2,q2⟩
structure It where
 go:Nat->Hp->Prop
 yld:Nat->Hp->V->Hp->Prop
 stop:Nat->Hp->Prop
def HM_(X:Cx)(pins:List (Addr×Obj))(H:Hp)(b:Addr):Prop :=
 H b=none/\b≠X.env.locals/\b∉X.fs/\(b∈X.ex\/X.s₀.heap.objs.size<=b)/\(∀x c,X.env.cells.lookup x=some c->c≠b)/\∀p∈X.pn++pins,p.1≠b
theorem Inv.fpOk(I:Inv X pins σ H s)(hb:s.heap.objs.size<=b)(hn:H' b=none):HM_ X pins H' b:=by
 show⟨hn,CU_ (AO_ I.lt hb),I.nofs hb,.inr (AH_ I.sz hb),λx c e z=>?_,λp hp z=>?_⟩
 .obtain⟨v,q⟩:=I.cell x c e;show absurd (AO_ q.lt (by rw[z];show hb)) (Bf_ _)
 .show absurd (AO_ (Ay_ (I.pin p hp).1) (by rw[z];show hb)) (Bf_ _)
structure JM_(P:Program)(w:World)(K:PySem.W.Frag)(tg:Expr)(J:It)(fp:List Addr)(it:Addr)(tn:Nat->Heap->Prop):Prop where
 mem:it∈fp
 obj:∀i h,tn i h->∀b∈fp,∃o,h.get? b=some o/\∀v,o.data≠.cell v
 keep:∀i h h',tn i h->(∀b∈fp,∀o,h.get? b=some o->h'.get? b=some o)->tn i h'
 item:∀(X:Cx),X.prog=P->X.w=w->X.K=K->X.calm=true->∀(i:Nat)(pins:List (Addr×Obj))(s:Shared)(σ:St)(H:Hp)(E:Value->Shared->Prop),Inv X pins σ H s->(∀b∈fp,HM_ X pins H b)->tn i s.heap->J.go i H ->
  wpAny (model P w) X.A (pyNext (.ref it)) (λr s1=>∃u,r=some u /\
   wpAny (model P w) X.A (letOwnedTupleGo tg (.ref it) u) (λ_ s2=>∃x H',Inv X pins σ H' s2/\FU_ x u/\J.yld i H x H'/\tn (i+1) s2.heap/\∀b∈fp,H' b=none) E s1) E s
 done:∀(X:Cx),X.prog=P->X.w=w->X.K=K->X.calm=true->∀(i:Nat)(pins:List (Addr×Obj))(s:Shared)(σ:St)(H:Hp)(E:Value->Shared->Prop),Inv X pins σ H s->(∀b∈fp,HM_ X pins H b)->tn i s.heap->J.stop i H ->
  wpAny (model P w) X.A (pyNext (.ref it)) (λr s1=>r=none/\Inv X pins σ H s1) E s
 self:∀(A:Around)(i:Nat)(s:Shared)(Q:Value->Shared->Prop)(E:Value->Shared->Prop),tn i s.heap->Q (.ref it) s->wpAny (model P w) A (pyIter (.ref it)) Q E s
abbrev TI:=St->Hp->(It->Hp->Prop)->Prop
def PIE(X:Cx)(pins:List (Addr×Obj))(σ:St)(tg:Expr)(R:It->Hp->Prop)(itv:Value)(s2:Shared):Prop :=
 ∃(it:Addr)(fp:List Addr)(tn:Nat->Heap->Prop)(J:It)(H':Hp),itv=.ref it/\Inv X pins σ H' s2/\JM_ X.prog X.w X.K tg J fp it tn/\tn 0 s2.heap/\(∀b∈fp,HM_ X pins H' b)/\R J H'
def PI(X:Cx)(tg iter:Expr)(wi:TI):Prop :=
 ∀(pins:List (Addr×Obj))(s:Shared)(σ:St)(H:Hp)(R:It->Hp->Prop),Inv X pins σ H s->wi σ H R ->
  wpAny (model X.prog X.w) X.A (eval iter X.env) (λv s1=>wpAny (model X.prog X.w) X.A (pyIter v) (PIE X pins σ tg R) X.xe s1) X.xe s
theorem IW_{M:Model}{A:Around}{E:Value->Shared->Prop}{s:Shared}{tg:Expr}{it:Addr}{u:Value}{o:Obj}{n:String}{vs:Array Value}{Q:Unit->Shared->Prop}(ho:s.heap.get? it=some o)(hc:o.cls=.type n)(hd:o.data=.fields vs)
    (hn:["enumerate","zip","dict_itemiterator","dict_reverseitemiterator","odict_iterator","itertools.zip_longest","itertools.pairwise"].contains n=false) (hQ:Q () s):wpAny M A (letOwnedTupleGo tg (.ref it) u) Q E s:=by
  unfold letOwnedTupleGo
  cases tg <;> first
    |show Ah_ hQ
    | (cases u <;> first
        |show Ah_ hQ
        | (show Ac_ (wpAny_load ho ?_)
           rw[hc,hd];change wpAny M A (if(["enumerate","zip","dict_itemiterator","dict_reverseitemiterator","odict_iterator","itertools.zip_longest","itertools.pairwise"].contains n && vs[0]? == some (rawInt _))=true then _ else _) Q E s;rw[if_neg (by intro h;rw[hn,Bool.false_and]at h;cases h)];show Ah_ hQ))
def Itl(K:PySem.W.Frag)(a:Addr):It :=
 ⟨λi H=>∃xs x,SqL K H a xs/\xs[i]?=some x,λi H x H'=>H'=H/\∀xs,SqL K H a xs->xs[i]?=some x,λi H=>∃xs,SqL K H a xs/\xs.length<=i⟩
def Itt(K:PySem.W.Frag)(a:Addr):It :=
 ⟨λi H=>∃xs x,SqT K H a xs/\xs[i]?=some x,λi H x H'=>H'=H/\∀xs,SqT K H a xs->xs[i]?=some x,λi H=>∃xs,SqT K H a xs/\xs.length<=i⟩
def Itr(lo:Int)(n:Nat):It:=⟨λi _=>i<n,λi H x H'=>H'=H/\x=.int (lo+i),λi _=>n<=i⟩
theorem lU_{tg:Expr}(a it:Addr):JM_ P w K tg (Itl K a) [it] it (λi h=>h.IsListIter it a i) where
 mem:=s_
 obj:=λi h st b hb=>by
  have e:b=it:=by simpa using hb
  subst e;obtain⟨o,e,c,d⟩:=st;show⟨o,e,λv z=>by rw[d]at z;cases z⟩
 keep:=λi h h' st k=>st.at λo e=>k it s_ o e
 item:=by intro X hP hw hK hc i pins s σ H E I hf st hg;subst hP hw hK;obtain⟨xs,x,hq,hx⟩:=hg;obtain⟨its,rv,p,hz⟩:=I.list hq;obtain⟨u,hu,ru⟩:=rv.get hx;obtain⟨f0,f1,f2,f3,f4,f5⟩:=hf it s_;show C7_ st p.isList (x:=u) (by simpa using hu) λh' st' sb=>?_;have I1:Inv X pins σ H {s with heap:=h'}:=I.turned (t':=s.toks) (λb o hb e=>(sb.2 b hb).trans e) f0 f1 f3 f4 f5;obtain⟨o,e,c,d⟩:=id st';show⟨u,rfl,IW_ (s:={s with heap:=h'}) e c d d_ ⟨x,H,I1,ru,⟨rfl,λys hy=>by rw[I.list_inj hy hq];show hx⟩,st',λb hb=>(hf b hb).1⟩⟩
 done:=by intro X hP hw hK hc i pins s σ H E I hf st hg;subst hP hw hK;obtain⟨xs,hq,hx⟩:=hg;obtain⟨its,rv,p,hz⟩:=I.list hq;obtain⟨f0,f1,f2,f3,f4,f5⟩:=hf it s_;have hl:=rv.length;show Dg_ (I.ok.hd hc) st p.isList (by simp;lia) λh' eb=>⟨rfl,I.turned (t':=s.toks) (λb o hb e=>eb b o hb e) f0 f1 f3 f4 f5⟩
 self:=λ_ _ _ _ _ st h=>wpAny_pyIter_listiter st h
theorem lo_{tg:Expr}(a it:Addr):JM_ P w K tg (Itt K a) [it] it (λi h=>h.IsTupleIter it a i) where
 mem:=s_
 obj:=λi h st b hb=>by
  have e:b=it:=by simpa using hb
  subst e;obtain⟨o,e,c,d⟩:=st;show⟨o,e,λv z=>by rw[d]at z;cases z⟩
 keep:=λi h h' st k=>st.at λo e=>k it s_ o e
 item:=by intro X hP hw hK hc i pins s σ H E I hf st hg;subst hP hw hK;obtain⟨xs,x,hq,hx⟩:=hg;obtain⟨its,rv,p,hz⟩:=I.tuple hq;obtain⟨u,hu,ru⟩:=rv.get hx;obtain⟨f0,f1,f2,f3,f4,f5⟩:=hf it s_;show wpAny_pyNext_tuple_item st (show s.heap.IsTuple a its.toArray from p) (x:=u) (by simpa using hu) λh' st' sb=>?_;have I1:Inv X pins σ H {s with heap:=h'}:=I.turned (t':=s.toks) (λb o hb e=>(sb.2 b hb).trans e) f0 f1 f3 f4 f5;obtain⟨o,e,c,d⟩:=id st';show⟨u,rfl,IW_ (s:={s with heap:=h'}) e c d d_ ⟨x,H,I1,ru,⟨rfl,λys hy=>by rw[I.tuple_inj hy hq];show hx⟩,st',λb hb=>(hf b hb).1⟩⟩
 done:=by intro X hP hw hK hc i pins s σ H E I hf st hg;subst hP hw hK;obtain⟨xs,hq,hx⟩:=hg;obtain⟨its,rv,p,hz⟩:=I.tuple hq;obtain⟨f0,f1,f2,f3,f4,f5⟩:=hf it s_;have hl:=rv.length;show wpAny_pyNext_tuple_end (I.ok.hd hc) st (show s.heap.IsTuple a its.toArray from p) (by simp;lia) λh' eb=>⟨rfl,I.turned (t':=s.toks) (λb o hb e=>eb b o hb e) f0 f1 f3 f4 f5⟩
 self:=λ_ _ _ _ _ st h=>wpAny_pyIter_tupleiter st h
theorem lp_{tg:Expr}(it:Addr)(lo:Int)(n:Nat):JM_ P w K tg (Itr lo n) [it] it (λi h=>IsRangeIter h it (lo+(i:Nat)*1) ((n:Int)-(i:Nat)) 1) where
 mem:=s_
 obj:=λi h st b hb=>by
  have e:b=it:=by simpa using hb
  subst e;show⟨_,st,λv z=>by have z':Data.fields _=Data.cell v:=z;cases z'⟩
 keep:=λi h h' st k=>k it s_ _ st
 item:=by intro X hP hw hK hc i pins s σ H E I hf st hg;subst hP hw hK;obtain⟨f0,f1,f2,f3,f4,f5⟩:=hf it s_;have W:=Walks.range (prog:=X.prog) (w:=X.w) (I.ok.hd hc) it lo 1 n;show W.item i s _ _ hg st λv h' tk hv st' kk=>?_;obtain⟨t,rfl⟩:=hv;have I1:Inv X pins σ H {s with heap:=h',toks:=tk}:=I.turned (λb o hb e=>kk b o (by simpa using hb) e) f0 f1 f3 f4 f5;show⟨_,rfl,IW_ (s:={s with heap:=h',toks:=tk}) (n := "range_iterator") st' rfl rfl d_ ⟨.int (lo+i),H,I1,⟨t,?_⟩,⟨rfl,rfl⟩,st',λb hb=>(hf b hb).1⟩⟩;rw[Int.mul_one]
 done:=by intro X hP hw hK hc i pins s σ H E I hf st hg;subst hP hw hK;obtain⟨f0,f1,f2,f3,f4,f5⟩:=hf it s_;show wpAny_pyNext_range_end (I.ok.hd hc) st (by have:n<=i:=hg;lia) λh' eb=>⟨rfl,I.turned (t':=s.toks) (λb o hb e=>eb b o hb e) f0 f1 f3 f4 f5⟩
 self:=λ_ _ _ _ _ st h=>wpAny_pyIter_rangeiter st h
variable {tg:Expr}
def JY_(K:PySem.W.Frag)(tl:TE):TI:=λσ H R=>tl σ H λx H1=>onR x λa=>(∃xs,SqL K H1 a xs)/\R (Itl K a) H1
def Lu_(K:PySem.W.Frag)(tl:TE):TI:=λσ H R=>tl σ H λx H1=>onR x λa=>(∃xs,SqT K H1 a xs)/\R (Itt K a) H1
theorem oI_{l:Expr}{tl:TE}(hl:PE X l tl):PI X tg l (JY_ X.K tl):=by
 intro pins s σ H R I h;show thn (hl pins s σ H _ I h) λv s1 ⟨x,H1,I1,r1,q1⟩=>?_;obtain⟨a,e,⟨xs,hq⟩,q⟩:=d6_ q1;subst e;cases r1;obtain⟨its,rv,p,hz⟩:=I1.list hq;show DZ_ p.isList ?_;show⟨s1.heap.objs.size,[s1.heap.objs.size],_,_,H1,rfl,I1.kept (t':=s1.toks) λb o e=>Ak_ _ e,lU_ a _,⟨_,AA_ _ rfl,rfl,rfl⟩,λb hb=>?_,q⟩;have e:b=s1.heap.objs.size:=by simpa using hb
 subst e;show I1.fpOk (Aj_ _) (I1.hok.fresh (Aj_ _))
theorem pN_{l:Expr}{tl:TE}(hl:PE X l tl):PI X tg l (Lu_ X.K tl):=by
 intro pins s σ H R I h;show thn (hl pins s σ H _ I h) λv s1 ⟨x,H1,I1,r1,q1⟩=>?_;obtain⟨a,e,⟨xs,hq⟩,q⟩:=d6_ q1;subst e;cases r1;obtain⟨its,rv,p,hz⟩:=I1.tuple hq;show wpAny_pyIter_tuple (show s1.heap.IsTuple a its.toArray from p) ?_;show⟨s1.heap.objs.size,[s1.heap.objs.size],_,_,H1,rfl,I1.kept (t':=s1.toks) λb o e=>Ak_ _ e,lo_ a _,⟨_,AA_ _ rfl,rfl,rfl⟩,λb hb=>?_,q⟩;have e:b=s1.heap.objs.size:=by simpa using hb
 subst e;show I1.fpOk (Aj_ _) (I1.hok.fresh (Aj_ _))
theorem kU_{pins:List (Addr×Obj)}{σ:St}{H:Hp}{s:Shared}{R:It->Hp->Prop}{E:Value->Shared->Prop}{lo hi:Int}{t u v:Tok}{tk:Nat}(I:Inv X pins σ H s)(h1:-(2 ^ 62)<=lo)(h2:lo<2 ^ 62)(h3:-(2 ^ 62)<=hi)(h4:hi<2 ^ 62)
  (q:R (Itr lo (hi-lo).toNat) H):wpAny (model X.prog X.w) X.A (pyIter (.ref s.heap.objs.size)) (PIE X pins σ tg R) E {s with heap:=s.heap.push {cls:=.type "range",data:=.fields #[.int lo t,.int hi u,.int 1 v]},toks:=tk}:=by
 show wpAny_pyIter_range (IsRange.new ..) (small_one h1 h2 h3 h4) ?_;have I1:Inv X pins σ H {s with heap:=s.heap.push {cls:=.type "range",data:=.fields #[.int lo t,.int hi u,.int 1 v]},toks:=tk}:=I.kept λb o e=>Ak_ _ e
 show⟨(s.heap.push {cls:=.type "range",data:=.fields #[.int lo t,.int hi u,.int 1 v]}).objs.size,[(s.heap.push {cls:=.type "range",data:=.fields #[.int lo t,.int hi u,.int 1 v]}).objs.size],_,_,H,rfl,
  I1.kept (t':=tk) λb o e=>Ak_ _ e,lp_ _ lo (hi-lo).toNat,?_,λb hb=>?_,q⟩
 .have e1:lo+((0:Nat):Int)*1=lo:=s_
  have e2:(((hi-lo).toNat:Nat):Int)-((0:Nat):Int)=Builtin.Range.rangeSize lo hi 1:=by rw[rangeSize_one];split <;> lia
  change IsRangeIter _ _ (lo+((0:Nat):Int)*1) ((((hi-lo).toNat:Nat):Int)-((0:Nat):Int)) 1;rw[e1,e2];show AA_ _ rfl
 .have e:b=(s.heap.push {cls:=.type "range",data:=.fields #[.int lo t,.int hi u,.int 1 v]}).objs.size:=by simpa using hb
  subst e;show I1.fpOk (Aj_ _) (I1.hok.fresh (Aj_ _))
def KK_(ta:TA):TI:=λσ H R=>ta σ H λvs H1=>on1 vs λx=>onI x λj=>-(2 ^ 62)<=j/\j<2 ^ 62/\R (Itr 0 j.toNat) H1
def Kz_(ta:TA):TI:=λσ H R=>ta σ H λvs H1=>on2 vs λx y=>onI x λi=>onI y λj=>(-(2 ^ 62)<=i/\i<2 ^ 62 /\ -(2 ^ 62)<=j/\j<2 ^ 62)/\R (Itr i (j-i).toNat) H1
theorem a5_{a:Expr}{ta:TA}{p:Pos}(hg:Gl X "range") (hm:X.mg "range"=none) (ha:PA X [a] ta) (hs:starEach [a] X.env=[(false,eval a X.env)]:=by rfl):PI X tg (.Call (.Name "range" p) [a] [] pos) (KK_ ta):=by
 intro pins s σ H R I h;show Call_ (ef_ I hg hm boot_range (Bi_ (thn (ha pos pins s σ H _ I h) λus s1 ⟨vs,H1,I1,r1,q1⟩=>?_) hs rfl));obtain⟨_,e,q0⟩:=kT_ q1;clear q1;obtain⟨j,rfl,q1,q2,q⟩:=c1_ q0;subst e;cases r1 with
 |cons r rr =>
  cases rr;obtain⟨t,rfl⟩:=r;show call_range_1 (kU_ I1 o_ o_ q1 q2 (by simpa using q))
theorem g2_{a b:Expr}{ta:TA}{p:Pos}(hg:Gl X "range") (hm:X.mg "range"=none) (ha:PA X [a,b] ta) (hs:starEach [a,b] X.env=[(false,eval a X.env),(false,eval b X.env)]:=by rfl) (hs2:starEach [b] X.env=[(false,eval b X.env)]:=by rfl):
  PI X tg (.Call (.Name "range" p) [a,b] [] pos) (Kz_ ta):=by
 intro pins s σ H R I h;show Call_ (ef_ I hg hm boot_range (Bi_ (thn (ha pos pins s σ H _ I h) λus s1 ⟨vs,H1,I1,r1,q1⟩=>?_) (by rw[hs,hs2]) (by rw[hs2];rfl)));obtain⟨_,_,e,q0⟩:=n3_ q1;clear q1;obtain⟨i,rfl,q9⟩:=c1_ q0;clear q0;obtain⟨j,rfl,⟨q1,q2,q3,q4⟩,q⟩:=c1_ q9;subst e;cases r1 with
 |cons r rr =>
  cases rr with
  |cons r' rr =>
   cases rr;obtain⟨t,rfl⟩:=r;obtain⟨t',rfl⟩:=r';show call_range_2 (kU_ I1 q1 q2 q3 q4 q)
def Mh_(wi:TI)(g:TG)(tb:TS):TS:=λD σ H=>wi σ H λJ H1=>∃W:Nat->Nat->St->Hp->Prop,(∃m,W 0 m σ H1)/\∀i m σ H,W i m σ H ->
 (J.stop i H/\D.nx σ H)\/(J.go i H/\∃N:St->Hp->Prop,(∀σ' H',N σ' H'->∃m',m'<m/\W (i+1) m' σ' H')/\∀x H',J.yld i H x H'->g x σ H' λσ2 H2=>tb {D with nx:=N,ct:=N,bk:=D.nx} σ2 H2)
def Hx_(fp:List Addr)(h:Heap):List (Addr×Obj):=fp.filterMap λb=>(h.get? b).map λo=>(b,o)
variable{fp:List Addr}
theorem eK_{o:Obj}(hb:b∈fp)(e:h.get? b=some o):(b,o)∈Hx_ fp h:=CT_.mpr ⟨b,hb,by rw[e];rfl⟩
theorem lV_{p:Addr×Obj}(hp:p∈Hx_ fp h):p.1∈fp/\h.get? p.1=some p.2:=by
 obtain⟨b,hb,e⟩:=CT_.mp hp;cases q:h.get? b with
 |none=>rw[q]at e;cases e
 |some o =>rw[q]at e;have e':(b,o)=p:=AB_ e;subst e';show⟨hb,q⟩
theorem Inv.pinned(I:Inv X pins σ H s)(hf:∀b∈fp,HM_ X pins H b)(ho:∀b∈fp,∃o,s.heap.get? b=some o/\∀v,o.data≠.cell v):Inv X (pins++Hx_ fp s.heap) σ H s :=
 I.pins_of λp hp=>(Aq_.mp hp).elim (λz=>I.pin p (AD_ _ z)) λz=>by obtain⟨hb,e⟩:=lV_ z;obtain⟨f0,f1,f2,_⟩:=hf p.1 hb;obtain⟨o,e',d⟩:=ho p.1 hb;rw[e]at e';cases e';show⟨e,f0,f1,f2,d⟩
theorem Inv.unpinned{pl:List (Addr×Obj)}(I:Inv X (pins++pl) σ H s):Inv X pins σ H s:=I.pins_of λp hp=>I.pin p (AD_ _ (Ax_ _ hp))
theorem aO_{iter:Expr}{body:List Stmt}{wi:TI}{g:TG}{tb:TS}{pos:Pos}(hp:PassesOwn (model X.prog X.w) X.A X.env X.xe)(hc:X.calm=true)(hi:PI X tg iter wi)(hg:PG X tg g)(hb:PSs X body tb)
  (hs:∀x,foldedSetIterable iter X.env x=pure x:=by intro _;rfl):PS X (.For tg iter body [] pos) (Mh_ wi g tb):=by
 intro pins s σ H D I h;show wpAny_For (thn (hi pins s σ H _ I h) λv s1 h1=>thn h1 λitv s2 h2=>?_) hs;obtain⟨it,fp,tn,J,H2,e,I2,T,st2,f2,W,⟨m0,w0⟩,turn⟩:=h2;subst e
 have stat:∀{H':Hp},(∀b∈fp,H' b=none)->∀b∈fp,HM_ X pins H' b:=λhn b hb=>⟨hn b hb,(f2 b hb).2⟩;show codeAny_forLoop_any (λn s'=>∃i σ' H',Inv X pins σ' H' s'/\tn i s'.heap/\(∀b∈fp,H' b=none)/\W i n σ' H') ?_ m0 ⟨0,σ,H2,I2,st2,λb hb=>(f2 b hb).1,w0⟩;rintro n s3 ⟨i,σ3,H3,I3,st3,fr3,w3⟩
 rcases turn i n σ3 H3 w3 with⟨stop,qn⟩|⟨go,N,hN,step⟩
 .show Ch_ hp (thn (T.done X rfl rfl rfl hc i pins s3 σ3 H3 X.xe I3 (stat fr3) st3 stop) λr s4 ⟨hr,I4⟩=>?_);subst hr;show Dn_ ⟨σ3,H3,I4,qn⟩
 .show Ch_ hp (thn (T.item X rfl rfl rfl hc i pins s3 σ3 H3 X.xe I3 (stat fr3) st3 go) λr s4 ⟨u,hr,h4⟩=>?_);subst hr;show Ch_ hp (thn h4 λ_ s5 ⟨x,H5,I5,r5,y5,st5,fr5⟩=>?_);have I5':=I5.pinned (stat fr5) (T.obj _ _ st5);show Ch_ hp (thn (hg _ s5 σ3 H5 x u _ I5' r5 (step x H5 y5)) λ_ s6 ⟨σ6,H6,I6,q6⟩=>?_);show Ch_ hp (thn (hb _ s6 σ6 H6 _ I6 q6) λf s7 q7=>?_);have again:∀{σ7:St}{H7:Hp},Inv X (pins++Hx_ fp s5.heap) σ7 H7 s7->N σ7 H7->∃m,m<n/\∃i σ' H',Inv X pins σ' H' s7/\tn i s7.heap/\(∀b∈fp,H' b=none)/\W i m σ' H':=λ{σ7 H7} I7 n7=>by obtain⟨m',hm,w7⟩:=hN σ7 H7 n7;show⟨m',hm,i+1,σ7,H7,I7.unpinned,T.keep _ _ _ st5 λb hb o e=>(I7.pin (b,o) (AD_ _ (AD_ _ (eK_ hb e)))).1,λb hb=>?_,w7⟩;obtain⟨o,e,d⟩:=T.obj _ _ st5 b hb;show(I7.pin (b,o) (AD_ _ (AD_ _ (eK_ hb e)))).2.1
  cases f with
  |next=>obtain⟨σ7,H7,I7,n7⟩:=q7;show again I7 n7
  |cont=>obtain⟨σ7,H7,I7,n7⟩:=q7;show again I7 n7
  |brk=>obtain⟨σ7,H7,I7,q7⟩:=q7;show⟨σ7,H7,I7.unpinned,q7⟩
  |ret v=>obtain⟨x7,σ7,H7,I7,r7,q7⟩:=q7;show⟨x7,σ7,H7,I7.unpinned,r7,q7⟩
theorem m7_{K:PySem.W.Frag}{a:Addr}{xs:List V}{g:TG}{tb:TS}{D:Hv_}{σ:St}{H:Hp}(Pv:Nat->St->Hp->Prop)(h0:Pv 0 σ H)(hl:∀i σ H,i<=xs.length->Pv i σ H->SqL K H a xs)
  (hs:∀i x σ H,xs[i]?=some x->Pv i σ H->g x σ H λσ2 H2=>tb {D with nx:=Pv (i+1),ct:=Pv (i+1),bk:=D.nx} σ2 H2) (hd:∀σ H,Pv xs.length σ H->D.nx σ H):
  ∃W:Nat->Nat->St->Hp->Prop,(∃m,W 0 m σ H)/\∀i m σ H,W i m σ H ->
   ((Itl K a).stop i H/\D.nx σ H)\/((Itl K a).go i H/\∃N:St->Hp->Prop,(∀σ' H',N σ' H'->∃m',m'<m/\W (i+1) m' σ' H')/\∀x H',(Itl K a).yld i H x H'->g x σ H' λσ2 H2=>tb {D with nx:=N,ct:=N,bk:=D.nx} σ2 H2):=by
 show⟨λi m σ H=>m=xs.length-i/\i<=xs.length/\Pv i σ H,⟨xs.length,s_,AE_ _,h0⟩,?_⟩;rintro i m σ H ⟨rfl,hi,p⟩;have q:=hl i σ H hi p;by_cases hlt:i<xs.length
 .show .inr ⟨⟨xs,xs[i],q,by simp[hlt]⟩,Pv (i+1),λσ' H' p'=>⟨xs.length-(i+1),o_,rfl,hlt,p'⟩,λx H' y=>?_⟩;obtain⟨e,y⟩:=y;subst e;show hs i x σ _ (y xs q) p
 .have e:i=xs.length:=o_
  subst e;show .inl ⟨⟨xs,q,Aj_ _⟩,hd σ H p⟩
theorem lW_{lo:Int}{n:Nat}{g:TG}{tb:TS}{D:Hv_}{σ:St}{H:Hp}(Pv:Nat->St->Hp->Prop)(h0:Pv 0 σ H)
  (hs:∀i σ H,i<n->Pv i σ H->g (.int (lo+i)) σ H λσ2 H2=>tb {D with nx:=Pv (i+1),ct:=Pv (i+1),bk:=D.nx} σ2 H2) (hd:∀σ H,Pv n σ H->D.nx σ H):
  ∃W:Nat->Nat->St->Hp->Prop,(∃m,W 0 m σ H)/\∀i m σ H,W i m σ H ->
   ((Itr lo n).stop i H/\D.nx σ H)\/((Itr lo n).go i H/\∃N:St->Hp->Prop,(∀σ' H',N σ' H'->∃m',m'<m/\W (i+1) m' σ' H')/\∀x H',(Itr lo n).yld i H x H'->g x σ H' λσ2 H2=>tb {D with nx:=N,ct:=N,bk:=D.nx} σ2 H2):=by
 show⟨λi m σ H=>m=n-i/\i<=n/\Pv i σ H,⟨n,s_,AE_ _,h0⟩,?_⟩;rintro i m σ H ⟨rfl,hi,p⟩;by_cases hlt:i<n
 .show .inr ⟨hlt,Pv (i+1),λσ' H' p'=>⟨n-(i+1),o_,rfl,hlt,p'⟩,λx H' y=>?_⟩;obtain⟨e,y⟩:=y;subst e y;show hs i σ _ hlt p
 .have e:i=n:=o_
  subst e;show .inl ⟨Aj_ _,hd σ H p⟩
abbrev R2:=V->V->Hp->VK->Prop
def OpR(X:Cx)(f:Value->Value->Sem Value)(r:R2):Prop :=
 ∀(pins:List (Addr×Obj))(s:Shared)(σ:St)(H:Hp)(x y:V)(v u:Value)(Q:VK),Inv X pins σ H s->FU_ x v->FU_ y u->r x y H Q ->
  wpAny (model X.prog X.w) X.A (f v u) (EP X pins σ Q) X.xe s
def UnR(X:Cx)(f:Value->Sem Value)(r:V->Hp->VK->Prop):Prop :=
 ∀(pins:List (Addr×Obj))(s:Shared)(σ:St)(H:Hp)(x:V)(v:Value)(Q:VK),Inv X pins σ H s->FU_ x v->r x H Q ->
  wpAny (model X.prog X.w) X.A (f v) (EP X pins σ Q) X.xe s
def Ga_(X:Cx)(f:Value)(r:List V->Hp->VK->Prop):Prop :=
 ∀(pins:List (Addr×Obj))(s:Shared)(σ:St)(H:Hp)(xs:List V)(us:List Value)(Q:VK),Inv X pins σ H s->FO_ xs us->r xs H Q ->
  wpAny (model X.prog X.w) X.A (call f us) (EP X pins σ Q) X.xe s
def tOp(r:R2)(ta tb:TE):TE:=λσ H Q=>ta σ H λx H1=>tb σ H1 λy H2=>r x y H2 Q
def tUn(r:V->Hp->VK->Prop)(ta:TE):TE:=λσ H Q=>ta σ H λx H1=>r x H1 Q
def rI(C:Int->Int->Prop)(g:Int->Int->V):R2:=λx y H Q=>onI x λi=>onI y λj=>C i j/\Q (g i j) H
def rI0(g:Int->Int->V):R2:=λx y H Q=>onI x λi=>onI y λj=>Q (g i j) H
def rU(g:Int->V):V->Hp->VK->Prop:=λx H Q=>onI x λi=>Q (g i) H
section
variable {a b c:Expr}{ta tb tc:TE}
theorem binT(ha:PE X a ta)(hb:PE X b tb){pins:List (Addr×Obj)}{s:Shared}{σ:St}{H:Hp}{R:V->V->Hp->Prop}(I:Inv X pins σ H s)
  (h:ta σ H λx H1=>tb σ H1 λy H2=>R x y H2) {Q:Value->Shared->Prop} {f:Value->Value->Sem Value}
  (hf:∀v u s2 x y H2,Inv X pins σ H2 s2->FU_ x v->FU_ y u->R x y H2->wpAny (model X.prog X.w) X.A (f v u) Q X.xe s2):
  wpAny (model X.prog X.w) X.A (eval a X.env) (λv s₁=>wpAny (model X.prog X.w) X.A (eval b X.env) (λu s₂=>wpAny (model X.prog X.w) X.A (f v u) Q X.xe s₂) X.xe s₁) X.xe s:=by
 show thn (ha pins s σ H _ I h) λv s1 ⟨x,H1,I1,r1,q1⟩=>?_;show thn (hb pins s1 σ H1 _ I1 q1) λu s2 ⟨y,H2,I2,r2,q2⟩=>?_;show hf v u s2 x y H2 I2 r1 r2 q2
theorem Fs_{op:Operator}{r:R2}(ho:OpR X (binaryOp op) r)(ha:PE X a ta)(hb:PE X b tb):PE X (.BinOp a op b pos) (tOp r ta tb):=by intro pins s σ H Q I h;show wpAny_BinOp (binT ha hb I h λv u s2 x y H2 I2 rx ry q=>ho pins s2 σ H2 x y v u Q I2 rx ry q)
theorem Ir_{op:UnaryOp}{r:V->Hp->VK->Prop}(ho:UnR X (unaryOp op) r)(ha:PE X a ta):PE X (.UnaryOp op a pos) (tUn r ta):=by intro pins s σ H Q I h;show UnaryOp_ (thn (ha pins s σ H _ I h) λv s1 ⟨x,H1,I1,r1,q1⟩=>ho pins s1 σ H1 x v Q I1 r1 q1)
theorem opI{f:Value->Value->Sem Value}{C:Int->Int->Prop}{g:Int->Int->Int}
  (rule:∀(i j:Int)(t u:Tok)(s:Shared)(Q:Value->Shared->Prop)(E:Value->Shared->Prop),C i j->Q (.int (g i j) s.toks) {s with toks:=s.toks+1}->wpAny (model X.prog X.w) X.A (f (.int i t) (.int j u)) Q E s):
  OpR X f (rI C λi j=>.int (g i j)):=by
 intro pins s σ H x y v u Q I rx ry h;obtain⟨i,rfl,h1⟩:=c1_ h;clear h;obtain⟨j,rfl,hc,q⟩:=c1_ h1;obtain⟨t,rfl⟩:=rx;obtain⟨t',rfl⟩:=ry;show rule i j t t' s _ _ hc ⟨.int (g i j),H,I.tok _,⟨_,rfl⟩,q⟩
theorem opI0{f:Value->Value->Sem Value}{g:Int->Int->Int}
  (rule:∀(i j:Int)(t u:Tok)(s:Shared)(Q:Value->Shared->Prop)(E:Value->Shared->Prop),Q (.int (g i j) s.toks) {s with toks:=s.toks+1}->wpAny (model X.prog X.w) X.A (f (.int i t) (.int j u)) Q E s):
  OpR X f (rI0 λi j=>.int (g i j)):=by
 intro pins s σ H x y v u Q I rx ry h;obtain⟨i,rfl,h1⟩:=c1_ h;clear h;obtain⟨j,rfl,q⟩:=c1_ h1;obtain⟨t,rfl⟩:=rx;obtain⟨t',rfl⟩:=ry;show rule i j t t' s _ _ ⟨.int (g i j),H,I.tok _,⟨_,rfl⟩,q⟩
theorem opB0{f:Value->Value->Sem Value}{g:Int->Int->Bool}
  (rule:∀(i j:Int)(t u:Tok)(s:Shared)(Q:Value->Shared->Prop)(E:Value->Shared->Prop),Q (.bool (g i j)) s->wpAny (model X.prog X.w) X.A (f (.int i t) (.int j u)) Q E s):
  OpR X f (rI0 λi j=>.bl (g i j)):=by
 intro pins s σ H x y v u Q I rx ry h;obtain⟨i,rfl,h1⟩:=c1_ h;clear h;obtain⟨j,rfl,q⟩:=c1_ h1;obtain⟨t,rfl⟩:=rx;obtain⟨t',rfl⟩:=ry;show rule i j t t' s _ _ ⟨.bl (g i j),H,I,rfl,q⟩
def L0_(i j:Int):Prop:=0<=j/\j<=1000000/\i.natAbs<2 ^ 64
def La_(i j:Int):Prop:=(-(2 ^ 64)<i/\i<2 ^ 64)\/(-(2 ^ 64)<j/\j<2 ^ 64)
theorem La_.ok{i j:Int}(h:La_ i j):IntMulOk i j:=by
 rcases h with⟨h1,h2⟩|⟨h1,h2⟩
 .show .of_left (intBits_le_64 h1 h2)
 .show .of_right (intBits_le_64 h1 h2)
theorem aS_:OpR X (binaryOp .Add) (rI0 λi j=>.int (i+j)):=opI0 λ_ _ _ _ _ _ _ q=>add_int q
theorem lX_:OpR X (binaryOp .Sub) (rI0 λi j=>.int (i-j)):=opI0 λ_ _ _ _ _ _ _ q=>sub_int q
theorem i2_:OpR X (binaryOp .Mult) (rI La_ λi j=>.int (i*j)):=opI λ_ _ _ _ _ _ _ hc q=>mul_int q hc.ok
theorem aJ_:OpR X (binaryOp .Mod) (rI (λ_ j=>0<j) λi j=>.int (i%j)):=opI λi j _ _ _ _ _ hc q=>by have h1:(0:Int)<j:=hc;show mod_int' o_ (by rw[Int.fmod_eq_emod_of_nonneg i o_];show q)
theorem n7_:OpR X (binaryOp .Pow) (rI L0_ λi j=>.int (i ^ j.toNat)):=opI λ_ _ _ _ _ _ _ hc q=>pow_int_small hc.1 hc.2.1 hc.2.2 q
theorem unI{f:Value->Sem Value}{g:Int->Int}
  (rule:∀(i:Int)(t:Tok)(s:Shared)(Q:Value->Shared->Prop)(E:Value->Shared->Prop),Q (.int (g i) s.toks) {s with toks:=s.toks+1}->wpAny (model X.prog X.w) X.A (f (.int i t)) Q E s):
  UnR X f (rU λi=>.int (g i)):=by
 intro pins s σ H x v Q I rx h;obtain⟨i,rfl,q⟩:=c1_ h;obtain⟨t,rfl⟩:=rx;show rule i t s _ _ ⟨.int (g i),H,I.tok _,⟨_,rfl⟩,q⟩
theorem hW_:UnR X (unaryOp .USub) (rU λi=>.int (-i)):=unI λ_ _ _ _ _ q=>neg_int q
end
def scal:V->V->Bool
 | .non,.non=>true | .non,.int _=>true | .int _,.non=>true | .non,.bl _=>true | .bl _,.non=>true | .non,.str _=>true | .str _,.non=>true
 | .int _,.int _=>true | .bl _,.bl _=>true | .str _,.str _=>true | .byt _,.byt _=>true
 | .int _,.str _=>true | .str _,.int _=>true | .bl _,.str _=>true | .str _,.bl _=>true
 |_,_=>false
def rEq:R2:=λx y H Q=>scal x y=true/\Q (.bl (decide (x=y))) H
def rNe:R2:=λx y H Q=>scal x y=true/\Q (.bl (!decide (x=y))) H
theorem lY_{i j:Int}:decide (V.int i=V.int j)=(i == j):=by rw[Do_];simp
theorem n8_{i j:Bool}:decide (V.bl i=V.bl j)=(i == j):=by rw[Do_];simp
theorem lZ_{i j:Str}:decide (V.str i=V.str j)=(i == j):=by rw[Do_];simp
theorem l0_{i j:Array UInt8}:decide (V.byt i=V.byt j)=(i.toList == j.toList):=by rw[Do_];cases i;cases j;simp
section
variable {a b c:Expr}{ta tb tc:TE}
theorem aX_{Q:VK}{k k':Bool}(I:Inv X pins σ H s)(q:Q (.bl k) H)(e:k=k'):EP X pins σ Q (.bool k') s:=by subst e;show⟨.bl k,H,I,rfl,q⟩
theorem GP_:OpR X (compareOp .Eq) rEq:=by
 intro pins s σ H x y v u Q I rx ry h;obtain⟨hs,q⟩:=h;cases x with
 |non =>
  cases rx;cases y with
  |non=>cases ry;show PySem.EqNone.eq_none_none (aX_ I q s_)
  |bl j=>cases ry;show PySem.EqNone.eq_none_bool (aX_ I q s_)
  |int j=>obtain⟨t',rfl⟩:=ry;show PySem.EqNone.eq_none_int (aX_ I q s_)
  |str j=>obtain⟨t',rfl⟩:=ry;show PySem.EqNone.eq_none_str (aX_ I q s_)
  |_=>show absurd (show false=true from hs) AN_
 |bl i =>
  cases rx;cases y with
  |non=>cases ry;show PySem.EqNone.eq_bool_none (aX_ I q s_)
  |bl j=>cases ry;show eq_bool (aX_ I q n8_)
  |str j=>obtain⟨t',rfl⟩:=ry;show PySem.EqMixed.eq_bool_str (aX_ I q s_)
  |_=>show absurd (show false=true from hs) AN_
 |int i =>
  obtain⟨t,rfl⟩:=rx;cases y with
  |non=>cases ry;show PySem.EqNone.eq_int_none (aX_ I q s_)
  |int j=>obtain⟨t',rfl⟩:=ry;show eq_int (aX_ I q lY_)
  |str j=>obtain⟨t',rfl⟩:=ry;show PySem.EqMixed.eq_int_str (aX_ I q s_)
  |_=>show absurd (show false=true from hs) AN_
 |str i =>
  obtain⟨t,rfl⟩:=rx;cases y with
  |non=>cases ry;show PySem.EqNone.eq_str_none (aX_ I q s_)
  |bl j=>cases ry;show PySem.EqMixed.eq_str_bool (aX_ I q s_)
  |int j=>obtain⟨t',rfl⟩:=ry;show PySem.EqMixed.eq_str_int (aX_ I q s_)
  |str j=>obtain⟨t',rfl⟩:=ry;show eq_str (aX_ I q lZ_)
  |_=>show absurd (show false=true from hs) AN_
 |byt i =>
  obtain⟨t,rfl⟩:=rx;cases y with
  |byt j=>obtain⟨t',rfl⟩:=ry;show PySem.W.eq_bytes (aX_ I q l0_)
  |_=>show absurd (show false=true from hs) AN_
 |_=>cases y <;> show absurd (show false=true from hs) AN_
theorem Iq_:OpR X (compareOp .NotEq) rNe:=by
 intro pins s σ H x y v u Q I rx ry h;obtain⟨hs,q⟩:=h;cases x with
 |non =>
  cases rx;cases y with
  |non=>cases ry;show PySem.EqNone.ne_none_none (aX_ I q s_)
  |bl j=>cases ry;show PySem.EqNone.ne_none_bool (aX_ I q s_)
  |int j=>obtain⟨t',rfl⟩:=ry;show PySem.EqNone.ne_none_int (aX_ I q s_)
  |str j=>obtain⟨t',rfl⟩:=ry;show PySem.EqNone.ne_none_str (aX_ I q s_)
  |_=>show absurd (show false=true from hs) AN_
 |bl i =>
  cases rx;cases y with
  |non=>cases ry;show PySem.EqNone.ne_bool_none (aX_ I q s_)
  |bl j=>cases ry;show ne_bool (aX_ I q (congrArg not n8_))
  |str j=>obtain⟨t',rfl⟩:=ry;show PySem.EqMixed.ne_bool_str (aX_ I q s_)
  |_=>show absurd (show false=true from hs) AN_
 |int i =>
  obtain⟨t,rfl⟩:=rx;cases y with
  |non=>cases ry;show PySem.EqNone.ne_int_none (aX_ I q s_)
  |int j=>obtain⟨t',rfl⟩:=ry;show ne_int (aX_ I q (congrArg not lY_))
  |str j=>obtain⟨t',rfl⟩:=ry;show PySem.EqMixed.ne_int_str (aX_ I q s_)
  |_=>show absurd (show false=true from hs) AN_
 |str i =>
  obtain⟨t,rfl⟩:=rx;cases y with
  |non=>cases ry;show PySem.EqNone.ne_str_none (aX_ I q s_)
  |bl j=>cases ry;show PySem.EqMixed.ne_str_bool (aX_ I q s_)
  |int j=>obtain⟨t',rfl⟩:=ry;show PySem.EqMixed.ne_str_int (aX_ I q s_)
  |str j=>obtain⟨t',rfl⟩:=ry;show ne_str (aX_ I q (congrArg not lZ_))
  |_=>show absurd (show false=true from hs) AN_
 |byt i =>
  obtain⟨t,rfl⟩:=rx;cases y with
  |byt j=>obtain⟨t',rfl⟩:=ry;show PySem.W.ne_bytes (aX_ I q (congrArg not l0_))
  |_=>show absurd (show false=true from hs) AN_
 |_=>cases y <;> show absurd (show false=true from hs) AN_
theorem HI_:OpR X (compareOp .Lt) (rI0 λi j=>.bl (decide (i<j))):=opB0 λ_ _ _ _ _ _ _ q=>lt_int q
theorem J5_:OpR X (compareOp .Gt) (rI0 λi j=>.bl (decide (j<i))):=opB0 λ_ _ _ _ _ _ _ q=>gt_int q
theorem KT_:OpR X (compareOp .GtE) (rI0 λi j=>.bl (decide (j<=i))):=opB0 λ_ _ _ _ _ _ _ q=>ge_int q
variable{op:CmpOp}
theorem FJ_(b:Expr)(h:op≠.In:=by decide) (h2:op≠.NotIn:=by decide):behindInMarks op b=false:=by
 have e1:(op == CmpOp.In)=false:=by cases op <;> first|rfl|show absurd rfl h
 have e2:(op == CmpOp.NotIn)=false:=by cases op <;> first|rfl|show absurd rfl h2
 cases b <;> simp[behindInMarks,e1,e2]
theorem il_{r:R2}(ho:OpR X (compareOp op) r)(ha:PE X a ta)(hb:PE X b tb)(hm:behindInMarks op b=false):PE X (.Compare a [op] [b] pos) (tOp r ta tb):=by intro pins s σ H Q I h;show wpAny_Compare1 (binT ha hb I h λv u s2 x y H2 I2 rx ry q=>ho pins s2 σ H2 x y v u Q I2 rx ry q) hm
def KR_(t:TE):TT:=λσ H Q=>t σ H λx H'=>onB x λk=>Q k H'
theorem aq_{r:R2}(ho:OpR X (compareOp op) r)(ha:PE X a ta)(hb:PE X b tb)(hm:behindInMarks op b=false):PT X (.Compare a [op] [b] pos) (KR_ (tOp r ta tb)):=by
 intro pins s σ H Q I h;show EH_ (thn (ha pins s σ H _ I h) λv s1 ⟨x,H1,I1,r1,q1⟩=>thn (hb pins s1 σ H1 _ I1 q1) λu s2 ⟨y,H2,I2,r2,q2⟩ =>thn (ho pins s2 σ H2 x y v u _ I2 r1 r2 q2) λc s3 ⟨z,H3,I3,r3,q0⟩=>?_) hm;obtain⟨k,e,q3⟩:=kS_ q0;subst e;cases r3;show BJ_ ⟨H3,I3,q3⟩
theorem HH_:(sizeLine:Nat)<2 ^ 63:=by rw[BG_];decide
theorem eL_:OpR X (binaryOp .Add) (λx y H Q=>∃i j,x=.str i/\y=.str j/\i.length+j.length<=sizeLine/\Q (.str (i++j)) H):=by intro pins s σ H x y v u Q I rx ry h;obtain⟨i,j,rfl,rfl,hz,q⟩:=h;obtain⟨t,rfl⟩:=rx;obtain⟨t',rfl⟩:=ry;show add_str (λt' tk=>⟨.str (i++j),H,I.tok _,⟨_,rfl⟩,q⟩) hz
theorem Gr_{x:V}{us:List Value}(r:FO_ [x] us):∃u,us=[u]/\FU_ x u:=by
 cases r with
 |cons r1 r2=>cases r2;show⟨_,rfl,r1⟩
theorem G1_{x y:V}{us:List Value}(r:FO_ [x,y] us):∃u w',us=[u,w']/\FU_ x u/\FU_ y w':=by
 cases r with
 |cons r1 r2 =>
  cases r2 with
  |cons r3 r4=>cases r4;show⟨_,_,rfl,r1,r3⟩
theorem m8_:Ga_ X (.builtin "abs") (λxs H Q=>∃i,xs=[.int i]/\Q (.int (if i<0 then -i else i)) H):=by intro pins s σ H xs us Q I r h;obtain⟨i,rfl,q⟩:=h;obtain⟨u,rfl,t,rfl⟩:=Gr_ r;show call_abs_int λu tk=>⟨.int (if i<0 then -i else i),H,I.tok _,⟨_,rfl⟩,q⟩
theorem i3_:Ga_ X (.type "int") (λxs H Q=>(∃i,xs=[.int i]/\Q (.int i) H)\/∃k,xs=[.bl k]/\Q (.int (if k then 1 else 0)) H):=by
 intro pins s σ H xs us Q I r h
 rcases h with⟨i,rfl,q⟩|⟨k,rfl,q⟩
 .obtain⟨u,rfl,t,rfl⟩:=Gr_ r;show call_int_int ⟨.int i,H,I,⟨_,rfl⟩,q⟩
 .obtain⟨u,rfl,r1⟩:=Gr_ r;cases r1;show call_int_bool ⟨.int (if k then 1 else 0),H,I.tok _,⟨_,rfl⟩,q⟩
end
variable {prog:Program}{A:Around}{K:PySem.W.Frag}{dx C f:Addr}{mA:Str->Option Value}{name:Str}{v:Value}
theorem HR_.some_of{v:V}{o:Option Value}(r:HR_ (some v) o):∃u,o=some u/\FU_ v u:=by
 cases o with
 |none=>show(show False from r).elim
 |some u=>show⟨u,rfl,r⟩
structure Cls(K:PySem.W.Frag)(C:Addr):Prop where
 pg:PySem.W.plainGet K C Str.empty=true
 hd:PySem.W.hasDictIn K C=true
 po:PySem.W.plainOver K C=true
 sa:PySem.W.findIn K (.ref C) "__setattr__"=some (some (.builtin "object.__setattr__"))
theorem Cls.get(c:Cls K C)(f:Str):PySem.W.plainGet K C f=true:=c.pg
variable {o e value:Expr}{f:Str}{pos' tpos:Pos}{ta tv:TE}
structure Hi_(k:Nat)(A:Around):Prop where
 hd:A.handled=none
 dp:A.depth+3*k+5<recursionLimit
 un:A.units+16*k+200<cLine
theorem Hi_.mono{j k:Nat}(r:Hi_ k A)(h:j<=k):Hi_ j A:=⟨r.hd,by have:=r.dp;lia,by have:=r.un;lia⟩
theorem Hi_.deeper{k:Nat}(r:Hi_ (k+1) A)(env:Env):Hi_ k (A.deeper env):=
 ⟨r.hd,by have:=r.dp;change A.depth+1+3*k+5<_;lia,by have:=r.un;change A.units+3+16*k+200<_;lia⟩
theorem Hi_.depth{k:Nat}(r:Hi_ k A):A.depth<recursionLimit:=by have:=r.dp;lia
theorem Hi_.units{k:Nat}(r:Hi_ k A):A.units+64<cLine:=by have:=r.un;lia
def LI_:TA:=λ_ H Q=>Q [] H
def JW_(ta:TE)(tr:TA):TA:=λσ H Q=>ta σ H λx H1=>tr σ H1 λxs H2=>Q (x::xs) H2
section
variable {es:List Expr}{te:TE}{t:TA}
theorem ab_:PA X [] LI_:=λ_ _ _ _ H Q I h=>D0_ ⟨[],H,I,.nil,h⟩
theorem oJ_(ha:PE X e te)(hr:PA X es t)(hs:starEach (e::es) X.env=(false,eval e X.env)::starEach es X.env:=by rfl):PA X (e::es) (JW_ te t):=by intro pos pins s σ H Q I h;rw[hs];change wpAny _ _ (spliced ((false,eval e X.env)::backTo pos (starEach es X.env))) _ _ s;show DO_ (thn (ha pins s σ H _ I h) λu s1 ⟨x,H1,I1,r1,q1⟩=>?_);show thn (hr pos pins s1 σ H1 _ I1 q1) λus s2 ⟨xs,H2,I2,r2,q2⟩=>⟨x::xs,H2,I2,.cons r1 r2,q2⟩
def LY_(t:TA):TE:=λσ H Q=>t σ H λxs H1=>xs.length<=sizeLine/\∀p,H1 p=none->Q (.ref p) (upd H1 p (.tup xs))
def LO_(t:TA):TE:=λσ H Q=>t σ H λxs H1=>xs.length<=sizeLine/\∀p,H1 p=none->Q (.ref p) (upd H1 p (.lst xs))
theorem aF_{x1} (h:PA X es t):PE X (.Tuple es x1 pos) (LY_ t):=by intro pins s σ H Q I hq;show wpAny_Tuple_spliced (thn (h pos pins s σ H _ I hq) λus s1 ⟨xs,H1,I1,r,z,q⟩=>⟨by rw[<-r.length];show z,?_⟩);have hf:H1 s1.heap.objs.size=none:=I1.hok.fresh (Aj_ _);show⟨.ref s1.heap.objs.size,upd H1 s1.heap.objs.size (.tup xs),I1.laid (t':=s1.toks) (λb u e=>Ak_ _ e) (Aj_ _) ?_,rfl,q _ hf⟩;show⟨z,us,r,⟨_,AA_ _ rfl,rfl,_,rfl⟩⟩
theorem bn_(h:PA X es t):PE X (.List es pos) (LO_ t):=by intro pins s σ H Q I hq;show wpAny_List_spliced (thn (h pos pins s σ H _ I hq) λus s1 ⟨xs,H1,I1,r,z,q⟩=>⟨by rw[<-r.length];show z,?_⟩);have hf:H1 s1.heap.objs.size=none:=I1.hok.fresh (Aj_ _);show⟨.ref s1.heap.objs.size,upd H1 s1.heap.objs.size (.lst xs),I1.laid (t':=s1.toks) (λb u e=>Ak_ _ e) (Aj_ _) ?_,rfl,q _ hf⟩;show⟨z,us,0,r,AA_ _ rfl⟩
end
abbrev Sp:=List V->Hp->VK->XK->Prop
abbrev CXT:=List Env->Hp->Shared->XK->Value->Shared->Prop
structure K8_(P:Program)(w:World)(K:PySem.W.Frag)(mg:Str->Option Value)(base:Heap)(A:Around)(outer:List Env)(s:Shared)(H:Hp):Prop where
 frames:A.frames=some outer
 mod:Mod K mg base
 bs:∀b o,base.get? b=some o->s.heap.get? b=some o/\H b=none
 bsz:base.objs.size<=s.heap.objs.size
 funs:s.heap.FunFrames base outer
 frf:∀b∈frs outer,H b=none
 hok:HOk P w H s.heap
 bare:AllBare s.gens
def CE(outer:List Env)(P:Program)(w:World)(H:Hp)(s:Shared)(Q:VK)(u:Value)(s':Shared):Prop :=
 ∃v H',s'.os=s.os/\AllBare s'.gens/\Un (frs outer) [] H H' s.heap s'.heap/\HOk P w H' s'.heap/\FU_ v u/\Q v H'
def CR(CX:CXT)(outer:List Env)(P:Program)(w:World)(H:Hp)(s:Shared)(Q:VK)(E:XK)(r:Result)(s':Shared):Prop :=
 match r with
 | .ok (.ret u)=>CE outer P w H s Q u s'
 | .ok _=>False
 | .error e=>CX outer H s E e s'
structure I7_(P:Program)(w:World)(K:PySem.W.Frag)(mg:Str->Option Value)(base:Heap)(CX:CXT)(k:Nat)(f:Addr)(fd:FuncData)(ps:List Str)(sp:Sp):Prop where
 len:∀vs H Q E,sp vs H Q E->vs.length=ps.length
 run:∀(A:Around)(outer:List Env)(s:Shared)(H:Hp)(args:Args)(us:List Value)(vs:List V)(Q:VK)(E:XK),Hi_ k A->K8_ P w K mg base A outer s H->BindsTo s fd args (ps.zip us)->FO_ vs us->sp vs H Q E ->
  codeAny (model P w) A (.call (.ref f) args) (CR CX outer P w H s Q E) s
variable {s':Shared}
theorem Inv.env0(I:Inv X pins σ H s):K8_ X.prog X.w X.K X.mg X.base X.A X.stack s H :=
 ⟨I.ok.frames,I.ok.mod,I.bs,AH_ I.ok.bsz I.sz,I.stack,I.stkFree,I.hok,I.bare⟩
theorem Inv.after{Q:VK}{u:Value}(I:Inv X pins σ H s)(h:CE X.stack X.prog X.w H s Q u s'):EP X pins σ Q u s':=by obtain⟨v,H',os,bare,un,hok,r,q⟩:=h;obtain⟨hh,g,d,t,os'⟩:=s';obtain rfl:os'=s.os:=os;show⟨v,H',I.call (h':=hh) (g':=g) (d':=d) (t':=t) (ch:=[]) un hok bare (λb z=>absurd z s_),r,q⟩
def Jd_(sp:Sp)(dvs:List V)(E:XK)(t:TA):TE:=λσ H Q=>t σ H λvs H1=>sp (vs++dvs) H1 Q E
def Ij_(K:PySem.W.Frag)(fd:FuncData)(ps:List Str)(ds:List Value):Prop :=
 ∀(s:Shared)(us:List Value),K.In s.heap->(us++ds).length=ps.length->BindsTo s fd ⟨us,[]⟩ (ps.zip (us++ds))
theorem Ij_.all{fd:FuncData}{ps:List Str}(h:∀us:List Value,us.length=ps.length->bindArgs fd ⟨us,[]⟩=pure (ps.zip us)):Ij_ K fd ps []:=λs us _ hl=>by rw[BL_]at hl⊢;show .of_eq (h us hl)
def IR_(CX:CXT)(X:Cx)(E:XK):Prop:=∀(pins:List (Addr×Obj))(σ:St)(H:Hp)(s:Shared)(e:Value)(s':Shared),Inv X pins σ H s->CX X.stack H s E e s'->X.xe e s'
section
variable {CX:CXT}{k:Nat}{f:Addr}{fd:FuncData}{ps:List Str}{sp:Sp}{dvs:List V}{ds:List Value}{E:XK}{x m:Str}{p apos:Pos}{es:List Expr}{t:TA}
theorem pO_{pins:List (Addr×Obj)}{σ:St}{H:Hp}{s:Shared}{Q:VK}{us:List Value}{vs:List V}(F:I7_ X.prog X.w X.K X.mg X.base CX k f fd ps sp)(hr:Hi_ k X.A)(hb:Ij_ X.K fd ps ds)(hd:FO_ dvs ds)(hx:IR_ CX X E)
  (I:Inv X pins σ H s) (r:FO_ vs us) (h:sp (vs++dvs) H Q E):wpAny (model X.prog X.w) X.A (call (.ref f) us) (EP X pins σ Q) X.xe s:=by
 have r2:FO_ (vs++dvs) (us++ds):=r.append hd;have hl:(us++ds).length=ps.length:=by rw[<-r2.length];show F.len _ _ _ _ h
 show wpAny_call (Dp_ (F.run X.A X.stack s H ⟨us,[]⟩ (us++ds) (vs++dvs) Q E hr I.env0 (hb s us I.kIn hl) r2 h) λr s' hq=>?_);cases r with
 |error e=>show hx pins σ H s e s' I hq
 |ok fl =>
  cases fl with
  |ret u=>show I.after hq
  |next=>show False.elim hq
  |brk=>show False.elim hq
  |cont=>show False.elim hq
theorem oK_(F:I7_ X.prog X.w X.K X.mg X.base CX k f fd ps sp)(hr:Hi_ k X.A)(hg:Gl X x)(hm:X.mg x=some (.ref f))(hk:PySem.W.keepIn X.K (.ref f)=true)(hb:Ij_ X.K fd ps ds)(hd:FO_ dvs ds)(hx:IR_ CX X E)
  (ha:PA X (e::es) t) (hdb:(x == ("__debug__" : Str))=false:=by decide) (he:starEach (e::es) X.env=(false,eval e X.env)::starEach es X.env:=by rfl) (hpl:(backTo pos (starEach es X.env)).any (·.1)=false:=by rfl):
  PE X (.Call (.Name x p) (e::es) [] pos) (Jd_ sp dvs E t):=by
 intro pins s σ H Q I h;show Ce_ (oE_ I hg hm ?_ hdb);show PySem.W.callWith_K (h₀:=X.base) I.ok.mod.kin hk (thn (ha pos pins s σ H _ I h) λus s1 ⟨vs,H1,I1,r,q⟩=>⟨I1.kIn,?_⟩) he hpl;show pO_ F hr hb hd hx I1 r q
end
structure FA_(N P:List Str)(sc:Scope):Prop where
 kind:sc.kind=.function
 co:sc.isCoroutine=false
 gen:sc.isGenerator=false
 nd:N.Nodup
 pre:N.take P.length=P
 par:∀x∈P,sc.names.lookup x=some .local\/sc.names.lookup x=some .cell
 nofree:∀y∈sc.names,y.2≠.free
theorem i4_{kindOf:Str->Option NameKind}{x:Str}:∀{binds:List (Str×Value)}{m:Str->Option Value},(∀v,(x,v)∉binds)->bindL kindOf binds m x=m x
 |[],_,_=>rfl
 | (n,v)::r,m,h=>by
  unfold bindL;rw[i4_ λw hw=>h w (Am_ _ hw)];split
  .have:x≠n:=by rintro rfl;show h v An_
   simp[this]
  .rfl
theorem i5_{kindOf:Str->Option NameKind}{x:Str}:∀{binds:List (Str×Value)}{m:Str->Option Value},(∀v,(x,v)∉binds)->bindC kindOf binds m x=m x
 |[],_,_=>rfl
 | (n,v)::r,m,h=>by
  unfold bindC;rw[i5_ λw hw=>h w (Am_ _ hw)];split
  .rfl
  .have:x≠n:=by rintro rfl;show h v An_
   simp[this]
theorem i6_{kindOf:Str->Option NameKind}{x:Str}{v:Value}:∀{P:List Str}{vs:List Value}{i:Nat}{m:Str->Option Value},P.Nodup->P[i]?=some x->vs[i]?=some v->kindOf x=some .local ->
  bindL kindOf (P.zip vs) m x=some v
 |[],_,_,_,_,h,_,_=>by simp at h
 |_::_,[],_,_,_,_,h,_=>by simp at h
 |p::P,w::vs,0,m,nd,h1,h2,hk=>by
  simp at h1 h2;subst h1;subst h2;change bindL kindOf ((p,w)::P.zip vs) m p=_;unfold bindL;rw[i4_ λv hv=>(AU_.mp nd).1 (Er_ hv).1,if_pos hk];simp
 |p::P,w::vs,i+1,m,nd,h1,h2,hk=>by change bindL kindOf ((p,w)::P.zip vs) m x=_;unfold bindL;show i6_ (i:=i) (AU_.mp nd).2 (by simpa using h1) (by simpa using h2) hk
theorem i7_{kindOf:Str->Option NameKind}{x:Str}{v:Value}:∀{P:List Str}{vs:List Value}{i:Nat}{m:Str->Option Value},P.Nodup->P[i]?=some x->vs[i]?=some v->kindOf x≠some .local ->
  bindC kindOf (P.zip vs) m x=some v
 |[],_,_,_,_,h,_,_=>by simp at h
 |_::_,[],_,_,_,_,h,_=>by simp at h
 |p::P,w::vs,0,m,nd,h1,h2,hk=>by
  simp at h1 h2;subst h1;subst h2;change bindC kindOf ((p,w)::P.zip vs) m p=_;unfold bindC;rw[i5_ λv hv=>(AU_.mp nd).1 (Er_ hv).1,if_neg hk];simp
 |p::P,w::vs,i+1,m,nd,h1,h2,hk=>by change bindC kindOf ((p,w)::P.zip vs) m x=_;unfold bindC;show i7_ (i:=i) (AU_.mp nd).2 (by simpa using h1) (by simpa using h2) hk
def start(N:List Str)(vs:List V):St:=vs.map some++List.replicate (N.length-vs.length) none
def JC_(CX:CXT)(P:Program)(w:World)(K:PySem.W.Frag)(mg:Str->Option Value)(base:Heap)(N:List Str)(qual:Str)(scope:Scope)(f:Addr)(cd:Value)(A:Around)(outer:List Env)(s:Shared)(H:Hp)(E:XK):Cx where
 prog:=P
 w:=w
 K:=K
 mg:=mg
 base:=base
 A:=A.deeper (envOfC qual scope s.heap.objs.size f cd)
 N:=N
 s₀:=s
 H₀:=H
 env:=envOfC qual scope s.heap.objs.size f cd
 outer:=outer
 stack:=envOfC qual scope s.heap.objs.size f cd::outer
 ex:=[]
 calm:=true
 fn:=λ_=>true
 pn:=[]
 xe:=λe s'=>wpAny (model P w) (A.deeper (envOfC qual scope s.heap.objs.size f cd)) (leaving (envOfC qual scope s.heap.objs.size f cd) e) (λ_ s''=>CX outer H s E e s'') (λe' s''=>CX outer H s E e' s'') s'
theorem kV_{sc:Scope}{n:Nat}{x:Str}(h:sc.names.lookup x=some .cell):∃c,(cellsFrom n sc.names []).lookup x=some c:=by have q:=Ew_ sc.names n [] (.inl h);show Cp_.mp q
theorem l1_{CX:CXT}{P:Program}{w:World}{K:PySem.W.Frag}{mg:Str->Option Value}{base:Heap}{N ps:List Str}{qual:Str}{scope:Scope}{f:Addr}{cd:Value}{A:Around}{outer:List Env}{s s1:Shared}{H:Hp}{E:XK}{us:List Value}{vs:List V}
  (S:FA_ N ps scope) (hd:A.handled=none) (e0:K8_ P w K mg base A outer s H) (hl:vs.length=ps.length) (r:FO_ vs us)
  (x:InCallC s s.heap.objs.size (bindL (envOfC qual scope s.heap.objs.size f cd).kindOf (ps.zip us) λ_=>none) (cellsFrom (s.heap.objs.size+1) scope.names []) (bindC (envOfC qual scope s.heap.objs.size f cd).kindOf (ps.zip us) λ_=>none) s1):
  Inv (JC_ CX P w K mg base N qual scope f cd A outer s H E) [] (start N vs) H s1:=by
 have hpl:ps.length<=N.length:=by have:=congrArg List.length S.pre;rw[AT_]at this;lia
 obtain⟨h1,tk,rfl,hk⟩:=x.done;have noA:∀b:Addr,b∉(JC_ CX P w K mg base N qual scope f cd A outer s H E).ex:=λb z=>absurd (show b∈([]:List Addr)from z) s_
 show⟨⟨e0.mod,S.kind,rfl,rfl,Aj_ _,λy z c h1 h2=>?_,λy hy=>?_,λy c _ h=>?_,λ_=>hd,Around.frames_deeper e0.frames,.inr ⟨rfl,rfl⟩,λb z=>absurd z (noA b),e0.bs,e0.bsz,λb _ _=>noA b,λb z=>absurd z (noA b),e0.funs,e0.frf⟩,
  rfl,e0.bare,Un.kept hk,⟨_,x.toInCall.ns,λi y v h1 h2 h3=>?_⟩,λy c h=>⟨_,x.cell y c h⟩,e0.hok.fresh (Aj_ _),λy c h=>?_,λp hp=>absurd (show p∈([]:List (Addr×Obj))from hp) s_,e0.hok.kept hk,?_⟩
 .show name_of_addr x.apart (Bq_ h1) (Bq_ h2)
 .have hy:scope.names.lookup y=some .cell\/scope.names.lookup y=some .free:=hy
  rcases hy with hy|hy
  .show kV_ hy
  .show absurd rfl (S.nofree _ (Bq_ hy))
 .show AS_ (x.above y c (Bq_ h))
 .have hi:i<vs.length:=by
   unfold start at h2;by_cases hi:i<vs.length
   .show hi
   .rw[Az_ (by simpa using hi)]at h2;rw[C0_]at h2;split at h2 <;> cases h2
  have ha:vs[i]?=some v:=by
   unfold start at h2;rw[Aw_ (by simpa using hi),Af_]at h2;cases e:vs[i]? with
   |none=>rw[e]at h2;cases h2
   |some a=>rw[e]at h2;cases h2;rfl
  obtain⟨u,hu,rv⟩:=r.get ha;have hp:ps[i]?=some y:=by rw[<-S.pre,List.getElem?_take_of_lt o_];show h1
  have ndP:ps.Nodup:=by rw[<-S.pre];show S.nd.sublist (List.take_sublist _ _)
  show⟨u,rv,?_⟩
  rcases S.par y (Ag_ hp)with k|k
  .show .inl ⟨k,i6_ ndP hp hu k⟩
  .obtain⟨c,e⟩:=kV_ (n:=s.heap.objs.size+1) k;show .inr ⟨.inl k,c,e,?_⟩;have q:=x.cell y c e;rw[i7_ ndP hp hu (by change scope.names.lookup y≠_;rw[k];decide)]at q;show q
 .show e0.hok.fresh (AS_ (x.above y c (Bq_ h)))
 .unfold start;change _=N.length;rw[Al_,Ab_,EI_];lia
theorem LB_{CX:CXT}{P:Program}{w:World}{K:PySem.W.Frag}{mg:Str->Option Value}{base:Heap}{k:Nat}{f:Addr}{name qual:Str}{params:Arguments}{body:List Stmt}{scope:Scope}{dV kV doc pm cdv ct oc:Value}{an od:Option Addr}
  {osl:Array (Option Value)} {N ps:List Str} {sp:Sp} (lk:K.lookup f=some ⟨oc,od,.func (PySem.W.fnOf name qual params body scope dV kV doc pm an cdv ct),osl⟩) (hcd:PySem.W.codeIn K cdv qual=true) (S:FA_ N ps scope)
  (len:∀vs H Q E,sp vs H Q E->vs.length=ps.length)
  (hbody:∀(A:Around)(outer:List Env)(s:Shared)(H:Hp)(vs:List V)(Q:VK)(E:XK),Hi_ k (A.deeper (envOfC qual scope s.heap.objs.size f cdv))->sp vs H Q E ->
   ∃t,PSs (JC_ CX P w K mg base N qual scope f cdv A outer s H E) body t/\t {nx:=λ_ H'=>Q .non H',rt:=Q} (start N vs) H):
  I7_ P w K mg base CX (k+1) f (PySem.W.fnOf name qual params body scope dV kV doc pm an cdv ct) ps sp:=by
 show⟨len,λA outer s H args us vs Q E hr e0 hb r hsp=>?_⟩;have hl:=len _ _ _ _ hsp;have KX:K.In s.heap:=e0.mod.kin.keeps λb o e=>(e0.bs b o e).1;have lim:s.heap.NoLimit:=e0.mod.nolimit.keeps λb o e=>(e0.bs b o e).1
 have hkind:∀y∈ps.zip us,scope.names.lookup y.1=some .local\/(scope.names.lookup y.1=some .cell/\((cellsFrom (s.heap.objs.size+1) scope.names []).lookup y.1).isSome=true):=λ⟨n,v⟩ hy=>by
  rcases S.par n (Er_ hy).1 with q|q
  .show .inl q
  .show .inr ⟨q,Ew_ _ _ _ (.inl q)⟩
 show codeAny_call_function hr.depth (KX _ _ lk) rfl S.co S.gen rfl (PySem.W.codeRec_of KX hcd) (hb _ _ _ _ ?_);show wpAny_newFunctionEnv_cells S.kind hkind λenv he s1 x=>?_;subst he;show⟨lim.keeps x.toInCall.keep,codeAny_func ?_⟩;obtain⟨t,ht,hq⟩:=hbody A outer s H vs Q E (hr.deeper _) hsp;have I:Inv (JC_ CX P w K mg base N qual scope f cdv A outer s H E) [] (start N vs) H s1:=l1_ S hr.hd e0 hl r x;show Bx_ (ht [] s1 (start N vs) H _ I hq) (λfl s' hs=>?_) λe s' hs=>hs
 have fin:∀{σ':St}{H':Hp}{v:V}{u:Value},Inv (JC_ CX P w K mg base N qual scope f cdv A outer s H E) [] σ' H' s'->FU_ v u->Q v H'->CE outer P w H s Q u s' :=
  λ{σ' H' v u} J rv q=>⟨v,H',J.os,J.bare,J.base,J.hok,rv,q⟩
 cases fl with
 |ret u =>
  obtain⟨v,σ',H',J,rv,q⟩:=hs;show fin J rv q
 |next =>
  obtain⟨σ',H',J,q⟩:=hs;show fin (v:=V.non) (u:=Value.none) J rfl q
 |brk =>
  obtain⟨_,_,_,q⟩:=hs;show False.elim q
 |cont =>obtain⟨_,_,_,q⟩:=hs;show False.elim q
section
variable {x:Str}{p:Pos}{es:List Expr}{t:TA}{id T:String}{r:List V->Hp->VK->Prop}
def tCB(r:List V->Hp->VK->Prop)(t:TA):TE:=λσ H Q=>t σ H λvs H1=>r vs H1 Q
theorem m9_(hc:Ga_ X (.builtin id) r)(hg:Gl X x)(hm:X.mg x=none)(hv:bootBuiltins x=some (.builtin id))(ha:PA X (e::es) t)(hn:x ≠ "__name__" := by decide) (hdb:(x == ("__debug__" : Str))=false:=by decide)
  (he:starEach (e::es) X.env=(false,eval e X.env)::starEach es X.env:=by rfl) (hpl:(backTo pos (starEach es X.env)).any (·.1)=false:=by rfl):PE X (.Call (.Name x p) (e::es) [] pos) (tCB r t):=by
 intro pins s σ H Q I h;show Ce_ (ef_ I hg hm hv ?_ hn hdb);show PyProof.Rows.callWith_builtin1 (thn (ha pos pins s σ H _ I h) λus s1 ⟨vs,H1,I1,r1,q1⟩=>hc pins s1 σ H1 vs us Q I1 r1 q1) he hpl
theorem l2_(hc:Ga_ X (.type T) r)(hg:Gl X x)(hm:X.mg x=none)(hv:bootBuiltins x=some (.type T))(ha:PA X (e::es) t)(hn:x ≠ "__name__" := by decide) (hdb:(x == ("__debug__" : Str))=false:=by decide)
  (he:starEach (e::es) X.env=(false,eval e X.env)::starEach es X.env:=by rfl) (hpl:(backTo pos (starEach es X.env)).any (·.1)=false:=by rfl):PE X (.Call (.Name x p) (e::es) [] pos) (tCB r t):=by
 intro pins s σ H Q I h;show Ce_ (ef_ I hg hm hv ?_ hn hdb);show Bi_ (thn (ha pos pins s σ H _ I h) λus s1 ⟨vs,H1,I1,r1,q1⟩=>hc pins s1 σ H1 vs us Q I1 r1 q1) he hpl
end
end L2
namespace HT
open PySem PyProof.Rows
def Gy_:List Int->List Int->Bool
 |[],[]=>false
 |[],_::_=>true
 |_::_,[]=>false
 |x::xs,y::ys=>if x=y then Gy_ xs ys else decide (x<y)
theorem lq_(x y:Int)(xs ys:List Int):Gy_ (x::xs) (y::ys)=if x=y then Gy_ xs ys else decide (x<y):=rfl
theorem im_:Gy_ [] []=false:=rfl
theorem hM_(y:Int)(ys:List Int):Gy_ [] (y::ys)=true:=rfl
theorem hN_(x:Int)(xs:List Int):Gy_ (x::xs) []=false:=rfl
theorem na_(A:Around)(s:Shared)(a:Int)(t:Tok)(c:Int)(u:Tok):∃e,SeqAt.EqAt A s (.int a t) (.int c u) e/\(e=true↔a=c):=
 ⟨(a == c),DP_ a t c u,s_⟩
theorem nb_(A:Around)(s:Shared)(a:Int)(t:Tok)(c:Int)(u:Tok)(prog:Program)(w:World)(E:Value->Shared->Prop)(Q:Value->Shared->Prop)(h:Q (.bool (decide (a<c))) s):
  wpAny (model prog w) A (richCompare .Lt (.int a t) (.int c u)) Q E s :=
 (PyProof.Rows.lt_int h:wpAny (model prog w) A (compareOp .Lt (.int a t) (.int c u)) Q E s)
open PySem.SeqAt
open PySem.AutoSeq1 (wpAny_loadPart')
open PySem.MeetsSeq PySem.MeetsSeq2 PySem.MeetsSeq3
variable {prog:Program}{w:World}{A:Around}{E:Value->Shared->Prop}{s:Shared}
def sIx(n d:Nat):Option Int->Nat
 |none=>d
 |some v=>if v<0 then(v+(n:Int)).toNat else min v.toNat n
theorem sIx_none(n d:Nat):sIx n d none=d:=rfl
theorem sIx_nat(n d k:Nat):sIx n d (some (k:Int))=min k n:=by change(if(k:Int)<0 then((k:Int)+(n:Int)).toNat else min (k:Int).toNat n)=min k n;rw[if_neg o_,AK_]
end HT
namespace L2
open PySem PySem.Spec PyProof.Rows
abbrev TO:=St->Hp->(Option Int->Hp->Prop)->Prop
def PO(X:Cx)(e:Option Expr)(t:TO):Prop :=
 ∀(pins:List (Addr×Obj))(s:Shared)(σ:St)(H:Hp)(Q:Option Int->Hp->Prop),Inv X pins σ H s->t σ H Q ->
  wpAny (model X.prog X.w) X.A (evalPart e X.env) (λu s'=>∃o H',Inv X pins σ H' s'/\IsPart u o/\Q o H') X.xe s
def IH_:TO:=λ_ H Q=>Q none H
def KS_(t:TE):TO:=λσ H Q=>t σ H λx H1=>onI x λi=>Q (some i) H1
theorem dj_{ns:List Int}:∀{us:List Value},FO_ (ns.map V.int) us->IntsAre us ns:=by
 induction ns with
 |nil=>intro us r;rw[Dq_]at r;cases r;show .nil
 |cons n ns ih =>
  intro us r;rw[AZ_]at r;cases r with
  |cons r1 r2 =>obtain⟨t,e⟩:=r1;subst e;show .cons n t (ih r2)
section
variable {X:Cx}{e:Expr}{te:TE}{lo hi:Option Expr}{tl th:TO}{pos p2:Pos}
theorem dI_:PO X none IH_:=by intro pins s σ H Q I h;rw[E3_];show Ah_ ⟨none,H,I,.none,h⟩
theorem b0_(h:PE X e te):PO X (some e) (KS_ te):=by intro pins s σ H Q I hw;rw[evalPart_some];show thn (h pins s σ H _ I hw) λu s1 ⟨x,H1,I1,r1,q1⟩=>?_;obtain⟨i,rfl,q⟩:=c1_ q1;obtain⟨t,rfl⟩:=r1;show⟨some i,H1,I1,.int i t,q⟩
def SlR(X:Cx)(r:V->Option Int->Option Int->Hp->VK->Prop):Prop :=
 ∀(pins:List (Addr×Obj))(s:Shared)(σ:St)(H:Hp)(x:V)(v vl vu:Value)(lo hi:Option Int)(sl:Addr)(Q:VK),Inv X pins σ H s->FU_ x v->s.heap.IsSliceOf sl vl vu .none->IsPart vl lo->IsPart vu hi->r x lo hi H Q ->
  ∃T id,typeLookup (.type T) "__getitem__"=pure (some (.builtin id))/\s.TypeIs v T/\wpAny (model X.prog X.w) X.A (getItem v (.ref sl)) (EP X pins σ Q) X.xe s
def tSl(r:V->Option Int->Option Int->Hp->VK->Prop)(te:TE)(tl th:TO):TE:=λσ H Q=>te σ H λx H1=>tl σ H1 λl H2=>th σ H2 λu H3=>r x l u H3 Q
theorem ca_{r:V->Option Int->Option Int->Hp->VK->Prop}(hr:SlR X r)(he:PE X e te)(hl:PO X lo tl)(hu:PO X hi th):PE X (.Subscript e (.Slice lo hi none p2) pos) (tSl r te tl th):=by intro pins s σ H Q I h;show EV_ (thn (he pins s σ H _ I h) λv s1 ⟨x,H1,I1,r1,q1⟩=>?_);show wpAny_Slice (thn (hl pins s1 σ H1 _ I1 q1) λvl s2 ⟨l,H2,I2,pl,q2⟩=>thn (hu pins s2 σ H2 _ I2 q2) λvu s3 ⟨u,H3,I3,pu,q3⟩=>?_);rw[E3_];show Ah_ ?_;have I4:Inv X pins σ H3 {s3 with heap:=s3.heap.push {cls:=.type "slice",data:=.fields #[vl,vu,.none]}}:=I3.kept (t':=s3.toks) λb ob q=>Ak_ _ q;obtain⟨T,id,hT,ht,hg⟩:=hr pins {s3 with heap:=s3.heap.push {cls:=.type "slice",data:=.fields #[vl,vu,.none]}} σ H3 x v vl vu l u s3.heap.objs.size Q I4 r1 (Heap.IsSliceOf.new ..) pl pu q3;change wpAny (model X.prog X.w) X.A (subscriptTail e (.Slice lo hi none p2) v (.ref s3.heap.objs.size)) (EP X pins σ Q) X.xe {s3 with heap:=s3.heap.push {cls:=.type "slice",data:=.fields #[vl,vu,.none]}};show tail_any (ops:=[.ref s3.heap.objs.size,v]) ht hT hg (by with_unfolding_all rfl)
def Hf_(xs:List V)(lo hi:Option Int):List V:=(xs.drop (HT.sIx xs.length 0 lo)).take (HT.sIx xs.length xs.length hi-HT.sIx xs.length 0 lo)
theorem ke_(xs:List V)(lo hi:Option Int):(Hf_ xs lo hi).length<=xs.length:=by unfold Hf_;rw[AT_,B6_];lia
end
def ixN(n:Nat)(i:Int):Option Nat:=if 0<=i then(if i<n then some i.toNat else none)else if -(n:Int)<=i then some (i+n).toNat else none
def atI{α:Type}(xs:List α)(i:Int):Option α:=(ixN xs.length i).bind λj=>xs[j]?
theorem l3_{n:Nat}{i:Int}{j:Nat}(h:ixN n i=some j):seqIndex? i n=some j/\j<n /\ -(n:Int)<=i/\i<n:=by
 unfold ixN at h;by_cases h0:0<=i
 .rw[if_pos h0]at h;by_cases h1:i<n
  .rw[if_pos h1]at h;have e:i.toNat=j:=AB_ h;show⟨by rw[Ex_ h0 h1,e],o_,o_,h1⟩
  .rw[if_neg h1]at h;cases h
 .rw[if_neg h0]at h;by_cases h1:-(n:Int)<=i
  .rw[if_pos h1]at h;have e:(i+n).toNat=j:=AB_ h;show⟨by rw[Fh_ o_ h1,e],o_,h1,o_⟩
  .rw[if_neg h1]at h;cases h
theorem kf_{α:Type}{xs:List α}{i:Int}{v:α}(h:atI xs i=some v):∃j,seqIndex? i xs.length=some j/\xs[j]?=some v/\j<xs.length /\ -(xs.length:Int)<=i/\i<xs.length:=by
 unfold atI at h;cases e:ixN xs.length i with
 |none=>rw[e]at h;cases h
 |some j =>rw[e]at h;obtain⟨h1,h2,h3,h4⟩:=l3_ e;show⟨j,h1,h,h2,h3,h4⟩
theorem g3_{α:Type}{xs:List α}{j:Nat}{v:α}(h:xs[j]?=some v):atI xs (j:Int)=some v:=by
 have hj:j<xs.length:=(Ai_.mp h).1;have e:ixN xs.length (j:Int)=some j:=by unfold ixN;rw[if_pos o_,if_pos o_];simp
 unfold atI;rw[e];show h
theorem nc_{α:Type}(xs:List α)(v:α):atI (xs++[v]) (-1)=some v:=by
 have hl:(xs++[v]).length=xs.length+1:=s_
 have e:ixN (xs++[v]).length (-1)=some xs.length:=by unfold ixN;rw[hl,if_neg d_,if_pos o_];congr 1;lia
 unfold atI;rw[e];change(xs++[v])[xs.length]?=some v;simp
def JT_(b:Expr):Prop:=∀o i,subscripted b false o i=operate [o,i] (getItem o i)
def IxR(X:Cx)(r:R2):Prop :=
 ∀(value slice:Expr)(pins:List (Addr×Obj))(s:Shared)(σ:St)(H:Hp)(x y:V)(v u:Value)(Q:VK),Inv X pins σ H s->FU_ x v->FU_ y u->r x y H Q ->
  subscripted slice false v u=operate [v,u] (getItem v u)->wpAny (model X.prog X.w) X.A (subscriptTail value slice v u) (EP X pins σ Q) X.xe s
def MtR(X:Cx)(id:String)(r:V->List V->Hp->VK->Prop):Prop :=
 ∀(pins:List (Addr×Obj))(s:Shared)(σ:St)(H:Hp)(x:V)(xs:List V)(v:Value)(us:List Value)(Q:VK),Inv X pins σ H s->FU_ x v->FO_ xs us->r x xs H Q ->
  wpAny (model X.prog X.w) X.A (call (.builtin id) (v::us)) (EP X pins σ Q) X.xe s
section
variable {X:Cx}{a b:Expr}{ta tb:TE}{pos:Pos}
theorem Fv_{r:R2}(hr:IxR X r)(ha:PE X a ta)(hb:PE X b tb)(hs:JT_ b:=by intro _ _;rfl):PE X (.Subscript a b pos) (tOp r ta tb):=by intro pins s σ H Q I h;show EV_ (binT ha hb I h λv u s2 x y H2 I2 rx ry q=>hr a b pins s2 σ H2 x y v u Q I2 rx ry q (hs _ _))
def LU_(K:PySem.W.Frag):R2:=λx y H Q=>∃p xs i v,x=.ref p/\y=.int i/\SqL K H p xs/\atI xs i=some v/\Q v H
def L7_(K:PySem.W.Frag):R2:=λx y H Q=>∃p xs i v,x=.ref p/\y=.int i/\SqT K H p xs/\atI xs i=some v/\Q v H
def L5_:R2:=λx y H Q=>∃z i c,x=.str z/\y=.int i/\z.length<=sizeLine/\atI z.cps.toList i=some c/\Q (.str ⟨#[c]⟩) H
theorem l4_:IxR X (LU_ X.K):=by
 intro value slice pins s σ H x y v u Q I rx ry h hs;obtain⟨p,xs,i,z,rfl,rfl,hq,he,q⟩:=h;cases rx;obtain⟨t,rfl⟩:=ry;obtain⟨its,r,pl,hz⟩:=I.list hq;obtain⟨j,h1,h2,h3,h4,h5⟩:=kf_ he;obtain⟨w,ew,rw'⟩:=r.get h2;have hl:=r.length;have hn:=HH_;have fin:EP X pins σ Q w s:=⟨z,H,I,rw',q⟩;by_cases h0:0<=i
 .have hj:i.toNat=j:=by rw[Ex_ h0 h5]at h1;show AB_ h1
  show item_listR pl.isList h0 o_ (by rw[hj];simpa using ew) fin hs
 .have hj:(i+(its.toArray.size:Int)).toNat=j:=by rw[Fh_ o_ h4]at h1;rw[Au_,<-hl];show AB_ h1
  show Ey_ (x:=w) pl.isList.typeIs slot_list_getitem.lookup
   (wpAny_getItem_list_neg (Q:=λr s'=>r=w/\EP X pins σ Q r s') pl.isList o_ (by rw[Au_] <;> lia) o_ (by rw[hj];simpa using ew) ⟨rfl,fin⟩) hs
theorem pP_:IxR X (L7_ X.K):=by
 intro value slice pins s σ H x y v u Q I rx ry h hs;obtain⟨p,xs,i,z,rfl,rfl,hq,he,q⟩:=h;cases rx;obtain⟨t,rfl⟩:=ry;obtain⟨its,r,pl,hz⟩:=I.tuple hq;obtain⟨j,h1,h2,h3,h4,h5⟩:=kf_ he;obtain⟨w,ew,rw'⟩:=r.get h2;have hl:=r.length;have hn:=HH_;have fin:EP X pins σ Q w s:=⟨z,H,I,rw',q⟩
 show Ey_ (x:=w) pl.typeIs slot_tuple_getitem.lookup
  (getItem_tuple (j:=j) (Q:=λr s'=>r=w/\EP X pins σ Q r s') pl o_ o_ (by rw[Au_,<-hl];show h1) (by simpa using ew) ⟨rfl,fin⟩) hs
theorem kW_:IxR X L5_:=by
 intro value slice pins s σ H x y v u Q I rx ry h hs;obtain⟨z,i,c,rfl,rfl,hz,he,q⟩:=h;obtain⟨t,rfl⟩:=rx;obtain⟨t',rfl⟩:=ry;obtain⟨j,h1,h2,h3,h4,h5⟩:=kf_ he;have hl:z.cps.toList.length=z.length:=by simp[Str.length]
 rw[hl]at h1 h4 h5;have hn:=HH_;show tail_any (typeIs_str s z t) slot_str_getitem.lookup (getItem_str (c:=c) (by have e1:decide (i < -(2 ^ 63:Int))=false:=At_ o_;have e2:decide (i ≥ 2 ^ 63)=false:=At_ o_;rw[e1,e2,Bool.or_false]) (by rw[h1];simpa using h2) ⟨.str ⟨#[c]⟩,H,I.tok _,⟨_,rfl⟩,q⟩) hs
theorem lr_(its:List Value)(n j:Nat)(u:Value):Obj.mapSeq (·.setIfInBounds j u) {cls:=.type "list",data:=.seq its.toArray n}={cls:=.type "list",data:=.seq (its.set j u).toArray n}:=by simp[Obj.mapSeq]
theorem Inv.lst{pins:List (Addr×Obj)}{σ:St}{H:Hp}{s:Shared}{p:Addr}{xs:List V}(I:Inv X pins σ H s)(h:H p=some (.lst xs)):
  ∃(its:List Value)(n:Nat),FO_ xs its/\s.heap.get? p=some {cls:=.type "list",data:=.seq its.toArray n}/\xs.length<=sizeLine:=by
 obtain⟨z,its,n,r,e⟩:=I.hok p _ h;show⟨its,n,r,e,z⟩
theorem Inv.lstUpd{pins:List (Addr×Obj)}{σ:St}{H:Hp}{s:Shared}{p:Addr}{xs ys:List V}{its its':List Value}{n n':Nat}{f:Obj->Obj}(I:Inv X pins σ H s)(h:H p=some (.lst xs))
  (ho:s.heap.get? p=some {cls:=.type "list",data:=.seq its.toArray n}) (hf:f {cls:=.type "list",data:=.seq its.toArray n}={cls:=.type "list",data:=.seq its'.toArray n'}) (r:FO_ ys its') (hz:ys.length<=sizeLine) (t:Nat):
  Inv X pins σ (upd H p (.lst ys)) {s with heap:=s.heap.update p f,toks:=t}:=by
 have e:(s.heap.update p f).get? p=some {cls:=.type "list",data:=.seq its'.toArray n'}:=by rw[CF_ f ho (by rw[hf] <;> rfl),hf]
 show I.write (x:=p) (e:=p) (by rw[h];trivial) (.inl rfl) (λb u hb q=>(Bb_ _ _ (Ne.symm hb)).trans q) ⟨_,e⟩ ?_;show⟨hz,its',n',r,e⟩
def Kx_:V->V->V->Hp->(Hp->Prop)->Prop:=λo i v H Q=>∃p xs k j,o=.ref p/\i=.int k/\H p=some (.lst xs)/\ixN xs.length k=some j/\Q (upd H p (.lst (xs.set j v)))
theorem nd_:L4_ X Kx_:=by
 intro pins s σ H o i v ov iv u Q I ro ri rv h;obtain⟨p,xs,k,j,rfl,rfl,hp,hj,q⟩:=h;cases ro;obtain⟨t,rfl⟩:=ri;obtain⟨its,n,r,ho,hz⟩:=I.lst hp;obtain⟨h1,h2,h3,h4⟩:=l3_ hj;have hl:=r.length;have hn:=HH_
 have I':Inv X pins σ (upd H p (.lst (xs.set j v))) {s with heap:=s.heap.update p (Obj.mapSeq (·.setIfInBounds j u))} :=
  I.lstUpd hp ho (lr_ its n j u) (r.set rv j) (by rw[BM_];show hz) s.toks
 by_cases h0:0<=k
 .have hk:k.toNat=j:=by rw[Ex_ h0 h4]at h1;show AB_ h1
  show PySem.W.ki_setAt ho h0 o_ (by rw[Au_,<-hl];show h4) (by rw[hk];show⟨_,I',q⟩)
 .have hk:(k+(its.toArray.size:Int)).toNat=j:=by rw[Fh_ o_ h3]at h1;rw[Au_,<-hl];show AB_ h1
  show PySem.W.ki_setBack ho o_ (by rw[Au_,<-hl];show h3) o_ (by rw[hk];show⟨_,I',q⟩)
theorem i8_(lo hi:Option Int)(n:Nat):(sliceBounds lo hi none n).1=((HT.sIx n 0 lo:Nat):Int)/\(sliceBounds lo hi none n).2.1=((HT.sIx n n hi:Nat):Int)/\(sliceBounds lo hi none n).2.2=1:=by
 show⟨?_,?_,rfl⟩
 .cases lo with
  |none=>simp[sliceBounds,HT.sIx]
  |some i =>
   simp only[sliceBounds,HT.sIx,Option.getD_none,show(1:Int) > 0 by decide,if_true];by_cases h:i<0
   .simp only[h,if_true] <;> lia
   .simp only[h,BS_] <;> lia
 .cases hi with
  |none=>simp[sliceBounds,HT.sIx]
  |some i =>
   simp only[sliceBounds,HT.sIx,Option.getD_none,show(1:Int) > 0 by decide,if_true];by_cases h:i<0
   .simp only[h,if_true] <;> lia
   .simp only[h,BS_] <;> lia
theorem io_(its:List Value)(lo hi:Option Int):slicePick its.toArray lo hi none=((its.drop (HT.sIx its.length 0 lo)).take (HT.sIx its.length its.length hi-HT.sIx its.length 0 lo)).toArray:=by obtain⟨h1,h2,h3⟩:=i8_ lo hi its.toArray.size;unfold slicePick;rw[h1,h2,h3];simp only[sliceRange_one,pick_run,Au_] <;> rfl
def rSlL(K:PySem.W.Frag):V->Option Int->Option Int->Hp->VK->Prop:=λx lo hi H Q=>∃a xs,x=.ref a/\SqL K H a xs/\∀p,H p=none->Q (.ref p) (upd H p (.lst (Hf_ xs lo hi)))
theorem oL_:SlR X (rSlL X.K):=by intro pins s σ H x v vl vu lo hi sl Q I rx hs pl pu h;obtain⟨a,xs,rfl,hx,q⟩:=h;cases rx;obtain⟨its,r,ht,hz⟩:=I.list hx;have hlen:=r.length;show⟨"list",_,slot_list_getitem.lookup,ht.isList.typeIs,?_⟩;show D5_ ht.isList hs pl pu .none s_ ?_ (by rw[Au_] <;> lia);rw[io_,<-hlen];show⟨.ref s.heap.objs.size,_,I.laid (t':=s.toks) (o:=.lst (Hf_ xs lo hi)) (λb ob q=>Ak_ _ q) (Aj_ _) ?_,rfl,q _ (I.hok.fresh (Aj_ _))⟩;show⟨AH_ (ke_ xs lo hi) hz,_,0,(r.drop (HT.sIx xs.length 0 lo)).take (HT.sIx xs.length xs.length hi-HT.sIx xs.length 0 lo),AA_ _ rfl⟩
def GS_:V->Bool
 | .non=>true
 | .bl _=>true
 | .int _=>true
 | .str _=>true
 |_=>false
def eqV:V->V->Bool
 | .non,.non=>true
 | .bl a,.bl b=>a == b
 | .bl a,.int b=>(if a then 1 else 0)== b
 | .int a,.bl b=>a == (if b then 1 else 0)
 | .int a,.int b=>a == b
 | .str a,.str b=>a == b
 |_,_=>false
theorem pQ_{A:Around}{s:Shared}{y x:V}{u v:Value}(ry:FU_ y u)(rx:FU_ x v)(fy:GS_ y=true)(fx:GS_ x=true):SeqAt.EqAt A s u v (eqV y x):=by
 cases y with
 |non =>
  cases ry;cases x with
  |non=>cases rx;show Dr_ _
  |bl b=>cases rx;show SeqAt.EqAt.none_bool b
  |int b=>obtain⟨t,rfl⟩:=rx;show SeqAt.EqAt.none_int b t
  |str b=>obtain⟨t,rfl⟩:=rx;show SeqAt.EqAt.none_str b t
  |_=>show absurd (show false=true from fx) AN_
 |bl a =>
  cases ry;cases x with
  |non=>cases rx;show SeqAt.EqAt.bool_none a
  |bl b=>cases rx;show EW_ a b
  |int b=>obtain⟨t,rfl⟩:=rx;show SeqAt.EqAt.bool_int a b t
  |str b=>obtain⟨t,rfl⟩:=rx;show SeqAt.EqAt.bool_str a b t
  |_=>show absurd (show false=true from fx) AN_
 |int a =>
  obtain⟨t',rfl⟩:=ry;cases x with
  |non=>cases rx;show SeqAt.EqAt.int_none a t'
  |bl b=>cases rx;show SeqAt.EqAt.int_bool a t' b
  |int b=>obtain⟨t,rfl⟩:=rx;show DP_ a t' b t
  |str b=>obtain⟨t,rfl⟩:=rx;show SeqAt.EqAt.int_str a t' b t
  |_=>show absurd (show false=true from fx) AN_
 |str a =>
  obtain⟨t',rfl⟩:=ry;cases x with
  |non=>cases rx;show SeqAt.EqAt.str_none a t'
  |bl b=>cases rx;show SeqAt.EqAt.str_bool a t' b
  |int b=>obtain⟨t,rfl⟩:=rx;show SeqAt.EqAt.str_int a t' b t
  |str b=>obtain⟨t,rfl⟩:=rx;show SeqAt.EqAt.str_str a t' b t
  |_=>show absurd (show false=true from fx) AN_
 |_=>show absurd (show false=true from fy) AN_
def eqU(x:V)(u:Value):Bool:=match u with
 | .none=>eqV .non x
 | .bool b=>eqV (.bl b) x
 | .int i _=>eqV (.int i) x
 | .str z _=>eqV (.str z) x
 |_=>false
theorem n9_{x y:V}{u:Value}(r:FU_ y u)(f:GS_ y=true):eqU x u=eqV y x:=by
 cases y with
 |non=>cases r;rfl
 |bl b=>cases r;rfl
 |int i=>obtain⟨t,rfl⟩:=r;rfl
 |str z=>obtain⟨t,rfl⟩:=r;rfl
 |_=>show absurd (show false=true from f) AN_
theorem g4_{x:V}:∀{xs:List V}{us:List Value},FO_ xs us->xs.all GS_=true->us.any (eqU x)=xs.any λy=>eqV y x
 |_,_,.nil,_=>rfl
 |y::xs,u::us,.cons r t,f=>by rw[E4_,B7_]at f;rw[CN_,CN_,n9_ r f.1,g4_ t f.2]
theorem fu_{A:Around}{s:Shared}{x:V}{v:Value}(rx:FU_ x v)(fx:GS_ x=true):∀{xs:List V}{us:List Value},FO_ xs us->xs.all GS_=true->∀u∈us,SeqAt.EqAt A s u v (eqU x u)
 |_,_,.nil,_=>λu hu=>by cases hu
 |y::xs,u::us,.cons r t,f=>λu' hu=>by
  rw[E4_,B7_]at f
  rcases Ar_.mp hu with rfl|hu
  .rw[n9_ r f.1];show pQ_ r rx f.1 fx
  .show fu_ rx fx t f.2 u' hu
def inV(x:V)(xs:List V):Bool:=xs.any λy=>eqV y x
def rIn(K:PySem.W.Frag)(neg:Bool):R2:=λx y H Q=>∃p xs,y=.ref p/\(SqL K H p xs\/SqT K H p xs)/\GS_ x=true/\xs.all GS_=true/\Q (.bl (if neg then !inV x xs else inV x xs)) H
theorem l5_:OpR X (compareOp .In) (rIn X.K false):=by
 intro pins s σ H x y v u Q I rx ry h;obtain⟨p,xs,rfl,hq,fx,fs,q⟩:=h;cases ry
 rcases hq with hq|hq
 .obtain⟨its,r,pl,hz⟩:=I.list hq;show SeqAt.in_listAt (eqU x) pl.isList (λw hw=>fu_ rx fx r fs w (by simpa using hw)) ⟨.bl _,H,I,rfl,?_⟩;rw[show its.toArray.any (eqU x)=its.any (eqU x) by simp,g4_ r fs];show q
 .obtain⟨its,r,pl,hz⟩:=I.tuple hq;show SeqAt.in_tupleAt (eqU x) pl (λw hw=>fu_ rx fx r fs w (by simpa using hw)) ⟨.bl _,H,I,rfl,?_⟩;rw[show its.toArray.any (eqU x)=its.any (eqU x) by simp,g4_ r fs];show q
theorem i9_:OpR X (compareOp .NotIn) (rIn X.K true):=by
 intro pins s σ H x y v u Q I rx ry h;obtain⟨p,xs,rfl,hq,fx,fs,q⟩:=h;cases ry
 rcases hq with hq|hq
 .obtain⟨its,r,pl,hz⟩:=I.list hq;show SeqAt.notIn_listAt (eqU x) pl.isList (λw hw=>fu_ rx fx r fs w (by simpa using hw)) ⟨.bl _,H,I,rfl,?_⟩;rw[show its.toArray.any (eqU x)=its.any (eqU x) by simp,g4_ r fs];show q
 .obtain⟨its,r,pl,hz⟩:=I.tuple hq;show SeqAt.notIn_tupleAt (eqU x) pl (λw hw=>fu_ rx fx r fs w (by simpa using hw)) ⟨.bl _,H,I,rfl,?_⟩;rw[show its.toArray.any (eqU x)=its.any (eqU x) by simp,g4_ r fs];show q
theorem gl_:Ga_ X (.builtin "len") (λxs H Q=>∃p ys,xs=[.ref p]/\(SqL X.K H p ys\/SqT X.K H p ys)/\Q (.int ys.length) H):=by
 intro pins s σ H xs us Q I r h;obtain⟨p,ys,rfl,hq,q⟩:=h;obtain⟨u,rfl,rx⟩:=Gr_ r;cases rx;have hn:=HH_
 rcases hq with hq|hq
 .obtain⟨its,r',pl,hz⟩:=I.list hq;have hlen:=r'.length;show Calls.call_len_list pl.isList (by simp only[Au_] <;> lia) ⟨.int ys.length,H,I.tok _,⟨s.toks+1,by rw[Au_,hlen]⟩,q⟩
 .obtain⟨its,r',pl,hz⟩:=I.tuple hq;have hlen:=r'.length;show len_tuple pl (by simp only[Au_] <;> lia) ⟨.int ys.length,H,I.tok _,⟨s.toks+1,by rw[Au_,hlen]⟩,q⟩
theorem Ga_.or{f:Value}{r r':List V->Hp->VK->Prop}(h:Ga_ X f r)(h':Ga_ X f r'):Ga_ X f (λxs H Q=>r xs H Q\/r' xs H Q):=by
 intro pins s σ H xs us Q I rs q
 rcases q with q|q
 .show h pins s σ H xs us Q I rs q
 .show h' pins s σ H xs us Q I rs q
theorem ja_:Ga_ X (.type "list") (λxs H Q=>∃p ys,xs=[.ref p]/\(SqL X.K H p ys\/SqT X.K H p ys)/\∀l,H l=none->Q (.ref l) (upd H l (.lst ys))):=by
 intro pins s σ H xs us Q I r h;obtain⟨p,ys,rfl,hq,q⟩:=h;obtain⟨u,rfl,rx⟩:=Gr_ r;cases rx
 have fin:∀(its:List Value),FO_ ys its->ys.length<=sizeLine->∀(h':Heap)(c':Nat),(∀b o',s.heap.get? b=some o'->h'.get? b=some o') ->
   h'.get? s.heap.objs.size=some {cls:=.type "list",dict:=none,data:=.seq its.toArray c',slots:=#[]}->EP X pins σ Q (.ref s.heap.objs.size) {s with heap:=h'}:=λits r' hz h' c' kp e =>
  ⟨.ref s.heap.objs.size,_,I.laid (t':=s.toks) kp (Aj_ _) (show FV_ X.prog X.w _ h' _ (.lst ys)from⟨hz,its,c',r',e⟩),rfl,q _ (I.hok.fresh (Aj_ _))⟩
 rcases hq with hq|hq
 .obtain⟨its,r',pl,hz⟩:=I.list hq;have hlen:=r'.length;obtain⟨o,ho,hc,n,hd⟩:=pl.isList;show call_list_seq p (.inl rfl) ho hc hd (λh' c' kp e=>fin its r' hz h' c' kp e) (by simp only[Au_] <;> lia)
 .obtain⟨its,r',pl,hz⟩:=I.tuple hq;have hlen:=r'.length;obtain⟨o,ho,hc,n,hd⟩:=pl;show call_list_seq p (.inr rfl) ho hc hd (λh' c' kp e=>fin its r' hz h' c' kp e) (by simp only[Au_] <;> lia)
def tyV(K:PySem.W.Frag)(T:String)(x:V)(H:Hp):Prop:=match x with
 | .str _=>T = "str"
 | .int _=>T = "int"
 | .ref p=>(T = "list" /\ ∃xs,SqL K H p xs)\/(T = "tuple" /\ ∃o,K.lookup p=some o/\o.cls=.type "tuple" /\ o.dict=none) \/
   (T = "dict" /\ ((∃kvs,H p=some (.dK kvs))\/∃kvs,H p=some (.dT kvs)))\/(T = "set" /\ ∃S n,H p=some (.set S n))
 |_=>False
theorem oa_{pins:List (Addr×Obj)}{σ:St}{H:Hp}{s:Shared}{T:String}{x:V}{v:Value}(I:Inv X pins σ H s)(r:FU_ x v)(ty:tyV X.K T x H):
  s.TypeIs v T/\∀a,v=.ref a->∃ob,s.heap.get? a=some ob/\ob.dict=none:=by
 cases x with
 |str z =>
  obtain⟨t,rfl⟩:=r;cases(show T = "str"from ty);show⟨typeIs_str s z t,λ_ e=>nomatch e⟩
 |int i =>
  obtain⟨t,rfl⟩:=r;cases(show T = "int"from ty);show⟨typeIs_int s i t,λ_ e=>nomatch e⟩
 |ref p =>
  cases r
  rcases ty with⟨rfl,xs,hq⟩|⟨rfl,o,hk,hc,hd⟩|⟨rfl,hk⟩|⟨rfl,S,n,hk⟩
  .obtain⟨its,_,pl,_⟩:=I.list hq;show⟨pl.isList.typeIs,λa e=>?_⟩;cases e;obtain⟨o,n,e,c,hd,_⟩:=pl;show⟨o,e,hd⟩
  .show⟨⟨o,I.kIn p o hk,hc⟩,λa e=>?_⟩;cases e;show⟨o,I.kIn _ o hk,hd⟩
  .have z:∃o,s.heap.get? p=some o/\o.ExactDict:=by
    rcases hk with⟨kvs,hk⟩|⟨kvs,hk⟩
    .obtain⟨_,_,_,_,o,_,_,e,ex,_⟩:=I.hok p _ hk;show⟨o,e,ex⟩
    .obtain⟨_,_,_,_,o,_,_,e,ex,_⟩:=I.hok p _ hk;show⟨o,e,ex⟩
   obtain⟨o,e,ex⟩:=z;show⟨⟨o,e,ex.1⟩,λa e2=>?_⟩;cases e2;show⟨o,e,ex.2.1⟩
  .obtain⟨o,_,_,_,e,ex,_⟩:=I.hok p _ hk;show⟨⟨o,e,ex.1⟩,λa e2=>?_⟩;cases e2;show⟨o,e,ex.2.1⟩
 |_=>show False.elim ty
def LM_(K:PySem.W.Frag)(T:String)(r:V->List V->Hp->VK->Prop)(to:TE):TE:=λσ H Q=>to σ H λx H1=>tyV K T x H1/\r x [] H1 Q
def tBM(K:PySem.W.Frag)(T:String)(r:V->List V->Hp->VK->Prop)(to:TE)(t:TA):TE:=λσ H Q=>to σ H λx H1=>tyV K T x H1/\t σ H1 λxs H2=>r x xs H2 Q
variable {o e:Expr}{es:List Expr}{to:TE}{t:TA}{name:Str}{apos cpos:Pos}{T id:String}{r:V->List V->Hp->VK->Prop}
theorem l6_(pa:PlainAttrs T)(slot:Slot T name id)(hty:typeOf (.builtin id)=pure (.type "method_descriptor")) (hm:MtR X id r) (ho:PE X o to)
  (hbase:attributeBase o name X.env (eval o X.env)=eval o X.env:=by rfl) (hline:(apos.endLine == cpos.line)=true:=by rfl):PE X (.Call (.Attribute o name apos) [] [] cpos) (LM_ X.K T r to):=by
 intro pins s σ H Q I h;show C1_ hbase hline (thn (ho pins s σ H _ I h) λv s1 ⟨x,H1,I1,r1,ty,q1⟩=>?_);obtain⟨h1,h2⟩:=oa_ I1 r1 ty;show⟨T,id,pa,slot,hty,h1,h2,Cd_ rfl (DB_ (hm pins s1 σ H1 x [] v [] Q I1 r1 .nil q1))⟩
theorem Gn_(pa:PlainAttrs T)(slot:Slot T name id)(hty:typeOf (.builtin id)=pure (.type "method_descriptor")) (hm:MtR X id r) (ho:PE X o to) (ha:PA X (e::es) t)
  (hbase:attributeBase o name X.env (eval o X.env)=eval o X.env:=by rfl)
  (hfew:((backTo cpos (starEach (e::es) X.env)).all (λx=>!x.1) && (backToKw cpos (keywordEach [] X.env)).all (λx=>x.1.isSome)
   && decide ((e::es).length+([]:List Keyword).length+(if([]:List Keyword).isEmpty then 0 else 1)<30))=true:=by rfl)
  (hline:(apos.endLine == cpos.line)=true:=by rfl) (hs:starEach (e::es) X.env=(false,eval e X.env)::starEach es X.env:=by rfl) (hplain:(backTo cpos (starEach es X.env)).any (·.1)=false:=by rfl):
  PE X (.Call (.Attribute o name apos) (e::es) [] cpos) (tBM X.K T r to t):=by
 intro pins s σ H Q I h;show Ez_ hbase hfew hline rfl (thn (ho pins s σ H _ I h) λv s1 ⟨x,H1,I1,r1,ty,q1⟩=>?_);obtain⟨h1,h2⟩:=oa_ I1 r1 ty;show⟨T,id,pa,slot,hty,h1,h2,?_⟩;have hA:=ha cpos pins s1 σ H1 _ I1 q1;rw[hs]at hA⊢;show Cd_ (by change(false ||(backTo cpos (starEach es X.env)).any (·.1))=false;rw[hplain] <;> rfl) (EX_ ?_);show thn hA λus s2 ⟨vs,H2,I2,r2,q2⟩=>hm pins s2 σ H2 x vs v us Q I2 r1 r2 q2
end
def MtM(X:Cx)(id:String)(r:V->List V->Hp->VK->Prop):Prop :=
 ∀(pins:List (Addr×Obj))(s:Shared)(σ:St)(H:Hp)(x:V)(xs:List V)(v:Value)(us:List Value)(Q:VK),Inv X pins σ H s->FU_ x v->FO_ xs us->r x xs H Q ->
  wpAny (model X.prog X.w) X.A (call (.builtin id) (v::us)) (EP X pins σ Q) X.xe s
theorem FO_.one:∀{x:V}{us:List Value},FO_ [x] us->∃u,us=[u]/\FU_ x u
 |_,_,.cons r .nil=>⟨_,rfl,r⟩
theorem FO_.two:∀{x y:V}{us:List Value},FO_ [x,y] us->∃u v,us=[u,v]/\FU_ x u/\FU_ y v
 |_,_,_,.cons r (.cons q .nil)=>⟨_,_,rfl,r,q⟩
theorem FO_.zero:∀{us:List Value},FO_ [] us->us=[]
 |_,.nil=>rfl
theorem FO_.dropLast{xs:List V}{us:List Value}(h:FO_ xs us):FO_ xs.dropLast us.dropLast:=by
 induction h with
 |nil=>show .nil
 |cons r t ih =>
  cases t with
  |nil=>show .nil
  |cons q t'=>show .cons r ih
theorem FO_.eraseIdx:∀{xs:List V}{us:List Value}(i:Nat),FO_ xs us->FO_ (xs.eraseIdx i) (us.eraseIdx i)
 |_,_,_,.nil=>.nil
 |_,_,0,.cons _ t=>t
 |_,_,i+1,.cons r t=>.cons r (FO_.eraseIdx i t)
theorem FO_.reverse{xs:List V}{us:List Value}(h:FO_ xs us):FO_ xs.reverse us.reverse:=by
 induction h with
 |nil=>show .nil
 |cons r t ih=>rw[List.reverse_cons,List.reverse_cons];show FO_.append ih (.cons r .nil)
theorem ls_{α:Type}(l:List α):l.eraseIdx (l.length-1)=l.dropLast:=by
 induction l with
 |nil=>rfl
 |cons a r ih =>
  cases r with
  |nil=>rfl
  |cons b r =>
   have e:(a::b::r).length-1=((b::r).length-1)+1:=by have h1:(a::b::r).length=r.length+2:=rfl;have h2:(b::r).length=r.length+1:=rfl;lia
   rw[e,En_,ih]
   all_goals rfl
theorem jb_{α:Type}:∀(l:List α)(i:Nat),(l.eraseIdx i).length<=l.length
 |[],_=>Aj_ _
 |_::_,0=>C8_ _
 |_::r,i+1=>BO_ (jb_ r i)
variable {X:Cx}{pins:List (Addr×Obj)}{σ:St}{H:Hp}{s:Shared}{l b:Addr}{xs ys zs:List V}
theorem Inv.lset{its its':List Value}{n:Nat}{f:Array Value->Array Value}{t':Nat}(I:Inv X pins σ H s)(hH:H l=some (.lst xs))
  (e:s.heap.get? l=some {cls:=.type "list",data:=.seq its.toArray n}) (hf:f its.toArray=its'.toArray) (hv:FO_ ys its') (hz:ys.length<=sizeLine):
  Inv X pins σ (upd H l (.lst ys)) {s with heap:=s.heap.update l (Obj.mapSeq f),toks:=t'}:=by
 have q:=PySem.IsL.update e f;rw[hf]at q;show I.write (x:=l) (e:=l) (by rw[hH];show trivial) (.inl rfl) (λb' u hb hu=>(Bb_ s.heap (Obj.mapSeq f) (Ne.symm hb)).trans hu) ⟨_,q⟩ ?_;show⟨hz,its',_,hv,q⟩
theorem Inv.lnew{its:List Value}{t':Nat}(I:Inv X pins σ H s)(hv:FO_ ys its)(hz:ys.length<=sizeLine):
  Inv X pins σ (upd H s.heap.objs.size (.lst ys)) {s with heap:=s.heap.push {cls:=.type "list",data:=.seq its.toArray},toks:=t'} :=
 I.laid (λ_ _ q=>Ak_ _ q) (Aj_ _) ⟨hz,its,0,hv,AA_ _ rfl⟩
theorem Inv.fresh(I:Inv X pins σ H s):H s.heap.objs.size=none:=I.hok.fresh (Aj_ _)
theorem Inv.lstM(I:Inv X pins σ H s)(hH:H l=some (.lst xs)):xs.length<=sizeLine/\∃(its:List Value)(n:Nat),FO_ xs its/\xs.length=its.length/\s.heap.get? l=some {cls:=.type "list",data:=.seq its.toArray n}:=by obtain⟨z,its,n,r,e⟩:=I.hok l _ hH;show⟨z,its,n,r,r.length,e⟩
theorem Jm_{n:Nat}(h:n<=sizeLine):Builtin.List.listTooLong n=false:=by unfold Builtin.List.listTooLong;show At_ o_
def Iy_:V->List V->Hp->VK->Prop:=λx vs H Q=>onR x λl=>∃xs,on1 vs λy=>H l=some (.lst xs)/\xs.length<sizeLine/\Q .non (upd H l (.lst (xs++[y])))
theorem aQ_:MtM X "list.append" Iy_:=by intro pins s σ H x vs v us Q I rx rv h;obtain⟨l,rfl,xs,h1⟩:=d6_ h;clear h;obtain⟨y,rfl,hH,hz,q⟩:=kT_ h1;cases rx;obtain⟨u,rfl,ru⟩:=rv.one;obtain⟨z,its,n,r,hl,e⟩:=I.lstM hH;show CK_ F.slot_list_append ⟨_,e,rfl⟩ F.entry_list_append (F.args_list_append_2 _ _) (PySem.list_append l its.toArray n u (by rw[Au_];lia)) ⟨e,?_⟩;show⟨.non,_,I.lset (its':=its++[u]) hH e s_ (r.append (.cons ru .nil)) ?_,rfl,q⟩;rw[Al_,AP_];lia
def Ix_:V->List V->Hp->VK->Prop:=λx vs H Q=>∃l b xs zs,x=.ref l/\vs=[.ref b]/\H l=some (.lst xs)/\H b=some (.lst zs)/\xs.length+zs.length<=sizeLine/\Q .non (upd H l (.lst (xs++zs)))
theorem jc_:MtM X "list.extend" Ix_:=by
 intro pins s σ H x vs v us Q I rx rv h;obtain⟨l,b,xs,zs,rfl,rfl,hH,hB,hz,q⟩:=h;cases rx;obtain⟨u,rfl,ru⟩:=rv.one;cases ru;obtain⟨z,its,n,r,hl,e⟩:=I.lstM hH;obtain⟨z2,its2,n2,r2,hl2,e2⟩:=I.lstM hB;have hsz:its.toArray.size+its2.toArray.size<=sizeLine:=by rw[Au_,Au_];lia
 have hlong:¬ (!its.toArray.isEmpty && Builtin.List.listTooLong (its.toArray.size+its2.toArray.size))=true:=by rw[Jm_ hsz,Bool.and_false];show AN_
 show CK_ F.slot_list_extend ⟨_,e,rfl⟩ F.entry_list_extend (F.args_list_extend_2 _ _)
  (AutoSeq1.list_extend_list_list_0 l its.toArray n b its2.toArray n2 hlong (by rw[Au_];lia) o_) ⟨e,e2,?_⟩
 show⟨.non,_,I.lset (its':=its++its2) hH e s_ (r.append r2) ?_,rfl,q⟩;rw[Al_];lia
def LJ_:V->List V->Hp->VK->Prop:=λx vs H Q=>∃l xs y,x=.ref l/\vs=[]/\H l=some (.lst xs)/\xs[xs.length-1]?=some y/\Q y (upd H l (.lst xs.dropLast))
theorem ob_:MtM X "list.pop" LJ_:=by
 intro pins s σ H x vs v us Q I rx rv h;obtain⟨l,xs,y,rfl,rfl,hH,hy,q⟩:=h;cases rx;have hus:=rv.zero;subst hus;obtain⟨z,its,n,r,hl,e⟩:=I.lstM hH;obtain⟨u,hu,ru⟩:=r.get hy;have hy':its.toArray[its.toArray.size-1]?=some u:=by change its.toArray[its.length-1]?=some u;rw[<-BP_,<-hl];show hu
 show CK_ F.slot_list_pop ⟨_,e,rfl⟩ F.entry_list_pop (F.args_list_pop_1 _) (MeetsSeq.list_pop_last l its.toArray n u hy' (by rw[Au_];lia)) ⟨e,?_⟩;show⟨y,_,I.lset (its':=its.dropLast) hH e ?_ r.dropLast ?_,ru,q⟩
 .change its.toArray.eraseIdxIfInBounds (its.toArray.size-1)=its.dropLast.toArray;rw[Au_,Dl_,ls_]
 .rw[List.length_dropLast];lia
def JR_:V->List V->Hp->VK->Prop:=λx vs H Q=>∃l xs i k y,x=.ref l/\vs=[.int i]/\H l=some (.lst xs) /\ -(2 ^ 63)<=i/\i<2 ^ 63/\seqIndex? i xs.length=some k/\xs[k]?=some y/\Q y (upd H l (.lst (xs.eraseIdx k)))
theorem ne_:MtM X "list.pop" JR_:=by
 intro pins s σ H x vs v us Q I rx rv h;obtain⟨l,xs,i,k,y,rfl,rfl,hH,h1,h2,hk,hy,q⟩:=h;cases rx;obtain⟨u,rfl,ru⟩:=rv.one;obtain⟨t,rfl⟩:=ru;obtain⟨z,its,n,r,hl,e⟩:=I.lstM hH;obtain⟨w,hw,rw'⟩:=r.get hy
 show CK_ F.slot_list_pop ⟨_,e,rfl⟩ F.entry_list_pop (F.args_list_pop_2 _ _)
  (MeetsSeq.list_pop_at l its.toArray n i t k w (fitsIndex_both h1 h2) (by rw[Au_,<-hl];show hk) (by rw[<-BP_];show hw) (by rw[Au_];lia)) ⟨e,?_⟩
 show⟨y,_,I.lset (its':=its.eraseIdx k) hH e ?_ (r.eraseIdx k) ?_,rw',q⟩
 .change its.toArray.eraseIdxIfInBounds k=(its.eraseIdx k).toArray;rw[Dl_]
 .have:=jb_ xs k;lia
def Ig_:V->List V->Hp->VK->Prop:=λx vs H Q=>∃l xs,x=.ref l/\vs=[]/\H l=some (.lst xs)/\Q .non (upd H l (.lst xs.reverse))
theorem lt_:MtM X "list.reverse" Ig_:=by intro pins s σ H x vs v us Q I rx rv h;obtain⟨l,xs,rfl,rfl,hH,q⟩:=h;cases rx;have hus:=rv.zero;subst hus;obtain⟨z,its,n,r,hl,e⟩:=I.lstM hH;show CK_ F.slot_list_reverse ⟨_,e,rfl⟩ F.entry_list_reverse (F.args_list_reverse_1 _) (AutoSeq1.list_reverse_list_0 l its.toArray n (by rw[Au_];lia)) ⟨e,?_⟩;show⟨.non,_,I.lset (its':=its.reverse) hH e s_ r.reverse ?_,rfl,q⟩;rw[B5_];lia
def Kq_:V->List V->Hp->VK->Prop:=λx vs H Q=>∃l xs,x=.ref l/\vs=[]/\H l=some (.lst xs)/\Q .non (upd H l (.lst []))
def L6_:R2:=λx y H Q=>∃l b xs zs,x=.ref l/\y=.ref b/\H l=some (.lst xs)/\H b=some (.lst zs)/\xs.length+zs.length<=sizeLine/\∀p,H p=none->Q (.ref p) (upd H p (.lst (xs++zs)))
theorem ei_:OpR X (binaryOp .Add) L6_:=by
 intro pins s σ H x y v u Q I rx ry h;obtain⟨l,b,xs,zs,rfl,rfl,hH,hB,hz,q⟩:=h;cases rx;cases ry;obtain⟨z,its,n,r,hl,e⟩:=I.lstM hH;obtain⟨z2,its2,n2,r2,hl2,e2⟩:=I.lstM hB;show PySem.P.add_list e e2 ?_ (by rw[Au_,Au_];lia);have ea:its.toArray++its2.toArray=(its++its2).toArray:=s_
 rw[ea];show⟨.ref _,_,I.lnew (t':=s.toks) (r.append r2) (by rw[Al_];lia),rfl,q _ I.fresh⟩
variable {prog:Program}{w:World}{A:Around}{E:Value->Shared->Prop}
end L2
namespace Att
open PySem PySem.W PySem.Calls PyProof.Rows
theorem g5_{P:Params}{h:Heap}:∀(ns:List Int)(vs:List Value),WellAll P h vs (ns.map WData.int)->IntsAre vs ns:=by
 intro ns
 induction ns with
 |nil =>
  intro vs w;rw[Dq_]at w;cases w;show .nil
 |cons n ns ih =>
  intro vs w;rw[AZ_]at w;cases w with
  |cons a b =>
   cases a;show .cons _ _ (ih _ b)
theorem l7_{l:OpenLaw}{n:Nat}(hn:l.most=some n){P:Params}{h:Heap}{args:List WData}{vals:List Value}
  (hpre:l.row.toRowW.claim.pre args=true) (hwl:WellAll P h vals args):
  ∃a vs ns,vals=[Value.ref a]/\args=[WData.list (ns.map WData.int)]/\h.get? a=some {cls:=.type "list",data:=.seq vs.toArray}/\IntsAre vs ns/\ns.length<=n:=by
 have hsh:WShape.hasAll [] args [.list .int]=true:=(pre_splitW hpre).1;have hc:l.pre.holds [] {args:=args}=true:=(pre_splitW hpre).2;obtain⟨d,r,rfl,h1,h2⟩:=hasAllW_cons hsh;obtain rfl:=hasAllW_nil h2;obtain⟨xs,rfl,h3⟩:=hasW_list h1;obtain⟨ns,rfl⟩:=items_int h3
 have hlen:ns.length<=n:=by
  unfold OpenLaw.pre at hc;have h4:(WTm.not (.lt (.lit (.int (n:Int))) (.len (.arg 0)))).holds [] {args:=[.list (ns.map .int)]}=true:=by have h4:=(holds_andW hc).1;rw[hn]at h4;show h4
  have h5:=condW_of h4 (w_not (w_lt w_lit (w_len_list (w_arg rfl))));rw[Ab_]at h5;show Nat.le_of_not_lt λq=>?_;have q':(n:Int)<((ns.length:Nat):Int):=o_
  first
   | (rw[As_ q']at h5;show absurd h5 d_)
   | (simp at h5;lia)
 cases hwl with
 |cons w1 w2 =>
  cases w2;cases w1 with
  |list ho hall=>show⟨_,_,ns,rfl,rfl,ho,g5_ ns _ hall,hlen⟩
theorem l8_(l:OpenLaw)(args:List WData):l.row.toRowW.claim.post args (.bool true) args=true :=
 postW_of (r:=l.row.toRowW) (X:=(true == true))
  (show WShape.has [] (.bool true) .bool=true by first|rfl|decide|simp[WShape.has,WShape.arms,WShape.armsAll])
  (show(WTm.eq .res (.lit (.bool true))).value [] {args:=args,res:=some (.bool true),after:=args}=some (.bool (true == true))from w_eq_bool (w_res rfl) w_lit) rfl
theorem attach_call{l:OpenLaw}{n:Nat}{q:Program}{loose:List Str}{XP:(Str->Option Value)->Heap->Prop}{YP:World->Heap->Prop}{d:DefRec}
  (hn:l.most=some n) (hdf:d.params.defaults=[])
  (call:∀(w:World)(s₀ s₁:Shared)(mg mb:Str->Option Value)(fa:Addr)(o:Obj)(pm cd doc:Value)(a:Addr)(vs:List Value)(ns:List Int),
   Ground q loose [] XP w s₀ mg mb s₁.heap->YP w s₁.heap ->
   s₁.heap.get? fa=some o->o.data=.func (docDef d.name d.params d.body d.scope pm cd doc)->s₁.heap.CodeRec cd d.name->mg d.name=some (.ref fa) ->
   s₁.heap.get? a=some {cls:=.type "list",data:=.seq vs.toArray}->IntsAre vs ns->ns.length<=n->s₁.gens = #[] ->
   codeAny (model l.prog w) callerA (.call (.ref fa) ⟨[.ref a],[]⟩) (λr s'=>r=.ok (.ret (.bool true))/\OldK s₁.heap s'.heap/\s'.os=s₁.os/\AllBare s'.gens) s₁):
  WalkO q loose XP YP l.row.toRowW d [] (λf vs=>PySem.call f vs):=by
 intro w s₀ s₁ mg mb G Y fa o pm cd doc dV kV ho hd hcd hD hmg hg args vals as hpre hlay hrd hwl hlo;obtain rfl:dV=.none:=Dflts.none hD hdf;obtain rfl:kV=.none:=Dflts.noKw hD;obtain⟨a,vs,ns,rfl,rfl,hobj,hints,hlen⟩:=l7_ hn hpre hwl;show enter_call (Dp_ (call w s₀ s₁ mg mb fa o pm cd doc a vs ns G Y ho (fd_plain hd) hcd hmg hobj hints hlen hg) λr s' hq=>?_);obtain⟨rfl,h2,h3,h4⟩:=hq;show⟨.inl ⟨.bool true,.bool true,[],rfl,λ_=>rfl,.bool true,l8_ l _,λ_=>⟨List.Pairwise.nil,λ_ hm=>(nomatch hm)⟩⟩,h2,h3,h4⟩
variable {prog:Program}{w:World}{A:Around}{E:Value->Shared->Prop}{s:Shared}{K:Frag}
end Att
namespace L2
open PySem PySem.Spec PyProof.Rows
theorem jd_:∀{vs:List Value}{ns:List Int},IntsAre vs ns->FO_ (ns.map V.int) vs
 |_,_,.nil=>.nil
 |_,_,.cons n t h=>.cons ⟨t,rfl⟩ (jd_ h)
def Lr_(H:Hp):Prop:=∀b,H b=none\/∃o xs,H b=some (.frz o (.lst xs))
theorem nf_{P:Program}{w:World}{K:PySem.W.Frag}{mg mb:Str->Option Value}{CX:CXT}{k:Nat}{fa a:Addr}{fd:FuncData}{x:Str}{sp:Sp}{s₁:Shared}{vs:List Value}{ns:List Int}
  (KX:K.In s₁.heap) (hns:s₁.heap.Ns mainGlobals mg) (hb:s₁.heap.Ns builtinsNs mb) (hbb:∀x:Str,x ≠ "__name__" -> mb x=bootBuiltins x) (hlim:s₁.heap.NoLimit) (hg:s₁.gens = #[])
  (ha:s₁.heap.get? a=some {cls:=.type "list",data:=.seq vs.toArray}) (hi:IntsAre vs ns) (hl:ns.length<=sizeLine) (hr:Hi_ k callerA)
  (F:∀base:Heap,K.In base->base.Ns mainGlobals mg->I7_ P w K mg base CX k fa fd [x] sp) (hbind:∀(s:Shared)(u:Value),BindsTo s fd ⟨[u],[]⟩ [(x,u)])
  (hsp:∀H:Hp,Lr_ H->SqL K H a (ns.map V.int)->sp [.ref a] H (λv _=>v=.bl true) λ_ _ _=>False)
  (hCX:∀H e s',CX [] H s₁ (λ_ _ _=>False) e s'->False):
  codeAny (model P w) callerA (.call (.ref fa) ⟨[.ref a],[]⟩) (λr s'=>r=.ok (.ret (.bool true))/\OldK s₁.heap s'.heap/\s'.os=s₁.os/\AllBare s'.gens) s₁:=by
 have rv:=jd_ hi;have lenV:=hi.length
 have core:∀H:Hp,Lr_ H->SqL K H a (ns.map V.int)->HOk P w H s₁.heap->(∀b,H b≠none->b=a)->(H a≠none->K.lookup a=none) ->
   codeAny (model P w) callerA (.call (.ref fa) ⟨[.ref a],[]⟩) (λr s'=>r=.ok (.ret (.bool true))/\OldK s₁.heap s'.heap/\s'.os=s₁.os/\AllBare s'.gens) s₁:=by
  intro H hO hS hok hA hK;have base_of:∀{b:Addr}{o:Obj},s₁.heap.get? b=some o->H b=none->(Jf_ s₁.heap H).get? b=some o:=λe n=>m6_ e n
  have noA:∀{b:Addr}{o:Obj}{es:Array DictEntry}{ep:Nat},s₁.heap.get? b=some o->o.data=.dict es ep->H b=none:=λ{b o es ep} e d=>by
   cases q:H b with
   |none=>rfl
   |some u =>have e':b=a:=hA b (by rw[q];simp);subst e';rw[ha]at e;cases e;have d':Data.seq vs.toArray _=Data.dict es ep:=d;cases d'
  have nsK:∀{b:Addr}{m:Str->Option Value},s₁.heap.Ns b m->(Jf_ s₁.heap H).Ns b m:=λ{b m} ⟨o,es,ep,e,d,r⟩=>⟨o,es,ep,base_of e (noA e d),d,r⟩
  have hKb:K.In (Jf_ s₁.heap H):=λb o e=>base_of (KX b o e) (by
   cases q:H b with
   |none=>rfl
   |some u =>have e':b=a:=hA b (by rw[q];simp);subst e';rw[hK (by rw[q];simp)]at e;cases e)
  have hM:Mod K mg (Jf_ s₁.heap H):=⟨hKb,nsK hns,⟨mb,nsK hb,hbb⟩,let⟨mc,h1,h2⟩:=hlim;⟨mc,nsK h1,h2⟩⟩;have e0:K8_ P w K mg (Jf_ s₁.heap H) callerA [] s₁ H:=⟨rfl,hM,λb o e=>oD_ e,Fi_ (lS_ _ _),trivial,λb hb=>absurd (show b∈([]:List Addr)from hb) s_,hok,.of_eq hg⟩;show Dp_ ((F _ hKb (nsK hns)).run callerA [] s₁ H ⟨[.ref a],[]⟩ [.ref a] [.ref a] _ _ hr e0 (hbind s₁ (.ref a)) (.cons rfl .nil) (hsp H hO hS)) λr s' h=>?_;cases r with
  |error e=>show(hCX H e s' h).elim
  |ok fl =>
   cases fl with
   |next=>show False.elim h
   |brk=>show False.elim h
   |cont=>show False.elim h
   |ret u =>
    obtain⟨v,H',os,bare,un,hok',r',q⟩:=h;have q':v=.bl true:=q;subst q';obtain rfl:u=Value.bool true:=r';show⟨rfl,OldK.of_keep λb o e=>?_,os,bare⟩;cases q:H b with
    |none=>show un.keep b o e q (by intro z;show absurd (show b∈([]:List Addr)from z) s_) s_
    |some u =>
     rcases hO b with z|⟨ob,xs,z⟩
     .rw[q]at z;cases z
     .have z2:=un.frzs b ob _ z;obtain⟨e1,_⟩:=hok b _ z;obtain⟨e2,_⟩:=hok' b _ z2;rw[e]at e1;cases e1;show e2
 cases hk:K.lookup a with
 |some o =>
  have e:=KX a o hk;rw[ha]at e;cases e;show core (λ_=>none) (λ_=>.inl rfl) (.inr ⟨_,vs.toArray,_,hk,rfl,rfl,rfl,by rw[Au_,lenV];show hl,by simpa using rv⟩) (λb u z=>by have z':(none:Option HO)=some u:=z;cases z') (λb z=>absurd rfl z) λz=>absurd rfl z
 |none =>
  show core (λb=>if b=a then some (.frz {cls:=.type "list",data:=.seq vs.toArray} (.lst (ns.map V.int)))else none) (λb=>?_) (.inl (.inr ⟨{cls:=.type "list",data:=.seq vs.toArray},if_pos rfl⟩)) (λb u z=>?_) (λb z=>?_) λ_=>hk
  .by_cases hb:b=a
   .show .inr ⟨_,_,if_pos hb⟩
   .show .inl (if_neg hb)
  .by_cases hb:b=a
   .have z':=(if_pos hb).symm.trans z;cases z';subst hb;show⟨ha,by rw[Ab_];show hl,vs,_,rv,ha⟩
   .have z':=(if_neg hb).symm.trans z;cases z'
  .by_cases hb:b=a
   .show hb
   .show absurd (if_neg hb) z
theorem oM_{l:PySem.W.OpenLaw}{n k:Nat}{q:Program}{loose:List Str}{XP:(Str->Option Value)->Heap->Prop}{YP:World->Heap->Prop}{d:DefRec}{K:Params->PySem.W.Frag}{CX:World->CXT}{sp:World->Sp}{x:Str}
  (hn:l.most=some n) (hn2:n<=sizeLine) (hdf:d.params.defaults=[]) (hr:Hi_ k callerA)
  (hY:∀(w:World)(h:Heap),YP w h->(K w.params).In h)
  (F:∀(w:World)(mg:Str->Option Value)(fa:Addr)(h:Heap),(K w.params).In h->h.Ns mainGlobals mg->mg d.name=some (.ref fa) ->
   ∃fd:FuncData,(∀(s:Shared)(u:Value),BindsTo s fd ⟨[u],[]⟩ [(x,u)]) /\
    ∀base:Heap,(K w.params).In base->base.Ns mainGlobals mg->I7_ l.prog w (K w.params) mg base (CX w) k fa fd [x] (sp w))
  (hsp:∀(w:World)(H:Hp)(a:Addr)(ns:List Int),ns.length<=n->Lr_ H->SqL (K w.params) H a (ns.map V.int)->sp w [.ref a] H (λv _=>v=.bl true) λ_ _ _=>False)
  (hCX:∀(w:World)(H:Hp)(s:Shared)(e:Value)(s':Shared),CX w [] H s (λ_ _ _=>False) e s'->False):
  PySem.W.WalkO q loose XP YP l.row.toRowW d [] (λf vs=>PySem.call f vs):=by
 show Att.attach_call hn hdf λw s₀ s₁ mg mb fa o pm cd doc a vs ns G Y ho hd hcd hmg hobj hints hlen hg=>?_;have KX:=hY w _ Y;obtain⟨fd,hb,hF⟩:=F w mg fa _ KX G.T.g hmg;show nf_ KX G.T.g G.T.b G.T.builtins G.T.nolimit hg hobj hints (AH_ hlen hn2) hr hF hb (λH hO hS=>hsp w H a ns hlen hO hS) λH e s'=>hCX w H s₁ e s'
def GN_(s:Stmt):Arguments:=match s with
 | .FunctionDef _ a _ _ _ _ _ _ _ _=>a
 |_=>{posonlyargs:=[],args:=[],vararg:=none,kwonlyargs:=[],kw_defaults:=[],kwarg:=none,defaults:=[]}
def GA_(s:Stmt):List Stmt:=match s with
 | .FunctionDef _ _ b _ _ _ _ _ _ _=>b
 |_=>[]
def Fp_(s:Stmt):Scope:=match s with
 | .FunctionDef _ _ _ _ _ _ sc _ _ _=>sc
 |_=>{kind:=.function,names:=[],isGenerator:=false,isCoroutine:=false}
abbrev CX0:CXT:=λ_ _ _ _ _ _=>False
abbrev E0:XK:=λ_ _ _=>False
theorem Ly_{X:Cx}:IR_ CX0 X E0:=λ_ _ _ _ _ _ _ h=>h.elim
structure Fun(K:PySem.W.Frag)(x qual:Str)(st:Stmt)(f:Addr)(fd:FuncData):Prop where
 ex:∃(oc:Value)(od:Option Addr)(kV doc pm:Value)(an:Option Addr)(cdv ct:Value)(osl:Array (Option Value)),
  fd=PySem.W.fnOf x qual (GN_ st) (GA_ st) (Fp_ st) .none kV doc pm an cdv ct/\K.lookup f=some ⟨oc,od,.func fd,osl⟩/\PySem.W.codeIn K cdv qual=true
 kp:PySem.W.keepIn K (.ref f)=true
section
variable {P:Program}{w:World}{K:PySem.W.Frag}{mg:Str->Option Value}{base:Heap}
theorem Fun.ok{x qual:Str}{st:Stmt}{f:Addr}{fd:FuncData}{N ps:List Str}{k:Nat}{sp:Sp}(F:Fun K x qual st f fd)(S:FA_ N ps (Fp_ st))(len:∀vs H Q E,sp vs H Q E->vs.length=ps.length)
  (hbody:∀(cdv:Value)(A:Around)(outer:List Env)(s:Shared)(H:Hp)(vs:List V)(Q:VK)(E:XK),Hi_ k (A.deeper (envOfC qual (Fp_ st) s.heap.objs.size f cdv))->sp vs H Q E ->
   ∃t,PSs (JC_ CX0 P w K mg base N qual (Fp_ st) f cdv A outer s H E).nox (GA_ st) t/\t {nx:=λ_ H'=>Q .non H',rt:=Q} (start N vs) H):I7_ P w K mg base CX0 (k+1) f fd ps sp:=by
 obtain⟨oc,od,kV,doc,pm,an,cdv,ct,osl,rfl,lk,hcd⟩:=F.ex;show LB_ lk hcd S len λA outer s H vs Q E hr hsp=>?_;obtain⟨t,h,q⟩:=hbody cdv A outer s H vs Q E hr hsp;show⟨t,h.nox,q⟩
theorem Fun.binds{x qual:Str}{st:Stmt}{f:Addr}{fd:FuncData}{ps:List Str}(F:Fun K x qual st f fd)
  (h:∀(kV doc pm:Value)(an:Option Addr)(cdv ct:Value)(us:List Value),us.length=ps.length->bindArgs (PySem.W.fnOf x qual (GN_ st) (GA_ st) (Fp_ st) .none kV doc pm an cdv ct) ⟨us,[]⟩=pure (ps.zip us)):Ij_ K fd ps []:=by
 obtain⟨oc,od,kV,doc,pm,an,cdv,ct,osl,rfl,lk,hcd⟩:=F.ex;show .all (h kV doc pm an cdv ct)
theorem pR_{x qual:Str}{st:Stmt}{f:Addr}{oc:Value}{od an:Option Addr}{osl:Array (Option Value)}{kV doc pm cdv ct:Value}(l:K.lookup f=some ⟨oc,od,.func (PySem.W.fnOf x qual (GN_ st) (GA_ st) (Fp_ st) .none kV doc pm an cdv ct),osl⟩)
  (c:PySem.W.codeIn K cdv qual=true) (k:PySem.W.keepIn K (.ref f)=true):Fun K x qual st f (PySem.W.fnOf x qual (GN_ st) (GA_ st) (Fp_ st) .none kV doc pm an cdv ct):=⟨⟨oc,od,kV,doc,pm,an,cdv,ct,osl,rfl,l,c⟩,k⟩
end
theorem Fq_{n:Nat}(h:n<=1000):n<sizeLine:=BB_ h d_
variable {X:Cx}
theorem ite2{c A B:Prop}[Decidable c](h1:c->A)(h2:¬ c->B):if c then A else B:=by
 by_cases h:c
 .rw[if_pos h];show h1 h
 .rw[if_neg h];show h2 h
def Fo_(H H':Hp):Prop:=∀b o,H b=some o->H' b=some o
theorem Fo_.refl(H:Hp):Fo_ H H:=λ_ _ h=>h
theorem Fo_.trans{H H1 H2:Hp}(a:Fo_ H H1)(b:Fo_ H1 H2):Fo_ H H2:=λc o h=>b c o (a c o h)
variable{H':Hp}
theorem Fo_.free{H:Hp}(e:Fo_ H H'){l:Addr}(h:H' l=Option.none):H l=Option.none:=by
 cases q:H l with
 |none=>rfl
 |some o =>rw[e l o q]at h;cases h
variable{K:PySem.W.Frag}{H:Hp}{a:Addr}
theorem Fo_.seq{xs:List V}(e:Fo_ H H')(h:SqL K H a xs):SqL K H' a xs:=by
 rcases h with(h|⟨o,h⟩)|h
 .show .inl (.inl (e _ _ h))
 .show .inl (.inr ⟨o,e _ _ h⟩)
 .show .inr h
def Hl_(H:Hp):V->Option String
 | .non=>some "NoneType"
 | .bl _=>some "bool"
 | .int _=>some "int"
 | .str _=>some "str"
 | .ref p=>match H p with
  |some (.lst _)=>some "list"
  |some (.tup _)=>some "tuple"
  |_=>none
 |_=>none
def Mg_(a b:String):Bool:=a == b ||(a == "bool" && b == "int")
def Hg_(T:String):Prop:=T = "int" \/ T = "bool" \/ T = "tuple" \/ T = "list" \/ T = "str"
theorem gO_:Ga_ X (.builtin "isinstance") (λxs H Q=>∃x T k,xs=[x,.ty T]/\Hg_ T/\Hl_ H x=some k/\Q (.bl (Mg_ k T)) H):=by
 intro pins s σ H xs us Q I r h;obtain⟨x,T,k,rfl,hT,hk,q⟩:=h;obtain⟨u,w',rfl,rx,ry⟩:=G1_ r;cases(show w'=Value.type T from ry);have fin:∀{b:Bool}{s':Shared},b=Mg_ k T->Inv X pins σ H s'->EP X pins σ Q (.bool b) s':=λ{b s'} e J=>⟨.bl b,H,J,rfl,by rw[e];show q⟩;cases x with
 |non =>
  cases(show u=Value.none from rx);cases hk
  rcases hT with rfl|rfl|rfl|rfl|rfl
  .show IsiPair.NoneType_int (fin d_ (I.tok _))
  .show IsiPair.NoneType_bool (fin d_ (I.tok _))
  .show IsiPair.NoneType_tuple (fin d_ (I.tok _))
  .show IsiPair.NoneType_list (fin d_ (I.tok _))
  .show IsiPair.NoneType_str (fin d_ (I.tok _))
 |bl b =>
  cases(show u=Value.bool b from rx);cases hk
  rcases hT with rfl|rfl|rfl|rfl|rfl
  .show IsiPair.bool_int (fin d_ I)
  .show IsiPair.bool_bool (fin d_ I)
  .show IsiPair.bool_tuple (fin d_ (I.tok _))
  .show IsiPair.bool_list (fin d_ (I.tok _))
  .show IsiPair.bool_str (fin d_ (I.tok _))
 |int i =>
  obtain⟨t,rfl⟩:=(show ∃t,u=Value.int i t from rx);cases hk
  rcases hT with rfl|rfl|rfl|rfl|rfl
  .show IsiPair.int_int (fin d_ I)
  .show IsiPair.int_bool (fin d_ (I.tok _))
  .show IsiPair.int_tuple (fin d_ (I.tok _))
  .show IsiPair.int_list (fin d_ (I.tok _))
  .show IsiPair.int_str (fin d_ (I.tok _))
 |str z =>
  obtain⟨t,rfl⟩:=(show ∃t,u=Value.str z t from rx);cases hk
  rcases hT with rfl|rfl|rfl|rfl|rfl
  .show IsiPair.str_int (fin d_ (I.tok _))
  .show IsiPair.str_bool (fin d_ (I.tok _))
  .show IsiPair.str_tuple (fin d_ (I.tok _))
  .show IsiPair.str_list (fin d_ (I.tok _))
  .show IsiPair.str_str (fin d_ I)
 |ref p =>
  cases(show u=Value.ref p from rx);cases e:H p with
  |none=>simp[Hl_,e]at hk
  |some o =>
   cases o with
   |lst ys =>
    have hk':k = "list" := by simp[Hl_,e]at hk;show hk.symm
    subst hk';obtain⟨its,n,rr,ho,hz⟩:=I.lst e
    rcases hT with rfl|rfl|rfl|rfl|rfl
    .show IsiPair.list_int ho rfl (fin d_ (I.tok _))
    .show IsiPair.list_bool ho rfl (fin d_ (I.tok _))
    .show IsiPair.list_tuple ho rfl (fin d_ (I.tok _))
    .show IsiPair.list_list ho rfl (fin d_ I)
    .show IsiPair.list_str ho rfl (fin d_ (I.tok _))
   |tup ys =>
    have hk':k = "tuple" := by simp[Hl_,e]at hk;show hk.symm
    subst hk';obtain⟨its,rr,⟨ob,ho,hc,_⟩,hz⟩:=I.tuple (xs:=ys) (.inl (.inl e))
    rcases hT with rfl|rfl|rfl|rfl|rfl
    .show IsiPair.tuple_int ho hc (fin d_ (I.tok _))
    .show IsiPair.tuple_bool ho hc (fin d_ (I.tok _))
    .show E6_ ho hc (fin d_ I)
    .show IsiPair.tuple_list ho hc (fin d_ (I.tok _))
    .show IsiPair.tuple_str ho hc (fin d_ (I.tok _))
   |_=>simp[Hl_,e]at hk
 |_=>cases hk
def Lm_:V->List V->Hp->VK->Prop:=λx xs H Q=>∃i,x=.int i/\xs=[]/\Q (.int (Builtin.Int.intBits i:Nat)) H
def Lg_(i j:Int):Prop:=Builtin.Int.intBits i+Builtin.Int.intBits j<=134217728
def Ku_(i j:Int):Prop:=0<j/\j.natAbs.log2<9000
theorem aw_:OpR X (binaryOp .FloorDiv) (rI Ku_ λi j=>.int (i/j)):=opI λi j _ _ _ _ _ hc q=>by have h1:(0:Int)<j:=hc.1;show floordiv_int o_ (by rw[Int.fdiv_eq_ediv_of_nonneg i o_];show q) (.inl (PyProof.noPylong_of_log2 hc.2))
def Ls_(i j:Int):Prop:=j≠0/\j.natAbs.log2<9000
def LV_:List V->List V->Bool
 |[],[]=>true
 |x::xs,y::ys=>eqV x y && LV_ xs ys
 |_,_=>false
def Fn0(K:PySem.W.Frag)(mg:Str->Option Value)(x:Str)(st:Stmt):Prop:=∃f fd,Fun K x x st f fd/\mg x=some (.ref f)
theorem pS_{K:PySem.W.Frag}{mg:Str->Option Value}{h:Heap}(X:K.In h)(G:h.Ns mainGlobals mg){x:Str}{st:Stmt}{f:Addr}{oc:Value}{od an:Option Addr}{osl:Array (Option Value)}{kV doc pm cdv ct:Value}
  (a:PySem.W.nsIn K mainGlobals x=some (some (.ref f))) (l:K.lookup f=some ⟨oc,od,.func (PySem.W.fnOf x x (GN_ st) (GA_ st) (Fp_ st) .none kV doc pm an cdv ct),osl⟩) (c:PySem.W.codeIn K cdv x=true) (k:PySem.W.keepIn K (.ref f)=true):Fn0 K mg x st :=
 ⟨f,_,pR_ l c k,PySem.W.mg_of X G a⟩
def Cal(P:Program)(w:World)(K:PySem.W.Frag)(mg:Str->Option Value)(base:Heap)(x:Str)(ps:List Str)(k:Nat)(sp:Sp):Prop :=
 ∃f fd,mg x=some (.ref f)/\PySem.W.keepIn K (.ref f)=true/\Ij_ K fd ps []/\I7_ P w K mg base CX0 k f fd ps sp
theorem aU_{P:Program}{w:World}{K:PySem.W.Frag}{mg:Str->Option Value}{base:Heap}{x:Str}{st:Stmt}{N ps:List Str}{k:Nat}{sp:Sp}(F:Fn0 K mg x st)(S:FA_ N ps (Fp_ st))
  (hbody:∀(f:Addr)(cdv:Value)(A:Around)(outer:List Env)(s:Shared)(H:Hp)(vs:List V)(Q:VK)(E:XK),Hi_ k (A.deeper (envOfC x (Fp_ st) s.heap.objs.size f cdv))->sp vs H Q E ->
   ∃t,PSs (JC_ CX0 P w K mg base N x (Fp_ st) f cdv A outer s H E).nox (GA_ st) t/\t {nx:=λ_ H'=>Q .non H',rt:=Q} (start N vs) H)
  (hb:∀(kV doc pm:Value)(an:Option Addr)(cdv ct:Value)(us:List Value),us.length=ps.length->bindArgs (PySem.W.fnOf x x (GN_ st) (GA_ st) (Fp_ st) .none kV doc pm an cdv ct) ⟨us,[]⟩=pure (ps.zip us):=by first|show λ_ _ _ _ _ _=>byL1 λ_=>rfl|show λ_ _ _ _ _ _=>byL2 λ_ _=>rfl|show λ_ _ _ _ _ _=>byL3 λ_ _ _=>rfl|show λ_ _ _ _ _ _=>byL4 λ_ _ _ _=>rfl|show λ_ _ _ _ _ _=>byL5 λ_ _ _ _ _=>rfl)
  (len:∀vs H Q E,sp vs H Q E->vs.length=ps.length:=by intro vs H Q E h;repeat (first|(obtain⟨rfl,_⟩:=h;rfl)|obtain⟨_,h⟩:=h)):Cal P w K mg base x ps (k+1) sp:=by
 obtain⟨f,fd,F,m⟩:=F;show⟨f,fd,m,F.kp,F.binds hb,F.ok S len λcdv A outer s H vs Q E=>hbody f cdv A outer s H vs Q E⟩
section
variable {x:Str}{ps:List Str}{k:Nat}{sp:Sp}{e:Expr}{es:List Expr}{t:TA}{p pos:Pos}
theorem ng_(C:Cal X.prog X.w X.K X.mg X.base x ps k sp)(hr:Hi_ k X.A)(hg:Gl X x)(ha:PA X (e::es) t)(hdb:(x == ("__debug__" : Str))=false:=by decide)
  (he:starEach (e::es) X.env=(false,eval e X.env)::starEach es X.env:=by rfl) (hpl:(backTo pos (starEach es X.env)).any (·.1)=false:=by rfl):PE X (.Call (.Name x p) (e::es) [] pos) (Jd_ sp [] E0 t):=by
 obtain⟨f,fd,m,kp,b,F⟩:=C;show oK_ F hr hg m kp b .nil Ly_ ha hdb he hpl
end
variable{o:HO}
theorem Fo_.upd(e:Fo_ H H')(h:H a=none):Fo_ H (upd H' a o):=λb o' q=>by rw[ae_ (ag_ q h)];show e b o' q
theorem Fo_.new(h:H a=none):Fo_ H (L2.upd H a o):=(Fo_.refl H).upd h
def JV_:R2:=λx y H Q=>onR x λp=>∃xs,onI y λi=>H p=some (.tup xs)/\∃v,atI xs i=some v/\Q v H
def J2_:R2:=λx y H Q=>onR x λp=>∃xs,onI y λi=>H p=some (.lst xs)/\∃v,atI xs i=some v/\Q v H
theorem ao_:IxR X JV_:=by intro value slice pins s σ H x y v u Q I rx ry h hs;obtain⟨p,e1,xs,h⟩:=d6_ h;obtain⟨i,e2,hp,z,ha,q⟩:=c1_ h;show pP_ value slice pins s σ H x y v u Q I rx ry ⟨p,xs,i,z,e1,e2,.inl (.inl hp),ha,q⟩ hs
theorem an_:IxR X J2_:=by intro value slice pins s σ H x y v u Q I rx ry h hs;obtain⟨p,e1,xs,h⟩:=d6_ h;obtain⟨i,e2,hp,z,ha,q⟩:=c1_ h;show l4_ value slice pins s σ H x y v u Q I rx ry ⟨p,xs,i,z,e1,e2,.inl (.inl hp),ha,q⟩ hs
def Lv_:R2:=λx y H Q=>∃a b xs ys,x=.ref a/\y=.ref b/\H a=some (.tup xs)/\H b=some (.tup ys)/\xs.all GS_=true/\ys.all GS_=true/\Q (.bl (LV_ xs ys)) H
def KH_:List V->Hp->VK->Prop:=λxs H Q=>on1 xs λx=>onR x λp=>∃ys,(H p=some (.lst ys)\/H p=some (.tup ys))/\Q (.int ys.length) H
theorem al_:Ga_ X (.builtin "len") KH_:=by intro pins s σ H xs us Q I r h;obtain⟨_,e,h⟩:=kT_ h;obtain⟨p,rfl,ys,hp,q⟩:=d6_ h;show gl_ pins s σ H xs us Q I r ⟨p,ys,e,hp.imp (λz=>.inl (.inl z)) (λz=>.inl (.inl z)),q⟩
theorem je_{x:Str}{n:String}{pos:Pos}(hg:Gl X x)(hm:X.mg x=none)(hv:bootBuiltins x=some (.type n))(hn:x ≠ "__name__" := by decide) (hd:(x == ("__debug__" : Str))=false:=by decide):PE X (.Name x pos) (tC (.ty n)):=
 oF_ hg hm hv rfl hn hd
theorem Gc_{α:Type}{x:α}{xs:List α}:atI (x::xs) 0=some x:=by simp[atI,ixN]
theorem GE_{α:Type}{x y:α}{xs:List α}:atI (x::y::xs) 1=some y:=by
 have h:(1:Int)<(xs.length:Int)+1+1:=o_
 simp[atI,ixN,h]
theorem Ip_{α:Type}{x y z:α}{xs:List α}:atI (x::y::z::xs) 2=some z:=by
 have h:(2:Int)<(xs.length:Int)+1+1+1:=o_
 simp[atI,ixN,h]
theorem fv_{α:Type}{xs:List α}{i:Int}{v:α}(h0:0<=i)(h:xs[i.toNat]?=some v):atI xs i=some v:=by
 have hl:i.toNat<xs.length:=(Ai_.mp h).1;have hl':i<xs.length:=o_
 unfold atI ixN;rw[if_pos h0,if_pos hl'];show h
theorem pT_(n:Nat):ixN (n+1) 0=some 0:=by
 have:(0:Int)<(n:Int)+1:=o_
 simp[ixN,this]
theorem kg_{c:TT}{tb:TS}{D:Hv_}{σ:St}{H:Hp}(Pv:St->Hp->Prop)(μ:St->Hp->Nat)(h0:Pv σ H)
  (hs:∀σ H,Pv σ H->c σ H λb H1=>if b=true then ∃N:St->Hp->Prop,(∀σ' H',N σ' H'->∃m',m'<μ σ H/\m'=μ σ' H'/\Pv σ' H')/\tb {D with nx:=N,ct:=N,bk:=D.nx} σ H1 else D.nx σ H1):H5_ c tb D σ H :=
 ⟨λm σ H=>m=μ σ H/\Pv σ H,⟨_,rfl,h0⟩,by rintro m σ H ⟨rfl,p⟩;show hs σ H p⟩
theorem N_ok{Pv:St->Hp->Prop}{μ:St->Hp->Nat}{k:Nat}:∀σ' H',(Pv σ' H'/\μ σ' H'<k)->∃m',m'<k/\m'=μ σ' H'/\Pv σ' H':=λ_ _ ⟨a,b⟩=>⟨_,b,rfl,a⟩
def G0_(J:It)(g:TG)(tb:TS)(D:Hv_)(σ:St)(H:Hp):Prop:=∃W:Nat->Nat->St->Hp->Prop,(∃m,W 0 m σ H)/\∀i m σ H,W i m σ H ->
 (J.stop i H/\D.nx σ H)\/(J.go i H/\∃N:St->Hp->Prop,(∀σ' H',N σ' H'->∃m',m'<m/\W (i+1) m' σ' H')/\∀x H',J.yld i H x H'->g x σ H' λσ2 H2=>tb {D with nx:=N,ct:=N,bk:=D.nx} σ2 H2)
theorem oN_{wi:TI}{g:TG}{tb:TS}{D:Hv_}{σ:St}:Mh_ wi g tb D σ H=wi σ H λJ H1=>G0_ J g tb D σ H1:=rfl
theorem cb_{lo:Int}{n:Nat}{g:TG}{tb:TS}{D:Hv_}{σ:St}{H:Hp}(Pv:Nat->St->Hp->Prop)(h0:Pv 0 σ H)
  (hs:∀i σ H,i<n->Pv i σ H->g (.int (lo+i)) σ H λσ2 H2=>tb {D with nx:=Pv (i+1),ct:=Pv (i+1),bk:=D.nx} σ2 H2) (hd:∀σ H,Pv n σ H->D.nx σ H):G0_ (Itr lo n) g tb D σ H:=lW_ Pv h0 hs hd
theorem ip_{K:PySem.W.Frag}{a:Addr}{xs:List V}{g:TG}{tb:TS}{D:Hv_}{σ:St}{H:Hp}(Pv:Nat->St->Hp->Prop)(h0:Pv 0 σ H)(hl:∀i σ H,i<=xs.length->Pv i σ H->SqL K H a xs)
  (hs:∀i x σ H,xs[i]?=some x->Pv i σ H->g x σ H λσ2 H2=>tb {D with nx:=Pv (i+1),ct:=Pv (i+1),bk:=D.nx} σ2 H2) (hd:∀σ H,Pv xs.length σ H->D.nx σ H):G0_ (Itl K a) g tb D σ H:=m7_ Pv h0 hl hs hd
def Gh_:Expr->Bool
 | .Starred .. => false
 |_=>true
theorem av_{e:Expr}{es:List Expr}{env:Env}(h:Gh_ e=true):starEach (e::es) env=(false,eval e env)::starEach es env:=by
 cases e <;> first|rfl|show absurd (show false=true from h) AN_
def FD_:List Expr->Bool
 |[]=>true
 |e::es=>Gh_ e && FD_ es
theorem ck_{pos:Pos}{env:Env}:∀{es:List Expr},FD_ es=true->(backTo pos (starEach es env)).any (·.1)=false
 |[],_=>rfl
 |e::es,h=>by
  have h':Gh_ e=true/\FD_ es=true:=by simpa[FD_]using h
  rw[av_ h'.1];change(false ||(backTo pos (starEach es env)).any (·.1))=false;rw[ck_ h'.2];rfl
def IS_:Expr->Bool
 | .ListComp .. => true
 | .SetComp .. => true
 | .DictComp .. => true
 |_=>false
variable{env:Env}
theorem g6_{e:Expr}{t:Option Expr}{n:Nat}(h:IS_ e=false):swapsWith e t n env=pure false:=by
 cases e <;> first|rfl|show absurd (show true=false from h) Bool.noConfusion
section
variable {x:Str}{ps:List Str}{k:Nat}{sp:Sp}{e:Expr}{es:List Expr}{te:TE}{t:TA}{p pos:Pos}{id:String}{r:List V->Hp->VK->Prop}
theorem pa_c(ha:PE X e te)(hr:PA X es t)(hs:Gh_ e=true:=by rfl):PA X (e::es) (JW_ te t):=oJ_ ha hr (av_ hs)
theorem am_(C:Cal X.prog X.w X.K X.mg X.base x ps k sp)(hr:Hi_ k X.A)(hg:Gl X x)(ha:PA X (e::es) t)(hs:FD_ (e::es)=true:=by rfl) (hdb:(x == ("__debug__" : Str))=false:=by decide):
  PE X (.Call (.Name x p) (e::es) [] pos) (Jd_ sp [] E0 t):=
 have h':Gh_ e=true/\FD_ es=true:=by simpa[FD_]using hs
 ng_ C hr hg ha hdb (av_ h'.1) (ck_ h'.2)
theorem ak_(hc:Ga_ X (.builtin id) r)(hg:Gl X x)(hm:X.mg x=none)(hv:bootBuiltins x=some (.builtin id))(ha:PA X (e::es) t)(hs:FD_ (e::es)=true:=by rfl) (hn:x ≠ "__name__" := by decide) (hdb:(x == ("__debug__" : Str))=false:=by decide):
  PE X (.Call (.Name x p) (e::es) [] pos) (tCB r t):=
 have h':Gh_ e=true/\FD_ es=true:=by simpa[FD_]using hs
 m9_ hc hg hm hv ha hn hdb (av_ h'.1) (ck_ h'.2)
theorem aj_{i:Nat}{pos':Pos}(hN:X.N.Nodup)(hi:X.N[i]?=some x)(hx:X.env.scope.names.lookup x=some .local)(he:PE X e te)(hs:IS_ e=false:=by rfl):PS X (.Assign [.Name x pos'] e pos) (Kj_ te (Hm_ i)):=
 n5_ hN hi (.inl hx) he (g6_ hs) (.inr hx)
theorem ah_{i:Nat}(hN:X.N.Nodup)(hi:X.N[i]?=some x)(hx:X.env.scope.names.lookup x=some .local):PG X (.Name x pos) (Hm_ i):=lT_ hN hi (.inl hx) (.inr hx)
theorem aK_(he:PE X e te)(hs:IS_ e=false:=by rfl):PS X (.Expr e pos) (JX_ te):=oH_ he (g6_ hs)
theorem pv1(i:Nat)(hN:X.N[i]?=some x:=by rfl) (hv:X.env.scope.names.lookup x=some .local:=by rfl) (hd:(x == ("__debug__" : Str))=false:=by decide) (hcd:(x == ("__classdict__" : Str))=false:=by decide):PE X (.Name x pos) (Ki_ i):=n4_ hN (.inl hv) hd hcd
end
def tCut(t:TS):TS:=λD σ H=>∃M:St->Hp->Prop,t {D with nx:=M} σ H/\∀σ' H',M σ' H'->D.nx σ' H'
theorem jf_{st:Stmt}{t:TS}(h:PS X st t):PS X st (tCut t):=by
 intro pins s σ H D I hq;obtain⟨M,h1,h2⟩:=hq;show thn (h pins s σ H _ I h1) λf s' q=>?_;cases f with
 |next=>obtain⟨σ',H',I',m⟩:=q;show⟨σ',H',I',h2 _ _ m⟩
 |brk=>show q
 |cont=>show q
 |ret u=>show q
theorem aH_:bootBuiltins "len"=some (.builtin "len"):=r_
theorem pU_:bootBuiltins "abs"=some (.builtin "abs"):=r_
theorem bP_:bootBuiltins "isinstance"=some (.builtin "isinstance"):=r_
theorem ej_:bootBuiltins "sorted"=some (.builtin "sorted"):=r_
theorem oc_:bootBuiltins "int"=some (.type "int"):=r_
theorem nh_:bootBuiltins "tuple"=some (.type "tuple"):=r_
theorem cs_:bootBuiltins "list"=some (.type "list"):=r_
theorem jg_:bootBuiltins "enumerate"=some (.type "enumerate"):=r_
def Hu_(cells:List (Str×Addr)):List (Str×NameKind)->List (Str×Addr)->List (Str×Addr)
 |[],acc=>acc
 | (n,k)::r,acc=>if k == .free then Hu_ cells r ((n,(cells.lookup n).getD 0)::acc)else Hu_ cells r acc
theorem lu_:∀(names:List (Str×NameKind))(acc:List (Str×Addr)),(∀p∈names,p.2=.free->∃c,env.cells.lookup p.1=some c) ->
  (forIn (m:=Sem) names acc λx r=>(match x with|(name,kind)=>if(kind == NameKind.free)=true then do let a <-cellOf env name;pure (ForInStep.yield ((name,a)::r))else pure (ForInStep.yield r)))=pure (Hu_ env.cells names acc):=by
 intro names
 induction names with
 |nil=>intro acc _;rfl
 |cons p r ih =>
  intro acc h;obtain⟨n,k⟩:=p;rw[BT_];by_cases hk:(k == NameKind.free)=true
  .obtain⟨c,hc⟩:=h (n,k) An_ (by simpa using hk);have e1:cellOf env n=pure c:=by unfold cellOf;rw[hc]
   simp only[hk,if_true,e1];have:=ih ((n,c)::acc) λp hp=>h p (Am_ _ hp);change _=pure (Hu_ env.cells ((n,k)::r) acc);rw[Hu_,if_pos hk,hc];show this
  .simp only[hk];have:=ih acc λp hp=>h p (Am_ _ hp);change _=pure (Hu_ env.cells ((n,k)::r) acc);rw[Hu_,if_neg hk];show this
theorem hX_{scope:Scope}(h:∀p∈scope.names,p.2=.free->∃c,env.cells.lookup p.1=some c):closureFor scope env=pure (Hu_ env.cells scope.names []):=by unfold closureFor;show Eq.trans (congrArg (λz=>z >>= λs=>pure s) (lu_ (env:=env) scope.names [] h)) rfl
theorem iq_{cells:List (Str×Addr)}:∀(names:List (Str×NameKind))(acc:List (Str×Addr)),(∀p∈names,p.2=.free->∃c,cells.lookup p.1=some c)->(∀q∈acc,cells.lookup q.1=some q.2)->∀q∈Hu_ cells names acc,cells.lookup q.1=some q.2
 |[],acc,_,h=>h
 | (n,k)::r,acc,h1,h2=>by
  rw[Hu_];by_cases hk:(k == NameKind.free)=true
  .rw[if_pos hk];show iq_ r _ (λp hp=>h1 p (Am_ _ hp)) λq hq=>?_
   rcases Ar_.mp hq with rfl|hq
   .obtain⟨c,hc⟩:=h1 (n,k) An_ (by simpa using hk);rw[hc];rfl
   .show h2 q hq
  .rw[if_neg hk];show iq_ r _ (λp hp=>h1 p (Am_ _ hp)) h2
theorem ir_{cells:List (Str×Addr)}{x:Str}:∀(names:List (Str×NameKind))(acc:List (Str×Addr)),((x,NameKind.free)∈names\/∃c,(x,c)∈acc)->∃c,(x,c)∈Hu_ cells names acc
 |[],acc,h=>h.elim (λz=>absurd z s_) id
 | (n,k)::r,acc,h=>by
  rw[Hu_];by_cases hk:(k == NameKind.free)=true
  .rw[if_pos hk];show ir_ r _ ?_
   rcases h with h|⟨c,hc⟩
   .rcases Ar_.mp h with e|h
    .cases e;show .inr ⟨_,An_⟩
    .show .inl h
   .show .inr ⟨c,Am_ _ hc⟩
  .rw[if_neg hk];show ir_ r _ ?_
   rcases h with h|h
   .rcases Ar_.mp h with e|h
    .cases e;show absurd rfl hk
    .show .inl h
   .show .inr h
theorem c2_{x:Str}{c:Addr}:∀{l:List (Str×Addr)},(x,c)∈l->∃c',l.lookup x=some c'
 | (n,d)::r,h=>by
  rw[B8_];cases e:x == n with
  |true=>show⟨d,rfl⟩
  |false =>
   rcases Ar_.mp h with z|h
   .cases z;simp at e
   .show c2_ h
theorem g7_{cells:List (Str×Addr)}{q:Str×Addr}:∀(names:List (Str×NameKind))(acc:List (Str×Addr)),q∈Hu_ cells names acc->(q.1,NameKind.free)∈names\/q∈acc
 |[],acc,h=>.inr h
 | (n,k)::r,acc,h=>by
  rw[Hu_]at h;by_cases hk:(k == NameKind.free)=true
  .rw[if_pos hk]at h;have hk':k=.free:=by simpa using hk
   rcases g7_ r _ h with h|h
   .show .inl (Am_ _ h)
   .rcases Ar_.mp h with rfl|h
    .show .inl (by rw[hk'];show An_)
    .show .inr h
  .rw[if_neg hk]at h;show(g7_ r _ h).imp (Am_ _) id
theorem dc_{x:Str}{c:Addr}:∀(names:List (Str×NameKind))(h:Heap)(acc:List (Str×Addr)),(x,c)∈cellsFrom h.objs.size names acc->(x,c)∈acc\/(h.objs.size<=c/\(pushCells h names).IsCell c none/\(x,NameKind.cell)∈names)
 |[],_,_,h=>.inl h
 | (n,k)::r,hp,acc,h=>by
  unfold cellsFrom at h;unfold pushCells;by_cases hk:(k == NameKind.cell)=true
  .rw[if_pos hk]at h⊢;have hk':k=.cell:=by simpa using hk
   have h':(x,c)∈cellsFrom (hp.push {cls:=.type "cell",data:=.cell none}).objs.size r ((n,hp.objs.size)::acc):=by rw[Co_];show h
   rcases dc_ r _ _ h' with h|⟨h1,h2,h3⟩
   .rcases Ar_.mp h with e|h
    .cases e;show .inr ⟨Aj_ _,⟨_,Ds_ r _ _ _ (AA_ _ rfl),rfl⟩,by rw[hk'];show An_⟩
    .show .inl h
   .rw[Co_]at h1;show .inr ⟨o_,h2,Am_ _ h3⟩
  .rw[if_neg hk]at h⊢;show(dc_ r hp acc h).imp id λ⟨h1,h2,h3⟩=>⟨h1,h2,Am_ _ h3⟩
theorem dJ_{x:Str}:∀(names:List (Str×NameKind))(n:Nat)(acc:List (Str×Addr)),((x,NameKind.cell)∈names\/∃c,(x,c)∈acc)->∃c,(x,c)∈cellsFrom n names acc
 |[],_,acc,h=>h.elim (λz=>absurd z s_) id
 | (y,k)::r,n,acc,h=>by
  unfold cellsFrom;by_cases hk:(k == NameKind.cell)=true
  .rw[if_pos hk];show dJ_ r _ _ ?_
   rcases h with h|⟨c,hc⟩
   .rcases Ar_.mp h with e|h
    .cases e;show .inr ⟨_,An_⟩
    .show .inl h
   .show .inr ⟨c,Am_ _ hc⟩
  .rw[if_neg hk];show dJ_ r _ _ ?_
   rcases h with h|h
   .rcases Ar_.mp h with e|h
    .cases e;show absurd rfl hk
    .show .inl h
   .show .inr h
theorem dK_{lo:Nat}:∀(names:List (Str×NameKind))(n:Nat)(acc:List (Str×Addr)),(∀x c,(x,c)∈acc->c<n)->(∀x y c,lo<=c->(x,c)∈acc->(y,c)∈acc->x=y)->∀x y c,lo<=c->(x,c)∈cellsFrom n names acc->(y,c)∈cellsFrom n names acc->x=y
 |[],_,_,_,h=>h
 | (z,k)::r,n,acc,h1,h2=>by
  unfold cellsFrom;by_cases hk:(k == NameKind.cell)=true
  .rw[if_pos hk];show dK_ r _ _ (λx c hm=>?_) λx y c hc hx hy=>?_
   .rcases Ar_.mp hm with e|hm
    .cases e;show Dd_ _
    .show By_ (h1 x c hm)
   .rcases Ar_.mp hx with e|hx <;> rcases Ar_.mp hy with e'|hy
    .cases e;cases e';rfl
    .cases e;show absurd (h1 _ _ hy) (Bf_ _)
    .cases e';show absurd (h1 _ _ hx) (Bf_ _)
    .show h2 x y c hc hx hy
  .rw[if_neg hk];show dK_ r n acc h1 h2
def GH_(scope:Scope)(env:Env)(n:Nat):List (Str×Addr):=cellsFrom (n+1) scope.names (Hu_ env.cells scope.names [])
def cxC(X:Cx)(N':List Str)(scope:Scope)(s:Shared)(H:Hp)(ex:List Addr):Cx :=
 {X with N:=N',s₀:=s,H₀:=H,env:=compEnvC scope (GH_ scope X.env s.heap.objs.size) s.heap.objs.size X.env,outer:=X.stack,ex:=ex,fn:=λx=>decide ((x,NameKind.cell)∈scope.names)}
def pick(σ:St)(ix:List (Option Nat)):St:=ix.map λo=>match o with|some i=>(match σ[i]? with|some v=>v|none=>none)|none=>none
structure Scp(psc:Scope)(PN N':List Str)(ix:List (Option Nat))(scope:Scope):Prop where
 kind:scope.kind=.function
 names:∀x∈scope.names,x.2=.local->scope.names.lookup x.1=some .local
 uni:∀x∈scope.names,x.2=.free->scope.names.lookup x.1=some .free
 apart:∀x∈scope.names,x.2=.cell->(x.1,NameKind.free)∉scope.names
 free:∀x∈scope.names,x.2=.free->psc.names.lookup x.1=some .cell\/psc.names.lookup x.1=some .free
 len:ix.length=N'.length
 at_:∀(j i:Nat)(x:Str),N'[j]?=some x->ix[j]?=some (some i)->PN[i]?=some x/\(x,NameKind.free)∈scope.names
variable {pins:List (Addr×Obj)}{σ:St}{H:Hp}{s:Shared}{N':List Str}{ix:List (Option Nat)}{scope:Scope}{fp:List Addr}
theorem c3_{env:Env}:∀{names:List (Str×NameKind)}{x:Str},names.lookup x=some .free ->
  (names.map λ(n,k)=>if(k == NameKind.free && env.scope.kind == .function && env.kindOf n == some .cell)then(n,NameKind.cell)else(n,k)).lookup x=some .cell \/
  (names.map λ(n,k)=>if(k == NameKind.free && env.scope.kind == .function && env.kindOf n == some .cell)then(n,NameKind.cell)else(n,k)).lookup x=some .free
 |[],_,h=>by simp at h
 | (n,k)::r,x,h=>by
  have ih:=@c3_ env r x;simp only[AZ_];cases hx:x == n with
  |true =>
   simp only[B8_,hx]at h;cases h;by_cases hc:(NameKind.free == NameKind.free && env.scope.kind == .function && env.kindOf n == some .cell)=true
   .rw[if_pos hc];simp[B8_,hx]
   .rw[if_neg hc];simp[B8_,hx]
  |false =>
   simp only[B8_,hx]at h;by_cases hc:(k == NameKind.free && env.scope.kind == .function && env.kindOf n == some .cell)=true
   .rw[if_pos hc];simp only[B8_,hx];show ih h
   .rw[if_neg hc];simp only[B8_,hx];show ih h
theorem g8_{x:Str}(h:scope.names.lookup x=some .free):(relabel scope env).names.lookup x=some .cell\/(relabel scope env).names.lookup x=some .free:=c3_ h
theorem jh_{x:Str}(h:(relabel scope env).names.lookup x=some .cell\/(relabel scope env).names.lookup x=some .free):(x,NameKind.cell)∈scope.names\/(x,NameKind.free)∈scope.names:=by
 have:∃k,(x,k)∈(relabel scope env).names/\(k=.cell\/k=.free):=by
  rcases h with h|h
  .show⟨_,Bq_ h,.inl rfl⟩
  .show⟨_,Bq_ h,.inr rfl⟩
 obtain⟨k,hm,hk⟩:=this;obtain⟨⟨n,k'⟩,hm',e⟩:=Ao_.mp hm
 dsimp only at e
 split at e
 .rename_i hc;cases e;have:k'=.free:=by simp at hc;show hc.1.1
  rw[this]at hm';show .inr hm'
 .cases e
  rcases hk with rfl|rfl
  .show .inl hm'
  .show .inr hm'
theorem ni_(I:Inv X pins σ H s)(S:Scp X.env.scope X.N N' ix scope)(hf:∀b∈fp,HM_ X pins H b)(hfl:∀b∈fp,b<s.heap.objs.size)(t':Nat):
  Inv (cxC X N' scope s H fp) [] (pick σ ix) H {s with heap:=pushCells (s.heap.push {cls:=.type "dict",data:=.dict #[]}) scope.names,toks:=t'}:=by
 have hn:(pushCells (s.heap.push {cls:=.type "dict",data:=.dict #[]}) scope.names).Ns s.heap.objs.size λ_=>none:=(Heap.Ns.new s.heap (.type "dict")).keeps (Ds_ _ _);have hk:∀b o,s.heap.get? b=some o->(pushCells (s.heap.push {cls:=.type "dict",data:=.dict #[]}) scope.names).get? b=some o:=λb o e=>Ds_ _ _ b o (Ak_ _ e);have hfr:∀p∈scope.names,p.2=NameKind.free->∃c,X.env.cells.lookup p.1=some c:=λp hp e=>I.ok.has p.1 (S.free p hp e);have clm:∀q∈Hu_ X.env.cells scope.names [],X.env.cells.lookup q.1=some q.2:=iq_ scope.names [] hfr s_
 have spec:∀x c,(GH_ scope X.env s.heap.objs.size).lookup x=some c->(X.env.cells.lookup x=some c/\(x,NameKind.free)∈scope.names) \/
   (s.heap.objs.size<c/\(pushCells (s.heap.push {cls:=.type "dict",data:=.dict #[]}) scope.names).IsCell c none/\(x,NameKind.cell)∈scope.names):=λx c e=>by
  have hm:(x,c)∈cellsFrom (s.heap.push {cls:=.type "dict",data:=.dict #[]}).objs.size scope.names (Hu_ X.env.cells scope.names []):=by rw[Co_];show Bq_ e
  rcases dc_ scope.names _ _ hm with h|⟨h1,h2,h3⟩
  .show .inl ⟨clm _ h,(g7_ scope.names [] h).elim id (λz=>absurd z s_)⟩
  .rw[Co_]at h1;show .inr ⟨h1,h2,h3⟩
 have hasC:∀x,((relabel scope X.env).names.lookup x=some .cell\/(relabel scope X.env).names.lookup x=some .free)->∃c,(GH_ scope X.env s.heap.objs.size).lookup x=some c:=λx hx=>by have:∃c,(x,c)∈GH_ scope X.env s.heap.objs.size:=dJ_ scope.names _ _ ((jh_ hx).imp id λz=>ir_ scope.names [] (.inl z));obtain⟨c,hc⟩:=this;show c2_ hc
 have cold:∀x c,X.env.cells.lookup x=some c->c<s.heap.objs.size:=λx c e=>let⟨v,q⟩:=I.cell x c e;q.lt
 show⟨⟨I.ok.mod,S.kind,I.ok.glob,I.ok.blt,Aj_ _,λx y c e1 e2=>?_,hasC,λx c z e=>?_,I.ok.hd,I.ok.frames,.inl rfl,
  λb hb=>⟨AL_ (hfl b hb),λx c e=>?_⟩,I.bs,AH_ I.ok.bsz I.sz,λb o e hb=>?_,λb hb z=>?_,I.stack,I.stkFree⟩,
  rfl,I.bare,Un.kept hk,⟨_,hn,λj x v e1 e2 e3=>?_⟩,λx c e=>?_,I.hok.fresh (Aj_ _),λx c e=>?_,λp hp=>?pn,I.hok.kept hk,?_⟩
 case pn =>obtain⟨q1,q2,q3,q4,q5⟩:=I.pin p (Ax_ _ (show p∈X.pn from(Aq_.mp hp).elim id λz=>nomatch z));show⟨hk _ _ q1,q2,AL_ (Ay_ q1),λz=>(Ar_.mp (I.stkSub _ z)).elim q3 q4,q5⟩
 .by_cases hc:c<s.heap.objs.size+1
  .rcases spec x c e1 with⟨q1,_⟩|⟨q1,_⟩
   .rcases spec y c e2 with⟨q2,_⟩|⟨q2,_⟩
    .show I.ok.inj x y c q1 q2
    .show absurd q2 (CL_.mpr (Nat.le_of_lt_succ hc))
   .show absurd q1 (CL_.mpr (Nat.le_of_lt_succ hc))
  .show dK_ (lo:=s.heap.objs.size+1) scope.names _ _ (λx c hm=>By_ (cold x c (clm _ hm))) (λx y c hc hx _=>absurd (cold x c (clm _ hx)) (CL_.mpr (AH_ (C8_ _) hc))) x y c (CL_.mp hc) (Bq_ e1) (Bq_ e2)
 .have z':(x,NameKind.cell)∈scope.names:=AJ_ z
  rcases spec x c e with⟨_,q⟩|⟨q,_⟩
  .show absurd q (S.apart _ z' rfl)
  .show AS_ q
 .rcases spec x c e with⟨q,_⟩|⟨q,_⟩
  .show(hf b hb).2.2.2.2.1 x c q
  .show λz=>absurd (hfl b hb) (CL_.mpr (z▸AS_ q))
 .show(hf b hb).2.2.2.1.elim (λz=>I.ok.noex b o e z) λz=>absurd (AO_ (Ay_ e) I.ok.bsz) (CL_.mpr z)
 .have hb2:=hf b hb
  rcases Ar_.mp (I.stkSub b z)with q|q
  .show hb2.2.1 q
  .show hb2.2.2.1 q
 .have e4:∃i,ix[j]?=some (some i)/\σ[i]?=some (some v):=by
   have e2':(pick σ ix)[j]?=some (some v):=e2;unfold pick at e2';rw[Af_]at e2';cases q:ix[j]? with
   |none=>rw[q]at e2';cases e2'
   |some o =>
    rw[q]at e2';cases o with
    |none=>cases e2'
    |some i =>
     show⟨i,rfl,?_⟩;cases z:σ[i]? with
     |none=>simp[z]at e2'
     |some y=>simp[z]at e2';rw[e2']
  obtain⟨i,e4,e5⟩:=e4;obtain⟨a1,a2⟩:=S.at_ j i x e1 e4;have a3:=S.free _ a2 rfl;obtain⟨m0,hn0,hl0⟩:=I.loc;obtain⟨u,r,l⟩:=hl0 i x v a1 e5 (.inr a3);show⟨u,r,?_⟩
  rcases l with⟨k1,_⟩|⟨k1,c,hcl,hce⟩
  .have k1':X.env.scope.names.lookup x=some .local:=k1
   rcases a3 with z|z <;> (rw[k1']at z;cases z)
  .
   have e3':(relabel scope X.env).names.lookup x=some .local\/(relabel scope X.env).names.lookup x=some .cell\/(relabel scope X.env).names.lookup x=some .free:=e3;have k3:=g8_ (env:=X.env) (S.uni _ a2 rfl);obtain⟨c',hc'⟩:=hasC x k3
   rcases spec x c' hc' with⟨q,_⟩|⟨_,_,q⟩
   .rw[hcl]at q;cases q;show .inr ⟨k3,c,hc',hce.keeps hk⟩
   .show absurd a2 (S.apart _ q rfl)
 .rcases spec x c e with⟨q,_⟩|⟨q,q2,_⟩
  .obtain⟨v,q'⟩:=I.cell x c q;show⟨v,q'.keeps hk⟩
  .show⟨none,q2⟩
 .rcases spec x c e with⟨q,_⟩|⟨q,_⟩
  .show I.freeC x c q
  .show I.hok.fresh (AS_ q)
 .change(pick σ ix).length=N'.length;unfold pick;rw[Ab_];show S.len
variable {prog:Program}{w:World}{A:Around}{R:Result->Shared->Prop}
def IB_(ifs:List Expr)(env:Env):Sem Bool:=forIn ifs true λc r=>if r=true then do let ok <-isTrue c env (eval c env);pure (ForInStep.yield ok)else pure (ForInStep.yield r)
theorem ji_{elt target iter:Expr}{ifs:List Expr}{scope:Scope}{pos:Pos}{it acc:Value}{env:Env}(I:Nat->Shared->Prop)
  (turn:∀n s,I n s->wpAny (model prog w) A (pyNext it) (λr s₁=>match r with
   |none=>R (.ok .next) s₁
   |some v=>wpAny (model prog w) A (letOwnedTupleGo target it v) (λ_ s₁'=>wpAny (model prog w) A (assign target env v) (λ_ s₂=>wpAny (model prog w) A (IB_ ifs env) (λok s₃ =>
     if ok=true then wpAny (model prog w) A (eval elt env) (λx s₄=>wpAny (model prog w) A (call (.builtin "list.append") [acc,x]) (λ_ s₅=>∃m,m<n/\I m s₅) (λ_ _=>False) s₄) (λ_ _=>False) s₃
     else ∃m,m<n/\I m s₃) (λ_ _=>False) s₂) (λ_ _=>False) s₁') (λ_ _=>False) s₁) (λ_ _=>False) s)
  (n:Nat) (h:I n s):codeAny (model prog w) A (.compLoop (.ListComp elt [⟨target,iter,ifs,0⟩] scope pos) 0 it acc env) R s:=by
 show codeAny_loop rfl I (λn s hI=>?_) n h;change wpAny _ _ ((compTurn (.ListComp elt [⟨target,iter,ifs,0⟩] scope pos) 0 it acc env).onRaise (λx=>do noteFrame x env;theTreesLotGoes x)) _ _ s;show wpAny_noted ?_;rw[compTurn_list];show Ac_ (DW_ (Ac_ (Bx_ (turn n s hI) (λr s₁ h₁=>?_) λ_ _ h'=>h'.elim)));cases r with
 |none=>show Ah_ h₁
 |some v =>
  show Ac_ (Bx_ h₁ (λ_ s₁' h₁'=>?_) λ_ _ h'=>h'.elim);show Ac_ (Bx_ h₁' (λ_ s₂ h₂=>Ac_ (Bx_ h₂ (λok s₃ h₃=>?_) λ_ _ h'=>h'.elim)) λ_ _ h'=>h'.elim);cases ok with
  |false=>show Ah_ ⟨rfl,h₃⟩
  |true =>show Ac_ (Ac_ (Bx_ h₃ (λx s₄ h₄=>Ac_ (Bx_ h₄ (λ_ s₅ h₅=>Ah_ (Ah_ ⟨rfl,h₅⟩)) λ_ _ h'=>h'.elim)) λ_ _ h'=>h'.elim))
theorem kh_{M:Model}{A:Around}{E:Value->Shared->Prop}{s:Shared}{scope:Scope}{globals:Addr}{cl:List (Str×Addr)}{qual:Str}{env:Env}{Q:Env->Shared->Prop}
  (hQ:Q {scope:=scope,locals:=s.heap.objs.size,globals:=globals,cells:=cellsFrom (s.heap.objs.size+1) scope.names cl,qual:=qual,func:=none,code:=env.code,frame:=env.frame,builtins:=env.builtins} {s with heap:=pushCells (s.heap.push {cls:=.type "dict",data:=.dict #[]}) scope.names}):
  wpAny M A (newFunctionEnv scope globals cl [] qual none .none (some env)) Q E s:=by
 simp only[newFunctionEnv,Option.isSome_some,if_true];show Ac_ (wpAny_alloc ?_);show Ac_ (wpAny_layCells _ (λname kind cells=>by cases hkc:kind == NameKind.cell <;> simp[hkc]) _ _ _ _ ?_);rw[show({s with heap:=s.heap.push {cls:=.type "dict",data:=.dict #[]}}:Shared).heap.objs.size=s.heap.objs.size+1 from Co_ ..];show Ac_ (Ah_ (Ah_ hQ))
def PF(X:Cx)(ifs:List Expr)(t:TT):Prop :=
 ∀(pins:List (Addr×Obj))(s:Shared)(σ:St)(H:Hp)(Q:Bool->Hp->Prop),Inv X pins σ H s->t σ H Q->wpAny (model X.prog X.w) X.A (IB_ ifs X.env) (TP X pins σ Q) X.xe s
def KM_:TT:=λ_ H Q=>Q true H
theorem dk_:PF X [] KM_:=λ_ _ _ H _ I h=>wpAny_tests_nil ⟨H,I,h⟩
theorem g9_{c:Expr}{t:TT}(h:PT X c t):PF X [c] t:=λpins s σ H Q I q=>wpAny_tests_one (h pins s σ H Q I q)
def Id_(J:It)(g:TG)(tt:TT)(te:TE)(σ:St)(H:Hp)(Q:VK):Prop:=∀D,H D=none->∃W:Nat->Nat->St->Hp->Prop,(∃m,W 0 m σ (upd H D (.lst [])))/\∀i m σ H,W i m σ H ->
 (J.stop i H/\Q (.ref D) H)\/(J.go i H/\∃N:St->Hp->Prop,(∀σ' H',N σ' H'->∃m',m'<m/\W (i+1) m' σ' H')/\∀x H',J.yld i H x H'->g x σ H' λσ2 H2=>tt σ2 H2 λb H3 =>if b=true then te σ2 H3 λv H4=>∃xs,H4 D=some (.lst xs)/\xs.length<sizeLine/\N σ2 (upd H4 D (.lst (xs++[v])))else N σ2 H3)
def Jc_(ix:List (Option Nat))(wi:TI)(g:TG)(tt:TT)(te:TE):TE:=λσ H Q=>wi σ H λJ H1=>Id_ J g tt te (pick σ ix) H1 Q
section
variable {tg iter elt:Expr}{ifs:List Expr}{wi:TI}{g:TG}{tt:TT}{te:TE}{pos:Pos}
structure Ln_(C:Cx->Prop)(P:Program)(w:World)(K:PySem.W.Frag)(tg:Expr)(J:It)(fp:List Addr)(it:Addr)(tn:Nat->Heap->Prop):Prop where
 obj:∀i h,tn i h->∀b∈fp,∃o,h.get? b=some o/\∀v,o.data≠.cell v
 keep:∀i h h',tn i h->(∀b∈fp,∀o,h.get? b=some o->h'.get? b=some o)->tn i h'
 item:∀(X:Cx),X.prog=P->X.w=w->X.K=K->C X->∀(i:Nat)(pins:List (Addr×Obj))(s:Shared)(σ:St)(H:Hp)(E:Value->Shared->Prop),Inv X pins σ H s->(∀b∈fp,HM_ X pins H b)->tn i s.heap->J.go i H ->
  wpAny (model P w) X.A (pyNext (.ref it)) (λr s1=>∃u,r=some u/\wpAny (model P w) X.A (letOwnedTupleGo tg (.ref it) u) (λ_ s2=>∃x H',Inv X pins σ H' s2/\FU_ x u/\J.yld i H x H'/\tn (i+1) s2.heap/\∀b∈fp,H' b=none) E s1) E s
 done:∀(X:Cx),X.prog=P->X.w=w->X.K=K->C X->∀(i:Nat)(pins:List (Addr×Obj))(s:Shared)(σ:St)(H:Hp)(E:Value->Shared->Prop),Inv X pins σ H s->(∀b∈fp,HM_ X pins H b)->tn i s.heap->J.stop i H ->
  wpAny (model P w) X.A (pyNext (.ref it)) (λr s1=>r=none/\Inv X pins σ H s1) E s
 self:∀(A:Around)(i:Nat)(s:Shared)(Q:Value->Shared->Prop)(E:Value->Shared->Prop),tn i s.heap->Q (.ref it) s->wpAny (model P w) A (pyIter (.ref it)) Q E s
def PIc(C:Cx->Prop)(X:Cx)(tg iter:Expr)(wi:TI):Prop:=∀(pins:List (Addr×Obj))(s:Shared)(σ:St)(H:Hp)(R:It->Hp->Prop),Inv X pins σ H s->wi σ H R ->
 wpAny (model X.prog X.w) X.A (eval iter X.env) (λv s1=>wpAny (model X.prog X.w) X.A (pyIter v) (λitv s2=>∃(it:Addr)(fp:List Addr)(tn:Nat->Heap->Prop)(J:It)(H':Hp),itv=.ref it/\Inv X pins σ H' s2/\Ln_ C X.prog X.w X.K tg J fp it tn/\tn 0 s2.heap/\(∀b∈fp,HM_ X pins H' b)/\R J H') X.xe s1) X.xe s
theorem PI.c(h:PI X tg iter wi):PIc (λX=>X.calm=true) X tg iter wi:=λpins s σ H R I q=>thn (h pins s σ H R I q) λ_ _ h1=>thn h1 λ_ _ ⟨it,fp,tn,J,H',e,I2,T,z⟩=>⟨it,fp,tn,J,H',e,I2,⟨T.obj,T.keep,T.item,T.done,T.self⟩,z⟩
theorem jj_{C:Cx->Prop}(hc:∀s H ex,C (cxC X N' scope s H ex))(hxe:X.xe=λ_ _=>False)(S:Scp X.env.scope X.N N' ix scope)(hi:PIc C X tg iter wi)(hg:∀s H ex,PG (cxC X N' scope s H ex) tg g)(ht:∀s H ex,PF (cxC X N' scope s H ex) ifs tt)(he:∀s H ex,PE (cxC X N' scope s H ex) elt te)
  {pins:List (Addr×Obj)} {s:Shared} {σ:St} {H:Hp} {Q:VK} (I:Inv X pins σ H s) (h:Jc_ ix wi g tt te σ H Q) {Post:Value->Addr->Result->Shared->Prop}
  (fin':∀(D C:Addr)(H':Hp)(s':Shared),Inv X pins σ H' s'->HM_ X pins H' C->(∃m,s'.heap.Ns C m)->Q (.ref D) H'->Post (.ref D) C (.ok .next) s'):
  wpAny (model X.prog X.w) X.A (eval iter X.env) (λx s₁=>wpAny (model X.prog X.w) X.A (pyIter x) (λit s₂=>wpAny (model X.prog X.w) X.A (newList []) (λacc s₃ =>wpAny (model X.prog X.w) X.A (newFunctionEnv scope X.env.globals (Hu_ X.env.cells scope.names []) [] X.env.qual none .none (some X.env)) (λcenv s₄ =>codeAny (model X.prog X.w) X.A (.compStart (.ListComp elt [⟨tg,iter,ifs,0⟩] scope pos) 0 it acc {cenv with scope:=relabel scope X.env}) (Post acc cenv.locals) s₄) X.xe s₃) X.xe s₂) X.xe s₁) X.xe s:=by
 show thn (hi pins s σ H _ I h) λv s1 h1=>thn h1 λitv s2 h2=>?_;obtain⟨it,fp,tn,J,H2,e,I2,T,st2,f2,go⟩:=h2;subst e;show BZ_ ?_;have hD:H2 s2.heap.objs.size=none:=I2.hok.fresh (Aj_ _)
 have I3:Inv X pins σ (upd H2 s2.heap.objs.size (.lst [])) {s2 with heap:=s2.heap.push {cls:=.type "list",dict:=none,data:=.seq ([]:List Value).toArray}} :=
  I2.laid (t':=s2.toks) (λb u e=>Ak_ _ e) (Aj_ _) ⟨AE_ _,[],0,.nil,AA_ _ rfl⟩
 obtain⟨W,⟨m0,w0⟩,turn⟩:=go s2.heap.objs.size hD;have fpl:∀b∈fp,b<s2.heap.objs.size:=λb hb=>let⟨o,e,_⟩:=T.obj _ _ st2 b hb;Ay_ e;have tF:∀{α:Type}{t:Sem α}{Q':α->Shared->Prop}{s':Shared},wpAny (model X.prog X.w) X.A t Q' X.xe s'->wpAny (model X.prog X.w) X.A t Q' (λ_ _=>False) s':=λhw=>hxe▸hw;generalize hH3:upd H2 s2.heap.objs.size (.lst [])=H3 at I3 w0;generalize hs3:({s2 with heap:=s2.heap.push {cls:=.type "list",dict:=none,data:=.seq ([]:List Value).toArray}}:Shared)=s3 at I3⊢;have h23:∀b o,s2.heap.get? b=some o->s3.heap.get? b=some o:=λb o e=>by rw[<-hs3];show Ak_ _ e
 have sz3:s2.heap.objs.size<=s3.heap.objs.size:=by rw[<-hs3];change _<=(s2.heap.push _).objs.size;rw[Co_];show C8_ _
 have fpl3:∀b∈fp,b<s3.heap.objs.size:=λb hb=>AO_ (fpl b hb) sz3;have f3:∀b∈fp,HM_ X pins H3 b:=λb hb=>⟨by rw[<-hH3,ae_ (AL_ (fpl b hb))];show(f2 b hb).1,(f2 b hb).2⟩;show kh_ ?_;generalize hh1:pushCells (s3.heap.push {cls:=.type "dict",data:=.dict #[]}) scope.names=h1;have hk:∀b o,s3.heap.get? b=some o->h1.get? b=some o:=λb o e=>by rw[<-hh1];show Ds_ _ _ b o (Ak_ _ e)
 have I4:Inv (cxC X N' scope s3 H3 fp) [] (pick σ ix) H3 {s3 with heap:=h1}:=by rw[<-hh1];show ni_ I3 S f3 fpl3 s3.toks
 have st4:tn 0 h1:=T.keep _ _ _ st2 λb hb o e=>hk b o (h23 b o e);have fin:∀{σ':St}{H':Hp}{s':Shared},Inv (cxC X N' scope s3 H3 fp) [] σ' H' s'->Q (.ref s2.heap.objs.size) H'->Post (.ref s2.heap.objs.size) s3.heap.objs.size (.ok .next) s':=λ{σ' H' s'} J q=>by obtain⟨m,hn,_⟩:=J.loc;have K1:Inv X pins σ H' s':=I3.call' J.os J.base J.hok J.bare λb hb=>⟨(f3 b hb).2.2.2.1,(f3 b hb).2.1,(f3 b hb).2.2.2.2.1,(f3 b hb).2.2.2.2.2⟩;show fin' _ _ H' s' K1 (I3.fpOk (b:=s3.heap.objs.size) (Aj_ _) (show H' s3.heap.objs.size=none from J.free)) ⟨m,hn⟩ q
 have loop:codeAny (model X.prog X.w) X.A (.compLoop (.ListComp elt [⟨tg,iter,ifs,0⟩] scope pos) 0 (.ref it) (.ref s2.heap.objs.size) (compEnvC scope (GH_ scope X.env s3.heap.objs.size) s3.heap.objs.size X.env)) (Post (.ref s2.heap.objs.size) s3.heap.objs.size) {s3 with heap:=h1}:=by
  show ji_ (λn s'=>∃i σ' H',Inv (cxC X N' scope s3 H3 fp) [] σ' H' s'/\tn i s'.heap/\(∀b∈fp,H' b=none)/\W i n σ' H') ?_ m0 ⟨0,_,H3,I4,st4,λb hb=>(f3 b hb).1,w0⟩;rintro n s5 ⟨i,σ5,H5,I5,st5,fr5,w5⟩;have stat:∀{H':Hp},(∀b∈fp,H' b=none)->∀b∈fp,HM_ (cxC X N' scope s3 H3 fp) [] H' b:=λhn b hb=>⟨hn b hb,(I5.ok.exf b hb).1,I5.ok.exfs b hb,.inl hb,(I5.ok.exf b hb).2,λp hp=>(f3 b hb).2.2.2.2.2 p (Ax_ _ (show p∈X.pn from(Aq_.mp hp).elim id λz=>nomatch z))⟩
  rcases turn i n σ5 H5 w5 with⟨stop,qn⟩|⟨go,N,hN,step⟩
  .show thn (tF (T.done (cxC X N' scope s3 H3 fp) rfl rfl rfl (hc _ _ _) i [] s5 σ5 H5 X.xe I5 (stat fr5) st5 stop)) λr s6 ⟨hr,I6⟩=>?_;subst hr;show fin I6 qn
  .show thn (tF (T.item (cxC X N' scope s3 H3 fp) rfl rfl rfl (hc _ _ _) i [] s5 σ5 H5 X.xe I5 (stat fr5) st5 go)) λr s6 ⟨u,hr,h6⟩=>?_;subst hr;show thn (tF h6) λ_ s7 ⟨x,H7,I7,r7,y7,st7,fr7⟩=>?_;have I7':=I7.pinned (stat fr7) (T.obj _ _ st7);have again:∀{σ':St}{H':Hp}{s':Shared},Inv (cxC X N' scope s3 H3 fp) ([]++Hx_ fp s7.heap) σ' H' s'->N σ' H'->∃m,m<n/\∃i σ' H',Inv (cxC X N' scope s3 H3 fp) [] σ' H' s'/\tn i s'.heap/\(∀b∈fp,H' b=none)/\W i m σ' H':=λ{σ' H' s'} J n10=>by obtain⟨m',hm,w10⟩:=hN σ' H' n10;show⟨m',hm,i+1,σ',H',J.unpinned,T.keep _ _ _ st7 λb hb o e=>(J.pin (b,o) (AD_ _ (AD_ _ (eK_ hb e)))).1,λb hb=>?_,w10⟩;obtain⟨o,e,d⟩:=T.obj _ _ st7 b hb;show(J.pin (b,o) (AD_ _ (AD_ _ (eK_ hb e)))).2.1
   show thn (tF (hg s3 H3 fp _ s7 σ5 H7 x u _ I7' r7 (step x H7 y7))) λ_ s8 ⟨σ8,H8,I8,q8⟩=>?_;show thn (tF (ht s3 H3 fp _ s8 σ8 H8 _ I8 q8)) λok s8' ⟨H8',I8',q8'⟩=>?_;cases ok with
   |false=>show again I8' (by simpa using q8')
   |true =>rw[if_pos rfl]at q8'⊢;show thn (tF (he s3 H3 fp _ s8' σ8 H8' _ I8' q8')) λv s9 ⟨y,H9,I9,r9,xs,hl9,hz9,n9⟩=>?_;show thn (tF (aQ_ (X:=cxC X N' scope s3 H3 fp) _ s9 σ8 H9 (.ref s2.heap.objs.size) [y] (.ref s2.heap.objs.size) [v] (λ_ H'=>N σ8 H') I9 rfl (.cons r9 .nil) ⟨xs,hl9,hz9,n9⟩)) λ_ s10 ⟨_,H10,I10,_,n10⟩=>again I10 n10
 show codeAny_compStart_list loop (T.self _ 0 _ _ _ st4 loop)
theorem cG_(hc:X.calm=true)(hxe:X.xe=λ_ _=>False)(S:Scp X.env.scope X.N N' ix scope)(hi:PI X tg iter wi)(hg:∀s H ex,PG (cxC X N' scope s H ex) tg g)(ht:∀s H ex,PF (cxC X N' scope s H ex) ifs tt)(he:∀s H ex,PE (cxC X N' scope s H ex) elt te)
  (hs:∀x,foldedSetIterable iter X.env x=pure x:=by intro _;rfl):PE X (.ListComp elt [⟨tg,iter,ifs,0⟩] scope pos) (Jc_ ix wi g tt te):=by
 intro pins s σ H Q I h;rw[eval_ListComp];show D6_ (use:=none) rfl hs (hX_ λp hp e=>I.ok.has p.1 (S.free p hp e)) S.kind S.names (jj_ (C:=λX=>X.calm=true) (λ_ _ _=>hc) hxe S hi.c hg ht he I h λD C H' s' K1 F ⟨m,hn⟩ q=>?_);show⟨m,hn,λh' sb=>?_⟩;obtain⟨g0,g1,g2,g3,g4,g5⟩:=F;show⟨.ref D,H',K1.turned (t':=s'.toks) (λb o hb e=>sb.extBut b o hb e) g0 g1 g3 g4 g5,rfl,q⟩
theorem dL_{i:Nat}{y:Str}{py spos:Pos}(hc:X.calm=true)(hxe:X.xe=λ_ _=>False)(hN:X.N.Nodup)(hy:X.N[i]?=some y)(hl:X.env.scope.names.lookup y=some .local)
  (hsw:swapsWith (.ListComp elt [⟨tg,iter,ifs,0⟩] scope pos) (some (.Name y py)) spos.line X.env=pure true)
  (S:Scp X.env.scope X.N N' ix scope) (hi:PI X tg iter wi) (hg:∀s H ex,PG (cxC X N' scope s H ex) tg g) (ht:∀s H ex,PF (cxC X N' scope s H ex) ifs tt) (he:∀s H ex,PE (cxC X N' scope s H ex) elt te)
  (hs:∀x,foldedSetIterable iter X.env x=pure x:=by intro _;rfl):PS X (.Assign [.Name y py] (.ListComp elt [⟨tg,iter,ifs,0⟩] scope pos) spos) (Kj_ (Jc_ ix wi g tt te) (Hm_ i)):=by
 intro pins s σ H D I h;rw[exec_Assign_Name_used _ _ _ _ hsw];show Ac_ (DW_ (Ac_ ?_));change wpAny _ X.A (do let _ <-comprehension (.ListComp elt [⟨tg,iter,ifs,0⟩] scope pos) scope X.env _ (newList []) false (eval iter X.env) (some (assign (.Name y py) X.env))) _ _ s
 show Ac_ (Bx_ (D6_ (use:=some (assign (.Name y py) X.env)) (Q:=λ_ s'=>SP X pins D .next s') rfl hs (hX_ λp hp e=>I.ok.has p.1 (S.free p hp e)) S.kind S.names
  (jj_ (C:=λX=>X.calm=true) (λ_ _ _=>hc) hxe S hi.c hg ht he I h λL C H' s' K1 F ⟨m,hn⟩ q=>?_)) (λ_ s' hq=>Ah_ (Ah_ hq)) λ_ _ e=>e)
 change wpAny _ X.A (assign (.Name y py) X.env (.ref L)) _ _ _;obtain⟨g0,g1,g2,g3,g4,g5⟩:=F;show wpAny_assign_Name (i0_ K1 hN hy (.inl hl) (v:=.ref L) rfl (λs2 I2 ⟨a,sb,ha⟩=>?_) (.inr hl))
 have hCa:C≠a:=by
  rcases ha with rfl|ha
  .show g1
  .show λz=>g4 _ _ ha z.symm
 show⟨m,hn.sameBut sb hCa,λh' sb'=>?_⟩;show⟨_,H',I2.turned (t':=s2.toks) (λb o hb e=>sb'.extBut b o hb e) g0 g1 g3 g4 g5,q⟩
end
def G5_(psc:Scope)(PN N':List Str)(ix:List (Option Nat))(scope:Scope):Bool :=
 scope.kind == .function &&
 scope.names.all (λx=>x.2 != .local ||scope.names.lookup x.1 == some .local) &&
 scope.names.all (λx=>x.2 != .free ||scope.names.lookup x.1 == some .free) &&
 scope.names.all (λx=>x.2 != .cell || !scope.names.contains (x.1,NameKind.free)) &&
 scope.names.all (λx=>x.2 != .free ||(psc.names.lookup x.1 == some .cell ||psc.names.lookup x.1 == some .free)) &&
 ix.length == N'.length &&
 (List.range N'.length).all (λj=>match ix[j]?,N'[j]? with|some (some i),some x=>PN[i]? == some x && scope.names.contains (x,NameKind.free)|_,_=>true)
theorem bL_{psc:Scope}{PN:List Str}(h:G5_ psc PN N' ix scope=true):Scp psc PN N' ix scope:=by
 unfold G5_ at h;simp only[B7_,B9_,beq_iff_eq,Bool.or_eq_true,bne_iff_ne,ne_eq,Dh_,Bool.not_eq_true',AX_]at h;obtain⟨⟨⟨⟨⟨⟨h1,h2⟩,h3⟩,h4⟩,h5⟩,h6⟩,h7⟩:=h;show⟨h1,λx hx e=>(h2 x hx).resolve_left λz=>z e,λx hx e=>(h3 x hx).resolve_left λz=>z e,λx hx e hm=>?_,λx hx e=>(h5 x hx).resolve_left λz=>z e,h6,λj i x e1 e2=>?_⟩
 .have:=(h4 x hx).resolve_left λz=>z e;rw[Dh_.mpr hm]at this;cases this
 .have hj:j<N'.length:=(Ai_.mp e1).1;have:=h7 j hj;rw[e1,e2]at this;simp only[B7_,beq_iff_eq,Dh_]at this;show this
variable {x:Str}{pos:Pos}{i:Nat}{e:Expr}{te:TE}
theorem pvc(i:Nat)(hN:X.N[i]?=some x:=by rfl) (hv:X.env.scope.names.lookup x=some .cell:=by rfl) (hd:(x == ("__debug__" : Str))=false:=by decide) (hcd:(x == ("__classdict__" : Str))=false:=by decide):PE X (.Name x pos) (Ki_ i):=n4_ hN (.inr (.inl hv)) hd hcd
theorem ek_{pos':Pos}(hN:X.N.Nodup)(hi:X.N[i]?=some x)(hx:X.env.scope.names.lookup x=some .cell)(hf:X.fn x=true)(he:PE X e te)(hs:swapsWith e (some (.Name x pos')) pos.line X.env=pure false):PS X (.Assign [.Name x pos'] e pos) (Kj_ te (Hm_ i)):=
 n5_ hN hi (.inr hx) he hs (.inl hf)
theorem kX_(hN:X.N.Nodup)(hi:X.N[i]?=some x)(hx:X.env.scope.names.lookup x=some .cell)(hf:X.fn x=true):PG X (.Name x pos) (Hm_ i):=lT_ hN hi (.inr hx) (.inl hf)
theorem ax_{tg l:Expr}{tl:TE}(hK:X.K=K)(hl:PE X l tl):PI X tg l (JY_ K tl):=hK▸oI_ hl
theorem oO_{tg l:Expr}{tl:TE}(hK:X.K=K)(hl:PE X l tl):PI X tg l (Lu_ K tl):=hK▸pN_ hl
theorem nj_(hK:X.K=K):IxR X (LU_ K):=hK▸l4_
inductive Dt where
 |non|bl (b:Bool)|int (i:Int)|str (x:Str)|tup (xs:List Dt)|lst (xs:List Dt)
mutual
def Rep(H:Hp):V->Dt->Prop
 |v,.non=>v=.non
 |v,.bl b=>v=.bl b
 |v,.int i=>v=.int i
 |v,.str x=>v=.str x
 |v,.tup ds=>∃p xs,v=.ref p/\H p=some (.tup xs)/\FM_ H xs ds
 |v,.lst ds=>∃p xs,v=.ref p/\H p=some (.lst xs)/\FM_ H xs ds
def FM_(H:Hp):List V->List Dt->Prop
 |xs,[]=>xs=[]
 |xs,d::ds=>∃x r,xs=x::r/\Rep H x d/\FM_ H r ds
end
mutual
theorem Rep.mono{H H':Hp}(e:Fo_ H H'):∀{v:V}(d:Dt),Rep H v d->Rep H' v d
 |v,.non,h=>h
 |v,.bl b,h=>h
 |v,.int i,h=>h
 |v,.str x,h=>h
 |v,.tup ds,⟨p,xs,h1,h2,h3⟩=>⟨p,xs,h1,e _ _ h2,FM_.mono e ds h3⟩
 |v,.lst ds,⟨p,xs,h1,h2,h3⟩=>⟨p,xs,h1,e _ _ h2,FM_.mono e ds h3⟩
theorem FM_.mono{H H':Hp}(e:Fo_ H H'):∀{xs:List V}(ds:List Dt),FM_ H xs ds->FM_ H' xs ds
 |xs,[],h=>h
 |xs,d::ds,⟨x,r,h1,h2,h3⟩=>⟨x,r,h1,Rep.mono e d h2,FM_.mono e ds h3⟩
end
mutual
theorem Rep.inj{H:Hp}:∀{v:V}(d e:Dt),Rep H v d->Rep H v e->d=e
 |v,.non,e,h,h'=>by
  cases h;cases e <;> first|rfl|(simp[Rep]at h')
 |v,.bl b,e,h,h'=>by
  cases h;cases e <;> simp[Rep]at h' <;> simp[h']
 |v,.int i,e,h,h'=>by
  cases h;cases e <;> simp[Rep]at h' <;> simp[h']
 |v,.str x,e,h,h'=>by
  cases h;cases e <;> simp[Rep]at h' <;> simp[h']
 |v,.tup ds,e,⟨p,xs,h1,h2,h3⟩,h'=>by
  subst h1;cases e with
  |tup es =>
   obtain⟨p',xs',g1,g2,g3⟩:=h';cases g1;rw[h2]at g2;cases g2;rw[FM_.inj ds es h3 g3]
  |lst es =>
   obtain⟨p',xs',g1,g2,g3⟩:=h';cases g1;rw[h2]at g2;cases g2
  |_=>simp[Rep]at h'
 |v,.lst ds,e,⟨p,xs,h1,h2,h3⟩,h'=>by
  subst h1;cases e with
  |tup es =>
   obtain⟨p',xs',g1,g2,g3⟩:=h';cases g1;rw[h2]at g2;cases g2
  |lst es =>
   obtain⟨p',xs',g1,g2,g3⟩:=h';cases g1;rw[h2]at g2;cases g2;rw[FM_.inj ds es h3 g3]
  |_=>simp[Rep]at h'
theorem FM_.inj{H:Hp}:∀{xs:List V}(ds es:List Dt),FM_ H xs ds->FM_ H xs es->ds=es
 |xs,[],es,h,h'=>by
  cases h;cases es with
  |nil=>rfl
  |cons e es=>obtain⟨x,r,g,_⟩:=h';cases g
 |xs,d::ds,es,⟨x,r,h1,h2,h3⟩,h'=>by
  subst h1;cases es with
  |nil=>cases h'
  |cons e es =>obtain⟨x',r',g1,g2,g3⟩:=h';cases g1;rw[Rep.inj d e h2 g2,FM_.inj ds es h3 g3]
end
theorem FM_.length{H:Hp}:∀{xs:List V}{ds:List Dt},FM_ H xs ds->xs.length=ds.length
 |xs,[],h=>by cases h;rfl
 |xs,d::ds,⟨x,r,h1,h2,h3⟩=>by subst h1;simp[FM_.length h3]
theorem FM_.get{H:Hp}:∀{xs:List V}{ds:List Dt}{i:Nat}{d:Dt},FM_ H xs ds->ds[i]?=some d->∃x,xs[i]?=some x/\Rep H x d
 |xs,[],i,d,h,e=>by simp at e
 |xs,d'::ds,0,d,⟨x,r,h1,h2,h3⟩,e=>by
  subst h1;simp at e;subst e;show⟨x,rfl,h2⟩
 |xs,d'::ds,i+1,d,⟨x,r,h1,h2,h3⟩,e=>by subst h1;obtain⟨y,hy,hr⟩:=FM_.get (i:=i) (d:=d) h3 (by simpa using e);show⟨y,by simpa using hy,hr⟩
theorem FM_.append{H:Hp}:∀{xs:List V}{ds:List Dt}{ys:List V}{es:List Dt},FM_ H xs ds->FM_ H ys es->FM_ H (xs++ys) (ds++es)
 |xs,[],ys,es,h,g=>by cases h;show g
 |xs,d::ds,ys,es,⟨x,r,h1,h2,h3⟩,g=>by subst h1;show⟨x,r++ys,rfl,h2,FM_.append h3 g⟩
mutual
def deq:Dt->Dt->Option Bool
 | .non,.non=>some true
 | .bl a,.bl b=>some (a == b)
 | .int a,.int b=>some (a == b)
 | .str a,.str b=>some (a == b)
 | .tup xs,.tup ys=>deqs xs ys
 | .lst xs,.lst ys=>if xs.length=ys.length then deqs xs ys else some false
 |_,_=>none
def deqs:List Dt->List Dt->Option Bool
 |[],[]=>some true
 |x::xs,y::ys=>match deq x y,deqs xs ys with
  |some a,some b=>some (a && b)
  |_,_=>none
 |_,_=>some false
end
mutual
def dep:Dt->Nat
 | .tup ds=>deps ds+1
 | .lst ds=>deps ds+1
 |_=>0
def deps:List Dt->Nat
 |[]=>0
 |d::ds=>max (dep d) (deps ds)
end
def eAt(ds es:List Dt)(j:Nat):Bool:=match ds[j]?,es[j]? with
 |some d,some e=>(deq d e).getD false
 |_,_=>false
theorem dl_:∀(ds es:List Dt)(b:Bool),deqs ds es=some b->((List.range (min ds.length es.length)).all (eAt ds es) && ds.length == es.length)=b
 |[],[],b,h=>by cases h;rfl
 |[],_::_,b,h=>by cases h;simp
 |_::_,[],b,h=>by cases h;simp
 |d::ds,e::es,b,h=>by
  rw[deqs]at h;cases h1:deq d e with
  |none=>rw[h1]at h;cases h
  |some a =>
   cases h2:deqs ds es with
   |none=>rw[h1,h2]at h;cases h
   |some c =>
    rw[h1,h2]at h;cases h;rw[<-dl_ ds es c h2];simp only[AM_,Nat.succ_min_succ,List.range_succ_eq_map,E4_,List.all_map,Bool.and_assoc];congr 1
    .simp[eAt,h1]
    .congr 1;simp
mutual
theorem is_:∀(d:Dt)(b:Bool),deq d d=some b->b=true
 | .non,b,h=>by cases h;rfl
 | .bl a,b,h=>by simp[deq]at h;show h
 | .int a,b,h=>by simp[deq]at h;show h
 | .str a,b,h=>by simp[deq]at h;show h
 | .tup xs,b,h=>ha_ xs b h
 | .lst xs,b,h=>by rw[deq,if_pos rfl]at h;show ha_ xs b h
theorem ha_:∀(ds:List Dt)(b:Bool),deqs ds ds=some b->b=true
 |[],b,h=>by cases h;rfl
 |d::ds,b,h=>by
  rw[deqs]at h;cases h1:deq d d with
  |none=>rw[h1]at h;cases h
  |some a =>
   cases h2:deqs ds ds with
   |none=>rw[h1,h2]at h;cases h
   |some c =>rw[h1,h2]at h;cases h;rw[is_ d a h1,ha_ ds c h2];rfl
end
def Vw(K:PySem.W.Frag)(H J:Hp):Prop:=(∀q xs,J q=some (.tup xs)->SqT K H q xs)/\∀q xs,J q=some (.lst xs)->SqL K H q xs
theorem Vw.refl:Vw K H H:=⟨λ_ _ h=>.inl (.inl h),λ_ _ h=>.inl (.inl h)⟩
mutual
theorem jk_(I:Inv X pins σ H s){J:Hp}(hJ:Vw X.K H J):∀(d e:Dt){A:Around}{x y:V}{u v:Value}{b:Bool},Rep J x d->Rep J y e->FU_ x u->FU_ y v->deq d e=some b->A.units+dep d<cLine->SeqAt.EqAt A s u v b
 | .non,e,A,x,y,u,v,b,hx,hy,rx,ry,hb,hu=>by
  cases e <;> first|(cases hb;cases hx;cases hy;cases rx;cases ry;show Dr_ _)|(simp[deq]at hb)
 | .bl a,e,A,x,y,u,v,b,hx,hy,rx,ry,hb,hu=>by
  cases e <;> first|(cases hb;cases hx;cases hy;cases rx;cases ry;show EW_ _ _)|(simp[deq]at hb)
 | .int a,e,A,x,y,u,v,b,hx,hy,rx,ry,hb,hu=>by
  cases e <;> first|(cases hb;cases hx;cases hy;obtain⟨t,rfl⟩:=rx;obtain⟨t',rfl⟩:=ry;show DP_ _ _ _ _)|(simp[deq]at hb)
 | .str a,e,A,x,y,u,v,b,hx,hy,rx,ry,hb,hu=>by
  cases e <;> first|(cases hb;cases hx;cases hy;obtain⟨t,rfl⟩:=rx;obtain⟨t',rfl⟩:=ry;show SeqAt.EqAt.str_str _ _ _ _)|(simp[deq]at hb)
 | .tup ds,e,A,x,y,u,v,b,hx,hy,rx,ry,hb,hu=>by
  cases e with
  |tup es =>
   obtain⟨p,xs,e1,hp,hr⟩:=id hx;obtain⟨q,ys,e2,hq,hs⟩:=id hy;subst e1 e2;cases rx;cases ry;by_cases hpq:p=q
   .subst hpq;have:=Rep.inj _ _ hx hy;cases this;rw[is_ _ b hb];show Dr_ _
   .obtain⟨its,r1,pl1,_⟩:=I.tuple (hJ.1 _ _ hp);obtain⟨its',r2,pl2,_⟩:=I.tuple (hJ.1 _ _ hq);have l1:=r1.length;have l2:=r2.length;have g1:=hr.length;have g2:=hs.length;have hu':A.in1.units+deps ds<cLine:=by have:A.units+(deps ds+1)<cLine:=hu;rw[Bh_];lia
    have hb':deqs ds es=some b:=hb;rw[<-dl_ ds es b hb'];have:=SeqAt.RcAt.tuples (e:=eAt ds es) (A:=A) (s:=s) pl1 pl2 (BB_ (Cq_ _ _) hu) (λj h1 h2=>by have:=hb_ I hJ ds es hr hs r1 r2 hb' hu' j (by simpa using h1) (by simpa using h2);simpa using this);simp only[Au_,<-l1,<-l2,g1,g2]at this;show DQ_ hpq this
  |_=>simp[deq]at hb
 | .lst ds,e,A,x,y,u,v,b,hx,hy,rx,ry,hb,hu=>by
  cases e with
  |lst es =>
   obtain⟨p,xs,e1,hp,hr⟩:=id hx;obtain⟨q,ys,e2,hq,hs⟩:=id hy;subst e1 e2;cases rx;cases ry;by_cases hpq:p=q
   .subst hpq;have:=Rep.inj _ _ hx hy;cases this;rw[is_ _ b hb];show Dr_ _
   .obtain⟨its,r1,pl1,_⟩:=I.list (hJ.2 _ _ hp);obtain⟨its',r2,pl2,_⟩:=I.list (hJ.2 _ _ hq);have l1:=r1.length;have l2:=r2.length;have g1:=hr.length;have g2:=hs.length;have hu0:A.units<cLine:=BB_ (Cq_ _ _) hu;have hu':A.in1.units+deps ds<cLine:=by have:A.units+(deps ds+1)<cLine:=hu;rw[Bh_];lia
    rw[deq]at hb;by_cases hl:ds.length=es.length
    .rw[if_pos hl]at hb;rw[<-dl_ ds es b hb];have:=SeqAt.RcAt.lists (e:=eAt ds es) (A:=A) (s:=s) pl1.isList pl2.isList (by simp only[Au_];lia) hu0 (λj h1 h2=>by have:=hb_ I hJ ds es hr hs r1 r2 hb hu' j (by simpa using h1) (by simpa using h2);simpa using this);simp only[Au_,<-l1,g1]at this;show DQ_ hpq ?_;have e3:min ds.length es.length=ds.length:=o_
     rw[e3,hl];simpa[hl]using this
    .rw[if_neg hl]at hb;cases hb;show DQ_ hpq (SeqAt.RcAt.lists_lengths pl1.isList pl2.isList (by simp only[Au_,bne_iff_ne,ne_eq];lia) hu0)
  |_=>simp[deq]at hb
theorem hb_(I:Inv X pins σ H s){J:Hp}(hJ:Vw X.K H J):∀(ds es:List Dt){A:Around}{xs ys:List V}{us vs:List Value}{b:Bool},FM_ J xs ds->FM_ J ys es->FO_ xs us->FO_ ys vs->deqs ds es=some b->A.units+deps ds<cLine ->
  ∀(j:Nat)(h1:j<us.length)(h2:j<vs.length),SeqAt.EqAt A s us[j] vs[j] (eAt ds es j)
 |[],es,A,xs,ys,us,vs,b,hx,hy,rx,ry,hb,hu,j,h1,h2=>by
  cases hx;cases rx;show absurd h1 (Dt_ _)
 |d::ds,es,A,xs,ys,us,vs,b,⟨x,r,e1,hd,hr⟩,hy,rx,ry,hb,hu,j,h1,h2=>by
  subst e1;cases es with
  |nil =>
   cases hy;cases ry;show absurd h2 (Dt_ _)
  |cons e es =>
   obtain⟨y,r',e2,he,hs⟩:=hy;subst e2;cases rx with
   |cons rx rxs =>
    cases ry with
    |cons ry rys =>
     rw[deqs]at hb;cases g1:deq d e with
     |none=>rw[g1]at hb;cases hb
     |some a =>
      cases g2:deqs ds es with
      |none=>rw[g1,g2]at hb;cases hb
      |some c =>
       have hm:A.units+max (dep d) (deps ds)<cLine:=hu;cases j with
       |zero =>
        have:=jk_ I hJ d e (A:=A) hd he rx ry g1 o_;simpa[eAt,g1]using this
       |succ j =>have:=hb_ I hJ ds es (A:=A) hr hs rxs rys g2 o_ j (by simpa using h1) (by simpa using h2);simpa[eAt]using this
end
def rEqV(K:PySem.W.Frag):R2:=λx y H Q=>∃J p q d e b,Vw K H J/\x=.ref p/\y=.ref q/\Rep J x d/\Rep J y e/\deq d e=some b/\dep d<=60/\Q (.bl b) H
def rEqD:R2:=λx y H Q=>∃p q d e b,x=.ref p/\y=.ref q/\Rep H x d/\Rep H y e/\deq d e=some b/\dep d<=60/\Q (.bl b) H
def L3_(K:PySem.W.Frag):R2:=λx y H Q=>∃J p q d e b,Vw K H J/\x=.ref p/\y=.ref q/\Rep J x d/\Rep J y e/\deq d e=some b/\dep d<=60/\Q (.bl (!b)) H
theorem pV_(hK:X.K=K)(hu:X.A.units+64<cLine):OpR X (compareOp .NotEq) (L3_ K):=by
 subst hK;intro pins s σ H x y v u Q I rx ry h;obtain⟨J,p,q,d,e,b,hJ,e1,e2,hx,hy,hb,hd,k⟩:=h;subst e1 e2;cases rx;cases ry;have fin:EP X pins σ Q (.bool (!b)) s:=⟨.bl (!b),H,I,rfl,k⟩;cases d with
 |tup ds =>
  cases e with
  |tup es =>
   obtain⟨_,xs,z,hp,hr⟩:=hx;cases z;obtain⟨_,ys,z,hq,hs⟩:=hy;cases z;obtain⟨its,r1,pl1,_⟩:=I.tuple (hJ.1 _ _ hp);obtain⟨its',r2,pl2,_⟩:=I.tuple (hJ.1 _ _ hq);have l1:=r1.length;have l2:=r2.length;have g1:=hr.length;have g2:=hs.length;have hd':deps ds+1<=60:=hd;have hu':X.A.in1.units+deps ds<cLine:=by rw[Bh_];lia
   have hb':deqs ds es=some b:=hb;show SeqAt.RcNeAt.tuples (e:=eAt ds es) pl1 pl2 o_ (λj h1 h2=>by have:=hb_ I hJ ds es hr hs r1 r2 hb' hu' j (by simpa using h1) (by simpa using h2);simpa using this) _ _ _ _ ?_;simp only[Au_,<-l1,<-l2,g1,g2];rw[dl_ ds es b hb'];show fin
  |_=>simp[deq]at hb
 |lst ds =>
  cases e with
  |lst es =>
   obtain⟨_,xs,z,hp,hr⟩:=hx;cases z;obtain⟨_,ys,z,hq,hs⟩:=hy;cases z;obtain⟨its,r1,pl1,_⟩:=I.list (hJ.2 _ _ hp);obtain⟨its',r2,pl2,_⟩:=I.list (hJ.2 _ _ hq);have l1:=r1.length;have l2:=r2.length;have g1:=hr.length;have g2:=hs.length;have hd':deps ds+1<=60:=hd;have hu':X.A.in1.units+deps ds<cLine:=by rw[Bh_];lia
   rw[deq]at hb;by_cases hl:ds.length=es.length
   .rw[if_pos hl]at hb;show SeqAt.RcNeAt.lists (e:=eAt ds es) pl1.isList pl2.isList (by simp only[Au_];lia) o_ (λj h1 h2=>by have:=hb_ I hJ ds es hr hs r1 r2 hb hu' j (by simpa using h1) (by simpa using h2);simpa using this) _ _ _ _ ?_;have e3:=dl_ ds es b hb;have e4:min ds.length es.length=ds.length:=o_
    rw[e4,hl]at e3;simp only[beq_self_eq_true,Bool.and_true]at e3;simp only[Au_,<-l1,g1,hl,e3];show fin
   .rw[if_neg hl]at hb;cases hb;show SeqAt.RcNeAt.lists_lengths pl1.isList pl2.isList (by simp only[Au_,bne_iff_ne,ne_eq];lia) o_ _ _ _ _ fin
  |_=>simp[deq]at hb
 |_=>simp[Rep]at hx
def Ma_:R2:=λx y H Q=>∃p q d e b,x=.ref p/\y=.ref q/\Rep H x d/\Rep H y e/\deq d e=some b/\dep d<=60/\Q (.bl (!b)) H
theorem hY_(hu:X.A.units+64<cLine):OpR X (compareOp .NotEq) Ma_:=λpins s σ H x y v u Q I rx ry ⟨p,q,d,e,b,h⟩=>pV_ rfl hu pins s σ H x y v u Q I rx ry ⟨H,p,q,d,e,b,Vw.refl,h⟩
variable {h':Heap}
theorem Inv.turnedL{t':Nat}{ch:List Addr}(I:Inv X pins σ H s)(k:∀b o,b∉ch->s.heap.get? b=some o->h'.get? b=some o)(hf:∀b∈ch,HM_ X pins H b):Inv X pins σ H {s with heap:=h',toks:=t'}:=by
 have nit:∀b u,H b=some u->b∉ch:=λb u e z=>by rw[(hf b z).1]at e;cases e
 show I.step (g':=s.gens) (d':=s.drawn) (ch:=ch) (λb hb=>?_) (λb o _ _ hc e _=>k b o hc e) (λb o _ _ hc e _=>⟨o.slots,k b o hc e⟩) (λ_ _ _ _ n=>n)
  (λb o hc e=>⟨o,k b o hc e⟩) (λ_ _ e=>e) (λ_ _ _ e=>e) (λb ps e=>⟨#[],by rw[e];simp⟩) (λm hm=>?_) (λb u e=>?_) I.bare
 .obtain⟨g0,g1,g2,g3,g4,g5⟩:=hf b hb;show⟨g3,g1,g4,g5⟩
 .obtain⟨o,es,ep,ho,r⟩:=hm;show⟨o,es,ep,k _ o (λz=>(hf _ z).2.1 rfl) ho,r⟩
 .show(I.hok b u e).stay (λc v hc q=>k c v ?_ q) (λ_ q=>q) λ_ _ q=>q
  rcases hc with z|z
  .rw[z];show nit b u e
  .show nit c _ z
def Itz(K:PySem.W.Frag)(a b:Addr):It :=
  ⟨λi H=>∃xs ys x y,SqL K H a xs/\SqL K H b ys/\xs[i]?=some x/\ys[i]?=some y,
   λi H v H'=>∃T x y,v=.ref T/\H T=none/\H'=upd H T (.tup [x,y])/\(∀xs,SqL K H a xs->xs[i]?=some x)/\(∀ys,SqL K H b ys->ys[i]?=some y),
   λi H=>∃xs ys,SqL K H a xs/\SqL K H b ys/\(xs.length<=i\/ys.length<=i)⟩
def iZip(K:PySem.W.Frag)(ta:TA):TI:=λσ H R=>ta σ H λvs H1=>∃a b,vs=[.ref a,.ref b]/\(∃xs,SqL K H1 a xs)/\(∃ys,SqL K H1 b ys)/\R (Itz K a b) H1
variable {elts:List Expr}{kt:Nat}{tpos:Pos}
def rSum(K:PySem.W.Frag):List V->Hp->VK->Prop:=λxs H Q=>∃(p:Addr)(ns:List Int),xs=[V.ref p]/\SqL K H p (ns.map V.int)/\Q (.int ns.sum) H
def JL_:List V->Hp->VK->Prop:=λxs H Q=>∃p ys,xs=[V.ref p]/\(H p=some (.lst ys)\/H p=some (.tup ys))/\∀l,H l=none->Q (.ref l) (upd H l (.lst ys))
theorem dm_:Ga_ X (.type "list") JL_:=by intro pins s σ H xs us Q I r h;obtain⟨p,ys,e,hp,q⟩:=h;show ja_ pins s σ H xs us Q I r ⟨p,ys,e,hp.imp (λz=>.inl (.inl z)) (λz=>.inl (.inl z)),q⟩
theorem bQ_{es:List Expr}{t:TA}{p:Pos}{n:String}{r:List V->Hp->VK->Prop}(hc:Ga_ X (.type n) r)(hg:Gl X x)(hm:X.mg x=none)(hv:bootBuiltins x=some (.type n))(ha:PA X (e::es) t)(hs:FD_ (e::es)=true:=by rfl) (hn:x ≠ "__name__" := by decide) (hdb:(x == ("__debug__" : Str))=false:=by decide):
  PE X (.Call (.Name x p) (e::es) [] pos) (tCB r t):=
 have h':Gh_ e=true/\FD_ es=true:=by simpa[FD_]using hs
 l2_ hc hg hm hv ha hn hdb (av_ h'.1) (ck_ h'.2)
def Hj_(B H:Hp):Hp:=λb=>match B b with|some _=>none|none=>H b
def G6_(B:Hp)(D:Addr)(H:Hp):Hp:=λb=>if b=D then none else Hj_ B H b
variable{B:Hp}{b:Addr}
theorem aY_(h:Hj_ B H b=some o):B b=none/\H b=some o:=by
 unfold Hj_ at h;cases e:B b with
 |some z=>rw[e]at h;cases h
 |none=>rw[e]at h;show⟨rfl,h⟩
theorem cH_(h:B b=none):Hj_ B H b=H b:=by unfold Hj_;rw[h]
theorem it_{D:Addr}(h:G6_ B D H b=some o):b≠D/\B b=none/\H b=some o:=by
 unfold G6_ at h;by_cases e:b=D
 .rw[if_pos e]at h;cases h
 .rw[if_neg e]at h;show⟨e,aY_ h⟩
theorem bo_{D:Addr}(e:b≠D)(h:B b=none):G6_ B D H b=H b:=by unfold G6_;rw[if_neg e,cH_ h]
theorem cI_:Fo_ (Hj_ B H) H:=λb o h=>(aY_ h).2
theorem l9_{D:Addr}:Fo_ (G6_ B D H) H:=λb o h=>(it_ h).2.2
theorem gP_{D:Addr}:Fo_ (G6_ B D H) (Hj_ B H):=λb o h=>by obtain⟨h1,h2,h3⟩:=it_ h;rw[cH_ h2];show h3
theorem dn_{D:Addr}(e:Fo_ H H'):Fo_ (G6_ B D H) (G6_ B D H'):=λb o h=>by obtain⟨h1,h2,h3⟩:=it_ h;rw[bo_ h1 h2];show e _ _ h3
theorem jl_(e:Fo_ H H'):Fo_ (Hj_ B H) (Hj_ B H'):=λb o h=>by obtain⟨h1,h2⟩:=aY_ h;rw[cH_ h1];show e _ _ h2
theorem fw_{D:Addr}:G6_ B D (upd H D o)=G6_ B D H:=by
 funext b;unfold G6_ Hj_;by_cases e:b=D
 .rw[if_pos e,if_pos e]
 .rw[if_neg e,if_neg e,ae_ e]
theorem oP_{H3:Hp}{D:Addr}(hB:Fo_ B H)(hD:∃o,H D=some o):Fo_ (Hj_ H H3) (G6_ B D H3):=λb o h=>by obtain⟨h1,h2⟩:=aY_ h;obtain⟨z,hz⟩:=hD;rw[bo_ (ag_ hz h1).symm (hB.free h1)];show h2
theorem cA_{J:It}{g:TG}{te:TE}{σ:St}{H:Hp}{Q:VK}(n:Nat)(B:Hp)(Pσ:St->Prop)(ds:List Dt)(hB:Fo_ B H)(h0:Pσ σ)(hlen:ds.length=n)(hz:n<=1000)
  (hgo:∀i H',i<n->Fo_ H H'->J.go i H') (hst:∀H',Fo_ H H'->J.stop n H')
  (hs:∀D i x d σ' H' H'',H D=none->(∃o,H' D=some o)->Fo_ H H'->i<n->ds[i]?=some d->J.yld i H' x H''->Pσ σ'->∀R:St->V->Hp->Prop,
   (∀σ2 v H3,Pσ σ2->Fo_ H' H3->Rep (G6_ B D H3) v d->R σ2 v H3)->g x σ' H'' λσ2 H2=>te σ2 H2 λv H3=>R σ2 v H3)
  (hd:∀D H',H D=none->Fo_ H H'->Rep (Hj_ B H') (.ref D) (.lst ds)->Q (.ref D) H'):Id_ J g KM_ te σ H Q:=by
 intro D hD;have hBD:B D=none:=hB.free hD;show⟨λi m σ' H'=>m=n-i/\i<=n/\Pσ σ'/\Fo_ H H'/\∃ys,H' D=some (.lst ys)/\FM_ (G6_ B D H') ys (ds.take i)/\ys.length=i,⟨n,s_,AE_ _,h0,Fo_.new hD,[],aa_,rfl,rfl⟩,?_⟩;rintro i m σ' H' ⟨rfl,hi,hp,hs',ys,hys,hr,hl⟩;by_cases hlt:i<n
 .show .inr ⟨hgo i H' hlt hs',λσ2 H2=>Pσ σ2/\Fo_ H H2/\∃ys,H2 D=some (.lst ys)/\FM_ (G6_ B D H2) ys (ds.take (i+1))/\ys.length=i+1,λσ2 H2 ⟨a,b,c⟩=>⟨n-(i+1),o_,rfl,hlt,a,b,c⟩,λx H'' hy=>?_⟩;have hdi:ds[i]?=some ds[i]:=by simp[hlen,hlt]
  simp only[KM_,if_true];show hs D i x ds[i] σ' H' H'' hD ⟨_,hys⟩ hs' hlt hdi hy hp _ λσ2 v H3 hp2 s3 hv=>?_;show⟨ys,s3 _ _ hys,by rw[hl];show Fq_ o_,hp2,(hs'.trans s3).upd hD,ys++[v],aa_,?_,by simp[hl]⟩;rw[fw_];have e:ds.take (i+1)=ds.take i++[ds[i]]:=by rw[Bc_,hdi];rfl
  rw[e];show(FM_.mono (dn_ s3) _ hr).append ⟨v,[],rfl,hv,rfl⟩
 .have e:i=n:=o_
  subst e;show .inl ⟨hst H' hs',hd D H' hD hs' ⟨D,ys,rfl,?_,?_⟩⟩
  .rw[cH_ hBD];show hys
  .rw[A0_ o_]at hr;show FM_.mono gP_ _ hr
theorem FM_.of_get{xs:List V}{ds:List Dt}{x:V}(h:FM_ H xs ds)(e:xs[i]?=some x):∃d,ds[i]?=some d/\Rep H x d:=by
 have hi:i<xs.length:=(Ai_.mp e).1;have hi':i<ds.length:=by rw[<-h.length];show hi
 obtain⟨y,hy,hr⟩:=h.get (i:=i) (d:=ds[i]) (by simp[hi']);rw[e]at hy;cases hy;show⟨ds[i],by simp[hi'],hr⟩
theorem bp_{X:Cx}{K:PySem.W.Frag}{es:List Expr}{k:Nat}{t:TGs}{n:Nat}{pos:Pos}(hK:X.K=K)(hc:X.calm=true)(h:PGs X es t)
  (hn:(assignEach es X.env).length=n:=by rfl) (hst:(assignEach es X.env).findIdx? (·.1)=none:=by rfl):PG X (.Tuple es k pos) (Lq_ K n t):=hK▸pL_ hc h hn hst
def Pl2(h:Heap)(e:Addr):Prop:=∃o vs,h.get? e=some o/\o.data=.fields vs/\vs[2]?=some .none
variable {σ:List (Option V)}
def exO(C:Value)(a:Addr):HO:=.ext λh=>∃o,h.get? a=some o/\o.cls=C
def Hv_.unb(D:Hv_)(i:Nat):Hv_:={nx:=λσ H=>D.nx (σ.set i none) H,rt:=D.rt,bk:=λσ H=>D.bk (σ.set i none) H,ct:=λσ H=>D.ct (σ.set i none) H}
def tTry(K:PySem.W.Frag)(Py:Addr)(sp:Sp)(ta:TA)(i:Nat)(ts:TS):TS:=λD σ H=>ta σ H λvs H1=>sp vs H1 (λ_ _=>False) λc _ H2 =>∃C,c=.ref C/\PySem.W.mroIn K C (.ref Py)=some true/\∀ea,H2 ea=none->ts (D.unb i) (σ.set i (some (.ref ea))) (upd H2 ea (exO (.ref C) ea))
structure KitE(K:PySem.W.Frag)(C:Addr):Prop where
 cl:(PySem.W.clsIn K C).isSome=true
 ga:PySem.W.findIn K (.ref C) "__getattribute__"=some (some (.builtin "BaseException.__getattribute__"))
 gh:PySem.W.findIn K (.ref C) "__getattr__"=some none
 at_:PySem.W.findIn K (.ref C) "__class__"=some (some (.builtin "object.__class__"))
 get:PySem.W.specialIn K (.builtin "object.__class__") "__get__"=some (some (.builtin "getset_descriptor.__get__"))
 set:PySem.W.takesIn K (.builtin "object.__class__")=some true
 obj:PySem.W.mroIn K C (.type "object")=some true
 exc:PySem.W.mroIn K C (.type "BaseException")=some true
def L1_(x:Addr)(D:Value)(h:Heap):Prop:=∃o,h.get? x=some o/\o.cls=D
theorem L1_.ty{x:Addr}{D:Value}{M:Model}{h:Heap}(p:L1_ x D h):PySem.W.Looks M h (typeOf (.ref x)) D:=by obtain⟨o,h1,h2⟩:=p;show h2▸(PySem.W.Looks.ld h1).andThen .now
def Lh_(K:PySem.W.Frag):List V->Hp->VK->Prop:=λxs H Q=>∃(ea C:Addr)(c:V)(b:Bool),xs=[.ref ea,c]/\H ea=some (exO (.ref C) ea)/\KitE K C /\
 ((∃T,c=.ty T/\PySem.W.kitOne K (.ref C) (.type T)=some b)\/(∃D,c=.ref D/\PySem.W.kitOne K (.ref C) (.ref D)=some b)\/∃(tp:Addr)(ys:List Addr),c=.ref tp/\H tp=some (.tup (ys.map V.ref))/\PySem.W.kitAny K (.ref C) (ys.map Value.ref)=some b)/\Q (.bl b) H
def Lj_(i j k:Nat)(ta:TA):TS:=λD σ H=>ta σ H λvs H1=>∃v w y,vs=[v,w,y]/\D.nx (((σ.set i (some v)).set j (some w)).set k (some y)) H1
def Itd(hi:Int)(n:Nat):It:=⟨λi _=>i<n,λi H x H'=>H'=H/\x=.int (hi-i),λi _=>n<=i⟩
def Lf_(ta:TA):TI:=λσ H R=>ta σ H λvs H1=>∃i j:Int,vs=[.int i,.int j,.int (-1)]/\(0<=j/\j<=i/\i<2 ^ 30)/\R (Itd i (i-j).toNat) H1
def Mc_:V->Option Int->Option Int->Hp->VK->Prop:=λx lo hi H Q=>∃a xs,x=.ref a/\H a=some (.lst xs)/\∀p,H p=none->Q (.ref p) (upd H p (.lst (Hf_ xs lo hi)))
theorem c4_:SlR X Mc_:=by intro pins s σ H x v vl vu lo hi sl Q I rx hs pl pu h;obtain⟨a,xs,e,hx,q⟩:=h;show oL_ pins s σ H x v vl vu lo hi sl Q I rx hs pl pu ⟨a,xs,e,.inl (.inl hx),q⟩
theorem iu_(xs:List V)(k:Nat)(h:k<=xs.length):Hf_ xs (some (k:Int)) none=xs.drop k:=by unfold Hf_;rw[HT.sIx_nat,HT.sIx_none,Es_ h];show A0_ s_
theorem kY_(xs:List V)(k:Nat)(h:k<=xs.length):Hf_ xs none (some (k:Int))=xs.take k:=by unfold Hf_;rw[HT.sIx_nat,HT.sIx_none,Es_ h];simp
def grow(S H H':Hp):Hp:=λb=>match H b with|some _=>S b|none=>H' b
variable{S:Hp}
theorem eM_(h:H b=some o):grow S H H' b=S b:=by unfold grow;rw[h]
theorem iv_(h:H b=none):grow S H H' b=H' b:=by unfold grow;rw[h]
theorem cJ_(s:Fo_ S H):Fo_ S (grow S H H'):=λb o h=>by rw[eM_ (s _ _ h)];show h
theorem iw_(s:Fo_ S H)(t:Fo_ H H'):Fo_ (grow S H H') H':=λb o h=>by
 unfold grow at h;cases e:H b with
 |some z=>rw[e]at h;show t _ _ (s _ _ h)
 |none=>rw[e]at h;show h
theorem cB_(s:Fo_ S H)(h:S a=none):Fo_ S (upd H a o):=λb z e=>by rw[ae_ (ag_ e h)];show s _ _ e
theorem gQ_(s:Fo_ S H)(h:H a=none):Fo_ (upd S a o) (upd H a o):=λb z e=>by
 by_cases q:b=a
 .subst q;rw[aa_]at e⊢;show e
 .rw[ae_ q]at e⊢;show s _ _ e
theorem bk_(s:Fo_ S H)(h:H a=none):Fo_ S (upd S a o):=Fo_.new (s.free h)
def IM_:V->List V->Hp->VK->Prop:=λx vs H Q=>∃(l:Addr)(xs:List V)(i:Int)(y:V),x=.ref l/\vs=[.int i,y]/\H l=some (.lst xs)/\0<=i/\i.toNat<=xs.length/\xs.length<1000/\Q .non (upd H l (.lst (xs.take i.toNat++y::xs.drop i.toNat)))
theorem jm_:MtM X "list.insert" IM_:=by
 intro pins s σ H x vs v us Q I rx rv h;obtain⟨l,xs,i,y,rfl,rfl,hH,h0,h1,h2,q⟩:=h;cases rx;obtain⟨u,w,rfl,ru,rw'⟩:=rv.two;obtain⟨t,rfl⟩:=ru;obtain⟨z,its,n,r,hl,e⟩:=I.lstM hH;show CK_ F.slot_list_insert ⟨_,e,rfl⟩ F.entry_list_insert (F.args_list_insert_3 _ _ _) (AutoSeq1.list_insert_list_int_val_1 l its.toArray n i t w (by rw[fitsIndex_both (k:=i) o_ o_];decide) (by rw[Au_];lia)) ⟨e,?_⟩;show⟨.non,_,I.lset (its':=its.take i.toNat++w::its.drop i.toNat) hH e ?_ ((r.take _).append (.cons rw' (r.drop _))) ?_,rfl,q⟩
 .dsimp only
  rw[if_neg o_,Au_,Es_ o_];simp;show A0_ s_
 .have:=Fq_ h2;simp;lia
def Ite(K:PySem.W.Frag)(a:Addr):It :=
  ⟨λi H=>∃xs x,SqL K H a xs/\xs[i]?=some x,
   λi H v H'=>∃T x,v=.ref T/\H T=none/\H'=upd H T (.tup [.int i,x])/\(∀xs,SqL K H a xs->xs[i]?=some x),
   λi H=>∃xs,SqL K H a xs/\xs.length<=i⟩
def KJ_(e it l:Addr)(i:Nat)(h:Heap):Prop:=(∃old,IsEnum h e it i old)/\h.IsListIter it l i
theorem ma_{P:Program}{e it l:Addr}(hei:e≠it):
  JM_ P w K (.Tuple elts kt tpos) (Ite K l) [e,it] e (KJ_ e it l) where
 mem:=s_
 obj:=λi h st b hb=>by
  obtain⟨⟨old,s1⟩,⟨o4,s4,c4,d4⟩⟩:=st;simp only[Ar_,BC_,D7_]at hb
  rcases hb with rfl|rfl
  .show⟨_,s1,λv e=>by cases(show Data.fields _=Data.cell v from e)⟩
  .show⟨o4,s4,λv e=>by rw[d4]at e;cases e⟩
 keep:=λi h h' st k=>by obtain⟨⟨old,s1⟩,s4⟩:=st;show⟨⟨old,k e s_ _ s1⟩,s4.at λo q=>k it s_ o q⟩
 item:=by
  intro X hP hw hK hc i pins s σ H E I hf st hg;subst hP hw hK;obtain⟨xs,x,hq,hx⟩:=hg;obtain⟨its,rv,p1,z1⟩:=I.list hq;obtain⟨u,hu,ru⟩:=rv.get hx;obtain⟨⟨old,s1⟩,s4⟩:=id st;show wpAny_pyNext_enum_item s1 s4 p1.isList (x:=u) (by simpa using hu) hei λh' g1 g2 g3 g4 g5=>?_;show⟨_,rfl,wpAny_letOwnedTupleGo_enum g1 λh'' k1 k2=>?_⟩
  have lt:∀b∈[e,it],b<s.heap.objs.size:=λb hb=>by
   simp only[Ar_,BC_,D7_]at hb
   rcases hb with rfl|rfl
   .show Ay_ s1
   .obtain⟨o,e,_⟩:=s4;show Ay_ e
  have hT:H s.heap.objs.size=none:=I.hok.fresh (Aj_ _)
  have I1:Inv X pins σ (upd H s.heap.objs.size (.tup [.int i,x])) {s with heap:=s.heap.push {cls:=.type "tuple",data:=.seq #[.int i s.toks,u]}} :=
   I.laid (t':=s.toks) (λb u e=>Ak_ _ e) (Aj_ _) ⟨by change 2<=sizeLine;decide,[.int i s.toks,u],.cons ⟨_,rfl⟩ (.cons ru .nil),⟨_,AA_ _ rfl,rfl,_,rfl⟩⟩
  have f1:∀b∈[e,it],HM_ X pins (upd H s.heap.objs.size (.tup [.int i,x])) b:=λb hb=>⟨by rw[ae_ (AL_ (lt b hb))];show(hf b hb).1,(hf b hb).2⟩
  have I2:Inv X pins σ (upd H s.heap.objs.size (.tup [.int i,x])) {s with heap:=h'',toks:=s.toks+1}:=by
   show Inv.turnedL (s:={s with heap:=s.heap.push {cls:=.type "tuple",data:=.seq #[.int i s.toks,u]}}) (ch:=[e,it]) (t':=s.toks+1) I1 (λb o hb q=>?_) f1;simp only[Ar_,BC_,D7_,not_or]at hb;show(k2.2 b hb.1).trans ?_;by_cases hbT:b=s.heap.objs.size
   .subst hbT;have e':(s.heap.push {cls:=.type "tuple",data:=.seq #[.int i s.toks,u]}).get? s.heap.objs.size=some o:=q;rw[AA_ _ rfl]at e';cases e';show g3
   .have hb2:s.heap.get? b=some o:=by have e':(s.heap.push {cls:=.type "tuple",data:=.seq #[.int i s.toks,u]}).get? b=some o:=q;show(C3_ _ _ _ hbT).symm.trans e'
    show g5 b o hb.1 hb.2 hb2
  show⟨.ref s.heap.objs.size,_,I2,rfl,⟨_,x,rfl,hT,rfl,λxs' h'=>by rw[I.list_inj h' hq];show hx⟩,?_,λb hb=>(f1 b hb).1⟩;show⟨⟨u,k1⟩,g2.at λo q=>(k2.2 it hei.symm).trans q⟩
 done:=by intro X hP hw hK hc i pins s σ H E I hf st hg;subst hP hw hK;obtain⟨xs,hq,he⟩:=hg;obtain⟨its,rv,p1,z1⟩:=I.list hq;obtain⟨⟨old,s1⟩,s4⟩:=id st;have l1:=rv.length;show wpAny_pyNext_enum_end (I.ok.hd hc) s1 s4 p1.isList (by simp;lia) λh' k=>⟨rfl,?_⟩;show Inv.turnedL (ch:=[e,it]) (t':=s.toks) I (λb o hb q=>?_) hf;simp only[Ar_,BC_,D7_,not_or]at hb;show k b o hb.2 q
 self:=λ_ _ _ _ _ st h=>by obtain⟨⟨old,s1⟩,_⟩:=st;show wpAny_pyIter_enum s1 h
def Kw_(K:PySem.W.Frag)(ta:TA):TI:=λσ H R=>ta σ H λvs H1=>∃a,vs=[.ref a]/\(∃xs,SqL K H1 a xs)/\R (Ite K a) H1
theorem oQ_{a:Expr}{ta:TA}{p:Pos}(hK:X.K=K)(hg:Gl X "enumerate") (hm:X.mg "enumerate"=none) (ha:PA X [a] ta) (hs:FD_ [a]=true:=by rfl):PI X (.Tuple elts kt tpos) (.Call (.Name "enumerate" p) [a] [] pos) (Kw_ K ta):=by
 subst hK;intro pins s σ H R I h;have h':Gh_ a=true/\FD_ []=true:=by simpa[FD_]using hs
 show Call_ (ef_ I hg hm jg_ (Bi_ (thn (ha pos pins s σ H _ I h) λus s1 ⟨vs,H1,I1,r1,q1⟩=>?_) (av_ h'.1) (ck_ h'.2)));obtain⟨l,e,⟨xs,hx⟩,q⟩:=q1;subst e;obtain⟨u1,rfl,e1⟩:=Gr_ r1;cases e1;obtain⟨its1,rv1,p1,z1⟩:=I1.list hx;show call_enumerate_list p1.isList λh' g1 g2 g3 g4=>?_;have I2:Inv X pins σ H1 {s1 with heap:=h'}:=I1.kept (t':=s1.toks) g4;show wpAny_pyIter_enum g1 ⟨_,[s1.heap.objs.size+1,s1.heap.objs.size],_,Ite X.K l,H1,rfl,I2,ma_ (Nat.succ_ne_self _),⟨⟨_,g1⟩,g2⟩,λb hb=>?_,q⟩
 have hb':s1.heap.objs.size<=b:=by
  simp only[Ar_,BC_,D7_]at hb
  rcases hb with rfl|rfl <;> first|show Cq_ _ _|show Aj_ _
 show I1.fpOk hb' (I1.hok.fresh hb')
section
variable {κ:Type}[DecidableEq κ]
def FZ_(kvs:List (κ×V))(k:κ):Option V:=(kvs.find? λkv=>decide (kv.1=k)).map (·.2)
def Gd_(kvs:List (κ×V))(k:κ)(v:V):List (κ×V):=
 if(kvs.any λkv=>decide (kv.1=k))=true then kvs.map (λkv=>if kv.1=k then(kv.1,v)else kv)else kvs++[(k,v)]
def Io_(kvs:List (κ×V))(k:κ):List (κ×V):=kvs.filter λkv=>decide (kv.1≠k)
theorem aW_{p:κ×V}{r:List (κ×V)}{k:κ}(e:p.1=k):FZ_ (p::r) k=some p.2:=by simp[FZ_,BU_,e]
theorem aN_{p:κ×V}{r:List (κ×V)}{k:κ}(e:¬ p.1=k):FZ_ (p::r) k=FZ_ r k:=by simp[FZ_,BU_,e]
theorem cC_(k:κ):∀kvs:List (κ×V),(kvs.any λkv=>decide (kv.1=k))=(FZ_ kvs k).isSome
 |[]=>rfl
 |p::r=>by
  rw[CN_];by_cases e:p.1=k
  .simp only[aW_ e,As_ e,Bool.true_or,Option.isSome_some]
  .rw[aN_ e,At_ e,Bool.false_or];show cC_ k r
theorem kZ_(k j:κ)(y:V):∀kvs:List (κ×V),FZ_ (kvs.map λkv=>if kv.1=k then(kv.1,y)else kv) j=(FZ_ kvs j).map λx=>if j=k then y else x
 |[]=>rfl
 |p::r=>by
  have ih:=kZ_ k j y r;rw[AZ_];by_cases h:p.1=k
  .rw[if_pos h];by_cases e:p.1=j
   .rw[aW_ (p:=(p.1,y)) e,aW_ e,Cx_,if_pos (e.symm.trans h)]
   .rw[aN_ (p:=(p.1,y)) e,aN_ e,ih]
  .rw[if_neg h];by_cases e:p.1=j
   .rw[aW_ (p:=p) e,aW_ e,Cx_,if_neg (λz=>h (e.trans z))]
   .rw[aN_ (p:=p) e,aN_ e,ih]
theorem jn_(k j:κ)(y:V):∀kvs:List (κ×V),FZ_ kvs k=none->FZ_ (kvs++[(k,y)]) j=if j=k then some y else FZ_ kvs j
 |[],_=>by
  by_cases e:k=j
  .rw[if_pos e.symm];show aW_ (p:=(k,y)) e
  .rw[if_neg (λz=>e z.symm)];show aN_ (p:=(k,y)) e
 |p::r,hn=>by
  rw[List.cons_append];have hk:¬ p.1=k:=λz=>by rw[aW_ z]at hn;cases hn
  rw[aN_ hk]at hn;have ih:=jn_ k j y r hn;by_cases e:p.1=j
  .rw[aW_ e,aW_ e,if_neg (λz=>hk (e.trans z))]
  .rw[aN_ e,aN_ e,ih]
theorem fx_(kvs:List (κ×V))(k j:κ)(y:V):FZ_ (Gd_ kvs k y) j=if j=k then some y else FZ_ kvs j:=by
 unfold Gd_;by_cases a:(kvs.any λkv=>decide (kv.1=k))=true
 .rw[if_pos a,kZ_];rw[cC_]at a;by_cases e:j=k
  .obtain⟨x,hx⟩:=Cp_.mp a;rw[if_pos e,e,hx,Cx_,if_pos rfl]
  .rw[if_neg e];cases FZ_ kvs j with
   |none=>rfl
   |some x=>rw[Cx_,if_neg e]
 .rw[if_neg a];show jn_ k j y kvs ?_;rw[cC_]at a;cases q:FZ_ kvs k with
  |none=>rfl
  |some x=>rw[q]at a;show(a rfl).elim
theorem bf_(kvs:List (κ×V))(k:κ)(v:V):(Gd_ kvs k v).length<=kvs.length+1:=by
 unfold Gd_;split
 .rw[Ab_];lia
 .rw[Al_,AM_,Et_];lia
theorem eN_{kvs:List (κ×V)}{k:κ}(v:V)(h:FZ_ kvs k=none):Gd_ kvs k v=kvs++[(k,v)]:=by unfold Gd_;rw[cC_,h];show if_neg d_
theorem HR_.isSome_eq{o:Option V}{u:Option Value}(r:HR_ o u):o.isSome=u.isSome:=by
 cases o with
 |none=>cases u with
  |none=>rfl
  |some _=>show(show False from r).elim
 |some _=>cases u with
  |none=>show(show False from r).elim
  |some _=>rfl
theorem HR_.getD{o:Option V}{u:Option Value}{d:V}{d':Value}(r:HR_ o u)(rd:FU_ d d'):FU_ (o.getD d) (u.getD d'):=by
 cases o with
 |none=>cases u with
  |none=>show rd
  |some _=>show(show False from r).elim
 |some _=>cases u with
  |none=>show(show False from r).elim
  |some _=>show r
theorem KV.val{kvs:List (κ×V)}{vs:List (κ×Value)}(r:KV kvs vs)(k:κ):HR_ (FZ_ kvs k) (valueAt vs k):=by
 unfold KV at r
 induction r with
 |nil=>show True.intro
 | @cons p q ps qs h t ih =>
  obtain⟨h1,h2⟩:=h;by_cases e:p.1=k
  .have e':q.1=k:=h1.symm.trans e;have b:valueAt (q::qs) k=some q.2:=by simp[valueAt,BU_,e']
   rw[aW_ e,b];show h2
  .have e':¬ q.1=k:=λz=>e (h1.trans z);have b:valueAt (q::qs) k=valueAt qs k:=by simp[valueAt,BU_,e']
   rw[aN_ e,b];show ih
theorem KV.any{kvs:List (κ×V)}{vs:List (κ×Value)}(r:KV kvs vs)(k:κ):(kvs.any λkv=>decide (kv.1=k))=vs.any λkv=>decide (kv.1=k):=by
 unfold KV at r
 induction r with
 |nil=>rfl
 |cons h t ih=>rw[CN_,CN_,ih,h.1]
theorem KV.repl{kvs:List (κ×V)}{vs:List (κ×Value)}(r:KV kvs vs)(k:κ){y:V}{u:Value}(ry:FU_ y u):
  KV (kvs.map λkv=>if kv.1=k then(kv.1,y)else kv) (vs.map λkv=>if kv.1=k then(kv.1,u)else kv):=by
 unfold KV at r⊢
 induction r with
 |nil=>show .nil
 | @cons p q ps qs h t ih =>
  rw[AZ_,AZ_];show .cons ?_ ih;obtain⟨h1,h2⟩:=h;by_cases e:p.1=k
  .rw[if_pos e,if_pos (h1.symm.trans e)];show⟨h1,ry⟩
  .rw[if_neg e,if_neg (λz=>e (h1.trans z))];show⟨h1,h2⟩
theorem KV.put{kvs:List (κ×V)}{vs:List (κ×Value)}(r:KV kvs vs)(k:κ){y:V}{u:Value}(ry:FU_ y u):KV (Gd_ kvs k y) (stored vs k u):=by
 unfold Gd_ stored;rw[r.any k];by_cases e:(vs.any λkv=>decide (kv.1=k))=true
 .rw[if_pos e,if_pos e];show r.repl k ry
 .rw[if_neg e,if_neg e];show Fl_ r ⟨rfl,ry⟩
theorem KV.length{kvs:List (κ×V)}{vs:List (κ×Value)}(r:KV kvs vs):kvs.length=vs.length:=BF_ r
theorem nk_(kvs:List (κ×V))(k:κ):(Io_ kvs k).length<=kvs.length:=Bj_ _ _
end
theorem HJ_{P:Program}{k:Key}{u:Value}(r:FU_ (kV k) u):(FG_ P w).is k u=true:=by
 cases k with
 |inl i=>obtain⟨t,e⟩:=(show ∃t,u=Value.int i t from r);subst e;show kc_ P w i t
 |inr x=>obtain⟨t,e⟩:=(show ∃t,u=Value.str x t from r);subst e;show kd_ P w x t
theorem jo_{P:Program}{w:World}:∀{ks:List Key}{us:List Value},FO_ (ks.map kV) us->ItemsAre (FG_ P w) ks us
 |[],_,r=>by rw[Dq_]at r;cases r;show .nil
 |k::ks,_,r=>by
  rw[AZ_]at r;cases r with
  |cons h t=>show .cons (HJ_ h) (jo_ t)
abbrev KT(H:Hp):List (List Key×V)->List (List Key×Addr×Value)->Prop:=Paired λp q=>p.1=q.1/\H q.2.1=some (.tup (p.1.map kV))/\FU_ p.2 q.2.2
variable{kvs:List (List Key×V)}{xs:List (List Key×Addr×Value)}
theorem KT.val(r:KT H kvs xs)(k:List Key):HR_ (FZ_ kvs k) ((atKey xs k).map (·.2)):=by
 induction r with
 |nil=>show True.intro
 | @cons p q ps qs h t ih =>
  obtain⟨h1,_,h2⟩:=h;by_cases e:p.1=k
  .have e':q.1=k:=h1.symm.trans e;have b:atKey (q::qs) k=some q.2:=by simp[atKey,BU_,e']
   rw[aW_ e,b];show h2
  .have e':¬ q.1=k:=λz=>e (h1.trans z);have b:atKey (q::qs) k=atKey qs k:=by simp[atKey,BU_,e']
   rw[aN_ e,b];show ih
theorem KT.repl(r:KT H kvs xs)(k:List Key){y:V}{u:Value}(ry:FU_ y u):
  KT H (kvs.map λkv=>if kv.1=k then(kv.1,y)else kv) (xs.map (putAt k u)):=by
 induction r with
 |nil=>show .nil
 | @cons p q ps qs h t ih =>
  rw[AZ_,AZ_];show .cons ?_ ih;obtain⟨h1,h2,h3⟩:=h;unfold putAt;by_cases e:p.1=k
  .rw[if_pos e,if_pos (h1.symm.trans e)];show⟨h1,h2,ry⟩
  .rw[if_neg e,if_neg (λz=>e (h1.trans z))];show⟨h1,h2,h3⟩
theorem KT.put(r:KT H kvs xs)(k:List Key){y:V}{u:Value}(hb:H b=some (.tup (k.map kV)))(ry:FU_ y u):
  KT H (Gd_ kvs k y) (storedH xs k b u):=by
 have e:(kvs.any λkv=>decide (kv.1=k))=(atKey xs k).isSome:=by rw[cC_,(r.val k).isSome_eq,Ck_]
 unfold Gd_ storedH;rw[e];by_cases q:(atKey xs k).isSome=true
 .rw[if_pos q,if_pos q];show r.repl k ry
 .rw[if_neg q,if_neg q];show Fl_ r ⟨rfl,hb,ry⟩
theorem KT.keeps(r:KT H kvs xs)(ht:∀b ys,H b=some (.tup ys)->H' b=some (.tup ys)):KT H' kvs xs :=
 Paired.mapP r λ_ _ z=>⟨z.1,ht _ _ z.2.1,z.2.2⟩
variable {P:Program}{h:Heap}{a:Addr}
theorem KV_{u:HO}(ok:HOk P w H h)(e:Rd H a u):FV_ P w H h a u:=e.ok ok
theorem IZ_{kvs:List (Key×V)}(ok:HOk P w H h)(e:Rd H a (.dK kvs)):kvs.length<=sizeLine/\(a == sysModules)=false/\∃vs,KV kvs vs/\h.DictOf (FG_ P w) a vs :=
 show FV_ P w H h a (.dK kvs)from KV_ ok e
theorem Jn_{kvs:List (Key×V)}(ok:HOk P w H h)(e:H a=some (.dK kvs)):kvs.length<=sizeLine/\(a == sysModules)=false/\∃vs,KV kvs vs/\h.DictOf (FG_ P w) a vs:=IZ_ ok (.inl e)
theorem jp_{ks:List Key}(ok:HOk P w H h)(e:H a=some (.tup (ks.map kV))):(tupleKind (FG_ P w)).is h ks a:=by obtain⟨_,its,r,o,h1,h2,n,h3⟩:=(show FV_ P w H h a (.tup (ks.map kV))from ok a _ e);show⟨o,its.toArray,n,h1,h2,h3,by simpa using jo_ r⟩
theorem IY_(ok:HOk P w H h)(e:Rd H a (.dT kvs)):kvs.length<=sizeLine/\(a == sysModules)=false /\
  ∃xs,KT H kvs xs/\h.DictOfH (tupleKind (FG_ P w)) a xs:=by
 obtain⟨z,y,xs,r,o,es,ep,h1,h2,h3,h4,h5⟩:=(show FV_ P w H h a (.dT kvs)from KV_ ok e);show⟨z,y,xs,r,o,es,ep,h1,h2,h3,h4,λx hx=>?_,h5⟩
 have all:∀{l:List (List Key×V)}{m:List (List Key×Addr×Value)},KT H l m->∀x∈m,(tupleKind (FG_ P w)).is h x.1 x.2.1:=by
  intro l m q
  induction q with
  |nil=>intro x hx;show nomatch hx
  | @cons p q ps qs hq t ih =>
   intro x hx
   rcases Ar_.mp hx with e|hx
   .subst e;show jp_ ok (by rw[<-hq.1];show hq.2.1)
   .show ih x hx
 show all r x hx
theorem Lz_(ok:HOk P w H h)(e:H a=some (.dT kvs)):kvs.length<=sizeLine/\(a == sysModules)=false /\
  ∃xs,KT H kvs xs/\h.DictOfH (tupleKind (FG_ P w)) a xs:=IY_ ok (.inl e)
def GQ_(H:Hp)(a:Addr)(y:V)(r:Option V):Prop :=
 (∃kvs k,Rd H a (.dK kvs)/\y=kV k/\r=FZ_ kvs k)\/∃kvs k b,Rd H a (.dT kvs)/\y=.ref b/\H b=some (.tup (k.map kV))/\r=FZ_ kvs k
def Iv_(H:Hp)(a:Addr)(y v:V)(H':Hp):Prop :=
 (∃kvs k,H a=some (.dK kvs)/\y=kV k/\kvs.length<sizeLine/\H'=upd H a (.dK (Gd_ kvs k v))) \/
 ∃kvs k b,H a=some (.dT kvs)/\y=.ref b/\H b=some (.tup (k.map kV))/\kvs.length<sizeLine/\H'=upd H a (.dT (Gd_ kvs k v))
theorem GQ_.k{kvs:List (Key×V)}{k:Key}(e:H a=some (.dK kvs)):GQ_ H a (kV k) (FZ_ kvs k):=.inl ⟨kvs,k,.inl e,rfl,rfl⟩
theorem GQ_.t{k:List Key}(e:H a=some (.dT kvs))(eb:H b=some (.tup (k.map kV))):GQ_ H a (.ref b) (FZ_ kvs k):=.inr ⟨kvs,k,b,.inl e,rfl,eb,rfl⟩
theorem Iv_.k{kvs:List (Key×V)}{k:Key}{v:V}(e:H a=some (.dK kvs))(hl:kvs.length<sizeLine):Iv_ H a (kV k) v (upd H a (.dK (Gd_ kvs k v))):=.inl ⟨kvs,k,e,rfl,hl,rfl⟩
theorem Iv_.t{k:List Key}{v:V}(e:H a=some (.dT kvs))(eb:H b=some (.tup (k.map kV)))(hl:kvs.length<sizeLine):
  Iv_ H a (.ref b) v (upd H a (.dT (Gd_ kvs k v))):=.inr ⟨kvs,k,b,e,rfl,eb,hl,rfl⟩
variable {σ:St}{y v:V}{u r:Value}{o:Option V}{E:Value->Shared->Prop}
theorem Inv.big(I:Inv X pins σ H s):sysModules<s.heap.objs.size:=by have h:mainGlobals<s.heap.objs.size:=(I.mod.glob.keeps I.bk).lt;show Nat.lt_trans d_ h
variable{Q:Value->Shared->Prop}
theorem mb_(hu:A.units+1<cLine)(I:Inv X pins σ H s)(g:GQ_ H a y (some v))(ry:FU_ y u)(h:∀w' s',Inv X pins σ H s'->FU_ v w'->Q w' s'):
  wpAny (model X.prog X.w) A (getItem (.ref a) u) Q E s:=by
 rcases g with⟨kvs,k,e,ey,l⟩|⟨kvs,k,b,e,ey,eb,l⟩
 .subst ey;obtain⟨z,hd,vs,rel,dd⟩:=IZ_ I.hok e;obtain⟨w',hw,rw'⟩:=HR_.some_of (v:=v) (o:=valueAt vs k) (by rw[l];show rel.val k);show wpAny_getItem_of (HJ_ ry) dd.mapOf hw (h w' _ (I.tok _) rw')
 .subst ey;cases(show u=Value.ref b from ry);obtain⟨z,hd,xs,rel,dd⟩:=IY_ I.hok e;obtain⟨w',hw,rw'⟩:=HR_.some_of (v:=v) (o:=(atKey xs k).map (·.2)) (by rw[l];show rel.val k);obtain⟨p,hp,hp2⟩:=AR_.mp hw;show wpAny_getItem_heap (CV_ hu) (jp_ I.hok eb) dd hp ?_;rw[hp2];show h w' _ (I.tok _) rw'
theorem d_in(hu:A.units+1<cLine)(I:Inv X pins σ H s)(g:GQ_ H a y o)(ry:FU_ y u)(h:∀s',Inv X pins σ H s'->Q (.bool o.isSome) s'):
  wpAny (model X.prog X.w) A (compareOp .In u (.ref a)) Q E s:=by
 rcases g with⟨kvs,k,e,ey,l⟩|⟨kvs,k,b,e,ey,eb,l⟩
 .subst ey;obtain⟨z,hd,vs,rel,dd⟩:=IZ_ I.hok e;show wpAny_in_of (HJ_ ry) hd dd.mapOf ?_;rw[<-(rel.val k).isSome_eq,<-l];show h _ (I.tok _)
 .subst ey;cases(show u=Value.ref b from ry);obtain⟨z,hd,xs,rel,dd⟩:=IY_ I.hok e;show wpAny_in_heap (CV_ hu) (jp_ I.hok eb) hd dd ?_;have q:=(rel.val k).isSome_eq;rw[Ck_]at q;rw[<-q,<-l];show h _ (I.tok _)
theorem oR_(hu:A.units+1<cLine)(I:Inv X pins σ H s)(g:GQ_ H a y o)(ry:FU_ y u)(h:∀s',Inv X pins σ H s'->Q (.bool (!o.isSome)) s'):
  wpAny (model X.prog X.w) A (compareOp .NotIn u (.ref a)) Q E s:=by
 rcases g with⟨kvs,k,e,ey,l⟩|⟨kvs,k,b,e,ey,eb,l⟩
 .subst ey;obtain⟨z,hd,vs,rel,dd⟩:=IZ_ I.hok e;show wpAny_notIn_of (HJ_ ry) hd dd.mapOf ?_;rw[<-(rel.val k).isSome_eq,<-l];show h _ (I.tok _)
 .subst ey;cases(show u=Value.ref b from ry);obtain⟨z,hd,xs,rel,dd⟩:=IY_ I.hok e;show wpAny_notIn_heap (CV_ hu) (jp_ I.hok eb) hd dd ?_;have q:=(rel.val k).isSome_eq;rw[Ck_]at q;rw[<-q,<-l];show h _ (I.tok _)
theorem el_{t':Nat}{ob:HO}(I:Inv X pins σ H s)(mu:Mut (H a))(hs:Heap.SameBut a s.heap h')(he:∃q,h'.get? a=some q)(new:FV_ X.prog X.w (upd H a ob) h' a ob):
  Inv X pins σ (upd H a ob) {s with heap:=h',toks:=t'} :=
 I.write (x:=a) (e:=a) mu (.inl rfl) (λb q hb z=>(hs.2 b hb).trans z) he new
theorem od_{kvs:List (Key×V)}{vs:List (Key×Value)}(z:kvs.length<=sizeLine)(hd:(a == sysModules)=false)(rel:KV kvs vs)(dd:h'.DictOf (FG_ P w) a vs):
  FV_ P w H' h' a (.dK kvs):=⟨z,hd,vs,rel,dd⟩
theorem mc_{Q:Unit->Shared->Prop}(hu:A.units+1<cLine)(I:Inv X pins σ H s)(g:Iv_ H a y v H')(ry:FU_ y u)(rv:FU_ v r)(h:∀s',Inv X pins σ H' s'->Q () s'):
  wpAny (model X.prog X.w) A (setItem (.ref a) u r) Q E s:=by
 rcases g with⟨kvs,k,e,ey,l,eH⟩|⟨kvs,k,b,e,ey,eb,l,eH⟩
 .subst ey eH;obtain⟨z,hd,vs,rel,dd⟩:=Jn_ I.hok e;have hz:vs.length<=sizeLine:=by rw[<-rel.length];show z
  have hl:(Gd_ kvs k v).length<=sizeLine:=by have:=bf_ kvs k v;lia
  show wpAny_setItem_pairs (hsz:=hz) (HJ_ ry) dd λh' dd' hs=>h _ ?_;have he:∃q,h'.get? a=some q:=let⟨q,_,_,hq,_⟩:=dd';⟨q,hq⟩;show el_ I (by rw[e];show True.intro) hs he (od_ hl hd (rel.put k rv) dd')
 .subst ey eH;cases(show u=Value.ref b from ry);obtain⟨z,hd,xs,rel,dd⟩:=Lz_ I.hok e;have hz:xs.length<=sizeLine:=by rw[<-BF_ rel];show z
  have hl:(Gd_ kvs k v).length<=sizeLine:=by have:=bf_ kvs k v;lia
  show wpAny_setItem_heap (hsz:=hz) (CV_ hu) (jp_ I.hok eb) dd λh' dd' hs=>h _ ?_;obtain⟨q,es,ep,hq,h2,h3,h4,_,h5⟩:=dd';show el_ I (by rw[e];show True.intro) hs ⟨q,hq⟩ ⟨hl,hd,_,(rel.put k eb rv).keeps λc ys ec=>?_,q,es,ep,hq,h2,h3,h4,h5⟩;rw[ae_ (IX_ ec e (λz=>nomatch z))];show ec
def Li_(i:Expr):Prop:=∀ov iv,subscripted i false ov iv=operate [ov,iv] (getItem ov iv)
theorem md_{prog:Program}{w:World}{A:Around}{E:Value->Shared->Prop}{s:Shared}{env:Env}{value slice:Expr}{pos:Pos}{T id:String}{Q:Value->Shared->Prop}
  (hl:typeLookup (.type T) "__getitem__"=pure (some (.builtin id))) (hs:Li_ slice)
  (h:wpAny (model prog w) A (eval value env) (λo s₁=>wpAny (model prog w) A (eval slice env) (λi s₂=>s₂.TypeIs o T/\wpAny (model prog w) A (getItem o i) Q E s₂) E s₁) E s):
  wpAny (model prog w) A (eval (.Subscript value slice pos) env) Q E s:=by
 show EV_ (Bx_ h (λo s₁ h₁=>Bx_ h₁ (λi s₂ h₂=>?_) λ_ _ x=>x) λ_ _ x=>x);obtain⟨hT,h₂⟩:=h₂;unfold subscriptTail;show Ac_ ?_;rw[getitemInPython_of_ne hT.not_modules];show Ac_ (CP_ hT hl ?_);have fin:wpAny (model prog w) A (subscripted slice false o i) (λr s₃=>wpAny (model prog w) A (letTemporaryGo value o r >>= λ_=>pure r) Q E s₃) E s₂:=by rw[hs o i];show wpAny_operating (Bx_ h₂ (λr s₃ h₃=>Ac_ (wpAny_letTemporaryGo (Ah_ h₃))) λ_ _ x=>x)
 first
  |show Ah_ (Ac_ fin)
  |show Ac_ (Ah_ (Ac_ fin))
  |show Ac_ fin
theorem ki_(I:Inv X pins σ H s)(g:GQ_ H a y o):s.TypeIs (.ref a) "dict" := by
 rcases g with⟨kvs,k,e,_,_⟩|⟨kvs,k,b,e,_,_,_⟩
 .obtain⟨_,_,vs,_,dd⟩:=IZ_ I.hok e;show dd.typeIs
 .obtain⟨_,_,xs,_,dd⟩:=IY_ I.hok e;show dd.typeIs
def KF_(td ty:TE):TE:=λσ H Q=>td σ H λx H1=>ty σ H1 λy H2=>onR x λa=>∃v,GQ_ H2 a y (some v)/\Q v H2
def Mi_(ty td:TE):TE:=λσ H Q=>ty σ H λy H1=>td σ H1 λx H2=>onR x λa=>∃o,GQ_ H2 a y o/\Q (.bl o.isSome) H2
def IP_(ty td:TE):TE:=λσ H Q=>ty σ H λy H1=>td σ H1 λx H2=>onR x λa=>∃o,GQ_ H2 a y o/\Q (.bl (!o.isSome)) H2
def KO_(td ty tv:TE):TS:=λD σ H=>tv σ H λv H1=>td σ H1 λx H2=>ty σ H2 λy H3=>onR x λa=>∃H4,Iv_ H3 a y v H4/\D.nx σ H4
section
variable {o i value:Expr}{pos':Pos}{td ty tv:TE}
theorem dd_(hu:X.A.units+1<cLine)(ho:PE X o td)(hi:PE X i ty)(hs:Li_ i:=by intro _ _;rfl):PE X (.Subscript o i pos) (KF_ td ty):=by intro pins s σ H Q I h;show md_ PySem.F.slot_dict_getitem.lookup hs (thn (ho pins s σ H _ I h) λu s1 ⟨x,H1,I1,rx,q1⟩=>thn (hi pins s1 σ H1 _ I1 q1) λiv s2 ⟨y,H2,I2,ry,q9⟩=>?_);obtain⟨a,ex,v,g,q2⟩:=d6_ q9;subst ex;obtain rfl:u=Value.ref a:=rx;show⟨ki_ I2 g,mb_ hu I2 g ry λw' s3 I3 rw'=>⟨v,H2,I3,rw',q2⟩⟩
theorem oe_(hu:X.A.units+1<cLine)(hi:PE X i ty)(ho:PE X o td):PC X .In i o (Mi_ ty td):=by intro pins s σ H Q I h;show thn (hi pins s σ H _ I h) λiv s1 ⟨y,H1,I1,ry,q1⟩=>thn (ho pins s1 σ H1 _ I1 q1) λu s2 ⟨x,H2,I2,rx,q9⟩=>?_;obtain⟨a,ex,ov,g,q2⟩:=d6_ q9;subst ex;obtain rfl:u=Value.ref a:=rx;show d_in hu I2 g ry λs3 I3=>⟨.bl ov.isSome,H2,I3,rfl,q2⟩
theorem hc_(hu:X.A.units+1<cLine)(hi:PE X i ty)(ho:PE X o td):PC X .NotIn i o (IP_ ty td):=by intro pins s σ H Q I h;show thn (hi pins s σ H _ I h) λiv s1 ⟨y,H1,I1,ry,q1⟩=>thn (ho pins s1 σ H1 _ I1 q1) λu s2 ⟨x,H2,I2,rx,q9⟩=>?_;obtain⟨a,ex,ov,g,q2⟩:=d6_ q9;subst ex;obtain rfl:u=Value.ref a:=rx;show oR_ hu I2 g ry λs3 I3=>⟨.bl (!ov.isSome),H2,I3,rfl,q2⟩
theorem fZ_(hu:X.A.units+1<cLine)(ho:PE X o td)(hi:PE X i ty)(hv:PE X value tv)(hs:swapsWith value (some (.Subscript o i pos')) pos.line X.env=pure false):
  PS X (.Assign [.Subscript o i pos'] value pos) (KO_ td ty tv):=by
 intro pins s σ H D I h;show EA_ (thn (hv pins s σ H _ I h) λr s1 ⟨v,H1,I1,rv,q1⟩=>thn (ho pins s1 σ H1 _ I1 q1) λu s2 ⟨x,H2,I2,rx,q2⟩=>thn (hi pins s2 σ H2 _ I2 q2) λiv s3 ⟨y,H3,I3,ry,q9⟩=>?_) hs;obtain⟨a,ex,H4,g,q3⟩:=d6_ q9;subst ex;obtain rfl:u=Value.ref a:=rx;show mc_ hu I3 g ry rv λs4 I4=>⟨σ,H4,I4,q3⟩
end
theorem nl_(h:Heap)(hb:sysModules<h.objs.size):FV_ P w H (h.push {cls:=.type "dict",data:=.dict #[]}) h.objs.size (.dK []):=
 ⟨AE_ _,B4_.mpr (Ne.symm (AL_ hb)),[],.nil,Heap.DictOf.new h⟩
theorem nm_(h:Heap)(hb:sysModules<h.objs.size):FV_ P w H (h.push {cls:=.type "dict",data:=.dict #[]}) h.objs.size (.dT []):=
 ⟨AE_ _,B4_.mpr (Ne.symm (AL_ hb)),[],.nil,_,#[],0,AA_ _ rfl,⟨rfl,rfl,rfl⟩,rfl,rfl,A6_⟩
def Jy_:TE:=λ_ H Q=>∀p,H p=none->Q (.ref p) (upd H p (.dK []))
def JF_:TE:=λ_ H Q=>∀p,H p=none->Q (.ref p) (upd H p (.dT []))
theorem eO_:PE X (.Dict [] [] pos) Jy_:=λpins s σ H Q I h =>D8_ ⟨.ref s.heap.objs.size,_,I.laid (a:=s.heap.objs.size) (o:=.dK []) (t':=s.toks) (λ_ _ q=>Ak_ _ q) (Aj_ _) (nl_ s.heap I.big),rfl,h _ (I.hok.fresh (Aj_ _))⟩
theorem nn_:PE X (.Dict [] [] pos) JF_:=λpins s σ H Q I h =>D8_ ⟨.ref s.heap.objs.size,_,I.laid (a:=s.heap.objs.size) (o:=.dT []) (t':=s.toks) (λ_ _ q=>Ak_ _ q) (Aj_ _) (nm_ s.heap I.big),rfl,h _ (I.hok.fresh (Aj_ _))⟩
def KD_(kvs more:List (Key×V)):List (Key×V):=more.foldl (λacc kv=>Gd_ acc kv.1 kv.2) kvs
def IsD(H:Hp)(a:Addr):Prop:=(∃kvs,Rd H a (.dK kvs))\/∃kvs,Rd H a (.dT kvs)
variable {d:V}
def Kp_(td ty tx:TE):TE:=λσ H Q=>td σ H λx H1=>∃a,x=.ref a/\IsD H1 a/\ty σ H1 λy H2=>tx σ H2 λz H3=>∃o,GQ_ H3 a y o/\Q (o.getD z) H3
variable {kvs:List (Key×V)}
end L2
namespace Att
open PySem PySem.W PySem.Calls PyProof.Rows
end Att
namespace L2
open PySem PySem.Spec PyProof.Rows
variable {X:Cx}
end L2
namespace RimD
def su:Nat->(Nat->Int)->Int
 |0,_=>0
 |n+1,f=>su n f+f n
def sg(k:Nat):Int:=if k%2=0 then 1 else -1
def sk(k j:Nat):Nat:=if j<k then j else j+1
abbrev Mat:=Nat->Nat->Int
def mi(A:Mat)(k:Nat):Mat:=λi j=>A (i+1) (sk k j)
def D:Nat->Mat->Int
 |0,_=>1
 |n+1,A=>su (n+1) λk=>sg k*A 0 k*D n (mi A k)
def gi(r:List Int)(j:Nat):Int:=r.getD j 0
end RimD
namespace RimM
def nf(t b:Int):Int×Int:=if b<0 then(t / -(Int.gcd t b:Int),b / -(Int.gcd t b:Int))else(t/(Int.gcd t b:Int),b/(Int.gcd t b:Int))
theorem gpos{t b:Int}(hb:b≠0):0<(Int.gcd t b:Int):=by have:=Int.gcd_pos_of_ne_zero_right t hb;lia
theorem of_{t b:Int}(h:b<0):nf t b=nf (-t) (-b):=by
 have e:Int.gcd (-t) (-b)=Int.gcd t b:=by rw[Int.gcd_neg,Int.neg_gcd]
 unfold nf;rw[if_pos h,if_neg o_,e,Int.ediv_neg,Int.ediv_neg,E7_ (Int.gcd_dvd_left ..),E7_ (C4_ ..)]
theorem me_{t b:Int}(h:0<b):nf t b=(t/(Int.gcd t b:Int),b/(Int.gcd t b:Int)):=by unfold nf;rw[if_neg o_]
structure Low(p:Int×Int):Prop where
 pos:0<p.2
 co:Int.gcd p.1 p.2=1
theorem og_{t b:Int}(hb:b≠0):Low (nf t b)/\t*(nf t b).2=(nf t b).1*b:=by
 have key:∀{t b:Int},0<b->Low (nf t b)/\t*(nf t b).2=(nf t b).1*b:=λ{t b} h=>by
  have g:=gpos (t:=t) (b:=b) o_;rw[me_ h];show⟨⟨Int.ediv_pos_of_pos_of_dvd h (Int.le_of_lt g) (C4_ ..),Int.gcd_ediv_gcd_ediv_gcd o_⟩,?_⟩;change t*(b/(Int.gcd t b:Int))=t/(Int.gcd t b:Int)*b;obtain⟨x,hx⟩:=Int.gcd_dvd_left (a:=t) (b:=b);obtain⟨y,hy⟩:=C4_ (a:=t) (b:=b)
  have e1:t/(Int.gcd t b:Int)=x:=by
   conv=>lhs;arg 1;rw[hx]
   show D9_ _ o_
  have e2:b/(Int.gcd t b:Int)=y:=by
   conv=>lhs;arg 1;rw[hy]
   show D9_ _ o_
  rw[e1,e2]
  conv=>lhs;arg 1;rw[hx]
  conv=>rhs;arg 2;rw[hy]
  rw[Int.mul_assoc,Int.mul_left_comm]
 rcases Int.lt_or_lt_of_ne hb with h|h
 .rw[of_ h];obtain⟨a,e⟩:=key (t:=-t) (b:=-b) o_;show⟨a,?_⟩;rw[Int.neg_mul,Int.mul_neg]at e;lia
 .show key h
end RimM
namespace RimD
open RimM
end RimD
namespace RimT
variable {α:Type}[DecidableEq α]
def Jg_(p:Nat):Nat->List α->List ((Nat×Nat)×α)
 |_,[]=>[]
 |k,w::l=>((p,k),w)::Jg_ p (k+1) l
def Ho_:Nat->List (List α)->List ((Nat×Nat)×α)
 |_,[]=>[]
 |o,l::T=>Jg_ o 0 l++Ho_ (o+1) T
abbrev ends(T:List (List α)):=Ho_ 0 T
def wi(T:List (List α))(e:Nat×Nat):Option α:=(T.getD e.1 [])[e.2]?
theorem gR_{p:Nat}{e:Nat×Nat}{w:α}:∀{l:List α}{k:Nat},(e,w)∈Jg_ p k l↔e.1=p/\k<=e.2/\l[e.2-k]?=some w
 |[],k=>by simp[Jg_]
 |a::l,k=>by
  rw[Jg_,Ar_,gR_];constructor
  .rintro(h|⟨h1,h2,h3⟩)
   .cases h;simp
   .show⟨h1,o_,?_⟩;rw[show e.2-k=(e.2-(k+1))+1 by lia,C2_];show h3
  .rintro⟨h1,h2,h3⟩;by_cases z:e.2=k
   .left;rw[z,Cf_,List.getElem?_cons_zero]at h3;cases h3;show Bl_ (Bl_ h1 z) rfl
   .right;show⟨h1,o_,?_⟩;rw[show e.2-k=(e.2-(k+1))+1 by lia,C2_]at h3;show h3
theorem hd_{e:Nat×Nat}{w:α}:∀{T:List (List α)}{o:Nat},(e,w)∈Ho_ o T↔o<=e.1/\(T.getD (e.1-o) [])[e.2]?=some w
 |[],o=>by simp[Ho_]
 |l::T,o=>by
  rw[Ho_,Aq_,gR_,hd_];constructor
  .rintro(⟨h1,h2,h3⟩|⟨h1,h2⟩)
   .show⟨o_,?_⟩;rw[h1,Cf_];show h3
   .show⟨o_,?_⟩;rw[show e.1-o=(e.1-(o+1))+1 by lia];show h2
  .rintro⟨h1,h2⟩;by_cases z:e.1=o
   .left;rw[z,Cf_]at h2;show⟨z,o_,h2⟩
   .right;show⟨o_,?_⟩;rw[show e.1-o=(e.1-(o+1))+1 by lia]at h2;show h2
variable{e:Nat×Nat}
theorem ix_{T:List (List α)}{w:α}:(e,w)∈ends T↔wi T e=some w:=by unfold ends;rw[hd_];simp[wi]
theorem k0_(p:Nat):∀(l:List α)(k:Nat),(Jg_ p k l).map (·.2)=l
 |[],_=>rfl
 |a::l,k=>by rw[Jg_,AZ_,k0_ p l]
theorem he_:∀(T:List (List α))(o:Nat),(Ho_ o T).map (·.2)=T.flatten
 |[],_=>rfl
 |l::T,o=>by rw[Ho_,Av_,k0_,he_ T,A8_]
theorem hZ_(p:Nat):∀(l:List α)(k:Nat),((Jg_ p k l).map (·.1)).Nodup
 |[],_=>A6_
 |a::l,k=>by
  rw[Jg_,AZ_,AU_];show⟨λh=>?_,hZ_ p l (k+1)⟩;obtain⟨⟨e,w⟩,he,q⟩:=Ao_.mp h;have:=(gR_.mp he).2.1
  dsimp only at q
  rw[q]at this
  dsimp only at this
  lia
theorem hf_:∀(T:List (List α))(o:Nat),((Ho_ o T).map (·.1)).Nodup
 |[],_=>A6_
 |l::T,o=>by
  rw[Ho_,Av_,AG_];show⟨hZ_ o l 0,hf_ T (o+1),λa ha b hb e=>?_⟩;subst e;obtain⟨⟨e,w⟩,he,q⟩:=Ao_.mp ha;obtain⟨⟨e',w'⟩,he',q'⟩:=Ao_.mp hb;have h1:=(gR_.mp he).1;have h2:=(hd_.mp he').1
  dsimp only at q q'
  rw[q]at h1;rw[q']at h2;lia
theorem gm_(w:α):∀l:List ((Nat×Nat)×α),(l.map (·.2)).count w=(l.filter λx=>decide (x.2=w)).length
 |[]=>rfl
 |a::l=>by
  rw[AZ_,Ci_,gm_ w l,Ea_];by_cases h:a.2=w
  .simp[h]
  .simp[h]
theorem k1_{T:List (List α)}{w:α}(h:T.flatten.count w=2):∃a b,(ends T).filter (λx=>decide (x.2=w))=[(a,w),(b,w)]/\a≠b/\∀e,wi T e=some w↔e=a\/e=b:=by
 have hl:((ends T).filter λx=>decide (x.2=w)).length=2:=by rw[<-gm_,he_];show h
 have nd:(((ends T).filter λx=>decide (x.2=w)).map (·.1)).Nodup:=(hf_ T 0).sublist (List.Sublist.map _ List.filter_sublist)
 have mem:∀x,x∈(ends T).filter (λx=>decide (x.2=w))↔wi T x.1=some w/\x.2=w:=λx=>by
  rw[AI_,C5_];constructor
  .rintro⟨h1,h2⟩;show⟨?_,h2⟩;rw[<-ix_,<-h2];show h1
  .rintro⟨h1,h2⟩;show⟨?_,h2⟩;rw[<-ix_,<-h2]at h1;show h1
 generalize(ends T).filter (λx=>decide (x.2=w))=f at hl nd mem
 match f,hl with
 |[a,b],_ =>
  have ha:=(mem a).mp s_;have hb:=(mem b).mp s_;show⟨a.1,b.1,?_,?_,λe=>⟨λhe=>?_,?_⟩⟩
  .rw[show(a.1,w)=a from Bl_ rfl ha.2.symm,show(b.1,w)=b from Bl_ rfl hb.2.symm]
  .simp at nd;show nd
  .have:=(mem (e,w)).mpr ⟨he,rfl⟩
   rcases Ar_.mp this with z|z
   .show .inl (by rw[<-z])
   .show .inr (by rw[<-Ae_.mp z])
  .rintro(rfl|rfl)
   .show ha.1
   .show hb.1
def Tw(T:List (List α)):Prop:=∀w,w∈T.flatten->T.flatten.count w=2
theorem h0_{T:List (List α)}{w:α}(h:wi T e=some w):w∈T.flatten:=by rw[<-he_ T 0];show Ao_.mpr ⟨_,ix_.mpr h,rfl⟩
def H8_(T:List (List α))(a b:Nat×Nat):Prop:=a≠b/\∃w,wi T a=some w/\wi T b=some w
theorem H8_.symm{T:List (List α)}{a b:Nat×Nat}(h:H8_ T a b):H8_ T b a:=⟨λe=>h.1 e.symm,h.2.elim λw q=>⟨w,q.2,q.1⟩⟩
variable{a:Nat×Nat}
theorem oS_{T:List (List α)}(h:Tw T){w:α}(ha:wi T a=some w):∃b,H8_ T a b:=by
 obtain⟨x,y,_,ne,all⟩:=k1_ (h w (h0_ ha))
 rcases(all a).mp ha with e|e
 .show⟨y,e▸ne,w,ha,(all y).mpr (.inr rfl)⟩
 .show⟨x,λz=>ne (by rw[<-z,e]),w,ha,(all x).mpr (.inl rfl)⟩
theorem fy_{T:List (List α)}(h:Tw T){b c:Nat×Nat}(hb:H8_ T a b)(hc:H8_ T a c):b=c:=by
 obtain⟨n1,w,a1,b1⟩:=hb;obtain⟨n2,w',a2,c2⟩:=hc;rw[a1]at a2;cases a2;obtain⟨x,y,_,ne,all⟩:=k1_ (h w (h0_ a1))
 rcases(all a).mp a1 with e|e <;> rcases(all b).mp b1 with e1|e1 <;> rcases(all c).mp c2 with e2|e2 <;> subst e <;> subst e1 <;> subst e2 <;> first|rfl|show absurd rfl n1|show absurd rfl n2
def rl(T:List (List α))(p:Nat):Nat:=(T.getD p []).length
def IsC(T:List (List α))(P:Nat)(c:Nat×Nat):Prop:=c.1<T.length/\c.2<rl T c.1+(if c.1<P then 1 else 0)
theorem kj_{T:List (List α)}(h:e.2<rl T e.1):∃w,wi T e=some w:=⟨_,Aa_ h⟩
theorem GD_{T:List (List α)}{w:α}(h:wi T e=some w):e.2<rl T e.1/\e.1<T.length:=by
 have h1:e.2<rl T e.1:=(Ai_.mp h).1;show⟨h1,?_⟩
 rcases Nat.lt_or_ge e.1 T.length with z|z
 .show z
 .unfold rl at h1;rw[Ad_,BA_ z]at h1;simp at h1
def nx(T:List (List α))(P:Nat)(c m:Nat×Nat):Nat×Nat :=
 if c.2=rl T c.1 then((c.1+P-1)%P,0)else if m.1<P then(m.1,m.2+1)else(m.1,(m.2+1)%rl T m.1)
def Nx(T:List (List α))(P:Nat)(c c':Nat×Nat):Prop:=(c.2=rl T c.1/\c'=((c.1+P-1)%P,0))\/(c.2<rl T c.1/\∃m,H8_ T c m/\c'=if m.1<P then(m.1,m.2+1)else(m.1,(m.2+1)%rl T m.1))
variable{P:Nat}
theorem oh_{T:List (List α)}(h:Tw T){c b:Nat×Nat}(ha:Nx T P c a)(hb:Nx T P c b):a=b:=by
 rcases ha with⟨h1,h2⟩|⟨h1,m,hm,h2⟩ <;> rcases hb with⟨g1,g2⟩|⟨g1,m',hm',g2⟩
 .rw[h2,g2]
 .lia
 .lia
 .rw[fy_ h hm hm']at h2;rw[h2,g2]
theorem nx_c{T:List (List α)}(hP:0<P)(hPT:P<=T.length){c c':Nat×Nat}(hc:IsC T P c)(h:Nx T P c c'):IsC T P c':=by
 rcases h with⟨h1,rfl⟩|⟨h1,m,⟨_,w,_,hm⟩,rfl⟩
 .have:=BN_ (c.1+P-1) hP;show⟨by change(c.1+P-1)%P<_;lia,by change 0<_;simp only[this,if_true];lia⟩
 .obtain⟨a,b⟩:=GD_ hm;split
  .rename_i z;show⟨b,by change m.2+1<_;simp only[z,if_true];lia⟩
  .show⟨b,?_⟩;have:=BN_ (m.2+1) (show 0<rl T m.1 by lia);show AO_ this (Cq_ _ _)
theorem oT_{m a b:Nat}(ha:a<m)(hb:b<m)(h:(a+1)%m=(b+1)%m):a=b:=by
 by_cases z1:a+1=m <;> by_cases z2:b+1=m
 .lia
 .rw[z1,CG_,A1_ o_]at h;lia
 .rw[z2,CG_,A1_ o_]at h;lia
 .rw[A1_ o_,A1_ o_]at h;lia
theorem no_{a b:Nat}(ha:a<P)(hb:b<P)(h:(a+P-1)%P=(b+P-1)%P):a=b:=by
 have e:∀x,x<P->(x+P-1)%P=if x=0 then P-1 else x-1:=λx hx=>by
  by_cases z:x=0
  .rw[if_pos z,z,Nat.zero_add,A1_ o_]
  .rw[if_neg z,show x+P-1=(x-1)+P by lia,Nat.add_mod_right,A1_ o_]
 rw[e a ha,e b hb]at h;split at h <;> split at h <;> lia
theorem mf_{T:List (List α)}(h:Tw T)(hP:0<P){c d x:Nat×Nat}(hc:IsC T P c)(hd:IsC T P d)(h1:Nx T P c x)(h2:Nx T P d x):c=d:=by
 have post:∀{c:Nat×Nat},IsC T P c->c.2=rl T c.1->c.1<P:=λ{c} hc e=>by
  have:=hc.2;split at this
  .assumption
  .lia
 rcases h1 with⟨a1,a2⟩|⟨a1,m,am,a2⟩ <;> rcases h2 with⟨b1,b2⟩|⟨b1,m',bm,b2⟩
 .rw[a2]at b2;have e:=no_ (post hc a1) (post hd b1) (congrArg Prod.fst b2);show Bl_ e (by rw[a1,b1,e])
 .exfalso;rw[a2]at b2;have lt:=BN_ (c.1+P-1) hP;split at b2
  .have:=congrArg Prod.snd b2;dsimp only at this;lia
  .have:=congrArg Prod.fst b2;dsimp only at this;lia
 .exfalso;rw[b2]at a2;have lt:=BN_ (d.1+P-1) hP;split at a2
  .have:=congrArg Prod.snd a2;dsimp only at this;lia
  .have:=congrArg Prod.fst a2;dsimp only at this;lia
 .rw[a2]at b2;obtain⟨_,w,_,wm⟩:=id am;obtain⟨_,w',_,wm'⟩:=id bm;have l1:=(GD_ wm).1;have l2:=(GD_ wm').1
  have e:m=m':=by
   split at b2 <;> split at b2
   .have e1:=congrArg Prod.fst b2;have e2:=congrArg Prod.snd b2;dsimp only at e1 e2;show Bl_ e1 o_
   .have e1:=congrArg Prod.fst b2;dsimp only at e1;lia
   .have e1:=congrArg Prod.fst b2;dsimp only at e1;lia
   .have e1:=congrArg Prod.fst b2;have e2:=congrArg Prod.snd b2;dsimp only at e1 e2;rw[<-e1]at e2 l2;show Bl_ e1 (oT_ l1 l2 e2)
  subst e;show fy_ h am.symm bm.symm
def corners(T:List (List α))(P:Nat):List (Nat×Nat):=(List.range T.length).flatMap λp=>(List.range (rl T p+(if p<P then 1 else 0))).map λk=>(p,k)
theorem e8_{T:List (List α)}{c:Nat×Nat}:c∈corners T P↔IsC T P c:=by
 unfold corners IsC;rw[De_];constructor
 .rintro⟨p,hp,hc⟩;obtain⟨k,hk,rfl⟩:=Ao_.mp hc;show⟨AX_.mp hp,AX_.mp hk⟩
 .rintro⟨h1,h2⟩;show⟨c.1,AX_.mpr h1,Ao_.mpr ⟨c.2,AX_.mpr h2,rfl⟩⟩
inductive Way(T:List (List α))(P:Nat):List (Nat×Nat)->Nat×Nat->Prop
 |one {c d}:Nx T P c d->Way T P [c] d
 |more {l c d}:Way T P l c->Nx T P c d->Way T P (l++[c]) d
variable{d:Nat×Nat}
theorem k2_{T:List (List α)}{l:List (Nat×Nat)}(w:Way T P l d):l≠[]:=by
 cases w with
 |one _=>simp
 |more _ _=>simp
theorem k3_{β:Type}{l m:List β}{c:β}(h:l≠[])(e:(l++m).head?=some c):l.head?=some c:=by
 cases l with
 |nil=>show absurd rfl h
 |cons a r=>show e
theorem ar_{β:Type}[DecidableEq β]:∀{l m:List β},l.Nodup->(∀x∈l,x∈m)->l.length<=m.length
 |[],_,_,_=>AE_ _
 |a::l,m,nd,h=>by
  rw[AU_]at nd
  have:=ar_ (l:=l) (m:=m.erase a) nd.2 λx hx=>by
   have hne:x≠a:=λe=>by subst e;show nd.1 hx
   show(List.mem_erase_of_ne hne).mpr (h x (Am_ _ hx))
  have ha:=h a An_;rw[List.length_erase_of_mem ha]at this;have:0<m.length:=CB_ ha;simp only[AM_];lia
theorem iy_{T:List (List α)}(h:Tw T)(hP:0<P)(hPT:P<=T.length){c:Nat×Nat}:∀{l:List (Nat×Nat)}{d:Nat×Nat},Way T P l d->l.head?=some c->IsC T P c->IsC T P d/\(∀x∈l,IsC T P x)/\(∀x∈l,x=c\/∃y∈l,Nx T P y x)
  /\ ∃z∈l,Nx T P z d:=by
 intro l d w
 induction w with
 | @one a b hn =>
  intro hc ic;cases hc;show⟨nx_c hP hPT ic hn,λx hx=>by rw[Ae_.mp hx];show ic,λx hx=>.inl (Ae_.mp hx),c,s_,hn⟩
 | @more l' x y w hn ih =>
  intro hc ic;have hc':l'.head?=some c:=k3_ (k2_ w) hc;obtain⟨i1,i2,i3,z,hz,i4⟩:=ih hc' ic;show⟨nx_c hP hPT i1 hn,λq hq=>?_,λq hq=>?_,x,s_,hn⟩
  .rcases Aq_.mp hq with q'|q'
   .show i2 q q'
   .rw[Ae_.mp q'];show i1
  .rcases Aq_.mp hq with q'|q'
   .show(i3 q q').imp id λ⟨y,hy,e⟩=>⟨y,Ax_ _ hy,e⟩
   .rw[Ae_.mp q'];show .inr ⟨z,Ax_ _ hz,i4⟩
theorem oU_{T:List (List α)}(h:Tw T)(hP:0<P)(hPT:P<=T.length){c:Nat×Nat}{l:List (Nat×Nat)}(w:Way T P l d)(hc:l.head?=some c)(ic:IsC T P c)(nd:l.Nodup)(hd:d≠c):d∉l:=λhm=>by
 obtain⟨i1,i2,i3,z,hz,i4⟩:=iy_ h hP hPT w hc ic
 have key:∀{l:List (Nat×Nat)}{d:Nat×Nat},Way T P l d->l.head?=some c->l.Nodup->d∈l->d=c:=by
  intro l d w
  induction w with
  | @one a b hn =>
   intro hc nd hm;cases hc;show Ae_.mp hm
  | @more l' x y w hn ih =>
   intro hc nd hm;have hc':l'.head?=some c:=k3_ (k2_ w) hc;obtain⟨j1,j2,j3,z,hz,j4⟩:=iy_ h hP hPT w hc' ic;rw[AG_]at nd;have xnew:x∉l':=λq=>nd.2.2 x q x s_ rfl
   rcases Aq_.mp hm with q|q
   .rcases j3 y q with e|⟨u,hu,e⟩
    .show e
    .have:u=x:=mf_ h hP (j2 u hu) j1 e hn;show absurd (this▸hu) xnew
   .have e:=Ae_.mp q;subst e
    have:z=y:=mf_ h hP (j2 z hz) j1 j4 hn;show absurd (this▸hz) xnew
 show hd (key w hc nd hm)
theorem oV_{T:List (List α)}(h:Tw T)(hP:0<P)(hPT:P<=T.length){c:Nat×Nat}{l:List (Nat×Nat)}(w:Way T P l d)(hc:l.head?=some c)(ic:IsC T P c)(nd:l.Nodup):l.length<=(corners T P).length :=
 ar_ nd λx hx=>e8_.mpr ((iy_ h hP hPT w hc ic).2.1 x hx)
def ins(l:List α)(k:Nat)(w:α):List α:=l.take k++w::l.drop k
theorem eP_(l:List α)(k:Nat)(w:α):(ins l k w).length=l.length+1:=by unfold ins;simp only[Al_,AT_,AM_,B6_];lia
theorem mg_(l:List α)(k:Nat)(w x:α):(ins l k w).count x=l.count x+if w=x then 1 else 0:=by
 unfold ins;rw[B0_,Ci_];have:=Bk_ k l;have e:l.count x=(l.take k).count x+(l.drop k).count x:=by rw[<-B0_,this]
 rw[e];by_cases h:w=x
 .simp[h];lia
 .simp[h]
def Fu_(T:List (List α))(c:Nat×Nat)(w:α):List (List α):=T.set c.1 (ins (T.getD c.1 []) c.2 w)
theorem do_(x:α)(l':List α):∀(T:List (List α))(p:Nat),p<T.length->(T.set p l').flatten.count x+(T.getD p []).count x=T.flatten.count x+l'.count x
 |[],p,h=>absurd h s_
 |l::T,0,h=>by
  simp only[DR_,A8_,B0_,E8_];lia
 |l::T,p+1,h=>by have:=do_ x l' T p (by simpa using h);simp only[DS_,A8_,B0_,E9_];lia
theorem kk_(l':List α):∀(T:List (List α))(p:Nat),p<T.length->(T.set p l').flatten.length+(T.getD p []).length=T.flatten.length+l'.length
 |[],p,h=>absurd h s_
 |l::T,0,h=>by
  simp only[DR_,A8_,Al_,E8_];lia
 |l::T,p+1,h=>by have:=kk_ l' T p (by simpa using h);simp only[DS_,A8_,Al_,E9_];lia
theorem dM_{T:List (List α)}{c:Nat×Nat}(h:c.1<T.length)(w x:α):(Fu_ T c w).flatten.count x=T.flatten.count x+if w=x then 1 else 0:=by have:=do_ x (ins (T.getD c.1 []) c.2 w) T c.1 h;rw[mg_]at this;unfold Fu_;lia
theorem hg_{T:List (List α)}{c:Nat×Nat}(h:c.1<T.length)(w:α):(Fu_ T c w).flatten.length=T.flatten.length+1:=by have:=kk_ (ins (T.getD c.1 []) c.2 w) T c.1 h;rw[eP_]at this;unfold Fu_;lia
theorem ap_(T:List (List α))(c:Nat×Nat)(w:α):(Fu_ T c w).length=T.length:=by unfold Fu_;simp
theorem gS_{T:List (List α)}{c:Nat×Nat}(w:α)(p:Nat):rl T p<=rl (Fu_ T c w) p:=by
 unfold Fu_ rl;rw[Ad_,Ad_,A3_];by_cases h:c.1=p
 .subst h;by_cases h2:c.1<T.length
  .simp only[if_true,h2,Option.getD_some,eP_];rw[Ad_];lia
  .simp[h2,BA_ (CL_.mp h2)]
 .simp[h]
structure Gr(P W:Nat)(T:List (List Nat)):Prop where
 len:P<=T.length
 most:T.length<=P+10
 two:∀w,w<W->T.flatten.count w=2
 lt:∀w∈T.flatten,w<W
 ne:∀p,P<=p->p<T.length->0<rl T p
 tot:T.flatten.length=2*W
variable{T:List (List Nat)}
theorem Gr.tw{W:Nat}(g:Gr P W T):Tw T:=λw h=>g.two w (g.lt w h)
theorem np_(P:Nat):Gr P 0 (List.replicate P []):=by
 have e:(List.replicate P ([]:List Nat)).flatten=[]:=by
  induction P with
  |zero=>rfl
  |succ n ih=>rw[List.replicate_succ,A8_,ih];rfl
 show⟨s_,s_,λw h=>absurd h o_,λw h=>(by rw[e]at h;cases h),λp h1 h2=>(by simp at h2;lia),(by rw[e];rfl)⟩
theorem hh_{c:Nat×Nat}(h:c.1<T.length){w x:Nat}(hx:x∈(Fu_ T c w).flatten):x=w\/x∈T.flatten:=by
 by_cases e:x=w
 .show .inl e
 .right;have:=Bs_.mpr hx;rw[dM_ h,if_neg (λz=>e z.symm)]at this;show Bs_.mp o_
theorem oW_{W:Nat}{c:Nat×Nat}(g:Gr P W T)(hc:c.1<T.length)(h:T.length<P+10):Gr P (W+1) (Fu_ T c W++[[W]]):=by
 have fl:(Fu_ T c W++[[W]]).flatten=(Fu_ T c W).flatten++[W]:=by rw[Be_];simp
 show⟨by simp[ap_];have:=g.len;lia,by simp[ap_];lia,λw hw=>?_,λw hw=>?_,λp h1 h2=>?_,?_⟩
 .rw[fl,B0_,dM_ hc];by_cases e:w=W
  .subst e;have:T.flatten.count w=0:=DT_.mpr λz=>absurd (g.lt w z) o_;simp[this]
  .have:=g.two w o_;rw[if_neg (λz=>e z.symm),this];rw[DT_.mpr λz=>e (Ae_.mp z)]
 .rw[fl]at hw
  rcases Aq_.mp hw with hw|hw
  .rcases hh_ hc hw with e|e
   .lia
   .have:=g.lt w e;lia
  .have:=Ae_.mp hw;lia
 .simp only[Al_,ap_,AP_]at h2;by_cases e:p<T.length
  .have:=g.ne p h1 e;have a:=gS_ (T:=T) (c:=c) W p;unfold rl at a⊢;rw[Ad_,Aw_ (by rw[ap_];show e),<-Ad_];unfold rl at this;lia
  .have e:p=T.length:=o_
   subst e;unfold rl;rw[Ad_,Az_ (by rw[ap_];show Aj_ _),ap_];simp
 .rw[fl,Al_,hg_ hc,g.tot];simp;lia
theorem pW_{W:Nat}{c:Nat×Nat}(g:Gr P W T)(hc:c.1<T.length)(hd:d.1<T.length):Gr P (W+1) (Fu_ (Fu_ T c W) d W):=by
 have hd':d.1<(Fu_ T c W).length:=by rw[ap_];show hd
 show⟨by rw[ap_,ap_];show g.len,by rw[ap_,ap_];show g.most,λw hw=>?_,λw hw=>?_,λp h1 h2=>?_,?_⟩
 .rw[dM_ hd',dM_ hc];by_cases e:w=W
  .subst e;have:T.flatten.count w=0:=DT_.mpr λz=>absurd (g.lt w z) o_;simp[this]
  .rw[if_neg (λz=>e z.symm),g.two w o_]
 .rcases hh_ hd' hw with e|e
  .lia
  .rcases hh_ hc e with e|e
   .lia
   .have:=g.lt w e;lia
 .rw[ap_,ap_]at h2;have:=g.ne p h1 h2;have a:=gS_ (T:=T) (c:=c) W p;have b:=gS_ (T:=Fu_ T c W) (c:=d) W p;lia
 .rw[hg_ hd',hg_ hc,g.tot];lia
theorem kl_{T:List (List α)}:(corners T P).length<=T.flatten.length+P:=by
 have key:∀n,n<=T.length->((List.range n).flatMap λp=>(List.range (rl T p+(if p<P then 1 else 0))).map λk=>(p,k)).length<=(T.take n).flatten.length+min n P:=λn=>by
  induction n with
  |zero=>intro _;simp
  |succ n ih =>
   intro h;have i:=ih o_;have e:T[n]?=some T[n]:=Aa_ o_;rw[BV_,DC_,Al_,Bc_,e,Be_,Al_];have r:rl T n=T[n].length:=by unfold rl;rw[Ad_,e];rfl
   simp only[C6_,List.flatMap_nil,BL_,Ab_,Br_,Option.toList_some,A8_,List.flatten_nil,r];split <;> lia
 have:=key T.length (Aj_ _);rw[BD_]at this;unfold corners;lia
theorem Gr.corners{W:Nat}(g:Gr P W T):(corners T P).length<=2*W+P:=by have:=kl_ (T:=T) (P:=P);rw[g.tot]at this;show this
end RimT
namespace L2
open PySem PySem.Spec PyProof.Rows
def GT_(n:Nat):List V:=(List.range n).map λi:Nat=>V.int (i:Int)
def HS_(ta:TA):TE:=λσ H Q=>ta σ H λvs H1=>∃n:Nat,vs=[.int (n:Int)]/\n<=1000/\∀l,H1 l=none->Q (.ref l) (upd H1 l (.lst (GT_ n)))
theorem gT_:∀{xs:List V}{us:List Value},xs.length=us.length->(∀(j:Nat) x u,xs[j]?=some x->us[j]?=some u->FU_ x u)->FO_ xs us
 |[],[],_,_=>.nil
 |[],_::_,h,_=>by simp at h
 |_::_,[],h,_=>by simp at h
 |x::xs,u::us,h,k=>.cons (k 0 x u rfl rfl) (gT_ (by simpa using h) λj y v e e'=>k (j+1) y v (by simpa using e) (by simpa using e'))
theorem gn_{X:Cx}{a:Expr}{ta:TA}{p p' pos pos':Pos}(hc:X.calm=true)(hg:Gl X "list") (hm:X.mg "list"=none) (hg':Gl X "range") (hm':X.mg "range"=none) (ha:PA X [a] ta) (hs:FD_ [a]=true:=by rfl):
  PE X (.Call (.Name "list" p) [.Call (.Name "range" p') [a] [] pos'] [] pos) (HS_ ta):=by
 have h':Gh_ a=true:=by simpa[FD_]using hs
 intro pins s σ H Q I h;show Ce_ (ef_ I hg hm cs_ ?_ d_ d_);show Bi_ ?_ (av_ rfl) rfl;rw[av_ (e:=.Call (.Name "range" p') [a] [] pos') (es:=[]) rfl];change wpAny _ _ (spliced ((false,eval (.Call (.Name "range" p') [a] [] pos') X.env)::backTo pos (starEach [] X.env))) _ _ s;show DO_ ?_;show Call_ (ef_ I hg' hm' boot_range (Bi_ (thn (ha pos' pins s σ H _ I h) λus s1 ⟨vs,H1,I1,r1,q1⟩=>?_) (av_ h') rfl));obtain⟨n,e,n1,q⟩:=q1;subst e;cases r1 with
 |cons r rr =>
  cases rr;obtain⟨t,rfl⟩:=r;show call_range_1 ?_;show D0_ ?_;have I2:Inv X pins σ H1 {s1 with heap:=s1.heap.push {cls:=.type "range",data:=.fields #[.int 0 s1.toks,.int (n:Int) t,.int 1 (s1.toks+1)]},toks:=s1.toks+1+1}:=I1.kept λb o e=>Ak_ _ e;show call_list_range (n:=n) (I2.ok.hd hc) (IsRange.new ..) (small_one o_ o_ o_ o_) (by rw[rangeSize_one];split <;> lia) o_ λh2 tk acc c hk hS hacc=>?_;show⟨.ref _,_,I2.laid (t':=tk) hk (Aj_ _) (show FV_ X.prog X.w _ h2 _ (.lst (GT_ n))from⟨?_,acc.toList,c,gT_ ?_ ?_,by simpa using hS⟩),rfl,q _ (I2.hok.fresh (Aj_ _))⟩
  .show AS_ (Fq_ (by simp[GT_];lia))
  .simp[GT_,hacc.1]
  .intro j x u hx hu;have hj:j<n:=by have:=(Ai_.mp hx).1;simpa[GT_]using this
   have hx':x=V.int (j:Int):=by rw[GT_,Af_,Ct_ hj]at hx;show(AB_ hx).symm
   obtain⟨tk',rfl⟩:=hacc.2 j u (by simpa using hu);rw[hx'];show⟨tk',by rw[CH_,Int.mul_one]⟩
def tRev(te:TE)(ts:TO):TE:=λσ H Q=>te σ H λx H1=>ts σ H1 λo H2=>o=some (-1)/\∃a xs,x=.ref a/\H2 a=some (.lst xs)/\∀p,H2 p=none->Q (.ref p) (upd H2 p (.lst xs.reverse))
theorem nq_{xs:List V}{us:List Value}(r:FO_ xs us):FO_ xs.reverse us.reverse:=by
 have hl:=r.length;show gT_ (by simp[hl]) λj x u hx hu=>?_;have hj:j<xs.length:=by have:=(Ai_.mp hx).1;simpa using this
 rw[Di_ hj]at hx;rw[Di_ o_,<-hl]at hu;obtain⟨u',hu',ru⟩:=r.get hx;rw[hu]at hu';cases hu';show ru
theorem oi_{X:Cx}{e:Expr}{st:Expr}{te:TE}{ts:TO}{pos p2:Pos}(he:PE X e te)(hk:PO X (some st) ts):PE X (.Subscript e (.Slice none none (some st) p2) pos) (tRev te ts):=by intro pins s σ H Q I h;show EV_ (thn (he pins s σ H _ I h) λv s1 ⟨x,H1,I1,r1,q1⟩=>?_);show wpAny_Slice ?_;rw[E3_];show Ah_ (Ah_ ?_);show thn (hk pins s1 σ H1 _ I1 q1) λvk s2 ⟨o,H2,I2,pk,q2⟩=>?_;obtain⟨rfl,a,xs,rfl,hx,q⟩:=q2;cases r1;have I4:Inv X pins σ H2 {s2 with heap:=s2.heap.push {cls:=.type "slice",data:=.fields #[.none,.none,vk]}}:=I2.kept (t':=s2.toks) λb ob q=>Ak_ _ q;obtain⟨its,r,ht,hz⟩:=I4.list (.inl (.inl hx));have hlen:=r.length;change wpAny (model X.prog X.w) X.A (subscriptTail e (.Slice none none (some st) p2) (.ref a) (.ref s2.heap.objs.size)) (EP X pins σ Q) X.xe {s2 with heap:=s2.heap.push {cls:=.type "slice",data:=.fields #[.none,.none,vk]}};show tail_any (ops:=[.ref a,.ref s2.heap.objs.size]) ht.isList.typeIs slot_list_getitem.lookup ?_ (by with_unfolding_all rfl);show D5_ ht.isList (Heap.IsSliceOf.new ..) .none .none pk d_ ?_ (by rw[Au_] <;> lia);rw[PySem.W.krv_pick];show⟨.ref _,_,I4.laid (t':=s2.toks) (o:=.lst xs.reverse) (λb ob q=>Ak_ _ q) (Aj_ _) ?_,rfl,q _ (I4.hok.fresh (Aj_ _))⟩;show⟨by rw[B5_];show hz,its.reverse,0,nq_ r,AA_ _ rfl⟩
open PySem.W
def Gv_{α:Type}(lt:Nat->Nat->Bool)(n:Nat):KasT α->Option α
 | .ret a=>some a
 | .ask i j k=>if i<n/\j<n then Gv_ lt n (k (lt i j))else none
theorem mh_{α:Type}{ask:Nat->Nat->(Bool->Shared->Prop)->Shared->Prop}{lt:Nat->Nat->Bool}{n:Nat}{Q:α->Shared->Prop}{s:Shared}(hc:∀i j (C:Bool->Shared->Prop),i<n->j<n->C (lt i j) s->ask i j C s):
  ∀(t:KasT α){p:α},Gv_ lt n t=some p->Q p s->t.kasWp ask Q s
 | .ret a,p,e,q=>by
  cases e;show q
 | .ask i j k,p,e,q=>by
  unfold Gv_ at e;split at e
  .rename_i h;show hc i j _ h.1 h.2 (mh_ hc (k (lt i j)) e q)
  .cases e
variable {X:Cx}{pins:List (Addr×Obj)}{σ:St}{H:Hp}{s:Shared}
theorem pX_{h:Heap}{a:Addr}{m m':Str->Option Value}(x:h.Ns a m)(y:h.Ns a m'):m=m':=by obtain⟨o,es,ep,ho,hd,_,hf⟩:=x;obtain⟨o',es',ep',ho',hd',_,hf'⟩:=y;rw[ho]at ho';cases ho';rw[hd]at hd';cases hd';funext z;rw[<-hf z,hf' z]
theorem Inv.keeps(I:Inv X pins σ H s){m:Str->Option Value}{h':Heap}(F:Fr X.base X.env.locals h' m)(N:News X.base X.env.locals h' (F8_ X.base s.heap X.env.locals)):
  ∀b o,b≠X.env.locals->s.heap.get? b=some o->h'.get? b=some o:=λb o hb e=>by
 cases q:X.base.get? b with
 |some u =>
  have z:=I.bk b u q;rw[e]at z;cases z;show F.keep b _ q
 |none=>show(N (b,o) (dF_ hb q e)).1
theorem Inv.led{H':Hp}{t':Nat}(I:Inv X pins σ H s){m:Str->Option Value}(hn:s.heap.Ns X.env.locals m){h':Heap}(F:Fr X.base X.env.locals h' m)(N:News X.base X.env.locals h' (F8_ X.base s.heap X.env.locals))
  (free:∀b o,s.heap.get? b=some o->H b=none->H' b=none) (old:∀b o,H b=some o->H' b=some o) (new:∀b o,H' b=some o->H b=none->FV_ X.prog X.w H' h' b o):Inv X pins σ H' {s with heap:=h',toks:=t'}:=by
 have kp:=I.keeps F N;show I.step (g':=s.gens) (d':=s.drawn) (ch:=[]) (λ_ z=>nomatch z) (λb o hb _ _ e _=>kp b o hb e) (λb o hb _ _ e _=>⟨o.slots,kp b o hb e⟩) (λb o _ e n=>free b o e n) (λb o _ e=>?_) (λb xs q=>old b _ q) (λb o u q=>old b _ q) (λb ps q=>⟨#[],by simpa using old b _ q⟩) (λm' hm=>?_) ?_ I.bare
 .by_cases hb:b=X.env.locals
  .subst hb;obtain⟨o',_,_,ho',_⟩:=F.ns;show⟨o',ho'⟩
  .show⟨o,kp b o hb e⟩
 .rw[pX_ hm hn];show F.ns
 .intro b o e;cases q:H b with
  |none=>show new b o e q
  |some u =>
   have z:=old b u q;rw[e]at z;cases z;show(I.hok b o q).stay (λc v hc r=>kp c v (λw=>?_) r) (λc r=>old c _ r) λc xs r=>old c _ r
   rcases hc with rfl|hc
   .rw[w,I.free]at q;cases q
   .rw[w,I.free]at hc;cases hc
theorem jq_{ys:List V}{its:List Value}(r:FO_ ys its)(is:List Nat):FO_ (is.map λi=>ys.getD i .non) (is.map λi=>its.getD i Value.none):=by
 induction is with
 |nil=>show .nil
 |cons i is ih =>
  show .cons ?_ ih;change FU_ (ys.getD i .non) (its.getD i Value.none);rw[Ad_,Ad_];have hl:=r.length;cases e:ys[i]? with
  |none =>
   have:ys.length<=i:=CQ_.mp e;rw[CQ_.mpr o_];show rfl
  |some x =>obtain⟨u,hu,ru⟩:=r.get e;rw[hu];show ru
variable{P:Program}{h:Heap}
theorem J3_{w:World}{a:Addr}{o:HO}(x:FV_ P w H h a o):∃ob,h.get? a=some ob:=by
 cases o with
 |lst xs=>obtain⟨_,_,_,_,e⟩:=x;show⟨_,e⟩
 |tup xs=>obtain⟨_,_,_,ob,e,_⟩:=x;show⟨_,e⟩
 |dK kvs=>obtain⟨_,_,_,_,ob,_,_,e,_⟩:=x;show⟨_,e⟩
 |dT kvs=>obtain⟨_,_,_,_,ob,_,_,e,_⟩:=x;show⟨_,e⟩
 |set S n=>obtain⟨ob,_,_,_,e,_⟩:=x;show⟨_,e⟩
 |ins C dx fs=>obtain⟨_,_,_,e,_⟩:=x;show⟨_,e⟩
 |own y=>show x
 |xd fs=>obtain⟨_,⟨ob,_,_,e,_⟩,_⟩:=x;show⟨_,e⟩
 |rng lo hi=>obtain⟨_,_,_,e⟩:=x;show⟨_,e⟩
 |frz ob u=>show⟨_,x.1⟩
 |tbl ps=>show⟨_,show h.get? a=some _ from x⟩
 |met f y=>show⟨_,show h.get? a=some _ from x⟩
 |ext φ=>show x.2.1
theorem jr_{Q:VK}{p:Addr}{ys:List V}{lt:Nat->Nat->Bool}{κ:SortKind}{pm:Array Nat}(I:Inv X pins σ H s)(hq:SqL X.K H p ys)(h2:2<=ys.length)(h64:ys.length<64)
  (kind:∀(its:List Value)(s':Shared),FO_ ys its->Inv X pins σ H s'->∀C:SortKind->Shared->Prop,C κ s'->wpAny (model X.prog X.w) X.A.in1.in1 (keyKind' its.toArray) C (λ_ _=>False) s')
  (less:∀(its:List Value)(s':Shared)(i j:Nat),FO_ ys its->Inv X pins σ H s'->i<ys.length->j<ys.length->∀C:Bool->Shared->Prop,C (lt i j) s'->wpAny (model X.prog X.w) X.A.in1.in1 (keyLt' κ (its.getD i Value.none) (its.getD j Value.none)) C (λ_ _=>False) s')
  (run:Gv_ lt ys.length (kas_sort ys.length)=some pm) (hz:pm.size<=1000) (q:∀l,H l=none->Q (.ref l) (upd H l (.lst (pm.toList.map λi=>ys.getD i .non)))):
  wpAny (model X.prog X.w) X.A (call (.builtin "sorted") [.ref p]) (EP X pins σ Q) X.xe s:=by
 obtain⟨its,rv,pl,_⟩:=I.list hq;have hl:=rv.length;obtain⟨m,hn,_⟩:=id I.loc;have F0:Fr X.base X.env.locals s.heap m:=⟨hn,I.bk,AH_ I.ok.bsz I.ok.above⟩;show kat_sorted F0 eJ_ pl.isList o_ o_ λD e1 h1 F1 N1 lt1=>?_;have N1':News X.base X.env.locals h1 (F8_ X.base s.heap X.env.locals):=λz hz'=>N1 z (Am_ _ hz');have ND:=N1 (D,_) An_;have fr:∀b o,s.heap.get? b=some o->b≠D:=λb o e w=>by subst w;show absurd (lt1 (b,o) (dF_ ND.2.1 ND.2.2 e)) (Bf_ _)
 have HD:H D=none:=by
  cases w:H D with
  |none=>rfl
  |some u =>obtain⟨o,g⟩:=J3_ (I.hok D u w);show absurd rfl (fr D o g)
 have I1:Inv X pins σ H {s with heap:=h1,toks:=s.toks}:=I.led hn F1 N1' (λ_ _ _ n=>n) (λ_ _ w=>w) (λb o w n=>by rw[w]at n;cases n);show kind its _ rv I1 _ ?_;rw[<-hl];show mh_ (lt:=lt) (n:=ys.length) (λi j C hi hj hC=>less its _ i j rv I1 hi hj C hC) _ run ?_;show KasFin.intro F1 N1 (.head λz hz' w=>?_) λh2' c F2 N2=>?_
 .show absurd (lt1 z hz') (by rw[w];show Bf_ _)
 .have N2':News X.base X.env.locals h2' (F8_ X.base s.heap X.env.locals):=λz hz'=>N2 z (Am_ _ hz');have hD:=(N2 (D,_) An_).1;show⟨.ref D,upd H D (.lst (pm.toList.map λi=>ys.getD i .non)),I.led (t':=s.toks) hn F2 N2' (λb o e n=>by rw[ae_ (fr b o e)];show n) (λb o e=>by rw[ae_ (ag_ e HD)];show e) (λb o e n=>?_),rfl,q D HD⟩;by_cases hb:b=D
  .subst hb;rw[aa_]at e;cases e;show⟨AS_ (Fq_ (by simp;lia)),_,c,jq_ rv _,hD⟩
  .rw[ae_ hb,n]at e;cases e
open HT
open PySem.SeqAt
open PySem.AutoSeq1 (wpAny_loadPart')
open PySem.MeetsSeq PySem.MeetsSeq2 PySem.MeetsSeq3
theorem nr_(l b:Addr)(its us:Array Value)(n n2:Nat)(dd dd2:Option Addr)(sl sl2:Array (Option Value))(ns ms:List Int)(hi:IntsAre its.toList ns)(hj:IntsAre us.toList ms)(k:Nat):
  ∀i:Nat,its.size-i=k->i<=its.size->i<=us.size->Meets (Builtin.«list.__eq__.loop» ⟨[.ref l,.ref b,rawInt i,rawInt 0],[]⟩)
   (λ_ R s=>s.heap.get? l=some {cls:=.type "list",dict:=dd,data:=.seq its n,slots:=sl}/\s.heap.get? b=some {cls:=.type "list",dict:=dd2,data:=.seq us n2,slots:=sl2} /\
    R (.ok (.ret (.bool (Gy_ (ns.drop i) (ms.drop i))))) s):=by
 have z1:its.size=ns.length:=by rw[<-hi.length];simp
 have z2:us.size=ms.length:=by rw[<-hj.length];simp
 induction k with
 |zero =>
  intro i hk h1 h2 prog w A R s h;obtain⟨hp,g,d,tk,os⟩:=s;obtain⟨hl,hb,h⟩:=h
  wp_walk using Bt_ hl,Bt_ hb
  have e1:its[((i:Nat):Int).toNat]?=none:=by simp;lia
  have e3:Gy_ (ns.drop i) (ms.drop i)=decide (its.size<us.size):=by
   rw[EB_ (show ns.length<=i by lia)];cases e:ms.drop i with
   |nil =>
    have:=List.drop_eq_nil_iff.mp e;rw[im_];show(At_ o_).symm
   |cons c cs =>
    have:(ms.drop i).length=cs.length+1:=by rw[e];rfl
    rw[B6_]at this;rw[hM_];show(As_ o_).symm
  rw[e3]at h;rw[e1]
  wp_walk using Bt_ hl,Bt_ hb
  show h
 |succ k ih =>
  intro i hk h1 h2 prog w A R s h;obtain⟨hp,g,d,tk,os⟩:=s;obtain⟨hl,hb,h⟩:=h
  wp_walk using Bt_ hl,Bt_ hb
  have lt1:i<its.size:=o_
  have e1:its[((i:Nat):Int).toNat]?=some its[i]:=by simp[lt1]
  rw[e1];by_cases lt2:i<us.size
  .have e2:us[((i:Nat):Int).toNat]?=some us[i]:=by simp[lt2]
   have l1:i<ns.length:=o_
   have l2:i<ms.length:=o_
   obtain⟨t,ht⟩:=hi.get i ns[i] (Aa_ l1);obtain⟨u,hu⟩:=hj.get i ms[i] (Aa_ l2);have f1:its[i]=.int ns[i] t:=by rw[Aa_ (by simpa using lt1)]at ht;show AB_ ht
   have f2:us[i]=.int ms[i] u:=by rw[Aa_ (by simpa using lt2)]at hu;show AB_ hu
   rw[f1]at e1;rw[f2]at e2;rw[f1,e2];rw[Cl_ l1,Cl_ l2,lq_]at h;have hc:((i:Int)+1)=((i+1:Nat):Int):=o_
   obtain⟨e,he,hiff⟩:=na_ A.in1 ⟨hp,g,d,tk,os⟩ ns[i] t ms[i] u;show Ac_ (he prog w _ _ ?_);cases e with
   |true =>
    rw[if_pos (hiff.mp rfl)]at h
    wp_walk
    rw[hc];have go:=ih (i+1) o_ o_ o_ prog w A R _ ⟨hl,hb,h⟩;show⟨CO_ plain_eq_loop _,Cj_ entry_eq_loop (by rw[BW_ plain_eq_loop _];show go)⟩
   |false =>
    rw[if_neg λq=>absurd (hiff.mpr q) AN_]at h;have hri:=nb_ A.in1 ⟨hp,g,d,tk,os⟩ ns[i] t ms[i] u prog w
    wp_walk using Bt_ hl,Bt_ hb
    rw[e1,e2]
    wp_walk using hri
    show h
  .have e2:us[((i:Nat):Int).toNat]?=none:=by simp;lia
   rw[e2]
   wp_walk using Bt_ hl,Bt_ hb
   have e4:Gy_ (ns.drop i) (ms.drop i)=decide (its.size<us.size):=by rw[EB_ (show ms.length<=i by lia),Cl_ (show i<ns.length by lia),hN_];show(At_ o_).symm
   rw[e4]at h;show h
theorem k4_(l b:Addr)(its us:Array Value)(n n2:Nat)(dd dd2:Option Addr)(sl sl2:Array (Option Value))(ns ms:List Int)(hi:IntsAre its.toList ns)(hj:IntsAre us.toList ms):
  Meets (Builtin.«list.__lt__» ⟨[.ref l,.ref b],[]⟩)
   (λ_ R s=>s.heap.get? l=some {cls:=.type "list",dict:=dd,data:=.seq its n,slots:=sl}/\s.heap.get? b=some {cls:=.type "list",dict:=dd2,data:=.seq us n2,slots:=sl2} /\
    R (.ok (.ret (.bool (Gy_ ns ms)))) s):=by
 intro prog w A R s h;obtain⟨hp,g,d,tk,os⟩:=s;obtain⟨hl,hb,h⟩:=h;have f3:=AutoSeq1.sub_list_list
 wp_walk using Bt_ hl,Bt_ hb
 have go:=nr_ l b its us n n2 dd dd2 sl sl2 ns ms hi hj _ 0 rfl (AE_ _) (AE_ _) prog w A R _ ⟨hl,hb,h⟩;show⟨CO_ plain_eq_loop _,Cj_ entry_eq_loop (by rw[BW_ plain_eq_loop _];show go)⟩
variable {prog:Program}{w:World}{A:Around}{E:Value->Shared->Prop}
theorem km_{l b:Addr}{its us:Array Value}{ns ms:List Int}{Q:Value->Shared->Prop}(hl:s.heap.IsList l its)(hb:s.heap.IsList b us)(hi:IntsAre its.toList ns)(hj:IntsAre us.toList ms)
  (hu:A.units<cLine) (h:Q (.bool (Gy_ ns ms)) s):wpAny (model prog w) A (compareOp .Lt (.ref l) (.ref b)) Q E s:=by
 obtain⟨⟨c1,dd,da,sl⟩,ho,hc,n,hd⟩:=id hl;obtain⟨⟨c2,dd2,da2,sl2⟩,ho2,hc2,n2,hd2⟩:=id hb;simp only at hc hd hc2 hd2;subst hc hd hc2 hd2
 show richCompare_meets_room (op:=.Lt) ⟨_,ho,rfl⟩ ⟨_,ho2,rfl⟩ Du_ EJ_ (EC_ _ _) (k4_ l b its us n n2 dd dd2 sl sl2 ns ms hi hj)
  ⟨ho,ho2,show Value.bool (Gy_ ns ms)≠Value.notImplemented/\Q (.bool (Gy_ ns ms)) s from⟨(λx=>nomatch x),h⟩⟩ hu
theorem hi_{l b:Addr}{its us:Array Value}{ns ms:List Int}{Q:Bool->Shared->Prop}(one:Bool)(hl:s.heap.IsList l its)(hb:s.heap.IsList b us)(hi:IntsAre its.toList ns)(hj:IntsAre us.toList ms)
  (hu:A.units<cLine) (h:Q (Gy_ ns ms) s):wpAny (model prog w) A (oneLt' one (.ref l) (.ref b)) Q E s:=by
 cases one with
 |false=>show kat_one _ _ (km_ hl hb hi hj hu h)
 |true =>rw[oneLt'_eq];simp only[if_true];show Ac_ (wpAny_cRoomFor hu ?_);obtain⟨⟨c1,dd,da,sl⟩,ho,hc,n,hd⟩:=id hl;obtain⟨⟨c2,dd2,da2,sl2⟩,ho2,hc2,n2,hd2⟩:=id hb;simp only at hc hd hc2 hd2;subst hc hd hc2 hd2;show Ac_ (wpAny_callSpecialIfBound?_slot ⟨_,ho,rfl⟩ Du_ (CK_ Du_ ⟨_,ho,rfl⟩ EJ_ (EC_ _ _) (k4_ l b its us n n2 dd dd2 sl sl2 ns ms hi hj) ⟨ho,ho2,?_⟩));show BJ_ h
def dIs(r:List Int):Dt:=.lst (r.map Dt.int)
def dPr(p:List Int×List Int):Dt:=.tup [dIs p.1,dIs p.2]
def pLt(a b:List Int×List Int):Bool:=if a.1=b.1 then(if a.2=b.2 then false else Gy_ a.2 b.2)else Gy_ a.1 b.1
theorem js_:∀(a b:List Int),deqs (a.map Dt.int) (b.map Dt.int)=if a.length=b.length then some (decide (a=b))else deqs (a.map Dt.int) (b.map Dt.int)
 |[],[]=>by simp[deqs]
 |[],_::_=>s_
 |_::_,[]=>s_
 |x::a,y::b=>by
  by_cases h:a.length=b.length
  .have ih:=js_ a b;rw[if_pos h]at ih;simp only[AZ_,AM_,h,if_true];unfold deqs;rw[ih];simp[deq];rfl
  .simp[h]
theorem k5_(a b:List Int):deq (dIs a) (dIs b)=some (decide (a=b)):=by
 change deq (.lst _) (.lst _)=_;unfold deq;by_cases h:a.length=b.length
 .have:=js_ a b;rw[if_pos h]at this;simp[h,this]
 .have:a≠b:=λe=>h (by rw[e]);simp[h,this]
theorem oj_{x:V}{p:List Int×List Int}(h:Rep H x (dPr p)):∃a b c,x=.ref a/\H a=some (.tup [.ref b,.ref c])/\H b=some (.lst (p.1.map V.int))/\H c=some (.lst (p.2.map V.int))/\Rep H (.ref b) (dIs p.1)/\Rep H (.ref c) (dIs p.2):=by
 obtain⟨a,xs,e,ha,y,r,e1,hy,z,r',e2,hz,e3⟩:=h
 have isn:∀{v:V}{ns:List Int},Rep H v (dIs ns)->∃q,v=.ref q/\H q=some (.lst (ns.map V.int)):=λ{v ns} hv=>by
  obtain⟨q,us,e,hq,hr⟩:=hv
  have go:∀{us:List V}{ns:List Int},FM_ H us (ns.map Dt.int)->us=ns.map V.int:=λ{us ns}=>by
   induction ns generalizing us with
   |nil=>show λh=>h
   |cons n ns ih =>rintro⟨x,r,e,hx,hr⟩;cases hx;rw[e,ih hr];rfl
  rw[go hr]at hq;show⟨q,e,hq⟩
 obtain⟨b,rfl,hb⟩:=isn hy;obtain⟨c,rfl,hc⟩:=isn hz;subst e1 e2 e3;show⟨a,b,c,e,ha,hb,hc,hy,hz⟩
theorem mi_(I:Inv X pins σ H s):∀{ds:List (List Int×List Int)}{ys:List V}{its:List Value},FM_ H ys (ds.map dPr)->FO_ ys its ->
  ∃fs,KatTups s.heap its fs/\fs.length=its.length/\∀v∈fs,Looks (model X.prog X.w) s.heap (typeOf v) (Value.type "list")
 |[],ys,its,h,r=>by
  have e:ys=[]:=h;subst e;cases r;show⟨[],.nil,rfl,λv hv=>nomatch hv⟩
 |d::ds,ys,its,⟨x,r',e,hx,hr⟩,r=>by
  subst e;cases r with
  |cons r1 r2 =>
   obtain⟨fs,t,hl,hf⟩:=mi_ I hr r2;obtain⟨a,b,c,rfl,ha,hb,hc,_,_⟩:=oj_ hx;cases r1;obtain⟨zs,rz,⟨ob,ho,hcl,n,hd⟩,_⟩:=I.tuple (.inl (.inl ha));obtain⟨u,w',rfl,ru,rw'⟩:=G1_ rz;cases ru;obtain⟨us,rus,⟨o2,n2,ho2,hc2,_,_⟩,_⟩:=I.list (.inl (.inl hb));show⟨.ref b::fs,.cons ho hcl hd rfl t,by simp[hl],λv hv=>?_⟩
   rcases Ar_.mp hv with rfl|hv
   .have z:Looks (model X.prog X.w) s.heap (typeOf (.ref b)) o2.cls:=(Looks.ld ho2).andThen .now;rw[hc2]at z;show z
   .show hf v hv
def JA_:List V->Hp->VK->Prop:=λvs H Q=>∃(p:Addr)(ys:List V)(ds:List (List Int×List Int))(pm:Array Nat),vs=[.ref p]/\H p=some (.lst ys)/\FM_ H ys (ds.map dPr)/\2<=ds.length/\ds.length<64 /\
 Gv_ (λi j=>pLt (ds.getD i ([],[])) (ds.getD j ([],[]))) ds.length (kas_sort ds.length)=some pm/\pm.size<=1000/\∀l,H l=none->Q (.ref l) (upd H l (.lst (pm.toList.map λi=>ys.getD i .non)))
theorem lv_(hu:X.A.units+64<cLine):Ga_ X (.builtin "sorted") JA_:=by
 intro pins s σ H xs us Q I r h;obtain⟨p,ys,ds,pm,rfl,hp,reps,h2,h64,run,hz,q⟩:=h;obtain⟨u,rfl,e⟩:=Gr_ r;cases e;have hl:ys.length=ds.length:=by rw[reps.length,Ab_]
 show jr_ (lt:=λi j=>pLt (ds.getD i ([],[])) (ds.getD j ([],[]))) (κ:=tuples' true) (pm:=pm) I (.inl (.inl hp)) o_ o_ ?kind ?less (by rw[hl];show run) hz q
 case kind =>intro its s' rv I' C hC;obtain⟨fs,t,hf,lk⟩:=mi_ I' reps rv;have:=rv.length;show kat_kind t o_ lk d_ hC
 case less =>
  intro its s' i j rv I' hi hj C hC
  have pick:∀i,i<ys.length->∃a b c,its.getD i Value.none=.ref a/\H a=some (.tup [.ref b,.ref c])/\H b=some (.lst ((ds.getD i ([],[])).1.map V.int))/\H c=some (.lst ((ds.getD i ([],[])).2.map V.int))/\Rep H (.ref b) (dIs (ds.getD i ([],[])).1)/\Rep H (.ref c) (dIs (ds.getD i ([],[])).2):=λi hi=>by
   obtain⟨d,hd,hr⟩:=reps.of_get (i:=i) (x:=ys[i]) (Aa_ hi);rw[Af_,Aa_ o_]at hd;have e:ds.getD i ([],[])=ds[i]'o_:=by rw[Ad_,Aa_ o_];rfl
   rw[<-AB_ hd]at hr;obtain⟨a,b,c,ea,ha,hb,hc,h1,h2⟩:=oj_ hr;obtain⟨u,hu',ru⟩:=rv.get (i:=i) (x:=ys[i]) (Aa_ hi);rw[ea]at ru;cases ru;rw[e];show⟨a,b,c,by rw[Ad_,hu'];rfl,ha,hb,hc,h1,h2⟩
  obtain⟨a,b,c,ea,ha,hb,hc,rb,rc⟩:=pick i hi;obtain⟨a',b',c',ea',ha',hb',hc',rb',rc'⟩:=pick j hj;rw[ea,ea'];generalize ds.getD i ([],[])=P at*;generalize ds.getD j ([],[])=Q' at*;obtain⟨zs,rz,⟨ob,ho,hcl,n,hd⟩,_⟩:=I'.tuple (.inl (.inl ha));obtain⟨_,_,rfl,ru,rw'⟩:=G1_ rz;cases ru;cases rw';obtain⟨zs',rz',⟨ob',ho',hcl',n',hd'⟩,_⟩:=I'.tuple (.inl (.inl ha'));obtain⟨_,_,rfl,ru',rw''⟩:=G1_ rz';cases ru';cases rw'';obtain⟨l1,v1,p1,_⟩:=I'.list (.inl (.inl hb));obtain⟨l2,v2,p2,_⟩:=I'.list (.inl (.inl hc));obtain⟨m1,w1,q1,_⟩:=I'.list (.inl (.inl hb'));obtain⟨m2,w2,q2,_⟩:=I'.list (.inl (.inl hc'))
  have z0:∀l:List Int,deps (l.map Dt.int)=0:=λl=>by
   induction l with
   |nil=>rfl
   |cons x l ih=>change max 0 (deps (l.map Dt.int))=0;lia
  have d1:dep (dIs P.1)<=1:=BO_ (Fi_ (z0 P.1));have d2:dep (dIs P.2)<=1:=BO_ (Fi_ (z0 P.2));have u2:X.A.in1.in1.units+1<cLine:=by rw[Bh_,Bh_];lia
  show kat_lt ho hd ho' hd' ?_;show kat_cons (jk_ I' Vw.refl (dIs P.1) (dIs Q'.1) rb rb' rfl rfl (k5_ _ _) o_ _ _ _ _ ?_);by_cases e1:P.1=Q'.1
  .rw[As_ e1];show kat_yes (kat_cons (jk_ I' Vw.refl (dIs P.2) (dIs Q'.2) rc rc' rfl rfl (k5_ _ _) o_ _ _ _ _ ?_));by_cases e2:P.2=Q'.2
   .rw[As_ e2];show kat_yes (kat_nil ?_);have:pLt P Q'=false:=by unfold pLt;rw[if_pos e1,if_pos e2]
    rw[this]at hC;show hC
   .rw[At_ e2];show kat_no (hi_ _ p2.isList q2.isList (dj_ v2) (dj_ w2) o_ ?_);have:pLt P Q'=Gy_ P.2 Q'.2:=by unfold pLt;rw[if_pos e1,if_neg e2]
    rw[this]at hC;show hC
  .rw[At_ e1];show kat_no (hi_ _ p1.isList q1.isList (dj_ v1) (dj_ w1) o_ ?_);have:pLt P Q'=Gy_ P.1 Q'.1:=by unfold pLt;rw[if_neg e1]
   rw[this]at hC;show hC
theorem bq_{α β:Type}{lt:Nat->Nat->Bool}{N:Nat}{f:α->KasT β}:∀(t:KasT α){a:α},Gv_ lt N t=some a->Gv_ lt N (t.bind f)=Gv_ lt N (f a)
 | .ret b,a,e=>by cases e;rfl
 | .ask i j k,a,e=>by
  unfold Gv_ at e;change(if i<N/\j<N then Gv_ lt N ((k (lt i j)).bind f)else none)=_;split at e
  .rename_i h;rw[if_pos h];show bq_ (k (lt i j)) e
  .cases e
section
variable {lt:Nat->Nat->Bool}{N:Nat}
def Pm(N:Nat)(p:Array Nat):Prop:=p.Perm (List.toArray (List.range N))
theorem Pm.below{p:Array Nat}(h:Pm N p)(h0:0<N)(i:Nat):p.getD i 0<N:=by
 by_cases hi:i<p.size
 .have e:p.getD i 0=p[i]:=by simp[Array.getD,hi]
  have m:p[i]∈(List.range N):=by
   have:p[i]∈p.toList:=s_
   show(Bm_.mp h).mem_iff.mp this
  rw[e];show AX_.mp m
 .have e:p.getD i 0=0:=by simp[Array.getD,hi]
  rw[e];show h0
theorem kn_{p:Array Nat}(h:Pm N p)(h0:0<N):∀(f n:Nat),∃m,Gv_ lt N (kas_asc p f n)=some m
 |0,n=>⟨n,rfl⟩
 |f+1,n=>by
  unfold kas_asc Gv_;rw[if_pos ⟨h.below h0 _,h.below h0 _⟩];cases lt (p.getD n 0) (p.getD (n-1) 0)with
  |true=>show⟨n,rfl⟩
  |false=>show kn_ h h0 f (n+1)
variable{p:Array Nat}
theorem Pm.rev(h:Pm N p)(i j:Nat):Pm N (kas_rev p i j):=(mirror_perm _ _ _ _).trans h
theorem gU_(h0:0<N):∀(f:Nat)(p:Array Nat)(n q:Nat),Pm N p->∃r,Gv_ lt N (kas_desc f p n q)=some r/\Pm N r.1
 |0,p,n,q,h=>⟨_,rfl,h⟩
 |f+1,p,n,q,h=>by
  unfold kas_desc Gv_;rw[if_pos ⟨h.below h0 _,h.below h0 _⟩];cases lt (p.getD n 0) (p.getD (n-1) 0)with
  |true =>
   simp only[if_true];split
   .show gU_ h0 f _ _ _ (h.rev _ _)
   .show gU_ h0 f _ _ _ h
  |false =>
   simp only[BQ_,BS_];unfold Gv_;rw[if_pos ⟨h.below h0 _,h.below h0 _⟩];cases lt (p.getD (n-1) 0) (p.getD n 0)with
   |true=>show⟨_,rfl,h⟩
   |false=>show gU_ h0 f _ _ _ h
theorem jt_(h0:0<N){n r:Nat}(h:Pm N p):∃z,Gv_ lt N (kas_tail3 n r p)=some z/\Pm N z.2:=by obtain⟨m,hm⟩:=kn_ (lt:=lt) (h.rev 0 n) h0 (r-n) n;unfold kas_tail3;show⟨_,(bq_ _ hm).trans rfl,h.rev 0 n⟩
theorem go_(h0:0<N){n r:Nat}(h:Pm N p):∃z,Gv_ lt N (kas_descPart n r p)=some z/\Pm N z.2:=by
 obtain⟨d,hd,hp⟩:=gU_ (lt:=lt) h0 (r-(n+1)) p (n+1) 0 h;unfold kas_descPart;rw[bq_ _ hd];split
 .show jt_ h0 (hp.rev _ _)
 .show jt_ h0 hp
theorem mj_(h0:0<N){r:Nat}(h:Pm N p):∃z,Gv_ lt N (kas_count r p)=some z/\Pm N z.2:=by
 obtain⟨m,hm⟩:=kn_ (lt:=lt) h h0 (r-1) 1;unfold kas_count;rw[bq_ _ hm];split
 .show⟨_,rfl,h⟩
 .split
  .unfold Gv_;rw[if_pos ⟨h.below h0 _,h.below h0 _⟩];cases lt (p.getD 0 0) (p.getD (m-1) 0)with
   |true=>show⟨_,rfl,h⟩
   |false=>show go_ h0 (h.rev _ _)
  .show go_ h0 h
theorem hj_(h0:0<N){p:Array Nat}(h:Pm N p)(k:Nat):∀(f l r:Nat),∃m,Gv_ lt N (kas_place p k f l r)=some m
 |0,l,r=>⟨l,rfl⟩
 |f+1,l,r=>by
  unfold kas_place;split
  .show⟨l,rfl⟩
  .unfold Gv_;rw[if_pos ⟨h.below h0 _,h.below h0 _⟩];cases lt (p.getD k 0) (p.getD ((l+r)/2) 0)with
   |true=>show hj_ h0 h k f l _
   |false=>show hj_ h0 h k f _ r
theorem mk_(h0:0<N):∀(f:Nat)(p:Array Nat)(k:Nat),Pm N p->∃z,Gv_ lt N (kas_bin f p k)=some z/\Pm N z
 |0,p,k,h=>⟨p,rfl,h⟩
 |f+1,p,k,h=>by obtain⟨l,hl⟩:=hj_ (lt:=lt) h0 h k k 0 k;unfold kas_bin;rw[bq_ _ hl];show mk_ h0 f _ _ ((bubble_perm _ _ _).trans h)
theorem k6_(h0:0<N):∃z,Gv_ lt N (kas_sort N)=some z/\Pm N z:=by
 obtain⟨r,hr,hp⟩:=mj_ (lt:=lt) h0 (r:=N) (p:=List.toArray (List.range N)) (Array.Perm.refl _);unfold kas_sort;rw[bq_ _ hr];split
 .show mk_ h0 _ _ _ hp
 .show⟨_,rfl,hp⟩
end
theorem cK_{J:It}{g:TG}{tt:TT}{te:TE}{σ:St}{H:Hp}{Q:VK}(n:Nat)(B:Hp)(Pσ:St->Prop)(bs:Nat->Bool)(val:Nat->Dt)(hB:Fo_ B H)(h0:Pσ σ)(hz:n<=1000)(hgo:∀i H',i<n->Fo_ H H'->J.go i H')(hst:∀H',Fo_ H H'->J.stop n H')
  (hs:∀D i x σ' H' H'',H D=none->(∃o,H' D=some o)->Fo_ H H'->i<n->J.yld i H' x H''->Pσ σ'->∀(Y:St->V->Hp->Prop)(R:St->Hp->Prop),(bs i=true->∀σ2 v H3,Pσ σ2->Fo_ H' H3->Rep (G6_ B D H3) v (val i)->Y σ2 v H3)->(bs i=false->∀σ2 H3,Pσ σ2->Fo_ H' H3->R σ2 H3) ->
   g x σ' H'' λσ2 H2=>tt σ2 H2 λb H3=>if b=true then te σ2 H3 λv H4=>Y σ2 v H4 else R σ2 H3)
  (hd:∀D H',H D=none->Fo_ H H'->Rep (Hj_ B H') (.ref D) (.lst (((List.range n).filter bs).map val))->Q (.ref D) H'):Id_ J g tt te σ H Q:=by
 intro D hD;have hBD:B D=none:=hB.free hD;show⟨λi m σ' H'=>m=n-i/\i<=n/\Pσ σ'/\Fo_ H H'/\∃ys,H' D=some (.lst ys)/\FM_ (G6_ B D H') ys (((List.range i).filter bs).map val),⟨n,s_,AE_ _,h0,Fo_.new hD,[],aa_,rfl⟩,?_⟩;rintro i m σ' H' ⟨rfl,hi,hp,hs',ys,hys,hr⟩;have hl:ys.length<=i:=by rw[hr.length,Ab_];have:=Bj_ bs (List.range i);rw[Br_]at this;show this
 by_cases hlt:i<n
 .show .inr ⟨hgo i H' hlt hs',λσ2 H2=>Pσ σ2/\Fo_ H H2/\∃ys,H2 D=some (.lst ys)/\FM_ (G6_ B D H2) ys (((List.range (i+1)).filter bs).map val),λσ2 H2 ⟨a,b,c⟩=>⟨n-(i+1),o_,rfl,hlt,a,b,c⟩,λx H'' hy=>?_⟩;show hs D i x σ' H' H'' hD ⟨_,hys⟩ hs' hlt hy hp _ _ (λhb σ2 v H3 hp2 s3 hv=>?_) λhb σ2 H3 hp2 s3=>?_
  .show⟨ys,s3 _ _ hys,Fq_ o_,hp2,(hs'.trans s3).upd hD,ys++[v],aa_,?_⟩;rw[fw_,BV_,CW_,Av_];have e:([i].filter bs).map val=[val i]:=by simp[hb]
   rw[e];show(FM_.mono (dn_ s3) _ hr).append ⟨v,[],rfl,hv,rfl⟩
  .show⟨hp2,hs'.trans s3,ys,s3 _ _ hys,?_⟩;rw[BV_,CW_,Av_];have e:([i].filter bs).map val=[]:=by simp[hb]
   rw[e,BL_];show FM_.mono (dn_ s3) _ hr
 .have e:i=n:=o_
  subst e;show .inl ⟨hst H' hs',hd D H' hD hs' ⟨D,ys,rfl,?_,FM_.mono gP_ _ hr⟩⟩;rw[cH_ hBD];show hys
theorem Inv.frm(I:Inv X pins σ H s):∃m,s.heap.Ns X.env.locals m/\Fr X.base X.env.locals s.heap m:=by obtain⟨m,hn,_⟩:=id I.loc;show⟨m,hn,hn,I.bk,AH_ I.ok.bsz I.ok.above⟩
theorem Inv.led_new{X:Cx}{pins:List (Addr×Obj)}{σ:St}{H:Hp}{s:Shared}{t':Nat}{m:Str->Option Value}{h':Heap}{D:Addr}{o:HO}{ob:Obj}(I:Inv X pins σ H s)(hn:s.heap.Ns X.env.locals m)(F:Fr X.base X.env.locals h' m)
  (N:News X.base X.env.locals h' ((D,ob)::F8_ X.base s.heap X.env.locals)) (lt1:∀q∈F8_ X.base s.heap X.env.locals,q.1<D) (new:FV_ X.prog X.w (upd H D o) h' D o):H D=none/\Inv X pins σ (upd H D o) {s with heap:=h',toks:=t'}:=by
 have ND:=N (D,ob) An_;have fr:∀b o,s.heap.get? b=some o->b≠D:=λb o e w=>by subst w;show absurd (lt1 (b,o) (dF_ ND.2.1 ND.2.2 e)) (Bf_ _)
 have HD:H D=none:=by
  cases w:H D with
  |none=>rfl
  |some u =>obtain⟨o',g⟩:=J3_ (I.hok D u w);show absurd rfl (fr D o' g)
 show⟨HD,I.led hn F (λz hz'=>N z (Am_ _ hz')) (λb o' e n=>by rw[ae_ (fr b o' e)];show n) (λb o' e=>by rw[ae_ (ag_ e HD)];show e) (λb o' e n=>?_)⟩;by_cases hb:b=D
 .subst hb;rw[aa_]at e;cases e;show new
 .rw[ae_ hb,n]at e;cases e
def Ks_:List V->Hp->VK->Prop:=λvs H Q=>∃(p:Addr)(ns:List Int),vs=[.ref p]/\H p=some (.lst (ns.map V.int))/\ns.length<64/\∀(l:Addr)(zs:List Int),H l=none->zs.Perm ns->zs.Pairwise (· <= ·)->Q (.ref l) (upd H l (.lst (zs.map V.int)))
theorem gp_:∀{us:List Value}{ns:List Int},IntsAre us ns->FO_ (ns.map V.int) us
 |_,_,.nil=>.nil
 |_,_,.cons n t h=>.cons ⟨t,rfl⟩ (gp_ h)
theorem lw_:Ga_ X (.builtin "sorted") Ks_:=by intro pins s σ H xs us Q I r h;obtain⟨p,ns,rfl,hp,h64,q⟩:=h;obtain⟨u,rfl,e⟩:=Gr_ r;cases e;obtain⟨its,rv,pl,_⟩:=I.list (.inl (.inl hp));obtain⟨m,hn,F0⟩:=I.frm;show kso_sorted F0 eJ_ pl.isList (dj_ rv) h64 λD vs' zs c h' F N lt1 hz hlz hpm hpw _=>?_;have hD:=(N (D,_) An_).1;obtain⟨HD,I2⟩:=I.led_new (t':=s.toks) (o:=.lst (zs.map V.int)) hn F N lt1 ⟨AS_ (Fq_ (by rw[Ab_];lia)),vs',c,gp_ hz,hD⟩;show⟨.ref D,_,I2,rfl,q D zs HD hpm hpw⟩
theorem Lw_{a:Addr}{v:Value}{n:Nat}{P:PySem.Fin->Shared->Prop}(ho:s.heap.get? a=some (seqObj "list" #[v] n))
  (h:∀h' c,(∀b o,b≠a->s.heap.get? b=some o->h'.get? b=some o)->h'.get? a=some (seqObj "list" #[v] c)->P (.done (.ret .none)) {s with heap:=h'}):wpAny (model prog w) A (Builtin.«list.sort» ⟨[.ref a],[]⟩) P E s:=by
 have s1:=DD_ s.heap a (Obj.mapSeq λ_=>(#[]:Array Value));obtain⟨e1,o1⟩:∃e1,(s.heap.update a (Obj.mapSeq λ_=>(#[]:Array Value))).get? a=some (seqObj "list" #[] e1):=⟨_,CR_ ho λ_=>#[]⟩;rw[list_sort_plain];show Ac_ (Fj_ ho rfl (Ac_ (Db_ ho rfl (Ac_ (ED_ o1 rfl (Ac_ (EK_ (Ac_ (DX_ (Bg_ ?_) (AE_ _))) ?_)))) ?_ (AE_ _))))
 .dsimp only
  have lt2:(#[v]:Array Value).size<2:=by change 1<2;decide
  rw[if_pos lt2];show Ac_ (Ah_ ?_);rw[if_pos lt2];have k3:∀b o,(s.heap.update a (Obj.mapSeq λ_=>(#[]:Array Value))).get? b=some o->(((s.heap.update a (Obj.mapSeq λ_=>(#[]:Array Value))).push (seqObj "tuple" #[v] 0)).push (seqObj "list" #[] 0)).get? b=some o:=λb o e=>Ak_ _ (Ak_ _ e);have o3:=k3 _ _ o1;have st:failedOf (SortSt.mk' general' ((#[v]:Array Value).zip #[v]) #[] 7 none)=none:=rfl;have ar:(arrOf (SortSt.mk' general' ((#[v]:Array Value).zip #[v]) #[] 7 none)).map (λx=>x.snd)=#[v]:=by rw[show arrOf (SortSt.mk' general' ((#[v]:Array Value).zip #[v]) #[] 7 none)=(#[v]:Array Value).zip #[v]from rfl];simp
  show Ac_ (Ah_ (a:=((),SortSt.mk' general' ((#[v]:Array Value).zip #[v]) #[] 7 none)) ?_);show Ac_ (ED_ o3 rfl (Ac_ (Db_ o3 rfl ?_ (AE_ _) ?_)))
  .dsimp only
   rw[ar,if_neg s_];obtain⟨c2,o4⟩:∃c2,((((s.heap.update a (Obj.mapSeq λ_=>(#[]:Array Value))).push (seqObj "tuple" #[v] 0)).push (seqObj "list" #[] 0)).update a (Obj.mapSeq λ_=>(#[v]:Array Value))).get? a=some (seqObj "list" #[v] c2):=⟨_,CR_ o3 λ_=>#[v]⟩;show Ah_ (h _ c2 (λb o hb e=>?_) o4);rw[Bb_ _ _ (Ne.symm hb)];show k3 b o ?_;rw[Bb_ _ _ (Ne.symm hb)];show e
  .rw[ar];show(show 1<=sizeLine+1 from Nat.le_add_left 1 _)
 .show(show 1<=sizeLine from AS_ (Fq_ d_))
 .show(show 1<=sizeLine from AS_ (Fq_ d_))
theorem J8_{l:Addr}{v:Value}{Q:Value->Shared->Prop}(hl:s.heap.IsList l #[v])
  (h:∀D h' c,s.heap.objs.size<=D->(∀b o,s.heap.get? b=some o->h'.get? b=some o)->h'.get? D=some (seqObj "list" #[v] c)->Q (.ref D) {s with heap:=h'}):wpAny (model prog w) A (call (.builtin "sorted") [.ref l]) Q E s:=by
 show Calls.call_function_entry kind_sorted plain_sorted entry_sorted (args_sorted1 _) ?_;unfold Builtin.«sorted»;have z1:(#[v]:Array Value).size<=sizeLine:=(show 1<=sizeLine from AS_ (Fq_ d_));show Ac_ (m:=checkCount "sorted" 1 1 _) (Ah_ (Ac_ (collect_list hl (Ac_ (DX_ ?_ z1)) z1)));have hz:((s.heap.push (seqObj "list" #[] 0)).update s.heap.objs.size (Obj.mapSeq λx=>x ++ #[v])).objs.size=s.heap.objs.size+1:=by rw[Df_,size_push']
 have kp:∀b o,s.heap.get? b=some o->(((s.heap.push (seqObj "list" #[] 0)).update s.heap.objs.size (Obj.mapSeq λx=>x ++ #[v])).push (seqObj "list" #[v] 0)).get? b=some o:=λb o q=>by have hlt:=Ay_ q;show Ak_ _ ?_;rw[Bb_ _ _ (CU_ hlt)];show Ak_ _ q
 have ho:=AA_ ((s.heap.push (seqObj "list" #[] 0)).update s.heap.objs.size (Obj.mapSeq λx=>x ++ #[v])) (o:=seqObj "list" #[v] 0) rfl;show Ac_ (Bg_ (BE_ slot_list_sort ⟨_,ho,rfl⟩ entry_list_sort (Lw_ (n:=0) ho λh' c k2 hD=>⟨_,rfl,Ah_ ⟨_,rfl,h _ h' c ?_ (λb o e=>k2 b o ?_ (kp b o e)) hD⟩⟩) (args_list_sort _)))
 .change s.heap.objs.size<=((s.heap.push (seqObj "list" #[] 0)).update s.heap.objs.size (Obj.mapSeq λx=>x ++ #[v])).objs.size;rw[hz];show C8_ _
 .have:=Ay_ e;change b≠((s.heap.push (seqObj "list" #[] 0)).update s.heap.objs.size (Obj.mapSeq λx=>x ++ #[v])).objs.size;rw[hz];show AL_ (By_ this)
def JH_:List V->Hp->VK->Prop:=λvs H Q=>∃(p:Addr)(y:V),vs=[.ref p]/\H p=some (.lst [y])/\∀l,H l=none->Q (.ref l) (upd H l (.lst [y]))
theorem h1_:Ga_ X (.builtin "sorted") JH_:=by intro pins s σ H xs us Q I r h;obtain⟨p,y,rfl,hp,q⟩:=h;obtain⟨u,rfl,e⟩:=Gr_ r;cases e;obtain⟨its,rv,pl,_⟩:=I.list (.inl (.inl hp));obtain⟨v,rfl,ry⟩:=Gr_ rv;show J8_ pl.isList λD h' c hD kp ho=>?_;show⟨.ref D,_,I.laid (t':=s.toks) kp hD (show FV_ X.prog X.w _ h' _ (.lst [y])from⟨(show 1<=sizeLine from AS_ (Fq_ d_)),[v],c,rv,ho⟩),rfl,q _ (I.hok.fresh hD)⟩
theorem ml_:typeLookup (.type "list_reverseiterator") "__len__"=pure none:=by rw[typeLookup_type,EL_];kernel_rfl
theorem ns_:typeLookup (.type "list_reverseiterator") "__length_hint__"=pure (some (.builtin "list_reverseiterator.__length_hint__")):=by rw[typeLookup_type,EL_];kernel_rfl
abbrev GG_(acc:Array Value)(c:Nat):Obj:={cls:=.type "list",dict:=none,data:=.seq acc c,slots:=#[]}
theorem ko_{it l:Addr}{items:Array Value}{Q:Value->Shared->Prop}(hh:A.handled=none)(hit:s.heap.IsRevIter it l ((items.size:Int)-1))(hl:s.heap.IsList l items)(hne:l≠it)(hz:items.size<=sizeLine)
  (hQ:∀h' tk acc c,(∀b o,b≠it->s.heap.get? b=some o->h'.get? b=some o)->h'.get? s.heap.objs.size=some (GG_ acc c)->ItemsOf (λi v=>items[items.size-1-i]?=some v) acc items.size->Q (.ref s.heap.objs.size) {s with heap:=h',toks:=tk}):
  wpAny (model prog w) A (call (.type "list") [.ref it]) Q E s:=by
 obtain⟨oi,hoi,_⟩:=id hit;obtain⟨ol,hol,_⟩:=id hl;have itl:=Ay_ hoi;have ll:=Ay_ hol;show callType_codes (Q₁:=λobj s₁=>obj=.ref s.heap.objs.size/\s₁={s with heap:=s.heap.push (GG_ #[] 0)}) F.called_list (F.typeCall_list_1 _) F.entry_list_init (code_list_new _ ⟨rfl,rfl⟩) λobj s₁ h₁=>?_;obtain⟨rfl,rfl⟩:=h₁;have hS:(s.heap.push (GG_ #[] 0)).get? s.heap.objs.size=some (GG_ #[] 0):=AA_ _ rfl;have k1:∀b o,s.heap.get? b=some o->(s.heap.push (GG_ #[] 0)).get? b=some o:=λb o e=>Ak_ _ e;have nS:∀b o,s.heap.get? b=some o->b≠s.heap.objs.size:=λb o e=>AL_ (Ay_ e);show⟨⟨_,hS,rfl⟩,F.args_list_init_2 _ _,?_⟩;change wpAny _ _ (do let old <-Builtin.List.listItems (.ref s.heap.objs.size);Builtin.List.listUpdate (.ref s.heap.objs.size) (λ_=>#[]);letGo old.toList.reverse;Builtin.List.listExtendWith (.ref s.heap.objs.size) (.ref it) .none) _ _ _;show Ac_ (Fj_ hS rfl (Ac_ (Db_ hS rfl (Ac_ (Fm_ ?_)) (AE_ _) (AE_ _))));have k2:∀b o,s.heap.get? b=some o->((s.heap.push (GG_ #[] 0)).update s.heap.objs.size (Obj.mapSeq λ_=>(#[]:Array Value))).get? b=some o:=λb o e=>by rw[Bb_ _ _ (nS b o e).symm];show k1 b o e
 obtain⟨c0,hS2⟩:∃c0,((s.heap.push (GG_ #[] 0)).update s.heap.objs.size (Obj.mapSeq λ_=>(#[]:Array Value))).get? s.heap.objs.size=some (GG_ #[] c0):=⟨_,CR_ hS λ_=>#[]⟩;change wpAny _ _ _ _ _ {s with heap:=(s.heap.push (GG_ #[] 0)).update s.heap.objs.size (Obj.mapSeq λ_=>(#[]:Array Value))};generalize(s.heap.push (GG_ #[] 0)).update s.heap.objs.size (Obj.mapSeq λ_=>(#[]:Array Value))=h2 at*;have hit2:h2.IsRevIter it l ((items.size:Int)-1):=hit.at λo e=>k2 _ _ e;have hl2:h2.IsList l items:=hl.at λo e=>k2 _ _ e;have ty:Shared.TypeIs {s with heap:=h2} (.ref it) "list_reverseiterator" := Heap.IsRevIter.typeIs (s:={s with heap:=h2}) hit2;have W:=(Walks.listRev (prog:=prog) (w:=w) (A:=A.in1.in1) hh it l hne items).toS
 have nf:s.heap.objs.size∉[it,l]:=λhm=>by
  rcases Ar_.mp hm with e|hm
  .show absurd itl (by rw[<-e];show Bf_ _)
  .show absurd ll (by rw[<-Ae_.mp hm];show Bf_ _)
 have ne1:Builtin.List.listSameRef (.ref s.heap.objs.size) (.ref it)=false:=by have:s.heap.objs.size≠it:=λe=>nf (by rw[e];show An_);simp[Builtin.List.listSameRef,this]
 unfold Builtin.List.listExtendWith;show Ac_ (Eb_ ty ?_);rw[if_neg (by rw[ne1];decide)];show Ac_ (wpAny_pyIter_revIter (s:={s with heap:=h2}) hit2 (Ac_ (Bg_ ?_)));unfold Builtin.List.listLengthHint;show Ac_ (CP_ ty ml_ ?_);change wpAny _ _ (specialOf (Value.ref it) (Str.ofString "__length_hint__") >>= _) _ _ _;show Ac_ (CP_ ty ns_ ?_);generalize hid:("list_reverseiterator.__length_hint__" : String)=id0
 wp_delta
 rw[show splitId id0=some ("list_reverseiterator","__length_hint__")from by subst hid;decide +kernel];subst hid;show Ac_ (Cr_ (b:=true) ty (by rw[isSubtype_type];kernel_rfl) (Ah_ ?_));rw[if_neg d_];have st0:(0:Nat)<=items.size/\h2.IsRevIter it l ((items.size:Int)-1-((0:Nat):Int))/\h2.IsList l items:=⟨AE_ _,by rw[show(items.size:Int)-1-((0:Nat):Int)=(items.size:Int)-1 by lia];show hit2,hl2⟩;show Ah_ ⟨CO_ F.plain_extend_loop _,codeAny_extend_loopS (s:={s with heap:=h2}) W hz s.heap.objs.size nf .none items.size 0 #[] c0 rfl (AE_ _) st0 hS2 (ItemsOf.nil _) λs' acc c hm hS' hacc=>?_⟩;rw[Moved.eq_with hm];show⟨rfl,hQ s'.heap s'.toks acc c (λb o hb e=>hm.heap b o (λhmem=>?_) (k2 b o e)) hS' hacc⟩
 rcases Ar_.mp hmem with e'|hmem
 .show nS b o e e'
 .show hb (Ae_.mp hmem)
theorem kp_:bootBuiltins "reversed"=some (.type "reversed"):=r_
def Km_(ta:TA):TE:=λσ H Q=>ta σ H λvs H1=>∃a xs,vs=[.ref a]/\H1 a=some (.lst xs)/\∀p,H1 p=none->Q (.ref p) (upd H1 p (.lst xs.reverse))
theorem hk_{a:Expr}{ta:TA}{p p' pos pos':Pos}(hc:X.calm=true)(hg:Gl X "list") (hm:X.mg "list"=none) (hg':Gl X "reversed") (hm':X.mg "reversed"=none) (ha:PA X [a] ta) (hs:FD_ [a]=true:=by rfl):
  PE X (.Call (.Name "list" p) [.Call (.Name "reversed" p') [a] [] pos'] [] pos) (Km_ ta):=by
 have h':Gh_ a=true:=by simpa[FD_]using hs
 intro pins s σ H Q I h;show Ce_ (ef_ I hg hm cs_ ?_ d_ d_);show Bi_ ?_ (av_ rfl) rfl;rw[av_ (e:=.Call (.Name "reversed" p') [a] [] pos') (es:=[]) rfl];change wpAny _ _ (spliced ((false,eval (.Call (.Name "reversed" p') [a] [] pos') X.env)::backTo pos (starEach [] X.env))) _ _ s;show DO_ ?_;show Call_ (ef_ I hg' hm' kp_ (Bi_ (thn (ha pos' pins s σ H _ I h) λus s1 ⟨vs,H1,I1,r1,q1⟩=>?_) (av_ h') rfl));obtain⟨b,xs,rfl,hb,q⟩:=q1;obtain⟨u,rfl,e⟩:=Gr_ r1;cases e;obtain⟨its,rv,pl,hz⟩:=I1.list (.inl (.inl hb));have hlen:=rv.length;show call_reversed_list pl.isList (D0_ ?_);obtain⟨ob,hob,_⟩:=id pl.isList;have bl:=Ay_ hob;have e1:((its.toArray.size:Nat):Int)-1=((its.toArray.size:Nat):Int)-1:=rfl;have hit:(s1.heap.push (revObj b ((its.toArray.size:Int)-1))).IsRevIter s1.heap.objs.size b ((its.toArray.size:Int)-1):=⟨_,AA_ _ rfl,rfl,rfl⟩;show ko_ (s:={s1 with heap:=s1.heap.push (revObj b ((its.toArray.size:Int)-1))}) (I1.ok.hd hc) hit (pl.isList.at λo e=>Ak_ _ e) (AL_ bl) (by rw[Au_];lia) λh2 tk acc c kp hS hacc=>?_;have k1:∀b o,s1.heap.get? b=some o->h2.get? b=some o:=λb o e=>kp b o (AL_ (Ay_ e)) (Ak_ _ e);have sz:s1.heap.objs.size<=(s1.heap.push (revObj b ((its.toArray.size:Int)-1))).objs.size:=by rw[size_push'];show C8_ _
 show⟨.ref _,_,I1.laid (t':=tk) k1 sz (show FV_ X.prog X.w _ h2 _ (.lst xs.reverse)from⟨by rw[B5_];show hz,acc.toList,c,gT_ ?_ ?_,by simpa using hS⟩),rfl,q _ (I1.hok.fresh sz)⟩
 .have z:acc.size=its.length:=by have:=hacc.1;simpa using this
  have z2:acc.toList.length=acc.size:=Bd_;rw[B5_];lia
 .intro j x u hx hu;have hj:j<xs.length:=by have:=(Ai_.mp hx).1;simpa using this
  rw[Di_ hj]at hx;have z:=hacc.2 j u (by simpa using hu);obtain⟨u',hu',ru⟩:=rv.get hx;have z':its[its.length-1-j]?=some u:=by simpa using z
  rw[<-hlen,hu']at z';cases z';show ru
variable {h₀:Heap}{L a:Addr}{m:Str->Option Value}{news:List (Addr×Obj)}{vs:List Value}
abbrev HD_:List (Str×Value):=[(Str.ofString "reverse",.bool true)]
def JP_(a:Addr)(before:Nat)(st:SortSt):Sem PySem.Fin:=do
 let out:=(arrOf st).map (·.2)
 let moved:=(<-seqEpoch a) != before
 Builtin.List.listUpdate (.ref a) λ_=>out.reverse
 if let some x:=failedOf st then rule "list.sort.comparison-raised";throw x
 if moved then rule "list.sort.modified";raiseError "ValueError" "list modified during sort"
 ret .none
def IO_(a:Addr)(xs:Array Value)(before:Nat):Sem PySem.Fin:=do
 let two:=xs.zip xs
 rule "list.sort.reverse"
 let kd <-if xs.size<2 then pure general' else keyKind' xs
 let((),st) <-(if xs.size<2 then pure ()else sortRuns').run (SortSt.mk' kd two.reverse #[] 7 none)
 JP_ a before st
theorem iz_(a:Addr):Builtin.«list.sort» ⟨[.ref a],HD_⟩=(Builtin.List.listItems (.ref a) >>= λxs=>Builtin.List.listUpdate (.ref a) (λ_=>#[]) >>= λ_=>seqEpoch a >>= λbefore=>newTuple xs.toList >>= λheld=>newList [] >>= λstore=>holding [held,store] (IO_ a xs before)):=rfl
theorem oX_(xs:List Value):((List.toArray xs).zip (List.toArray xs)).reverse=(List.toArray xs.reverse).zip (List.toArray xs.reverse):=by have e:=kat_pairs (ks:=xs) (vs:=xs) true rfl;rw[if_pos rfl]at e;show e
theorem nt_{n:Nat}{P:PySem.Fin->Shared->Prop}(F0:Fr h₀ L s.heap m)(N0:News h₀ L s.heap news)(got:s.heap.get? a=some (seqObj "list" vs.toArray n)) (aL:a≠L) (a0:h₀.get? a=none) (na:∀q∈news,q.1≠a) (two:2<=vs.length) (few:vs.length<64)
  (ask:∀c h',Fr h₀ L h' m->News h₀ L h' ((a,seqObj "list" #[] c)::news)->wpAny (model prog w) A (keyKind' vs.toArray) (λκ s1=>(kas_sort vs.length).kasWp (kas_ask prog w A κ vs.reverse) (λp s2=>KasFin h₀ L m a c ((p.toList.map λi=>vs.reverse.getD i Value.none).reverse) (λs3=>P (.done (.ret .none)) s3) s2) s1) (λ_ _=>False) {s with heap:=h'}):
  wpAny (model prog w) A (Builtin.«list.sort» ⟨[.ref a],HD_⟩) P E s:=by
 have lt:=Ay_ got;have b1:=DD_ s.heap a (Obj.mapSeq λ_=>(#[]:Array Value));obtain⟨c,got1⟩:∃c,(s.heap.update a (Obj.mapSeq λ_=>(#[]:Array Value))).get? a=some (seqObj "list" #[] c):=⟨_,CR_ got λ_=>#[]⟩;have F1:=((kas_fr F0 b1 aL a0).push (seqObj "tuple" vs.toArray 0)).push (seqObj "list" #[] 0);have N1:=(kas_news N0 b1 na).grown (h':=((s.heap.update a (Obj.mapSeq λ_=>(#[]:Array Value))).push (seqObj "tuple" vs.toArray 0)).push (seqObj "list" #[] 0)) λb x e=>Ak_ _ (Ak_ _ e)
 have N2:News h₀ L (((s.heap.update a (Obj.mapSeq λ_=>(#[]:Array Value))).push (seqObj "tuple" vs.toArray 0)).push (seqObj "list" #[] 0)) ((a,seqObj "list" #[] c)::news):=λq hq=>by
  rcases Ar_.mp hq with rfl|hq
  .show⟨Ak_ _ (Ak_ _ got1),aL,a0⟩
  .show N1 q hq
 have asked:=ask c _ F1 N2;have big:64<=sizeLine:=by rw[BG_];decide
 rw[iz_];show Ac_ (Fj_ got rfl (Ac_ (Db_ got rfl (Ac_ (ED_ got1 rfl (Ac_ (EK_ (Ac_ (DX_ (Bg_ ?_) (AE_ _))) (by change vs.length<=_;lia))))) (by rw[Au_];lia) (AE_ _))));change wpAny (model prog w) A (IO_ a vs.toArray c) P E {s with heap:=((s.heap.update a (Obj.mapSeq λ_=>(#[]:Array Value))).push (seqObj "tuple" vs.toArray 0)).push (seqObj "list" #[] 0)};unfold IO_
 dsimp only
 have n2:¬ vs.toArray.size<2:=by rw[Au_];lia
 rw[if_neg n2,if_neg n2,oX_];show Ac_ (D1_ (Ac_ (Bx_ asked (λκ s0 hk=>?_) λ_ _ x=>x.elim)));have rl:vs.reverse.length=vs.length:=B5_
 show Ac_ (Bx_ (kat_run (ks:=vs.reverse) (vs:=vs.reverse) (Q:=λst s1=>∃p:Array Nat,p.size=vs.length/\arrOf st=p.map (kas_item (vs.reverse.toArray.zip vs.reverse.toArray))/\failedOf st=none/\KasFin h₀ L m a c ((p.toList.map λi=>vs.reverse.getD i Value.none).reverse) (λs2=>P (.done (.ret .none)) s2) s1)
  rfl o_ o_ (λp st s1 x1 x2 x3 x4=>⟨p,by rw[x1,rl],x2,x3,x4⟩) (by rw[rl];show hk)) ?_ λ_ _ e=>e)
 rintro⟨⟨⟩,st⟩ s1 ⟨p,hp,har,hf,news1,g,F2,N3,U,k⟩;obtain⟨pre,post,e0,hg,x1,x2⟩:=U.split;rw[e0]at N3;have now:=N3 (a,seqObj "list" #[] c) (AD_ _ (.head _));have out:=kat_snds (ks:=vs.reverse) (vs:=vs.reverse) rfl har;have outr:((arrOf st).map (·.2)).reverse=List.toArray ((p.toList.map λi=>vs.reverse.getD i Value.none).reverse):=by rw[out];simp
 unfold JP_
 dsimp only
 rw[outr];have sz:(List.toArray ((p.toList.map λi=>vs.reverse.getD i Value.none).reverse)).size=vs.length:=by rw[Au_,B5_,Ab_,Bd_,hp]
 have b2:=DD_ s1.heap a (Obj.mapSeq λ_=>List.toArray ((p.toList.map λi=>vs.reverse.getD i Value.none).reverse));obtain⟨c2,got2⟩:∃c2,(s1.heap.update a (Obj.mapSeq λ_=>List.toArray ((p.toList.map λi=>vs.reverse.getD i Value.none).reverse))).get? a=some (seqObj "list" (List.toArray ((p.toList.map λi=>vs.reverse.getD i Value.none).reverse)) c2):=⟨_,CR_ now.1 λ_=>List.toArray ((p.toList.map λi=>vs.reverse.getD i Value.none).reverse)⟩;show Ac_ (ED_ now.1 rfl (Ac_ (Db_ now.1 rfl ?_ (AE_ _) (by rw[sz];lia))));rw[hf];simp only[bne_self_eq_false,BQ_,BS_];show Ah_ (k _ c2 (kas_fr F2 b2 now.2.1 now.2.2) ?_);rw[hg];show news_set N3 x1 x2 b2 got2
theorem ju_(x:Value):argsOk "sorted" ⟨[x],HD_⟩:=by unfold argsOk;kernel_rfl
theorem lx_(x:Value):argsOk "list.sort" ⟨[x],HD_⟩:=by unfold argsOk;kernel_rfl
theorem ly_{l:Addr}{Q:Value->Shared->Prop}(F0:Fr h₀ L s.heap m)(N0:News h₀ L s.heap news)(isl:s.heap.IsList l vs.toArray)(two:2<=vs.length)(few:vs.length<64)
  (ask:∀D c h',Fr h₀ L h' m->News h₀ L h' ((D,seqObj "list" #[] c)::news)->(∀q∈news,q.1<D)->wpAny (model prog w) A.in1.in1 (keyKind' vs.toArray) (λκ s1=>(kas_sort vs.length).kasWp (kas_ask prog w A.in1.in1 κ vs.reverse) (λp s2=>KasFin h₀ L m D c ((p.toList.map λi=>vs.reverse.getD i Value.none).reverse) (λs3=>Q (.ref D) s3) s2) s1) (λ_ _=>False) {s with heap:=h'}):
  wpAny (model prog w) A (call (.builtin "sorted") [.ref l] HD_) Q E s:=by
 have big:64<=sizeLine:=by rw[BG_];decide
 show call_function_entry_kw kind_sorted plain_sorted entry_sorted (ju_ _) ?_;unfold Builtin.«sorted»;show Ac_ (m:=checkCount "sorted" 1 1 _) (Ah_ (Ac_ (collect_list isl (Ac_ (DX_ ?_ o_)) o_)));have sz:((s.heap.push (seqObj "list" #[] 0)).update s.heap.objs.size (Obj.mapSeq (· ++ vs.toArray))).objs.size=s.heap.objs.size+1:=(Df_ ..).trans (size_push' ..);obtain⟨hx,ex⟩:∃hx,hx=(s.heap.push (seqObj "list" #[] 0)).update s.heap.objs.size (Obj.mapSeq (· ++ vs.toArray)):=⟨_,rfl⟩;rw[<-ex]at sz;have got:(hx.push (seqObj "list" vs.toArray 0)).get? (s.heap.objs.size+1)=some (seqObj "list" vs.toArray 0):=by rw[<-sz];show AA_ _ rfl
 have kp:∀b o,s.heap.get? b=some o->(hx.push (seqObj "list" vs.toArray 0)).get? b=some o:=λb o q=>by have hb:=Ay_ q;rw[C3_ _ _ _ (by rw[sz];show AL_ (By_ hb)),ex,Heap.get?_update_ne _ _ _ _ (AL_ hb),C3_ _ _ _ (AL_ hb)];show q
 have hL:=F0.ns.lt;change wpAny _ _ _ _ _ {s with heap:=((s.heap.push (seqObj "list" #[] 0)).update s.heap.objs.size (Obj.mapSeq (· ++ vs.toArray))).push (seqObj "list" vs.toArray 0)};rw[<-ex,sz];show Ac_ (Bg_ (wpAny_call_entry_kw slot_list_sort ⟨_,got,rfl⟩ entry_list_sort ?body (lx_ _)))
 case body =>change wpAny (model prog w) A.in1.in1 (Builtin.«list.sort» ⟨[.ref (s.heap.objs.size+1)],HD_⟩) _ _ _;show nt_ (s:={s with heap:=hx.push (seqObj "list" vs.toArray 0)}) (F0.kept kp) (N0.grown kp) got (CU_ (By_ hL)) (ET_ (AH_ F0.above (Nat.le_succ_of_le (AS_ hL)))) (λq hq=>AL_ (By_ (Ay_ (N0 q hq).1))) two few λc h' F' N'=>?_;show Bx_ (ask _ c h' F' N' λq hq=>By_ (Ay_ (N0 q hq).1)) (λκ s1 hk=>?_) λ_ _ x=>x;rw[kat_ask_eq (vs:=vs.reverse) rfl]at hk⊢;show kas_wp_mono hk λp s2 hk2=>hk2.mono λs3 hq=>⟨_,rfl,Ah_ ⟨_,rfl,hq⟩⟩
theorem lz_{Q:VK}{p:Addr}{ys:List V}{lt:Nat->Nat->Bool}{κ:SortKind}{pm:Array Nat}(I:Inv X pins σ H s)(hq:SqL X.K H p ys)(h2:2<=ys.length)(h64:ys.length<64)
  (kind:∀(its:List Value)(s':Shared),FO_ ys its->Inv X pins σ H s'->∀C:SortKind->Shared->Prop,C κ s'->wpAny (model X.prog X.w) X.A.in1.in1 (keyKind' its.toArray) C (λ_ _=>False) s')
  (less:∀(its:List Value)(s':Shared)(i j:Nat),FO_ ys.reverse its->Inv X pins σ H s'->i<ys.length->j<ys.length->∀C:Bool->Shared->Prop,C (lt i j) s'->wpAny (model X.prog X.w) X.A.in1.in1 (keyLt' κ (its.getD i Value.none) (its.getD j Value.none)) C (λ_ _=>False) s')
  (run:Gv_ lt ys.length (kas_sort ys.length)=some pm) (hz:pm.size<=1000) (q:∀l,H l=none->Q (.ref l) (upd H l (.lst (pm.toList.map λi=>ys.reverse.getD i .non).reverse))):
  wpAny (model X.prog X.w) X.A (call (.builtin "sorted") [.ref p] HD_) (EP X pins σ Q) X.xe s:=by
 obtain⟨its,rv,pl,_⟩:=I.list hq;have hl:=rv.length;obtain⟨m,hn,F0⟩:=I.frm;show ly_ F0 eJ_ pl.isList o_ o_ λD e1 h1 F1 N1 lt1=>?_;have N1':News X.base X.env.locals h1 (F8_ X.base s.heap X.env.locals):=λz hz'=>N1 z (Am_ _ hz');have ND:=N1 (D,_) An_;have fr:∀b o,s.heap.get? b=some o->b≠D:=λb o e w=>by subst w;show absurd (lt1 (b,o) (dF_ ND.2.1 ND.2.2 e)) (Bf_ _)
 have HD:H D=none:=by
  cases w:H D with
  |none=>rfl
  |some u =>obtain⟨o,g⟩:=J3_ (I.hok D u w);show absurd rfl (fr D o g)
 have I1:Inv X pins σ H {s with heap:=h1,toks:=s.toks}:=I.led hn F1 N1' (λ_ _ _ n=>n) (λ_ _ w=>w) (λb o w n=>by rw[w]at n;cases n);have rvr:FO_ ys.reverse its.reverse:=rv.reverse;show kind its _ rv I1 _ ?_;rw[<-hl];show mh_ (lt:=lt) (n:=ys.length) (λi j C hi hj hC=>less its.reverse _ i j rvr I1 hi hj C hC) _ run ?_;show KasFin.intro F1 N1 (.head λz hz' w=>?_) λh2' c F2 N2=>?_
 .show absurd (lt1 z hz') (by rw[w];show Bf_ _)
 .have N2':News X.base X.env.locals h2' (F8_ X.base s.heap X.env.locals):=λz hz'=>N2 z (Am_ _ hz');have hD:=(N2 (D,_) An_).1;show⟨.ref D,upd H D (.lst (pm.toList.map λi=>ys.reverse.getD i .non).reverse),I.led (t':=s.toks) hn F2 N2' (λb o e n=>by rw[ae_ (fr b o e)];show n) (λb o e=>by rw[ae_ (ag_ e HD)];show e) (λb o e n=>?_),rfl,q D HD⟩;by_cases hb:b=D
  .subst hb;rw[aa_]at e;cases e;show⟨AS_ (Fq_ (by simp;lia)),_,c,(jq_ rvr _).reverse,hD⟩
  .rw[ae_ hb,n]at e;cases e
def L8_(T:String):V->Prop
 | .int _=>T = "int"
 | .str _=>T = "str"
 |_=>False
theorem hl_(T:String)(I:Inv X pins σ H s):∀{ys:List V}{its:List Value},FO_ ys its->(∀y∈ys,∃a x z,y=.ref a/\H a=some (.tup [x,z])/\L8_ T x) ->
  ∃fs,KatTups s.heap its fs/\fs.length=its.length/\∀v∈fs,Looks (model X.prog X.w) s.heap (typeOf v) (.type T)
 |[],_,.nil,_=>⟨[],.nil,rfl,λv hv=>nomatch hv⟩
 |y::ys,_,.cons r1 r2,h=>by
  obtain⟨fs,t,hl,hf⟩:=hl_ T I r2 λy hy=>h y (Am_ _ hy);obtain⟨a,x,z,rfl,ha,fx⟩:=h _ An_;cases r1;obtain⟨zs,rz,⟨ob,ho,hcl,n,hd⟩,_⟩:=I.tuple (.inl (.inl ha));obtain⟨u,w',rfl,ru,rw'⟩:=G1_ rz;show⟨u::fs,.cons ho hcl hd rfl t,by simp[hl],λv hv=>?_⟩
  rcases Ar_.mp hv with rfl|hv
  .cases x with
   |int i=>obtain⟨t,rfl⟩:=ru;cases fx;show .now
   |str i=>obtain⟨t,rfl⟩:=ru;cases fx;show .now
   |_=>show absurd fx (by simp[L8_])
  .show hf v hv
theorem jv_(I:Inv X pins σ H s){a b:Addr}{x1 x2 y1 y2:V}{d1 d2 e1 e2:Dt}{b1 b2:Bool}{C:Bool->Shared->Prop}{A:Around}{E:Value->Shared->Prop}(hu:A.units+60<cLine)
  (ha:H a=some (.tup [x1,x2])) (hb:H b=some (.tup [y1,y2])) (r1:Rep H x1 d1) (r2:Rep H x2 d2) (q1:Rep H y1 e1) (q2:Rep H y2 e2) (h1:deq d1 e1=some b1) (h2:deq d2 e2=some b2) (z1:dep d1<=50) (z2:dep d2<=50)
  (c1:b1=false->∀u v,FU_ x1 u->FU_ y1 v->wpAny (model X.prog X.w) A (oneLt' true u v) C (λ_ _=>False) s)
  (c2:b1=true->b2=false->∀u v,FU_ x2 u->FU_ y2 v->wpAny (model X.prog X.w) A (oneLt' false u v) C (λ_ _=>False) s)
  (c3:b1=true->b2=true->C false s):wpAny (model X.prog X.w) A (keyLt' (tuples' true) (.ref a) (.ref b)) C E s:=by
 obtain⟨zs,rz,⟨ob,ho,hcl,n,hd⟩,_⟩:=I.tuple (.inl (.inl ha));obtain⟨u1,u2,rfl,ru1,ru2⟩:=G1_ rz;obtain⟨ws,rw,⟨ob',ho',hcl',n',hd'⟩,_⟩:=I.tuple (.inl (.inl hb));obtain⟨v1,v2,rfl,rv1,rv2⟩:=G1_ rw;show kat_lt ho hd ho' hd' ?_;show kat_cons (jk_ I Vw.refl d1 e1 r1 q1 ru1 rv1 h1 o_ _ _ _ _ ?_);cases b1 with
 |false=>show kat_no (c1 rfl _ _ ru1 rv1)
 |true =>
  show kat_yes (kat_cons (jk_ I Vw.refl d2 e2 r2 q2 ru2 rv2 h2 o_ _ _ _ _ ?_));cases b2 with
  |false=>show kat_no (c2 rfl rfl _ _ ru2 rv2)
  |true=>show kat_yes (kat_nil (c3 rfl rfl))
def Ja_(ta:TA):TE:=λσ H Q=>ta σ H λvs H1=>∃(p x y:Addr)(c d:Int×Int),vs=[.ref p]/\H1 p=some (.lst [.ref x,.ref y])/\H1 x=some (.tup [.int c.1,.int c.2])/\H1 y=some (.tup [.int d.1,.int d.2])/\∀l zs,H1 l=none->(zs=[V.ref x,V.ref y]\/zs=[V.ref y,V.ref x])->Q (.ref l) (upd H1 l (.lst zs))
theorem nu_{p:Array Nat}(h:Pm 2 p):p.toList=[0,1]\/p.toList=[1,0]:=by
 have e:=Bm_.mp h;have hl:p.toList.length=2:=by simpa using e.length_eq
 match hp:p.toList,hl with
 |[a,b],_ =>
  rw[hp]at e;have m0:=e.mem_iff (a:=0);have m1:=e.mem_iff (a:=1);have ma:=e.mem_iff (a:=a);have mb:=e.mem_iff (a:=b);simp[List.range,List.range.loop]at m0 m1 ma mb
  rcases ma with rfl|rfl <;> rcases mb with rfl|rfl <;> simp_all
def Kt_:List V->Hp->VK->Prop:=λvs H Q=>∃(p:Addr)(ys:List V)(nm:Nat->Str),vs=[.ref p]/\H p=some (.lst ys)/\ys.length<64 /\
 (∀i,i<ys.length->∃(a w:Addr)(e:Int×Int),ys[i]?=some (.ref a)/\H a=some (.tup [.str (nm i),.ref w])/\H w=some (.tup [.int e.1,.int e.2]))/\(∀i j,i<ys.length->j<ys.length->nm i=nm j->i=j) /\
 ∀l zs,H l=none->zs.Perm ys->Q (.ref l) (upd H l (.lst zs))
theorem mm_{pm:Array Nat}{ys:List V}(h:Pm ys.length pm):(pm.toList.map λi=>ys.getD i .non).Perm ys:=by
 have e:=Bm_.mp h
 have e2:(List.range ys.length).map (λi=>ys.getD i .non)=ys:=by
  apply CM_
  .simp
  .intro i h1 h2;simp[h2]
 have e3:=e.map λi=>ys.getD i V.non;rw[List.toList_toArray,e2]at e3;show e3
theorem lA_(hu:X.A.units+64<cLine):Ga_ X (.builtin "sorted") Kt_:=by
 intro pins s σ H xs us Q I r h;obtain⟨p,ys,nm,rfl,hp,h64,it,inj,q⟩:=h;by_cases h0:ys.length=0
 .have e0:ys=[]:=Bo_ h0;subst e0;show lw_ pins s σ H _ us Q I r ⟨p,[],rfl,hp,d_,λl zs nl pm _=>q l _ nl (by rw[pm.eq_nil];show .nil)⟩
 by_cases h1:ys.length=1
 .obtain⟨y,rfl⟩:=C9_.mp h1;show h1_ pins s σ H _ us Q I r ⟨p,y,rfl,hp,λl nl=>q l _ nl (.refl _)⟩
 obtain⟨u,rfl,e⟩:=Gr_ r;cases e
 let lt:Nat->Nat->Bool:=λi j=>if nm i=nm j then false else decide ((nm i).cps.toList<(nm j).cps.toList)
 obtain⟨pm,hr,hpm⟩:=k6_ (lt:=lt) (N:=ys.length) o_;have pz:pm.size=ys.length:=by simpa using(Bm_.mp hpm).length_eq
 show jr_ (lt:=lt) (κ:=tuples' true) (pm:=pm) I (.inl (.inl hp)) o_ h64 ?kind ?less hr o_ λl nl=>q l _ nl (mm_ hpm)
 case kind =>
  intro its s' rv I' C hC;obtain⟨fs,t,hf,lk⟩:=hl_ "str" I' rv λz hz=>by obtain⟨i,hi,rfl⟩:=Ap_.mp hz;obtain⟨a,w,e,ea,ha,_⟩:=it i hi;rw[Aa_ hi]at ea;show⟨a,_,_,AB_ ea,ha,rfl⟩
  have hl:=rv.length;show kat_kind t o_ lk d_ hC
 case less =>
  intro its s' i j rv I' hi hj C hC;have u2:X.A.in1.in1.units+60<cLine:=by rw[Bh_,Bh_];lia
  have pick:∀i,i<ys.length->∃(a w:Addr)(e:Int×Int),its.getD i Value.none=.ref a/\H a=some (.tup [.str (nm i),.ref w])/\H w=some (.tup [.int e.1,.int e.2]):=λi hi=>by obtain⟨a,w,e,ea,ha,hw⟩:=it i hi;obtain⟨u,hu',ru⟩:=rv.get ea;cases ru;show⟨a,w,e,by rw[Ad_,hu'];rfl,ha,hw⟩
  obtain⟨a,w1,e,ea,ha,hw1⟩:=pick i hi;obtain⟨b,w2,f,eb,hb,hw2⟩:=pick j hj;have rw1:Rep H (.ref w1) (.tup [.int e.1,.int e.2]):=⟨w1,_,rfl,hw1,_,_,rfl,rfl,_,_,rfl,rfl,rfl⟩;have rw2:Rep H (.ref w2) (.tup [.int f.1,.int f.2]):=⟨w2,_,rfl,hw2,_,_,rfl,rfl,_,_,rfl,rfl,rfl⟩;rw[ea,eb];have hlt:lt i j=if nm i=nm j then false else decide ((nm i).cps.toList<(nm j).cps.toList):=rfl;rw[hlt]at hC;have same:nm i=nm j->e=f:=λhn=>by have hij:=inj i j hi hj hn;subst hij;rw[ea]at eb;cases eb;rw[ha]at hb;cases hb;rw[hw1]at hw2;have h3:=HO.tup.inj (AB_ hw2);have h4:=E5_ h3;have h5:=E5_ h4.2;show Bl_ (V.int.inj h4.1) (V.int.inj h5.1)
  show jv_ I' u2 ha hb (d1:=.str (nm i)) (d2:=.tup [.int e.1,.int e.2]) (e1:=.str (nm j)) (e2:=.tup [.int f.1,.int f.2]) (b1:=decide (nm i=nm j)) (b2:=decide (e.1=f.1) && decide (e.2=f.2)) rfl rw1 rfl rw2 (by rw[deq];rfl) ?eq2 (by simp[dep]) (by simp[dep,deps]) (λh u v ru rv=>?_) (λh1 h2 u v ru rv=>?_) (λh1 h2=>?_)
  case eq2=>simp[deq,deqs];rfl
  .obtain⟨t,rfl⟩:=ru;obtain⟨t',rfl⟩:=rv;rw[if_neg (CX_ h)]at hC;show oneLt_str hC
  .have:=same (AJ_ h1);subst this;simp at h2
  .rw[if_pos (AJ_ h1)]at hC;show hC
def KP_:R2:=λx y H Q=>∃i n,x=.str i/\y=.int n/\MulOk i n/\Q (.str (Txt.mul i n)) H
theorem h2_:OpR X (binaryOp .Mult) KP_:=by intro pins s σ H x y v u Q I rx ry h;obtain⟨i,n,rfl,rfl,ok,q⟩:=h;obtain⟨t,rfl⟩:=rx;obtain⟨t',rfl⟩:=ry;show SB.mul ok λt' k=>⟨.str (Txt.mul i n),H,I.tok _,⟨_,rfl⟩,q⟩
theorem mn_(i j:Str):(i++j).length=i.length+j.length:=by change(i.cps++j.cps).size=_;rw[Array.size_append];rfl
def rSlS:V->Option Int->Option Int->Hp->VK->Prop:=λx lo hi H Q=>∃z:Str,x=.str z/\z.length<=sizeLine/\∀y:Str,y.length<=z.length->(∀c∈y.cps.toList,c∈z.cps.toList)->Q (.str y) H
theorem mo_{v:Value}{o:Option Int}(h:IsPart v o):∃l:Option (Int×Tok),v=partValue l/\l.map (·.1)=o:=by
 cases h with
 |none=>show⟨none,rfl,rfl⟩
 |int i t=>show⟨some (i,t),rfl,rfl⟩
def ID_:V->List V->Hp->VK->Prop:=λx vs H Q=>∃(a:Addr)(kvs:List (Key×V))(k:Key)(z:V),x=.ref a/\vs=[kV k,z]/\H a=some (.dK kvs)/\kvs.length<1000/\(∀v,FZ_ kvs k=some v->Q v H)/\(FZ_ kvs k=none->Q z (upd H a (.dK (Gd_ kvs k z))))
theorem fz_:MtR X "dict.setdefault" ID_:=by
 intro pins s σ H x xs v us Q I rx r h;obtain⟨a,kvs,k,z,rfl,rfl,e,hz,h1,h2⟩:=h;cases rx;obtain⟨u,w',rfl,ru,rw'⟩:=G1_ r;obtain⟨_,hd,vs,rel,dd⟩:=Jn_ I.hok e;have hl:vs.length<=sizeLine:=by rw[<-rel.length];show AS_ (Fq_ (AS_ hz))
 show Fk_ CI_ dd.typeIs PySem.F.entry_dict_setdefault (PySem.F.args_dict_setdefault_3 _ _ _) (kt_meets_setdefault (FG_ X.prog X.w) a (HJ_ ru) hd w') ⟨vs,dd,hl,λv hv=>?_,λhn h' dd' hs=>?_⟩
 .have rv:=rel.val k;rw[hv]at rv;cases e2:FZ_ kvs k with
  |none=>rw[e2]at rv;cases rv
  |some y =>rw[e2]at rv;show⟨y,H,I.tok _,rv,h1 y e2⟩
 .have rv:=rel.val k;rw[hn]at rv;cases e2:FZ_ kvs k with
  |some y=>rw[e2]at rv;cases rv
  |none =>
   have he:∃q,h'.get? a=some q:=let⟨q,_,_,hq,_⟩:=dd';⟨q,hq⟩;have pl:(Gd_ kvs k z).length<=sizeLine:=by have:=bf_ kvs k z;have:=Fq_ (n:=1000) (Aj_ _);lia
   show⟨z,_,el_ (t':=s.toks+1) I (by rw[e];show True.intro) hs he (od_ pl hd (rel.put k rw') dd'),rw',h2 e2⟩
def Idv(d:Addr)(ob:Obj)(kvs:List (Key×V)):It :=
 ⟨λi H=>H d=some (.frz ob (.dK kvs))/\i<kvs.length,λi H x H'=>H'=H/\∃k,kvs[i]?=some (k,x),λi H=>H d=some (.frz ob (.dK kvs))/\kvs.length<=i⟩
def Idk(d:Addr)(ob:Obj)(kvs:List (Key×V)):It :=
 ⟨λi H=>H d=some (.frz ob (.dK kvs))/\i<kvs.length,λi H x H'=>H'=H/\∃k v,kvs[i]?=some (k,v)/\x=kV k,λi H=>H d=some (.frz ob (.dK kvs))/\kvs.length<=i⟩
theorem dp_{α β:Type}{F:α->β->Prop}:∀{l:List α}{m:List β}{i:Nat}{a:α}{b:β},Paired F l m->l[i]?=some a->m[i]?=some b->F a b
 |_,_,_,_,_,.nil,h,_=>by cases h
 |_,_,0,_,_,.cons x _,h1,h2=>by cases h1;cases h2;show x
 |_,_,i+1,_,_,.cons _ r,h1,h2=>dp_ (i:=i) r h1 h2
variable{kvs:List (Key×V)}{es0:Array DictEntry}{ep:Nat}
theorem mp_{d:Addr}{ob:Obj}(ok:HOk P w H h)(e:H d=some (.frz ob (.dK kvs)))(hd:ob.data=.dict es0 ep):∃vs,KV kvs vs/\h.DictAt (FG_ P w) d vs ep:=by obtain⟨g,_,_,vs,rel,o,es,ep',ho,r1,r2,r3⟩:=(show FV_ P w H h d (.frz ob (.dK kvs))from ok d _ e);rw[g]at ho;cases ho;rw[hd]at r2;cases r2;show⟨vs,rel,ob,es0,g,r1,hd,r3⟩
theorem mq_{K:PySem.W.Frag}{tg:Expr}{d it:Addr}{ob:Obj}(hob:ob.data=.dict es0 ep):
  JM_ P w K tg (Idv d ob kvs) [it] it (λi h=>h.IsValIter it d i kvs.length ep) where
 mem:=s_
 obj:=λi h st b hb=>by
  have e:b=it:=by simpa using hb
  subst e;obtain⟨o,e,c,dd⟩:=st;show⟨o,e,λv z=>by rw[dd]at z;cases z⟩
 keep:=λi h h' st k=>let⟨o,e,r⟩:=st;⟨o,k it s_ o e,r⟩
 item:=by intro X hP hw hK hc i pins s σ H E I hf st hg;subst hP hw hK;obtain⟨e,hi⟩:=hg;obtain⟨vs,rel,da⟩:=mp_ I.hok e hob;have hl:kvs.length=vs.length:=rel.length;obtain⟨f0,f1,f2,f3,f4,f5⟩:=hf it s_;have hx:vs[i]?=some (vs[i]'o_):=Aa_ _;have hk:kvs[i]?=some (kvs[i]):=Aa_ _;obtain⟨e1,e2⟩:=dp_ rel hk hx;rw[hl]at st;show wpAny_pyNext_values_item st da (k:=(vs[i]'o_).1) (v:=(vs[i]'o_).2) hx λh' st' sb=>?_;have I1:Inv X pins σ H {s with heap:=h'}:=I.turned (t':=s.toks) (λb o hb e=>(sb.2 b hb).trans e) f0 f1 f3 f4 f5;rw[<-hl]at st';obtain⟨o,e,c,dd⟩:=id st';show⟨_,rfl,IW_ (s:={s with heap:=h'}) e c dd d_ ⟨(kvs[i]).2,H,I1,e2,⟨rfl,(kvs[i]).1,hk⟩,st',λb hb=>(hf b hb).1⟩⟩
 done:=by intro X hP hw hK hc i pins s σ H E I hf st hg;subst hP hw hK;obtain⟨e,hi⟩:=hg;obtain⟨vs,rel,da⟩:=mp_ I.hok e hob;have hl:kvs.length=vs.length:=rel.length;obtain⟨f0,f1,f2,f3,f4,f5⟩:=hf it s_;rw[hl]at st;show wpAny_pyNext_values_end (I.ok.hd hc) st da (BA_ o_) λh' eb=>⟨rfl,I.turned (t':=s.toks) (λb o hb e=>eb b o hb e) f0 f1 f3 f4 f5⟩
 self:=λ_ _ _ _ _ st h=>wpAny_pyIter_valiter st h
theorem Inv.freeze{d:Addr}(I:Inv X pins σ H s)(e:H d=some (.dK kvs)):∃ob es0 ep,ob.data=.dict es0 ep/\s.heap.get? d=some ob/\Inv X pins σ (upd H d (.frz ob (.dK kvs))) s:=by obtain⟨z,hd,vs,rel,dd⟩:=Jn_ I.hok e;obtain⟨ob,es,ep,ho,r1,r2,r3⟩:=id dd;show⟨ob,es,ep,r2,ho,?_⟩;have:=el_ (h':=s.heap) (t':=s.toks) (ob:=.frz ob (.dK kvs)) I (by rw[e];show True.intro) ⟨rfl,λ_ _=>rfl⟩ ⟨ob,ho⟩ ⟨ho,z,hd,vs,rel,dd⟩;show this
def iDK(td:TE):TI:=λσ H R=>td σ H λx H1=>∃(d:Addr)(kvs:List (Key×V)),x=.ref d/\H1 d=some (.dK kvs)/\∀ob,R (Idk d ob kvs) (upd H1 d (.frz ob (.dK kvs)))
def iDV(td:TE):TI:=λσ H R=>td σ H λx H1=>∃(d:Addr)(kvs:List (Key×V)),x=.ref d/\H1 d=some (.dK kvs)/\∀ob,R (Idv d ob kvs) (upd H1 d (.frz ob (.dK kvs)))
theorem nv_{tg o:Expr}{td:TE}{apos cpos:Pos}(ho:PE X o td)(hbase:attributeBase o "values" X.env (eval o X.env)=eval o X.env:=by rfl) (hline:(apos.endLine == cpos.line)=true:=by rfl):PI X tg (.Call (.Attribute o "values" apos) [] [] cpos) (iDV td):=by
 intro pins s σ H R I h;show C1_ hbase hline (thn (ho pins s σ H _ I h) λv s1 ⟨x,H1,I1,r1,d,kvs,e,hd,q⟩=>?_);subst e;cases r1;obtain⟨ob,es0,ep,hob,hoo,I2⟩:=I1.freeze hd;obtain⟨_,hsys,vs0,_,dd⟩:=Jn_ I1.hok hd;show⟨"dict","dict.values",B3_,Ec_,PySem.F.type_dict_values,dd.typeIs,λb q=>?_,Cd_ rfl (DB_ ?_)⟩
 .cases q;obtain⟨o2,_,_,h1,h2,_⟩:=id dd;show⟨o2,h1,h2.2.1⟩
 show Fk_ Ec_ dd.typeIs PySem.F.entry_dict_values (PySem.F.args_dict_values_1 _) (meets_dict_values (FG_ X.prog X.w) d hsys) ⟨⟨vs0,dd⟩,?_⟩;have I3:Inv X pins σ (upd H1 d (.frz ob (.dK kvs))) {s1 with heap:=s1.heap.push {cls:=.type "dict_values",data:=.fields #[.ref d]}}:=I2.kept (t':=s1.toks) λb o e=>Ak_ _ e;obtain⟨vs,rel,da⟩:=mp_ (kvs:=kvs) I3.hok aa_ hob;show wpAny_pyIter_values (s:={s1 with heap:=s1.heap.push {cls:=.type "dict_values",data:=.fields #[.ref d]}}) ⟨_,AA_ _ rfl,rfl,rfl⟩ da ?_;rw[<-show kvs.length=vs.length from rel.length];show⟨(s1.heap.push {cls:=.type "dict_values",data:=.fields #[.ref d]}).objs.size,[_],_,_,upd H1 d (.frz ob (.dK kvs)),rfl,I3.kept (t':=s1.toks) λb o e=>Ak_ _ e,mq_ hob,⟨_,AA_ _ rfl,rfl,rfl⟩,λb hb=>?_,q ob⟩;have e:b=_:=Ae_.mp hb;subst e;show I3.fpOk (Aj_ _) (I3.hok.fresh (Aj_ _))
theorem LE_{d:Addr}{ob:Obj}{kvs:List (Key×V)}{g:TG}{tb:TS}{D:Hv_}{σ:St}{H:Hp}(Pv:Nat->St->Hp->Prop)(h0:Pv 0 σ H)(hl:∀i σ H,i<=kvs.length->Pv i σ H->H d=some (.frz ob (.dK kvs)))
  (hs:∀i k x σ H,kvs[i]?=some (k,x)->Pv i σ H->g x σ H λσ2 H2=>tb {D with nx:=Pv (i+1),ct:=Pv (i+1),bk:=D.nx} σ2 H2) (hd:∀σ H,Pv kvs.length σ H->D.nx σ H):G0_ (Idv d ob kvs) g tb D σ H:=by
 show⟨λi m σ H=>m=kvs.length-i/\i<=kvs.length/\Pv i σ H,⟨kvs.length,s_,AE_ _,h0⟩,?_⟩;rintro i m σ H ⟨rfl,hi,p⟩;have q:=hl i σ H hi p;by_cases hlt:i<kvs.length
 .show .inr ⟨⟨q,hlt⟩,Pv (i+1),λσ' H' p'=>⟨kvs.length-(i+1),o_,rfl,hlt,p'⟩,λx H' y=>?_⟩;obtain⟨rfl,k,hk⟩:=y;show hs i k x σ H' hk p
 .have e:i=kvs.length:=o_
  subst e;show .inl ⟨⟨q,Aj_ _⟩,hd σ H p⟩
theorem oY_{K:PySem.W.Frag}{a:Addr}{xs:List V}{g:TG}{tb:TS}{D:Hv_}{σ:St}{H:Hp}(Pv:Nat->St->Hp->Prop)(h0:Pv 0 σ H)(hl:∀i σ H,i<=xs.length->Pv i σ H->SqL K H a xs)
  (hs:∀i x T σ H,xs[i]?=some x->Pv i σ H->H T=none->g (.ref T) σ (upd H T (.tup [.int i,x])) λσ2 H2=>tb {D with nx:=Pv (i+1),ct:=Pv (i+1),bk:=D.nx} σ2 H2) (hd:∀σ H,Pv xs.length σ H->D.nx σ H):G0_ (Ite K a) g tb D σ H:=by
 show⟨λi m σ H=>m=xs.length-i/\i<=xs.length/\Pv i σ H,⟨xs.length,s_,AE_ _,h0⟩,?_⟩;rintro i m σ H ⟨rfl,hi,p⟩;have q:=hl i σ H hi p;by_cases hlt:i<xs.length
 .show .inr ⟨⟨xs,xs[i],q,by simp[hlt]⟩,Pv (i+1),λσ' H' p'=>⟨xs.length-(i+1),o_,rfl,hlt,p'⟩,λx H' y=>?_⟩;obtain⟨T,y,rfl,hT,rfl,hy⟩:=y;show hs i y T σ H (hy xs q) p hT
 .have e:i=xs.length:=o_
  subst e;show .inl ⟨⟨xs,q,Aj_ _⟩,hd σ H p⟩
def Lp_(t:TGs):TG:=λv σ H Q=>∃(a:Addr)(x y:V),v=.ref a/\H a=some (.lst [x,y])/\t [x,y] σ H Q
end L2
namespace RimT
variable {S:Type}[DecidableEq S]
structure Net(S:Type) where
 posts:List S
 rows:List (S×List S)
 worths:List (S×(Int×Int))
def Net.all(N:Net S):List S:=(N.rows.map (·.2)).flatten
structure Gm_(N:Net S):Prop where
 nd:(N.rows.map (·.1)).Nodup
 two:∀x∈N.all,N.all.count x=2
 few:N.rows.length<=16
 tot:N.all.length<=30
 pl:N.posts.length<=6
 wl:N.worths.length<=15
def F0_(ns ws:Nat->S)(T:List (List Nat))(ord:List Nat):List (S×List S):=ord.map λp=>(ns p,(T.getD p []).map ws)
theorem mr_{α:Type}{l m:List (List α)}(h:l.Perm m):l.flatten.Perm m.flatten:=by
 induction h with
 |nil=>show .nil
 |cons x _ ih=>rw[A8_,A8_];show ih.append_left x
 |swap x y l=>rw[A8_,A8_,A8_,A8_,<-A9_,<-A9_];show List.perm_append_comm.append_right _
 |trans _ _ h1 h2=>show h1.trans h2
theorem h3_{α:Type}(d:α)(l:List α):(List.range l.length).map (λi=>l.getD i d)=l:=by
 apply CM_
 .simp
 .intro i h1 h2;simp[h2]
theorem k7_{ns ws:Nat->S}{T:List (List Nat)}{ord:List Nat}(h:ord.Perm (List.range T.length)):(((F0_ ns ws T ord).map (·.2)).flatten).Perm (T.flatten.map ws):=by
 have e:(F0_ ns ws T ord).map (·.2)=(ord.map λp=>T.getD p []).map λl=>l.map ws:=by unfold F0_;rw[Bv_,Bv_];rfl
 rw[e,<-List.map_flatten];show List.Perm.map _ ?_;have h2:=h.map λp=>T.getD p [];rw[h3_]at h2;show mr_ h2
theorem fA_{α β:Type}[DecidableEq α][DecidableEq β]{f:α->β}{x:α}:∀{l:List α},(∀a∈l,f a=f x->a=x)->(l.map f).count (f x)=l.count x
 |[],_=>rfl
 |a::l,h=>by
  rw[AZ_,Ci_,Ci_,fA_ λa ha=>h a (Am_ _ ha)];congr 1;by_cases e:a=x
  .subst e;simp
  .have:f a≠f x:=λz=>e (h a An_ z);simp[e,this]
theorem pY_{P W:Nat}{T:List (List Nat)}(g:Gr P W T){ns ws:Nat->S}{ord:List Nat}(h:ord.Perm (List.range T.length))(hP:P<=6)(hW:W<=15)
  (hn:∀a b,a<T.length->b<T.length->ns a=ns b->a=b) (hw:∀a b,a<W->b<W->ws a=ws b->a=b) {ps:List S} {wo:List (S×(Int×Int))} (hps:ps.length<=6) (hwo:wo.length<=15):Gm_ (⟨ps,F0_ ns ws T ord,wo⟩:Net S):=by
 have al:=k7_ (ns:=ns) (ws:=ws) h;have e:((F0_ ns ws T ord).map (·.1))=ord.map ns:=by unfold F0_;rw[Bv_];rfl
 show⟨?_,λx hx=>?_,?_,?_,hps,hwo⟩
 .change((F0_ ns ws T ord).map (·.1)).Nodup;rw[e];unfold List.Nodup;rw[Bn_];show Bw_ (λ{a b} ha hb ne z=>ne (hn a b (AX_.mp (h.mem_iff.mp ha)) (AX_.mp (h.mem_iff.mp hb)) z)) (h.nodup_iff.mpr Ed_)
 .have hx':x∈T.flatten.map ws:=al.mem_iff.mp hx;obtain⟨w,hw1,rfl⟩:=Ao_.mp hx';change(((F0_ ns ws T ord).map (·.2)).flatten).count (ws w)=2;rw[al.count_eq,fA_ λa ha z=>hw a w (g.lt a ha) (g.lt w hw1) z];show g.two w (g.lt w hw1)
 .change(F0_ ns ws T ord).length<=16;unfold F0_;have:=h.length_eq;rw[Br_]at this;rw[Ab_];have:=g.most;lia
 .change(((F0_ ns ws T ord).map (·.2)).flatten).length<=30;rw[al.length_eq,Ab_,g.tot];lia
abbrev End(S:Type):=S×Nat
def HF_:List (S×List (End S))->S->End S->List (S×List (End S))
 |[],w,e=>[(w,[e])]
 | (k,es)::r,w,e=>if k=w then(k,es++[e])::r else(k,es)::HF_ r w e
theorem hm_{w:S}{e:End S}:∀{a:List (S×List (End S))},(∀kv∈a,kv.1≠w)->HF_ a w e=a++[(w,[e])]
 |[],_=>rfl
 | (k,es)::r,h=>by have:k≠w:=h (k,es) An_;rw[HF_,if_neg this,hm_ λkv hkv=>h kv (Am_ _ hkv)];rfl
theorem dq_{w:S}{e:End S}:∀{a:List (S×List (End S))},(∃kv∈a,kv.1=w)->∃i es,a[i]?=some (w,es)/\(∀j kv,j<i->a[j]?=some kv->kv.1≠w)/\HF_ a w e=a.set i (w,es++[e])
 |[],h=>by obtain⟨kv,hkv,_⟩:=h;cases hkv
 | (k,es)::r,h=>by
  by_cases hk:k=w
  .subst hk;show⟨0,es,rfl,λj kv hj=>absurd hj o_,by rw[HF_,if_pos rfl];rfl⟩
  .obtain⟨i,es',h1,h2,h3⟩:=dq_ (w:=w) (e:=e) (a:=r) (by
    obtain⟨kv,hkv,hw⟩:=h
    rcases Ar_.mp hkv with rfl|hkv
    .show absurd hw hk
    .show⟨kv,hkv,hw⟩)
   show⟨i+1,es',h1,λj kv hj hkv=>?_,by rw[HF_,if_neg hk,h3];rfl⟩;cases j with
   |zero=>cases hkv;show hk
   |succ j=>show h2 j kv o_ hkv
def FX_(p:S):Nat->List S->List (S×End S)
 |_,[]=>[]
 |k,w::ws=>(w,(p,k))::FX_ p (k+1) ws
def occ(rows:List (S×List S)):List (S×End S):=(rows.map λr=>FX_ r.1 0 r.2).flatten
def FY_(l:List (S×End S)):List (S×List (End S)):=l.foldl (λa x=>HF_ a x.1 x.2) []
theorem eQ_(l:List (S×End S))(x:S×End S):FY_ (l++[x])=HF_ (FY_ l) x.1 x.2:=by unfold FY_;rw[List.foldl_append];rfl
theorem iA_{w:S}{e:End S}{kv:S×List (End S)}:∀{a:List (S×List (End S))},kv∈HF_ a w e->(kv.1=w/\((∃es,(w,es)∈a/\kv.2=es++[e])\/((∀x∈a,x.1≠w)/\kv.2=[e])))\/kv∈a
 |[],h=>by
  have:=Ae_.mp h;subst this;show .inl ⟨rfl,.inr ⟨λx hx=>(by cases hx),rfl⟩⟩
 | (k,es)::r,h=>by
  by_cases hk:k=w
  .subst hk;rw[HF_,if_pos rfl]at h
   rcases Ar_.mp h with h|h
   .subst h;show .inl ⟨rfl,.inl ⟨es,An_,rfl⟩⟩
   .show .inr (Am_ _ h)
  .rw[HF_,if_neg hk]at h
   rcases Ar_.mp h with h|h
   .subst h;show .inr An_
   .rcases iA_ h with⟨e1,e2⟩|h
    .show .inl ⟨e1,?_⟩
     rcases e2 with⟨es',h1,h2⟩|⟨h1,h2⟩
     .show .inl ⟨es',Am_ _ h1,h2⟩
     .show .inr ⟨λx hx=>?_,h2⟩
      rcases Ar_.mp hx with rfl|hx
      .show hk
      .show h1 x hx
    .show .inr (Am_ _ h)
theorem em_{w:S}{e:End S}:∀{a:List (S×List (End S))},(HF_ a w e).map (·.1)=if(∃kv∈a,kv.1=w)then a.map (·.1)else a.map (·.1)++[w]
 |[]=>by simp[HF_]
 | (k,es)::r=>by
  by_cases hk:k=w
  .subst hk;rw[HF_,if_pos rfl,if_pos ⟨(k,es),An_,rfl⟩];rfl
  .rw[HF_,if_neg hk,AZ_,em_ (a:=r)];by_cases hr:∃kv∈r,kv.1=w
   .rw[if_pos hr,if_pos (by obtain⟨kv,h1,h2⟩:=hr;show⟨kv,Am_ _ h1,h2⟩)];rfl
   .rw[if_neg hr,if_neg (λ⟨kv,h1,h2⟩=>by
     rcases Ar_.mp h1 with rfl|h1
     .show hk h2
     .show hr ⟨kv,h1,h2⟩)]
    rfl
theorem cE_:∀(n:Nat)(l:List (S×End S)),l.length=n->((FY_ l).map (·.1)).Nodup/\(∀kv∈FY_ l,kv.2=(l.filter λx=>decide (x.1=kv.1)).map (·.2))/\(∀x∈l,∃kv∈FY_ l,kv.1=x.1)/\(∀kv∈FY_ l,∃x∈l,x.1=kv.1)
 |0,l,h=>by
  have:=Bo_ h;subst this;show⟨A6_,λkv hkv=>(by cases hkv),λx hx=>(by cases hx),λkv hkv=>(by cases hkv)⟩
 |n+1,l,h=>by
  obtain⟨m,x,rfl⟩:∃m x,l=m++[x]:=by show⟨l.dropLast,l.getLast (λe=>by rw[e]at h;cases h),(Bp_ _).symm⟩
  have hm:m.length=n:=by simpa using h
  obtain⟨h1,h2,h3,h4⟩:=cE_ n m hm;rw[eQ_]
  have fe:∀w,((m++[x]).filter λy=>decide (y.1=w))=(m.filter λy=>decide (y.1=w))++(if x.1=w then[x]else[]):=λw=>by
   rw[CW_];by_cases e:x.1=w
   .simp[e]
   .simp[e]
  show⟨?_,λkv hkv=>?_,λy hy=>?_,λkv hkv=>?_⟩
  .rw[em_];by_cases hc:∃kv∈FY_ m,kv.1=x.1
   .rw[if_pos hc];show h1
   .rw[if_neg hc];show AG_.mpr ⟨h1,s_,λa ha b hb e=>?_⟩;obtain⟨kv,hkv,rfl⟩:=Ao_.mp ha;show hc ⟨kv,hkv,by rw[e];show Ae_.mp hb⟩
  .rw[fe,Av_]
   rcases iA_ hkv with⟨e1,e2⟩|hkv'
   .rw[e1,if_pos rfl]
    rcases e2 with⟨es,h5,h6⟩|⟨h5,h6⟩
    .rw[h6];have:=h2 _ h5;simp only at this;rw[this];rfl
    .rw[h6];have:(m.filter λy=>decide (y.1=x.1))=[]:=by show EE_.mpr λy hy z=>?_;obtain⟨kv2,h7,h8⟩:=h3 y hy;show h5 kv2 h7 (h8.trans (AJ_ z))
     rw[this];rfl
   .by_cases e:x.1=kv.1
    .
     exfalso;obtain⟨i,es,g1,g2,g3⟩:=dq_ (w:=x.1) (e:=x.2) (a:=FY_ m) ⟨kv,hkv',e.symm⟩;rw[g3]at hkv;obtain⟨j,hj,ej⟩:=Ap_.mp hkv;rw[BM_]at hj;have hji:(FY_ m)[j]?=some ((FY_ m)[j]):=Aa_ hj;have hi:i<(FY_ m).length:=(Ai_.mp g1).1;by_cases hij:i=j
     .subst hij;rw[EM_]at ej;have e9:kv.2=es++[x.2]:=by rw[<-ej]
      obtain⟨j2,hj2,ej2⟩:=Ap_.mp hkv';have k1:((FY_ m).map (·.1))[j2]?=((FY_ m).map (·.1))[i]?:=by rw[Af_,Af_,Aa_ hj2,ej2,g1];change some kv.1=some x.1;rw[e]
      have:=(A4_ (by rw[Ab_];show hj2) h1).mp k1;subst this;rw[Aa_ hj2,ej2]at g1;have e10:=congrArg Prod.snd (AB_ g1);rw[e9]at e10;have:=congrArg List.length e10;simp at this
     .rw[Fa_ hij]at ej;have k1:((FY_ m).map (·.1))[j]?=((FY_ m).map (·.1))[i]?:=by rw[Af_,Af_,hji,ej,g1];change some kv.1=some x.1;rw[e]
      show hij ((A4_ (by rw[Ab_];show hj) h1).mp k1).symm
    .rw[if_neg e];rw[h2 kv hkv'];simp
  .by_cases hc:∃kv∈FY_ m,kv.1=y.1
   .have hk:y.1∈(HF_ (FY_ m) x.1 x.2).map (·.1):=by
     rw[em_];obtain⟨kv,g1,g2⟩:=hc;have:y.1∈(FY_ m).map (·.1):=Ao_.mpr ⟨kv,g1,g2⟩;split
     .show this
     .show Ax_ _ this
    obtain⟨kv,g1,g2⟩:=Ao_.mp hk;show⟨kv,g1,g2⟩
   .rcases Aq_.mp hy with hy|hy
    .show absurd (h3 y hy) hc
    .have e:=Ae_.mp hy;subst e;have hk:y.1∈(HF_ (FY_ m) y.1 y.2).map (·.1):=by rw[em_,if_neg hc];show AD_ _ (Ae_.mpr rfl)
     obtain⟨kv,g1,g2⟩:=Ao_.mp hk;show⟨kv,g1,g2⟩
  .rcases iA_ hkv with⟨e1,_⟩|hkv'
   .show⟨x,AD_ _ (Ae_.mpr rfl),e1.symm⟩
   .obtain⟨y,g1,g2⟩:=h4 kv hkv';show⟨y,Ax_ _ g1,g2⟩
theorem eR_(p:S):∀(ws:List S)(k:Nat),(FX_ p k ws).map (·.1)=ws
 |[],_=>rfl
 |w::ws,k=>by rw[FX_,AZ_,eR_ p ws (k+1)]
theorem hn_(rows:List (S×List S)):(occ rows).map (·.1)=(rows.map (·.2)).flatten:=by unfold occ;rw[List.map_flatten,Bv_];congr 1;show Fb_ λr _=>eR_ r.1 r.2 0
theorem f0_{p:S}{x:S×End S}:∀{ws:List S}{k:Nat},x∈FX_ p k ws->x.2.1=p/\k<=x.2.2
 |[],_,h=>by cases h
 |w::ws,k,h=>by
  rcases Ar_.mp h with rfl|h
  .show⟨rfl,Aj_ _⟩
  .have:=f0_ h;show⟨this.1,o_⟩
def FW_(N:Net S):List (S×List (End S)):=FY_ (occ N.rows)
theorem ms_(N:Net S):((FW_ N).map (·.1)).Nodup:=(cE_ _ _ rfl).1
theorem h4_(w:S):∀l:List (S×End S),((l.filter λx=>decide (x.1=w)).map (·.2)).length=(l.map (·.1)).count w
 |[]=>rfl
 |x::l=>by
  have ih:=h4_ w l;rw[AZ_,Ci_,<-ih];by_cases e:x.1=w
  .simp[e]
  .simp[e]
theorem iB_{N:Net S}(ok:Gm_ N){kv:S×List (End S)}(h:kv∈FW_ N):∃a b,kv.2=[a,b]:=by
 obtain⟨_,h2,_,h4⟩:=cE_ _ (occ N.rows) rfl;have hl:kv.2.length=2:=by rw[h2 kv h,h4_,hn_];obtain⟨x,x1,x2⟩:=h4 kv h;show ok.two kv.1 ?_;change kv.1∈(N.rows.map (·.2)).flatten;rw[<-hn_,<-x2];show Ao_.mpr ⟨x,x1,rfl⟩
 match hk:kv.2,hl with
 |[a,b],_=>show⟨a,b,rfl⟩
theorem ok_{N:Net S}{kv:S×List (End S)}(h:kv∈FW_ N){a:End S}(ha:a∈kv.2):(kv.1,a)∈occ N.rows:=by obtain⟨_,h2,_,_⟩:=cE_ _ (occ N.rows) rfl;rw[h2 kv h]at ha;obtain⟨x,x1,rfl⟩:=Ao_.mp ha;obtain⟨x2,x3⟩:=AI_.mp x1;have e:x.1=kv.1:=AJ_ x3;rw[<-e];show x2
end RimT
namespace L2
open PySem PyProof.Rows PySem.W
structure Lto(lt:Nat->Nat->Bool)(N:Nat):Prop where
 as:∀x y,lt x y=true->lt y x=false
 tr:∀x y z,lt y x=false->lt z y=false->lt z x=false
def So(lt:Nat->Nat->Bool)(p:Array Nat)(b:Nat):Prop:=∀i j,i<j->j<b->lt (p.getD j 0) (p.getD i 0)=false
def Fa(lt:Nat->Nat->Bool)(p:Array Nat)(b:Nat):Prop:=∀i j,i<j->j<b->lt (p.getD i 0) (p.getD j 0)=false
section
variable {lt:Nat->Nat->Bool}{N:Nat}
variable{p:Array Nat}
theorem Pm.size(h:Pm N p):p.size=N:=by have:=(Bm_.mp h).length_eq;simpa using this
theorem So.more{n:Nat}(O:Lto lt N)(h:So lt p n)(h1:1<=n)(e:lt (p.getD n 0) (p.getD (n-1) 0)=false):So lt p (n+1):=λi j hij hj=>by
 by_cases c:j<n
 .show h i j hij c
 .have:j=n:=o_
  subst this;by_cases d:i=j-1
  .subst d;show e
  .show O.tr _ _ _ (h i (j-1) o_ o_) e
theorem Fa.more{n:Nat}(O:Lto lt N)(h:Fa lt p n)(h1:1<=n)(e:lt (p.getD (n-1) 0) (p.getD n 0)=false):Fa lt p (n+1):=λi j hij hj=>by
 by_cases c:j<n
 .show h i j hij c
 .have:j=n:=o_
  subst this;by_cases d:i=j-1
  .subst d;show e
  .show O.tr _ _ _ e (h i (j-1) o_ o_)
theorem mt_(O:Lto lt N){p:Array Nat}(h:Pm N p)(h0:0<N):∀(f n:Nat),1<=n->So lt p n->∃m,Gv_ lt N (kas_asc p f n)=some m/\So lt p m/\n<=m/\m<=n+f/\(m<n+f->lt (p.getD m 0) (p.getD (m-1) 0)=true)
 |0,n,h1,hs=>⟨n,rfl,hs,Aj_ _,Aj_ _,λx=>absurd x o_⟩
 |f+1,n,h1,hs=>by
  unfold kas_asc Gv_;rw[if_pos ⟨h.below h0 _,h.below h0 _⟩];cases e:lt (p.getD n 0) (p.getD (n-1) 0)with
  |true=>show⟨n,rfl,hs,Aj_ _,o_,λ_=>e⟩
  |false =>obtain⟨m,a,b,c,d,g⟩:=mt_ O h h0 f (n+1) o_ (hs.more O h1 e);show⟨m,a,b,o_,o_,λx=>g o_⟩
def Es(lt:Nat->Nat->Bool)(p:Array Nat)(a b:Nat):Prop:=∀i j,a<=i->i<b->a<=j->j<b->lt (p.getD i 0) (p.getD j 0)=false
theorem Lto.rf(O:Lto lt N)(x:Nat):lt x x=false:=by
 cases e:lt x x with
 |false=>rfl
 |true=>show e.symm.trans (O.as x x e)
theorem Es.one(O:Lto lt N){n:Nat}:Es lt p n (n+1):=λi j a b c d=>by rw[show i=j by lia];show O.rf _
theorem f1_{a n:Nat}(hn:n<=p.size)(k:Nat):(kas_rev p a n).getD k 0=if a<=k/\k<n then p.getD (a+n-1-k) 0 else p.getD k 0:=by have q:=Fc_ (xs:=p) (i:=a) (j:=n) hn k;change(mirror p a n ((n-a)/2)).getD k 0=_;rw[Ba_,q];split <;> rw[Ba_]
theorem Fa.seg{a n:Nat}(hn:n<=p.size)(h:Fa lt p n)(e:Es lt p a n):Fa lt (kas_rev p a n) n:=λi j hij hj=>by
 rw[f1_ hn,f1_ hn];by_cases ci:a<=i/\i<n
 .rw[if_pos ci,if_pos ⟨o_,hj⟩];show e _ _ o_ o_ o_ o_
 .rw[if_neg ci];split <;> show h _ _ o_ o_
theorem iC_(O:Lto lt N)(h0:0<N):∀(f:Nat)(p:Array Nat)(n q:Nat),Pm N p->q+1<=n->n+f<=N->Fa lt p n->Es lt p (n-(q+1)) n->∃z,Gv_ lt N (kas_desc f p n q)=some z/\Pm N z.1/\Fa lt z.1 z.2.1/\Es lt z.1 (z.2.1-(z.2.2+1)) z.2.1/\n<=z.2.1/\z.2.1<=n+f
 |0,p,n,q,h,h1,_,hs,he=>⟨(p,n,q),rfl,h,hs,he,Aj_ _,Aj_ _⟩
 |f+1,p,n,q,h,h1,hN,hs,he=>by
  have sz:=h.size;unfold kas_desc Gv_;rw[if_pos ⟨h.below h0 _,h.below h0 _⟩];cases e:lt (p.getD n 0) (p.getD (n-1) 0)with
  |true =>
   simp only[if_true];split
   .have er:∀k,¬ (n-(q+1)<=k/\k<n)->(kas_rev p (n-(q+1)) n).getD k 0=p.getD k 0:=λk hk=>by rw[f1_ o_,if_neg hk]
    obtain⟨z,a,b,c,d,g⟩:=iC_ O h0 f (kas_rev p (n-(q+1)) n) (n+1) 0 (h.rev _ _) o_ o_ ((hs.seg o_ he).more O o_ (by rw[er n o_,f1_ o_,if_pos ⟨o_,o_⟩];show O.tr _ _ _ (O.as _ _ e) (he _ _ o_ o_ o_ o_))) (Es.one O);show⟨z,a,b,c,d,o_,o_⟩
   .obtain⟨z,a,b,c,d,g⟩:=iC_ O h0 f p (n+1) 0 h o_ o_ (hs.more O o_ (O.as _ _ e)) (Es.one O);show⟨z,a,b,c,d,o_,o_⟩
  |false =>
   simp only[BQ_,BS_];unfold Gv_;rw[if_pos ⟨h.below h0 _,h.below h0 _⟩];cases e2:lt (p.getD (n-1) 0) (p.getD n 0)with
   |true=>show⟨(p,n,q),rfl,h,hs,he,Nat.le_refl _,by dsimp only;lia⟩
   |false =>
    simp only[BQ_,BS_]
    obtain⟨z,a,b,c,d,g⟩:=iC_ O h0 f p (n+1) (q+1) h o_ o_ (hs.more O o_ e2) (λi j hi hi' hj hj'=>by
     have le:∀k,n+1-(q+1+1)<=k->k<n+1->lt (p.getD k 0) (p.getD (n-1) 0)=false/\lt (p.getD (n-1) 0) (p.getD k 0)=false:=λk k1 k2=>by
      by_cases kn:k=n
      .rw[kn];show⟨e,e2⟩
      .show⟨he _ _ o_ o_ o_ o_,he _ _ o_ o_ o_ o_⟩
     show O.tr _ _ _ (le j hj hj').2 (le i hi hi').1)
    show⟨z,a,b,c,d,o_,o_⟩
theorem ol_{n:Nat}(hn:n<=p.size){k:Nat}(hk:k<n):(kas_rev p 0 n).getD k 0=p.getD (n-1-k) 0:=by have q:=Fc_ (xs:=p) (i:=0) (j:=n) hn k;rw[if_pos ⟨AE_ _,hk⟩]at q;change(mirror p 0 n ((n-0)/2)).getD k 0=_;rw[Ba_,Ba_,q];congr 2;lia
theorem Fa.rev{n:Nat}(hn:n<=p.size)(h:Fa lt p n):So lt (kas_rev p 0 n) n:=λi j hij hj=>by rw[ol_ hn hj,ol_ hn o_];show h _ _ o_ o_
theorem ho_(O:Lto lt N)(h0:0<N)(h:Pm N p){n:Nat}(h1:1<=n)(hN:n<N)(hf:Fa lt p (n+1)):∃z,Gv_ lt N (kas_descPart n N p)=some z/\Pm N z.2/\So lt z.2 z.1/\1<=z.1/\z.1<=N:=by
 obtain⟨z,hz,b,c,d,g1,g2⟩:=iC_ O h0 (N-(n+1)) p (n+1) 0 h o_ o_ hf (Es.one O);have sz:=b.size;have tl:∀{p:Array Nat},Pm N p->Fa lt p z.2.1->∃y,Gv_ lt N (kas_tail3 z.2.1 N p)=some y/\Pm N y.2/\So lt y.2 y.1/\1<=y.1/\y.1<=N:=λ{p} hp fp=>by obtain⟨m',hm',hs',h1',hN',_⟩:=mt_ O (hp.rev 0 z.2.1) h0 (N-z.2.1) z.2.1 o_ (fp.rev (by rw[hp.size];lia));show⟨(m',kas_rev p 0 z.2.1),?_,hp.rev 0 _,hs',by dsimp only;lia,by dsimp only;lia⟩;unfold kas_tail3;rw[bq_ _ hm'];rfl
 unfold kas_descPart;rw[bq_ _ hz];split
 .show tl (b.rev _ _) (c.seg o_ d)
 .show tl b c
theorem nw_(O:Lto lt N)(h0:0<N)(h:Pm N p):∃z,Gv_ lt N (kas_count N p)=some z/\Pm N z.2/\So lt z.2 z.1/\1<=z.1/\z.1<=N:=by
 obtain⟨m,hm,hs,h1,hN,hx⟩:=mt_ O h h0 (N-1) 1 (Aj_ _) λi j a b=>absurd a o_;have sz:=h.size;unfold kas_count;rw[bq_ _ hm];split
 .show⟨_,rfl,h,hs,h1,by dsimp only;lia⟩
 .rename_i c;have cm:m≠N:=λe=>c (by rw[e];show beq_self_eq_true N);have e:=hx o_;split
  .unfold Gv_;rw[if_pos ⟨h.below h0 _,h.below h0 _⟩];cases t:lt (p.getD 0 0) (p.getD (m-1) 0)with
   |true=>show⟨_,rfl,h,hs,h1,by dsimp only;lia⟩
   |false =>
    have ff:Fa lt p m:=λi j hij hj=>by
     have a1:lt (p.getD (m-1) 0) (p.getD j 0)=false:=by
      by_cases c:j=m-1
      .rw[c];show O.rf _
      .show hs _ _ o_ o_
     have a2:lt (p.getD i 0) (p.getD 0 0)=false:=by
      by_cases c:i=0
      .rw[c];show O.rf _
      .show hs _ _ o_ o_
     show O.tr _ _ _ (O.tr _ _ _ a1 t) a2
    have es:Es lt p 0 m:=λi j _ hi _ hj=>by
     rcases Nat.lt_trichotomy i j with c|c|c
     .show ff i j c hj
     .rw[c];show O.rf _
     .show hs j i c hi
    show ho_ O h0 (h.rev 0 m) h1 o_ ((ff.seg o_ es).more O h1 ?_);rw[f1_ o_,f1_ o_,if_pos ⟨o_,o_⟩,if_neg o_,show 0+m-1-(m-1)=0 by lia];show O.tr _ _ _ (O.as _ _ e) t
  .have m1:m=1:=o_
   subst m1;show ho_ O h0 h (Aj_ _) o_ (Fa.more O (n:=1) (λi j a b=>absurd a o_) (Aj_ _) (O.as _ _ e))
theorem iD_(O:Lto lt N)(h0:0<N){p:Array Nat}(h:Pm N p){k:Nat}(hs:So lt p k):∀(f l r:Nat),l<=r->r<=k->r<=l+f->(∀i,i<l->lt (p.getD k 0) (p.getD i 0)=false)->(∀i,r<=i->i<k->lt (p.getD i 0) (p.getD k 0)=false) ->
  ∃m,Gv_ lt N (kas_place p k f l r)=some m/\m<=k/\(∀i,i<m->lt (p.getD k 0) (p.getD i 0)=false)/\∀i,m<=i->i<k->lt (p.getD i 0) (p.getD k 0)=false
 |0,l,r,a,b,c,u,v=>⟨l,rfl,o_,u,λi hi hk=>v i o_ hk⟩
 |f+1,l,r,a,b,c,u,v=>by
  unfold kas_place;split
  .show⟨l,rfl,o_,u,λi hi hk=>v i o_ hk⟩
  .unfold Gv_;rw[if_pos ⟨h.below h0 _,h.below h0 _⟩];cases e:lt (p.getD k 0) (p.getD ((l+r)/2) 0)with
   |true =>
    show iD_ O h0 h hs f l _ o_ o_ o_ u λi hi hk=>?_;by_cases q:i=(l+r)/2
    .subst q;show O.as _ _ e
    .show O.tr _ _ _ (O.as _ _ e) (hs _ _ o_ hk)
   |false =>
    show iD_ O h0 h hs f _ r o_ b o_ (λi hi=>?_) v;by_cases q:i=(l+r)/2
    .subst q;show e
    .show O.tr _ _ _ (hs _ _ o_ o_) e
theorem om_{k l:Nat}(hk:k<p.size)(hl:l<=k)(i:Nat):(bubble p k (k-l)).getD i 0=if i=l then p.getD k 0 else if l<i/\i<=k then p.getD (i-1) 0 else p.getD i 0:=by
 have q:=getElem?_bubble (xs:=p) hk (k-l) o_ i;rw[show k-(k-l)=l by lia]at q;rw[Ba_,q];by_cases a:i=l
 .rw[if_pos a,if_pos a,Ba_]
 .rw[if_neg a,if_neg a];by_cases b:l<i/\i<=k
  .rw[if_pos b,if_pos b,Ba_]
  .rw[if_neg b,if_neg b,Ba_]
theorem on_(O:Lto lt N)(h0:0<N):∀(f:Nat)(p:Array Nat)(k:Nat),Pm N p->So lt p k->k+f=N->∃z,Gv_ lt N (kas_bin f p k)=some z/\Pm N z/\So lt z N
 |0,p,k,h,hs,e=>by
  have q:k=N:=o_
  rw[q]at hs;show⟨p,rfl,h,hs⟩
 |f+1,p,k,h,hs,e=>by
  obtain⟨l,hl,hk,u,v⟩:=iD_ O h0 h hs k 0 k o_ o_ o_ (λi hi=>absurd hi o_) λi hi hk=>absurd hi o_;unfold kas_bin;rw[bq_ _ hl];show on_ O h0 f _ _ ((bubble_perm _ _ _).trans h) (λi j hij hj=>?_) o_;have sz:=h.size;rw[om_ o_ hk,om_ o_ hk];by_cases a:j=l
  .rw[if_pos a,if_neg o_,if_neg o_];show u i o_
  .rw[if_neg a];by_cases b:i=l
   .rw[if_pos b,if_pos ⟨o_,o_⟩];show v _ o_ o_
   .rw[if_neg b];by_cases c:l<j
    .rw[if_pos ⟨c,o_⟩];by_cases d:l<i
     .rw[if_pos ⟨d,o_⟩];show hs _ _ o_ o_
     .rw[if_neg o_];show hs _ _ o_ o_
    .rw[if_neg o_,if_neg o_];show hs _ _ o_ o_
theorem oZ_(O:Lto lt N)(h0:0<N):∃z,Gv_ lt N (kas_sort N)=some z/\Pm N z/\So lt z N:=by
 obtain⟨r,hr,hp,hs,h1,hN⟩:=nw_ O h0 (p:=List.toArray (List.range N)) (Array.Perm.refl _);unfold kas_sort;rw[bq_ _ hr];split
 .rename_i c;rw[show max r.1 1=r.1 by lia];show on_ O h0 _ _ _ hp hs o_
 .have e:r.1=N:=o_
  rw[e]at hs;show⟨_,rfl,hp,hs⟩
end
theorem jw_{α:Type}{R:α->α->Prop}(as:∀x y,R x y->R y x->x=y):∀{a b:List α},a.Perm b->a.Pairwise R->b.Pairwise R->a=b
 |[],b,p,_,_=>by rw[List.nil_perm.mp p]
 |x::a,[],p,_,_=>absurd p.length_eq s_
 |x::a,y::b,p,ha,hb=>by
  have ha':=CY_.mp ha;have hb':=CY_.mp hb
  have e:x=y:=by
   have m1:x∈y::b:=p.mem_iff.mp An_;have m2:y∈x::a:=p.mem_iff.mpr An_
   rcases Ar_.mp m1 with e|m1
   .show e
   .rcases Ar_.mp m2 with e|m2
    .show e.symm
    .show as x y (ha'.1 y m2) (hb'.1 x m1)
  subst e;rw[jw_ as (List.Perm.cons_inv p) ha'.2 hb'.2]
open PySem.Spec
def sLe(a b:Str):Prop:=¬ b.cps.toList<a.cps.toList
theorem sLe.trans{a b c:Str}(h:sLe a b)(h2:sLe b c):sLe a c:=DL_.mpr (List.le_trans (DL_.mp h) (DL_.mp h2))
theorem o0_{a b:Str}(h:a.cps.toList=b.cps.toList):a=b:=by
 cases a;cases b;simpa using h
theorem sLe.antisymm{a b:Str}(h:sLe a b)(h2:sLe b a):a=b:=o0_ (List.le_antisymm (DL_.mp h) (DL_.mp h2))
theorem jx_:∀(p:Str)(l:List Str),risingS p l=true->(p::l).Pairwise sLe
 |p,[],_=>List.pairwise_singleton _ _
 |p,x::r,h=>by
  have h':(!ltCps x.cps.toList p.cps.toList && risingS x r)=true:=h;rw[B7_]at h';have ih:=jx_ x r h'.2;have px:sLe p x:=by have:=h'.1;rw[ltCps_eq]at this;simpa[sLe]using this
  show CY_.mpr ⟨λy hy=>?_,ih⟩
  rcases Ar_.mp hy with rfl|hy
  .show px
  .show px.trans ((CY_.mp ih).1 y hy)
theorem jy_:∀{l:List Str},sortedS l=true->l.Pairwise sLe
 |[],_=>.nil
 |x::r,h=>jx_ x r h
theorem gq_:∀{us:List Value}{ns:List Str},StrsAre us ns->FO_ (ns.map V.str) us
 |_,_,.nil=>.nil
 |_,_,.cons n t h=>.cons ⟨t,rfl⟩ (gq_ h)
theorem h5_:∀{us:List Value}{ns:List Str},FO_ (ns.map V.str) us->StrsAre us ns
 |_,[],.nil=>.nil
 |_,n::ns,.cons r1 r2=>by obtain⟨t,rfl⟩:=r1;show .cons n t (h5_ r2)
def KA_:List V->Hp->VK->Prop:=λvs H Q=>∃(p:Addr)(ns:List Str),vs=[.ref p]/\H p=some (.lst (ns.map V.str))/\ns.length<64/\∀l (zs:List Str),H l=none->zs.Perm ns->zs.Pairwise sLe->Q (.ref l) (upd H l (.lst (zs.map V.str)))
theorem mu_{h₀ h:Heap}{L:Addr}:∀q∈F8_ h₀ h L,q.1<h.objs.size:=λq hq=>Ay_ (eJ_ q hq).1
theorem h6_{X:Cx}:Ga_ X (.builtin "sorted") KA_:=by
 intro pins s σ H xs us Q I r h;obtain⟨p,ns,rfl,hp,h64,q⟩:=h;obtain⟨u,rfl,e⟩:=Gr_ r;cases e;obtain⟨its,rv,pl,_⟩:=I.list (.inl (.inl hp));obtain⟨m,hn,F0⟩:=I.frm;have hl:its.length<64:=by rw[<-rv.length,Ab_];show h64
 show sorted_N_str F0 eJ_ pl.isList (h5_ rv) hl λh' vs' zs c F N hz hpm hs=>?_;have hD:=(N (s.heap.objs.size+1,_) An_).1;have hlz:=hpm.length_eq;obtain⟨HD,I2⟩:=I.led_new (t':=s.toks) (o:=.lst (zs.map V.str)) hn F N (λz hz=>By_ (mu_ z hz)) ⟨AS_ (Fq_ (by rw[Ab_];lia)),vs',c,gq_ hz,hD⟩;show⟨.ref _,_,I2,rfl,q _ zs HD hpm (jy_ hs)⟩
end L2
namespace PySem
open Sem (wp)
theorem kq_:typeLookup (.type "list") "keys"=pure none:=am_miss_of_fast r_
theorem iE_{prog:Program}{w:World}{A:Around}{E:Value->Shared->Prop}{s:Shared}{a:Addr}{o:Obj}{xs:Array Value}{k:Nat}{name:Str}{Q:Option Value->Shared->Prop}
  (hx:s.heap.get? a=some o) (hc:o.cls=.type "list") (hdat:o.data=.seq xs k) (hd:o.dict=none) (hmiss:typeLookup (.type "list") name=pure none) (hname:(["__module__","__name__","__qualname__","__doc__","__annotations__"]:List Str).contains name=false) (hA:A.handled=none)
  (h:∀h' tk,(∀b ob,s.heap.get? b=some ob->h'.get? b=some ob)->Q none {s with heap:=h',toks:=tk}) (hsz:name.length+100<=sizeLine:=by size_fits):
  wpAny (model prog w) A (getAttr? (.ref a) name) Q E s:=by
 obtain⟨c,dct,dat,sl⟩:=o;simp only at hc hdat hd;subst hc hdat hd;obtain⟨hp,g,d,tk,os⟩:=s;have hT:∀tk',(⟨hp,g,d,tk',os⟩:Shared).TypeIs (.ref a) "list" := λ_=>⟨_,hx,rfl⟩;have f1:=sub_AttributeError;have f3:=F.slot_list_getattribute.lookup;have f4:=F.slot_list_getattribute.bind (.ref a);have f5:=am_list_getattr_none;unfold getAttr? getAttrBy? getAttrBy
 repeat (any_goals (first|assumption|show hT _|((with_reducible change wpAny _ _ (call (Value.builtin "list.__getattribute__") _ _) _ _ _);show CK_ F.slot_list_getattribute (hT _) am_entry_list_getattribute (F.args_list_getattribute_2 _ _) (meets_getattribute_miss_list a xs k sl name _ hmiss hname hsz) ⟨hx,hA,λh' tk' e hx'=>?_⟩)|wp_step))
 obtain⟨t',u',he⟩:=hx'.there;change wpAny _ _ (getattributeRaised _ _ _ _ _ _ _) _ _ _;unfold getattributeRaised
 repeat (any_goals (first|assumption|wp_step))
 show h _ _ hx'.keeps
namespace F
theorem rim_entry_dict_update_loop:entryFor table "dict.update.loop"=some Builtin.«dict.update.loop»:=entryFor_of_tree (by kernel_rfl)
theorem rim_plain_dict_update_loop:plainId "dict.update.loop"=true:=r_
end F
end PySem
namespace L2
open PySem PySem.Spec PyProof.Rows PySem.W
variable {X:Cx}{pins:List (Addr×Obj)}{σ:St}{H:Hp}{s:Shared}
def Ky_:List V->Hp->VK->Prop:=λvs H Q=>∃(p:Addr)(ys:List V)(kvs:List (Key×V)),vs=[.ref p]/\H p=some (.lst ys)/\ys.length=kvs.length/\kvs.length<=900/\(∀(i:Nat)(q:Key×V),kvs[i]?=some q->∃a,ys[i]?=some (.ref a)/\H a=some (.tup [kV q.1,q.2])) /\
 ∀l,H l=none->Q (.ref l) (upd H l (.dK (KD_ [] kvs)))
variable {prog:Program}{w:World}{A:Around}{R:Result->Shared->Prop}
def Kv_(kvs more:List (List Key×V)):List (List Key×V):=more.foldl (λacc kv=>Gd_ acc kv.1 kv.2) kvs
def KC_(H:Hp)(p:Addr)(kvs:List (List Key×V)):Prop:=∃ys,H p=some (.lst ys)/\ys.length=kvs.length/\∀(i:Nat)(q:List Key×V),kvs[i]?=some q->∃a b,ys[i]?=some (.ref a)/\H a=some (.tup [.ref b,q.2])/\H b=some (.tup (q.1.map kV))
def Lt_:V->List V->Hp->VK->Prop:=λx vs H Q=>∃(a p:Addr)(kvs0 kvs:List (List Key×V)),x=.ref a/\vs=[.ref p]/\H a=some (.dT kvs0)/\KC_ H p kvs/\kvs0.length+kvs.length<=900/\Q .non (upd H a (.dT (Kv_ kvs0 kvs)))
def JU_:V->List V->Hp->VK->Prop:=λx vs H Q=>∃(l:Addr)(xs:List Str)(t:Str)(j:Nat),x=.ref l/\vs=[.str t]/\H l=some (.lst (xs.map V.str))/\xs.length<=1000/\xs[j]?=some t/\(∀m,m<j->xs[m]?≠some t)/\Q (.int j) H
def Kk_(t u:TS):TS:=λD σ H=>∀kk:St->Hp->Prop,(∀σ' H',u D σ' H'->kk σ' H')->t {D with nx:=kk} σ H
theorem ai_{st:Stmt}{rest:List Stmt}{t u:TS}(h1:PS X st t)(h2:PSs X rest u):PSs X (st::rest) (Kk_ t u):=λpins s σ H D I h=>ad_ h1 h2 pins s σ H D I (h (u D) λ_ _ q=>q)
theorem o1_{t u:TS}{D:Hv_}(h:∀kk:St->Hp->Prop,(∀σ' H',u D σ' H'->kk σ' H')->t {D with nx:=kk} σ H):Kk_ t u D σ H:=h
theorem pZ_{kk u:St->Hp->Prop}(h:∀σ' H',u σ' H'->kk σ' H')(q:u σ H):kk σ H:=h _ _ q
theorem LA_{A G:Prop}(h:A->G)(a:A):G:=h a
variable{K:PySem.W.Frag}
theorem oo_{CX:CXT}{P:Program}{mg:Str->Option Value}{base:Heap}{N:List Str}{q:Str}{sc:Scope}{f:Addr}{cd:Value}{o:List Env}{E:XK}:(JC_ CX P w K mg base N q sc f cd A o s H E).K=K:=rfl
abbrev SHP:=St->Hp->Prop
theorem fB_{lo:Int}{n:Nat}{g:TG}{tb:TS}{nx bk ct:SHP}{rt:VK}{σ:St}{H:Hp}(Pv:Nat->St->Hp->Prop)(h0:Pv 0 σ H)
  (hs:∀(i:Nat) σ H,i<n->∀(kk kb:SHP),(∀σ' H',Pv (i+1) σ' H'->kk σ' H')->(∀σ' H',nx σ' H'->kb σ' H')->∀G:Prop,((g (.int (lo+i)) σ H λσ2 H2=>tb ⟨kk,rt,kb,kk⟩ σ2 H2)->G)->Pv i σ H->G) (hd:∀σ H,Pv n σ H->nx σ H):G0_ (Itr lo n) g tb ⟨nx,rt,bk,ct⟩ σ H :=
 cb_ Pv h0 (λi σ H hi p=>hs i σ H hi _ _ (λ_ _ q=>q) (λ_ _ q=>q) _ id p) hd
theorem bE_{K:PySem.W.Frag}{a:Addr}{xs:List V}{g:TG}{tb:TS}{nx bk ct:SHP}{rt:VK}{σ:St}{H:Hp}(Pv:Nat->St->Hp->Prop)(h0:Pv 0 σ H)(hl:∀i σ H,i<=xs.length->Pv i σ H->SqL K H a xs)
  (hs:∀(i:Nat) x σ H,xs[i]?=some x->∀(kk kb:SHP),(∀σ' H',Pv (i+1) σ' H'->kk σ' H')->(∀σ' H',nx σ' H'->kb σ' H')->∀G:Prop,((g x σ H λσ2 H2=>tb ⟨kk,rt,kb,kk⟩ σ2 H2)->G)->Pv i σ H->G) (hd:∀σ H,Pv xs.length σ H->nx σ H):G0_ (Itl K a) g tb ⟨nx,rt,bk,ct⟩ σ H :=
 ip_ Pv h0 hl (λi x σ H hx p=>hs i x σ H hx _ _ (λ_ _ q=>q) (λ_ _ q=>q) _ id p) hd
theorem p0_{d:Addr}{ob:Obj}{kvs:List (Key×V)}{g:TG}{tb:TS}{nx bk ct:SHP}{rt:VK}{σ:St}{H:Hp}(Pv:Nat->St->Hp->Prop)(h0:Pv 0 σ H)(hl:∀i σ H,i<=kvs.length->Pv i σ H->H d=some (.frz ob (.dK kvs)))
  (hs:∀(i:Nat) k x σ H,kvs[i]?=some (k,x)->∀(kk kb:SHP),(∀σ' H',Pv (i+1) σ' H'->kk σ' H')->(∀σ' H',nx σ' H'->kb σ' H')->∀G:Prop,((g x σ H λσ2 H2=>tb ⟨kk,rt,kb,kk⟩ σ2 H2)->G)->Pv i σ H->G) (hd:∀σ H,Pv kvs.length σ H->nx σ H):G0_ (Idv d ob kvs) g tb ⟨nx,rt,bk,ct⟩ σ H :=
 LE_ Pv h0 hl (λi k x σ H hx p=>hs i k x σ H hx _ _ (λ_ _ q=>q) (λ_ _ q=>q) _ id p) hd
theorem nx_{c:TT}{tb:TS}{nx bk ct:SHP}{rt:VK}{σ:St}{H:Hp}(Pv:St->Hp->Prop)(μ:St->Hp->Nat)(h0:Pv σ H)
  (hs:∀σ H,∀kb:SHP,(∀σ' H',nx σ' H'->kb σ' H')->∀G:Prop,((c σ H λb H1=>if b=true then ∃N:St->Hp->Prop,(∀σ' H',N σ' H'->∃m',m'<μ σ H/\m'=μ σ' H'/\Pv σ' H')/\tb ⟨N,rt,kb,N⟩ σ H1 else kb σ H1)->G)->Pv σ H->G):H5_ c tb ⟨nx,rt,bk,ct⟩ σ H :=
 kg_ Pv μ h0 λσ H p=>hs σ H nx (λ_ _ q=>q) _ id p
def lex2(c d:Int×Int):Bool:=if c.1=d.1 then(if c.2=d.2 then false else decide (c.2<d.2))else decide (c.1<d.1)
theorem hp_{c d:Int×Int}:lex2 c d=false↔d.1<c.1\/(d.1=c.1/\d.2<=c.2):=by
 unfold lex2;split
 .split
  .simp;lia
  .simp only[Eo_];lia
 .simp only[Eo_];lia
theorem o2_{c d:Int×Int}(h:lex2 c d=true):lex2 d c=false:=by
 rw[hp_];by_cases e:d.1<c.1\/(d.1=c.1/\d.2<=c.2)
 .rw[hp_.mpr e]at h;cases h
 .lia
def HE_(ta:TA):TE:=λσ H Q=>ta σ H λvs H1=>∃(p x y:Addr)(c d:Int×Int),vs=[.ref p]/\H1 p=some (.lst [.ref x,.ref y])/\H1 x=some (.tup [.int c.1,.int c.2])/\H1 y=some (.tup [.int d.1,.int d.2])/\∀l zs,H1 l=none->((zs=[V.ref x,V.ref y]/\lex2 c d=false)\/(zs=[V.ref y,V.ref x]/\lex2 d c=false))->Q (.ref l) (upd H1 l (.lst zs))
theorem iF_{X:Cx}(hu:X.A.units+64<cLine){pins:List (Addr×Obj)}{s:Shared}{σ:St}{H:Hp}{p x y:Addr}{c d:Int×Int}{Q:VK}(I:Inv X pins σ H s)(hp:H p=some (.lst [.ref x,.ref y]))(hx:H x=some (.tup [.int c.1,.int c.2]))(hy:H y=some (.tup [.int d.1,.int d.2]))
  (q:∀l zs,H l=none->((zs=[V.ref x,V.ref y]/\lex2 c d=false)\/(zs=[V.ref y,V.ref x]/\lex2 d c=false))->Q (.ref l) (upd H l (.lst zs))):wpAny (model X.prog X.w) X.A (call (.builtin "sorted") [.ref p] HD_) (EP X pins σ Q) X.xe s:=by
 have all:∀z∈[V.ref x,V.ref y],∃(a:Addr)(e:Int×Int),z=.ref a/\H a=some (.tup [.int e.1,.int e.2]):=λz hz=>by
  rcases Ar_.mp hz with rfl|hz
  .show⟨x,c,rfl,hx⟩
  .rw[Ae_.mp hz];show⟨y,d,rfl,hy⟩
 let lt:Nat->Nat->Bool:=λi j=>lex2 (if i=0 then d else c) (if j=0 then d else c)
 have O:Lto lt 2:=⟨λa b h=>o2_ h,λa b e h1 h2=>by have h1':=hp_.mp h1;have h2':=hp_.mp h2;show hp_.mpr o_⟩;obtain⟨pm,hr,hpm,hso⟩:=oZ_ O d_;have pz:pm.size=2:=by simpa using(Bm_.mp hpm).length_eq
 show lz_ (lt:=lt) (κ:=tuples' true) (pm:=pm) I (.inl (.inl hp)) (Aj_ _) (by change 2<64;decide) ?kind ?less hr o_ λl nl=>q l _ nl ?_
 case kind =>
  intro its s' rv I' C hC;obtain⟨fs,t,hf,lk⟩:=hl_ "int" I' rv λz hz=>by obtain⟨a,e,rfl,ha⟩:=all z hz;show⟨a,_,_,rfl,ha,rfl⟩
  have hl:=rv.length;have hl2:fs.length=2:=by rw[hf,<-hl];rfl
  show kat_kind t o_ lk d_ hC
 case less =>
  intro its s' i j rv I' hi hj C hC;have u2:X.A.in1.in1.units+60<cLine:=by rw[Bh_,Bh_];lia
  have pick:∀i,i<2->∃a,its.getD i Value.none=.ref a/\H a=some (.tup [.int (if i=0 then d else c).1,.int (if i=0 then d else c).2]):=λi hi=>by
   obtain⟨u,w',rfl,ru,rw'⟩:=G1_ (show FO_ [V.ref y,V.ref x] its from rv);cases ru;cases rw'
   match i,hi with
   |0,_=>show⟨y,rfl,hy⟩
   |1,_=>show⟨x,rfl,hx⟩
  obtain⟨a,ea,ha⟩:=pick i hi;obtain⟨b,eb,hb⟩:=pick j hj;rw[ea,eb];have hlt:lt i j=lex2 (if i=0 then d else c) (if j=0 then d else c):=rfl;rw[hlt]at hC;generalize(if i=0 then d else c)=e at*;generalize(if j=0 then d else c)=f at*;unfold lex2 at hC;show jv_ I' u2 ha hb (d1:=.int e.1) (d2:=.int e.2) (e1:=.int f.1) (e2:=.int f.2) (b1:=decide (e.1=f.1)) (b2:=decide (e.2=f.2)) rfl rfl rfl rfl (by rw[deq];rfl) (by rw[deq];rfl) (by simp[dep]) (by simp[dep]) (λh u v ru rv=>?_) (λh1 h2 u v ru rv=>?_) (λh1 h2=>?_)
  .obtain⟨t,rfl⟩:=ru;obtain⟨t',rfl⟩:=rv;rw[if_neg (CX_ h)]at hC;show oneLt_int hC
  .obtain⟨t,rfl⟩:=ru;obtain⟨t',rfl⟩:=rv;rw[if_pos (AJ_ h1),if_neg (CX_ h2)]at hC;show kat_one _ _ (lt_int hC)
  .rw[if_pos (AJ_ h1),if_pos (AJ_ h2)]at hC;show hC
 .have h01:=hso 0 1 d_ d_;have gp:∀i,pm.getD i 0=pm.toList.getD i 0:=λi=>by simp[Ba_,Ad_]
  rw[gp,gp]at h01
  rcases nu_ hpm with e|e <;> rw[e]at h01⊢
  .show .inl ⟨rfl,h01⟩
  .show .inr ⟨rfl,h01⟩
theorem kr_{a:Expr}{ta:TA}{p pos cp kp:Pos}{k:Nat}(hu:X.A.units+64<cLine)(hg:Gl X "sorted") (hm:X.mg "sorted"=none) (ha:PA X [a] ta) (hs:FD_ [a]=true:=by rfl):
  PE X (.Call (.Name "sorted" p) [a] [⟨some "reverse",.Constant (.bool true) k cp,kp⟩] pos) (HE_ ta):=by
 have h':Gh_ a=true:=by simpa[FD_]using hs
 intro pins s σ H Q I h;show Ce_ (ef_ I hg hm ej_ ?_ d_ d_);show callWith_kw (thn (ha pos pins s σ H _ I h) λus s1 ⟨vs,H1,I1,r1,q1⟩=>?_) (by rw[av_ h'];rfl) (by rw[av_ h'];rfl) rfl rfl;obtain⟨p,x,y,c,d,rfl,hp,hx,hy,q⟩:=q1;obtain⟨u,rfl,e⟩:=Gr_ r1;cases e;show kws_cons (thn (F7_ pins s1 σ H1 (λv H2=>v=.bl true/\H2=H1) I1 ⟨rfl,rfl⟩) λv s2 ⟨z,H2,I2,r2,e1,e2⟩=>?_);subst e1 e2;cases r2;show kws_nil (iF_ hu I2 hp hx hy q)
abbrev Sk:=List Key×Bool
variable {P:Program}{E:Value->Shared->Prop}
def KB_(b:Bool):Int:=if b then 1 else 0
theorem mv_{b:Bool}{Q:Int->Shared->Prop}(hu:A.units<cLine)(k:Q (KB_ b) {s with toks:=s.toks+1}):wpAny (model P w) A (pyHash (.bool b)) Q E s:=by
 change wpAny _ _ (pyHashByItsType (.bool b)) _ _ _;show Fd_ (T := "bool") rfl F.slot_bool_hash entry_int_hash (args_int_hash _) (beq_builtin_none _) (.inr hu) ?_;cases b
 .show(show wpAny _ _ (do ret (<-mkInt 0)) _ _ s from Ac_ (Fn_ (Ah_ ⟨_,_,rfl,k⟩)))
 .show(show wpAny _ _ (do ret (<-mkInt 1)) _ _ s from Ac_ (Fn_ (Ah_ ⟨_,_,rfl,k⟩)))
def L9_(P:Program)(w:World)(h:Heap)(k:Sk)(a:Addr):Prop:=∃o n p,h.get? a=some o/\o.cls=.type "tuple" /\ o.data=.seq #[.ref p,.bool k.2] n/\(tupleKind (FG_ P w)).is h k.1 p
variable{a:Addr}
theorem L9_.ty{k:Sk}(x:L9_ P w s.heap k a):s.TypeIs (.ref a) "tuple" := let⟨o,_,_,h,c,_⟩:=x;⟨o,h,c⟩
theorem p1_{b c:Bool}{Q:Bool->Shared->Prop}(h:Q (decide (b=c)) s):wpAny (model P w) A (eqBool (.bool b) (.bool c)) Q E s:=by
 unfold eqBool;change wpAny _ _ (if(Value.bool b == Value.bool c)=true then _ else _) Q E s;by_cases e:b=c
 .subst e;rw[if_pos s_];show Ac_ (D1_ (Ah_ (by simpa using h)))
 .rw[if_neg (by simp[e])];show Ac_ (wpAny_richCompare_same (op:=.Eq) (T := "bool") rfl rfl F.slot_bool_eq (BE_ F.slot_bool_eq rfl entry_int_eq (Ah_ ⟨.bool (decide (b=c)),?_,s_,BJ_ h⟩) (args_int_eq _ _)));cases b <;> cases c <;> first|show absurd rfl e|rfl
abbrev Tb:=Str×Bool
def In_(P:Program)(w:World)(h:Heap)(k:Tb)(a:Addr):Prop:=∃o n p,h.get? a=some o/\o.cls=.type "tuple" /\ o.data=.seq #[p,.bool k.2] n/\(FG_ P w).is (.inr k.1) p=true
theorem In_.ty{k:Tb}(x:In_ P w s.heap k a):s.TypeIs (.ref a) "tuple" := let⟨o,_,_,h,c,_⟩:=x;⟨o,h,c⟩
theorem In_.inj{h:Heap}{x y:Tb}(hx:In_ P w h x a)(hy:In_ P w h y a):x=y:=by
 obtain⟨o,n,p,h1,_,h3,h4⟩:=hx;obtain⟨o',n',p',g1,_,g3,g4⟩:=hy;cases h1.symm.trans g1;rw[h3]at g3;injection g3 with g3 _
 have e:p=p'/\x.2=y.2:=by simpa using g3
 obtain⟨rfl,e2⟩:=e;have e1:=DK_ ((FG_ P w).inj _ _ _ h4 g4);show Bl_ e1 e2
variable{d:Addr}
theorem In_.keeps{h h':Heap}{k:Tb}{o:Obj}{es ep} (x:In_ P w h k a) (ho:h.get? d=some o) (hd:o.data=.dict es ep) (hs:Heap.SameBut d h h'):In_ P w h' k a:=by
 obtain⟨o',n,p,h1,h2,h3,h4⟩:=x;have ne:a≠d:=by rintro rfl;cases h1.symm.trans ho;rw[hd]at h3;show nomatch h3
 show⟨o',n,p,(hs.2 a ne).trans h1,h2,h3,h4⟩
def JJ_(P:Program)(w:World)(k:Tb):Int:=reduceHash (Builtin.Tuple.tupleHashOf [(FG_ P w).hash (.inr k.1),KB_ k.2])
theorem o3_{k:Tb}{Q:Int->Shared->Prop}(hu:A.units+1<cLine)(x:In_ P w s.heap k a)(h:Q (JJ_ P w k) {s with toks:=s.toks+3}):wpAny (model P w) A (pyHash (.ref a)) Q E s:=by have ty:=x.ty;obtain⟨o,n,p,h1,h2,h3,h4⟩:=x;change wpAny _ _ (pyHashByItsType (.ref a)) _ _ _;show Fd_ (T := "tuple") ty F.slot_tuple_hash F.entry_tuple_hash (F.args_tuple_hash_1 _) (beq_builtin_none _) (.inr o_) ?_;change wpAny _ _ (Builtin.Tuple.tupleItemsOf (.ref a) >>= _) _ _ s;show Ac_ (DU_ h1 h3 ?_);show Ac_ ?_;rw[<-Array.forIn_toList];change wpAny _ _ (forIn [p,Value.bool k.2] _ _) _ _ _;rw[BT_];show Ac_ (Ac_ ((FG_ P w).pyHash h4 ?_));show Ac_ (Ah_ (Ah_ ?_));change wpAny _ _ (forIn [Value.bool k.2] _ _) _ _ _;rw[BT_];show Ac_ (Ac_ (mv_ (show A.in1.units<cLine from hu) ?_));show Ac_ (Ah_ (Ah_ ?_));change wpAny _ _ (forIn ([]:List Value) _ _) _ _ _;rw[DG_];show Ah_ ?_;change wpAny _ _ (retInt _) _ _ _;show Ac_ (Fn_ (Ah_ ⟨_,_,rfl,h⟩))
theorem LC_{x y:Tb}{b:Addr}{Q:Bool->Shared->Prop}(hu:A.units+1<cLine)(hx:In_ P w s.heap x a)(hy:In_ P w s.heap y b)(h:Q (decide (x=y)) s):wpAny (model P w) A (eqBool (.ref a) (.ref b)) Q E s:=by
 unfold eqBool
 try with_reducible show Bg_ ?_
 change wpAny _ _ (if(Value.ref a == Value.ref b)=true then _ else _) Q E s;by_cases hab:a=b
 .subst hab;rw[if_pos s_];obtain rfl:=hx.inj hy;show Ac_ (D1_ (Ah_ (by simpa using h)))
 .rw[if_neg (by simp[hab])];show Ac_ (wpAny_richCompare_same_room (op:=.Eq) hx.ty hy.ty F.slot_tuple_eq (BE_ F.slot_tuple_eq hx.ty F.entry_tuple_eq ?_ (F.args_tuple_eq_2 _ _)) o_);have tb:=hy.ty;obtain⟨o,n,p,h1,h2,h3,h4⟩:=hx;obtain⟨o',n',q,g1,g2,g3,g4⟩:=hy;change wpAny _ _ (isInstance (.ref b) (.type "tuple") >>= _) _ _ s;show Ac_ (Cr_ tb EN_ ?_);simp only[Bool.not_true,BQ_,BS_];show Ac_ (DU_ h1 h3 ?_);show Ac_ (DU_ g1 g3 ?_);show Ac_ ?_;change wpAny _ _ (forIn [(p,q),(Value.bool x.2,Value.bool y.2)] _ _) _ _ _;rw[BT_];show Ac_ (Ac_ ((FG_ P w).eqBool h4 g4 ?_));by_cases e1:x.1=y.1
  .rw[As_ (congrArg Sum.inr e1),if_neg d_];show Ah_ ?_;change wpAny _ _ (forIn [(Value.bool x.2,Value.bool y.2)] _ _) _ _ _;rw[BT_];show Ac_ (Ac_ (p1_ ?_));by_cases e2:x.2=y.2
   .rw[As_ e2,if_neg d_];rw[As_ (Bl_ e1 e2)]at h;show Ah_ ?_;change wpAny _ _ (forIn ([]:List (Value×Value)) _ _) _ _ _;rw[DG_];show Ah_ (Ah_ ⟨_,rfl,(λe=>nomatch e),BJ_ h⟩)
   .rw[At_ e2,if_pos d_];rw[At_ (λz=>e2 (congrArg Prod.snd z))]at h;show Ac_ (Ah_ (Ah_ (Ah_ (Ah_ ⟨_,rfl,(λe=>nomatch e),BJ_ h⟩))))
  .rw[At_ (λz=>e1 (DK_ z)),if_pos d_];rw[At_ (λz=>e1 (congrArg Prod.fst z))]at h;show Ac_ (Ah_ (Ah_ (Ah_ (Ah_ ⟨_,rfl,(λe=>nomatch e),BJ_ h⟩))))
theorem ny_{k:Tb}{Q:Bool->Shared->Prop}(x:In_ P w s.heap k a)(h:Q true s):wpAny (model P w) A (eqIsQuiet 8 (.ref a)) Q E s:=by have ty:=x.ty;obtain⟨o,n,p,h1,h2,h3,h4⟩:=x;unfold eqIsQuiet;show Ac_ (CP_ ty F.slot_tuple_eq.lookup ?_);change wpAny _ _ (isInstance (.ref a) (.type "tuple") >>= _) _ _ s;show Ac_ (Cr_ ty EN_ ?_);rw[if_neg d_];show Ac_ (wpAny_seqItems h1 h3 (Ac_ ?_));change wpAny _ _ (forIn #[p,Value.bool k.2] _ _) _ _ s;rw[<-Array.forIn_toList];change wpAny _ _ (forIn [p,Value.bool k.2] _ _) _ _ _;rw[BT_,eqIsQuiet_byValue _ ((FG_ P w).byValue _ _ h4)];show Ac_ (Ac_ (Ah_ ?_));rw[if_neg d_];show Ah_ ?_;change wpAny _ _ (forIn [Value.bool k.2] _ _) _ _ _;rw[BT_,eqIsQuiet_byValue _ (by rfl)];show Ac_ (Ac_ (Ah_ ?_));rw[if_neg d_];show Ah_ ?_;change wpAny _ _ (forIn ([]:List Value) _ _) _ _ _;rw[DG_];show Ah_ (Ah_ h)
def FP_(P:Program)(w:World):HeapKind P w Tb where
 is:=In_ P w
 hash:=JJ_ P w
 draws:=λ_=>3
 room:=λA=>A.units+1<cLine
 inj:=λhx hy=>hx.inj hy
 keeps:=λx ho hd hs=>x.keeps ho hd hs
 pyHash:=λhu hk h=>o3_ hu hk h
 eqBool:=λhu hx hy h=>LC_ hu hx hy h
 quiet:=λhk h=>ny_ hk h
variable {h:Heap}{a:Addr}
abbrev Eb:=Tb×Addr×Value
def IV_(P:Program)(w:World)(a:Addr)(xs:List Eb)(h:Heap):Prop :=
 (a == sysModules)=false/\∃o es ep,h.get? a=some o/\o.ExactDict/\o.data=.dict es ep/\es.toList=xs.map (entryOfKey (FP_ P w))/\(xs.map (·.1)).Nodup
def Gx_(H:Hp)(b:Addr)(k:Tb):Prop:=H b=some (.tup [.str k.1,.bl k.2])
def KB(H:Hp):List (Tb×V)->List Eb->Prop:=Paired λ(p:Tb×V)(q:Eb)=>p.1=q.1/\Gx_ H q.2.1 p.1/\FU_ p.2 q.2.2
def DBx(P:Program)(w:World)(H:Hp)(a:Addr)(kvs:List (Tb×V))(xs:List Eb):Prop:=kvs.length<=sizeLine/\∃φ:Heap->Prop,H a=some (.ext φ)/\(∀h,φ h->IV_ P w a xs h)/\KB H kvs xs
def DB(P:Program)(w:World)(H:Hp)(a:Addr)(kvs:List (Tb×V)):Prop:=∃xs,DBx P w H a kvs xs
variable{H':Hp}{kvs:List (Tb×V)}{xs:List Eb}
theorem KB.mono(h:KB H kvs xs)(s:∀b k,Gx_ H b k->Gx_ H' b k):KB H' kvs xs:=Paired.mapP h λ_ _ z=>⟨z.1,s _ _ z.2.1,z.2.2⟩
theorem DBx.keep(h:DBx P w H a kvs xs)(ha:H' a=H a)(s:∀b ys,H b=some (.tup ys)->H' b=some (.tup ys)):DBx P w H' a kvs xs:=let⟨h0,φ,h1,h2,h3⟩:=h;⟨h0,φ,ha.trans h1,h2,h3.mono λ_ _ z=>s _ _ z⟩
theorem DB.keep(h:DB P w H a kvs)(ha:H' a=H a)(s:∀b ys,H b=some (.tup ys)->H' b=some (.tup ys)):DB P w H' a kvs:=let⟨xs,h⟩:=h;⟨xs,h.keep ha s⟩
theorem DBx.some(h:DBx P w H a kvs xs):∃φ,H a=some (.ext φ):=let⟨_,φ,h1,_⟩:=h;⟨φ,h1⟩
theorem DB.some(h:DB P w H a kvs):∃φ,H a=some (.ext φ):=let⟨_,h⟩:=h;h.some
theorem DB.mono(h:DB P w H a kvs)(s:Fo_ H H'):DB P w H' a kvs:=let⟨φ,e⟩:=h.some;h.keep ((s _ _ e).trans e.symm) λb ys z=>s _ _ z
theorem KB.val(r:KB H kvs xs)(k:Tb):HR_ (FZ_ kvs k) ((atKey xs k).map (·.2)):=by
 induction r with
 |nil=>show True.intro
 | @cons p q ps qs h t ih =>
  by_cases e:p.1=k
  .rw[aW_ e];have:atKey (q::qs) k=some q.2:=by simp[atKey,BU_,show q.1=k from h.1▸e]
   rw[this];show h.2.2
  .rw[aN_ e];have:atKey (q::qs) k=atKey qs k:=by simp[atKey,BU_,show ¬ q.1=k from h.1▸e]
   rw[this];show ih
theorem KB.repl(r:KB H kvs xs)(k:Tb){y:V}{u:Value}(ry:FU_ y u):KB H (kvs.map λkv=>if kv.1=k then(kv.1,y)else kv) (xs.map (putAt k u)):=by
 induction r with
 |nil=>show .nil
 | @cons p q ps qs h t ih =>
  show .cons ?_ ih;change(if p.1=k then(p.1,y)else p).1=(putAt k u q).1/\Gx_ H (putAt k u q).2.1 (if p.1=k then(p.1,y)else p).1/\FU_ (if p.1=k then(p.1,y)else p).2 (putAt k u q).2.2;unfold putAt;by_cases e:p.1=k
  .rw[if_pos e,if_pos (h.1▸e)];show⟨h.1,h.2.1,ry⟩
  .rw[if_neg e,if_neg (h.1▸e)];show h
theorem KB.put(r:KB H kvs xs)(k:Tb){b:Addr}{y:V}{u:Value}(hb:Gx_ H b k)(ry:FU_ y u):KB H (Gd_ kvs k y) (storedH xs k b u):=by
 have e:(kvs.any λkv=>decide (kv.1=k))=(atKey xs k).isSome:=by rw[cC_,(r.val k).isSome_eq,Ck_]
 unfold Gd_ storedH;rw[e];split
 .show r.repl k ry
 .show Fl_ r ⟨rfl,hb,ry⟩
theorem KB.drop(r:KB H kvs xs)(k:Tb):KB H (Io_ kvs k) (xs.filter λx=>decide (x.1≠k)):=by
 unfold Io_
 induction r with
 |nil=>show .nil
 | @cons p q ps qs h t ih =>
  rw[Ea_,Ea_];by_cases e:p.1=k
  .rw[if_neg (by simp[e]),if_neg (by simp[<-h.1,e])];show ih
  .rw[if_pos (by simp[e]),if_pos (by simp[<-h.1,e])];show .cons h ih
theorem en_{k:Tb}(ok:HOk P w H h)(e:Gx_ H a k):(FP_ P w).is h k a:=by
 obtain⟨_,its,r,o,g1,g2,n,g3⟩:=(show FV_ P w H h a (.tup [.str k.1,.bl k.2])from ok a _ e);cases r with
 | @cons _ u _ _ r1 r =>
  cases r with
  |cons r2 r =>
   cases r;cases(show _=Value.bool k.2 from r2);show⟨o,n,u,g1,g2,g3,HJ_ (k:=.inr k.1) r1⟩
theorem HG_(ok:HOk P w H h)(e:DBx P w H a kvs xs):(a == sysModules)=false/\(∃φ,H a=some (.ext φ))/\KB H kvs xs/\h.DictOfH (FP_ P w) a xs:=by
 obtain⟨z,φ,h1,hφ,h2⟩:=e;obtain⟨q,_⟩:=(show FV_ P w H h a (.ext φ)from ok a _ h1);obtain⟨hs,o,es,ep,g1,g2,g3,g4,g5⟩:=hφ h q;show⟨hs,⟨φ,h1⟩,h2,o,es,ep,g1,g2,g3,g4,λx hx=>?_,g5⟩
 have all:∀{l:List (Tb×V)}{m:List Eb},KB H l m->∀x∈m,(FP_ P w).is h x.1 x.2.1:=by
  intro l m q
  induction q with
  |nil=>intro x hx;show nomatch hx
  | @cons p q ps qs hq t ih =>
   intro x hx
   rcases Ar_.mp hx with e|hx
   .subst e;show en_ ok (by rw[<-hq.1];show hq.2.1)
   .show ih x hx
 show all h2 x hx
theorem hq_(hs:(a == sysModules)=false)(d:h.DictOfH (FP_ P w) a xs):FV_ P w H' h a (.ext (IV_ P w a xs)):=by obtain⟨o,es,ep,g1,g2,g3,g4,_,g5⟩:=d;show⟨⟨hs,o,es,ep,g1,g2,g3,g4,g5⟩,⟨o,g1⟩,λh1 h2 ⟨z0,o',es',ep',z1,z2⟩ k=>⟨z0,o',es',ep',k _ z1,z2⟩⟩
def KG_(P:Program)(w:World):TE:=λ_ H Q=>∀p,H p=none->∀H',Fo_ H H'->DB P w H' p []->(∀b,b≠p->H' b=H b)->Q (.ref p) H'
def KQ_(P:Program)(w:World)(td ty:TE):TE:=λσ H Q=>td σ H λx H1=>ty σ H1 λy H2=>∃a b kvs k v,x=.ref a/\y=.ref b/\DB P w H2 a kvs/\Gx_ H2 b k/\FZ_ kvs k=some v/\Q v H2
def LP_(P:Program)(w:World)(ty td:TE):TE:=λσ H Q=>ty σ H λy H1=>td σ H1 λx H2=>∃a b kvs k,x=.ref a/\y=.ref b/\DB P w H2 a kvs/\Gx_ H2 b k/\Q (.bl (FZ_ kvs k).isSome) H2
def IF_(P:Program)(w:World)(ty td:TE):TE:=λσ H Q=>ty σ H λy H1=>td σ H1 λx H2=>∃a b kvs k,x=.ref a/\y=.ref b/\DB P w H2 a kvs/\Gx_ H2 b k/\Q (.bl (!(FZ_ kvs k).isSome)) H2
def KI_(P:Program)(w:World)(td ty tv:TE):TS:=λD σ H=>tv σ H λv H1=>td σ H1 λx H2=>ty σ H2 λy H3=>∃a b kvs k,x=.ref a/\y=.ref b/\DB P w H3 a kvs/\Gx_ H3 b k/\kvs.length<sizeLine /\
 ∀H4,(∀c,c≠a->H4 c=H3 c)->DB P w H4 a (Gd_ kvs k v)->D.nx σ H4
section
variable {o i value:Expr}{pos pos':Pos}{td ty tv:TE}
theorem mw_(hP:X.prog=P)(hw:X.w=w):PE X (.Dict [] [] pos) (KG_ P w):=by
 subst hP hw;intro pins s σ H Q I h;have hd:(s.heap.objs.size == sysModules)=false:=by have:=I.big;show B4_.mpr (CU_ this)
 have ob:∀H',FV_ X.prog X.w H' (s.heap.push {cls:=.type "dict",data:=.dict #[]}) s.heap.objs.size (.ext (IV_ X.prog X.w s.heap.objs.size [])):=λH'=>hq_ hd ⟨_,#[],0,AA_ _ rfl,⟨rfl,rfl,rfl⟩,rfl,rfl,λx hx=>(by cases hx),A6_⟩;have nn:=I.hok.fresh (Aj_ s.heap.objs.size);show D8_ ⟨.ref s.heap.objs.size,_,I.laid (a:=s.heap.objs.size) (o:=.ext (IV_ X.prog X.w s.heap.objs.size [])) (t':=s.toks) (λ_ _ q=>Ak_ _ q) (Aj_ _) (ob _),rfl,h _ nn _ (Fo_.new nn) ⟨[],AE_ _,_,aa_,λ_ q=>q,.nil⟩ λb hb=>ae_ hb⟩
theorem f2_(hP:X.prog=P)(hw:X.w=w)(hu:X.A.units+2<cLine)(ho:PE X o td)(hi:PE X i ty)(hs:Li_ i:=by intro _ _;rfl):PE X (.Subscript o i pos) (KQ_ P w td ty):=by subst hP hw;intro pins s σ H Q I h;show md_ PySem.F.slot_dict_getitem.lookup hs (thn (ho pins s σ H _ I h) λu s1 ⟨x,H1,I1,rx,q1⟩=>thn (hi pins s1 σ H1 _ I1 q1) λiv s2 ⟨y,H2,I2,ry,a,b,kvs,k,v,ex,ey,⟨xs,g⟩,kb,hv,q2⟩=>?_);subst ex ey;obtain rfl:u=Value.ref a:=rx;obtain rfl:iv=Value.ref b:=ry;obtain⟨hd,e,rel,dd⟩:=HG_ I2.hok g;obtain⟨w',hw,rw'⟩:=HR_.some_of (v:=v) (o:=(atKey xs k).map (·.2)) (by rw[<-hv];show rel.val k);obtain⟨p,hp,hp2⟩:=AR_.mp hw;show⟨dd.typeIs,wpAny_getItem_heap (show X.A.in1.units+1<cLine from hu) (en_ I2.hok kb) dd hp ?_⟩;rw[hp2];show⟨v,H2,I2.tok _,rw',q2⟩
theorem p2_(hP:X.prog=P)(hw:X.w=w)(hu:X.A.units+2<cLine)(hi:PE X i ty)(ho:PE X o td):PC X .In i o (LP_ P w ty td):=by subst hP hw;intro pins s σ H Q I h;show thn (hi pins s σ H _ I h) λiv s1 ⟨y,H1,I1,ry,q1⟩=>thn (ho pins s1 σ H1 _ I1 q1) λu s2 ⟨x,H2,I2,rx,a,b,kvs,k,ex,ey,⟨xs,g⟩,kb,q2⟩=>?_;subst ex ey;obtain rfl:u=Value.ref a:=rx;obtain rfl:iv=Value.ref b:=ry;obtain⟨hd,e,rel,dd⟩:=HG_ I2.hok g;show wpAny_in_heap (show X.A.in1.units+1<cLine from hu) (en_ I2.hok kb) hd dd ?_;have q:=(rel.val k).isSome_eq;rw[Ck_]at q;rw[<-q];show⟨.bl _,H2,I2.tok _,rfl,q2⟩
theorem jz_(hP:X.prog=P)(hw:X.w=w)(hu:X.A.units+2<cLine)(hi:PE X i ty)(ho:PE X o td):PC X .NotIn i o (IF_ P w ty td):=by subst hP hw;intro pins s σ H Q I h;show thn (hi pins s σ H _ I h) λiv s1 ⟨y,H1,I1,ry,q1⟩=>thn (ho pins s1 σ H1 _ I1 q1) λu s2 ⟨x,H2,I2,rx,a,b,kvs,k,ex,ey,⟨xs,g⟩,kb,q2⟩=>?_;subst ex ey;obtain rfl:u=Value.ref a:=rx;obtain rfl:iv=Value.ref b:=ry;obtain⟨hd,e,rel,dd⟩:=HG_ I2.hok g;show wpAny_notIn_heap (show X.A.in1.units+1<cLine from hu) (en_ I2.hok kb) hd dd ?_;have q:=(rel.val k).isSome_eq;rw[Ck_]at q;rw[<-q];show⟨.bl _,H2,I2.tok _,rfl,q2⟩
theorem hr_(hP:X.prog=P)(hw:X.w=w)(hu:X.A.units+2<cLine)(ho:PE X o td)(hi:PE X i ty)(hv:PE X value tv)(hs:swapsWith value (some (.Subscript o i pos')) pos.line X.env=pure false):PS X (.Assign [.Subscript o i pos'] value pos) (KI_ P w td ty tv):=by
 subst hP hw;intro pins s σ H D I h;show EA_ (thn (hv pins s σ H _ I h) λr s1 ⟨v,H1,I1,rv,q1⟩=>thn (ho pins s1 σ H1 _ I1 q1) λu s2 ⟨x,H2,I2,rx,q2⟩=>thn (hi pins s2 σ H2 _ I2 q2) λiv s3 ⟨y,H3,I3,ry,a,b,kvs,k,ex,ey,⟨xs,g⟩,kb,hl,q3⟩=>?_) hs;subst ex ey;obtain rfl:u=Value.ref a:=rx;obtain rfl:iv=Value.ref b:=ry;obtain⟨hd,⟨φ,e⟩,rel,dd⟩:=HG_ I3.hok g;have hz:xs.length<=sizeLine:=by rw[<-BF_ rel];show g.1
 have hl':(Gd_ kvs k v).length<=sizeLine:=by have:=bf_ kvs k v;lia
 show wpAny_setItem_heap (hsz:=hz) (show X.A.in1.units+1<cLine from hu) (en_ I3.hok kb) dd λh' dd' hs'=>?_;have he:∃q,h'.get? a=some q:=let⟨q,_,_,hq,_⟩:=dd';⟨q,hq⟩;have kk:∀c k',Gx_ H3 c k'->Gx_ (upd H3 a (.ext (IV_ X.prog X.w a (storedH xs k b r)))) c k':=λc k' z=>(ae_ (IX_ z e (λz=>nomatch z))).trans z;show⟨σ,_,el_ I3 (by rw[e];show True.intro) hs' he (hq_ hd dd'),q3 _ (λc hc=>ae_ hc) ⟨_,hl',_,aa_,λ_ q=>q,(rel.put k kb rv).mono kk⟩⟩
end
def Idi(d:Addr)(ob:Obj)(kvs:List (Key×V)):It :=
 ⟨λi H=>H d=some (.frz ob (.dK kvs))/\i<kvs.length,λi H x H'=>∃T k v,x=.ref T/\H T=none/\kvs[i]?=some (k,v)/\H'=upd H T (.tup [kV k,v]),λi H=>H d=some (.frz ob (.dK kvs))/\kvs.length<=i⟩
def iDI(td:TE):TI:=λσ H R=>td σ H λx H1=>∃(d:Addr)(kvs:List (Key×V)),x=.ref d/\H1 d=some (.dK kvs)/\∀ob,R (Idi d ob kvs) (upd H1 d (.frz ob (.dK kvs)))
abbrev K9_:=St->Hp->Prop
theorem iG_:entryFor table "proto.unchain"=some Builtin.«proto.unchain»:=entryFor_of_fast (by kernel_rfl)
def QuA(A:Around)(h:Heap):Prop:=A.handled=none\/∃ea,A.handled=some (.ref ea)/\Pl2 h ea
theorem o4_{α:Type}{Q:α->Shared->Prop}{x:Addr}{o:Obj}{vs:Array Value}(hq:QuA A s.heap)(hx:s.heap.get? x=some o)(hd:o.data=.fields vs)(sz:2<vs.size)(hne:∀ea,A.handled=some (.ref ea)->ea≠x)
  (k:∀g,(∀b,b≠x->g.get? b=s.heap.get? b)->(∃u,g.get? x=some u/\u.cls=o.cls)->E (.ref x) {s with heap:=g}):wpAny (model prog w) A (raiseNew (.ref x):Sem α) Q E s:=by
 unfold raiseNew;show Ac_ (wpAny_handled ?_)
 rcases hq with hq|⟨ea,hq,oe,us,he,de,h2⟩
 .rw[hq];show Ac_ (Ah_ (wpAny_throw (k _ (λ_ _=>rfl) ⟨o,hx,rfl⟩)))
 .rw[hq];have ne:=hne ea hq
  dsimp only
  rw[if_pos (show(Value.ref ea != Value.ref x)=true by simp[ne])];show Ac_ (Bg_ (runValue_entry iG_ ?_));unfold Builtin.«proto.unchain»
  dsimp only
  show Ac_ (DM_ he de h2 ?_);rw[if_pos (show(Value.none == Value.none)=true by rfl)];show Ah_ ⟨_,rfl,Ac_ (DH_ hx hd sz (wpAny_throw (k _ (λb hb=>Bb_ _ _ (Ne.symm hb)) ⟨_,CF_ _ hx (Obj.isFreed_of_fields (Obj.data_mapFields hd _)),Obj.cls_mapFields _ _⟩)))⟩
theorem op_{α:Type}{Q:α->Shared->Prop}(hq:QuA A s.heap)(k:∀g x,(∀b o,s.heap.get? b=some o->g.get? b=some o)->(∃u,g.get? x=some u/\u.cls=.type "StopIteration")->E (.ref x) {s with heap:=g}):
  wpAny (model prog w) A (newExc (.type "StopIteration") [] >>= λe=>(raiseNew e:Sem α)) Q E s:=by
 show Ac_ ?_;simp only[newExc,newTuple];show Ac_ (BZ_ ?_ (by size_fits));show Ac_ (m:=firstArgMember _ _) (wpAny_of_eq (a:=Value.none) (by first|rfl|(simp only[firstArgMember];rfl)) ?_);show BZ_ ?_ (by size_fits);have kp:∀{o1 o2:Obj}(b:Addr)(o:Obj),s.heap.get? b=some o->((s.heap.push o1).push o2).get? b=some o:=λb o e=>Ak_ _ (Ak_ _ e);show o4_ (hq.imp id λ⟨ea,z,oe,us,he,z2⟩=>⟨ea,z,oe,us,kp ea oe he,z2⟩) (AA_ _ rfl) rfl (by rw[Array.size_append];show AO_ (show 2<6 by decide) (Cq_ 6 _)) (λea z=>?_) λg g1 g2=>k g _ (λb o e=>(g1 b ?_).trans (kp b o e)) g2
 .rcases hq with q|⟨ea',q,oe,us,he,_⟩
  .rw[q]at z;cases z
  .rw[q]at z;cases z;show AL_ (AO_ (Ay_ he) s_)
 .show AL_ (AO_ (Ay_ e) s_)
def Ik_(h:Heap)(d:Addr)(es:Array DictEntry)(ep:Nat):Prop:=∃o,h.get? d=some o/\o.ExactDict/\o.data=.dict es ep
variable{ep:Nat}
theorem Ik_.ty{es:Array DictEntry}(x:Ik_ s.heap d es ep):s.TypeIs (.ref d) "dict" := let⟨o,h,c,_⟩:=x;⟨o,h,c.1⟩
theorem mx_(d:Addr)(hd:(d == sysModules)=false):MeetsIn prog w (Builtin.«dict.items» ⟨[.ref d],[]⟩) (λ_ R s=>(∃es ep,Ik_ s.heap d es ep)/\R (.ok (.ret (.ref s.heap.objs.size))) {s with heap:=s.heap.push {cls:=.type "dict_items",data:=.fields #[.ref d]}}):=
 .of_wp λA R s ⟨⟨es,ep,x⟩,h⟩=>by unfold Builtin.«dict.items»;show Ac_ ?_;unfold Builtin.Dict.noArgs;show Ac_ (CJ_ x.ty ?_);show(show wpAny _ _ (pure d) _ _ s from Ah_ ?_);show(show wpAny _ _ (Builtin.Dict.showsAll d >>= _) _ _ s from ?_);unfold Builtin.Dict.showsAll;rw[hd,if_neg d_];show Ac_ (Ah_ (Ac_ (BZ_ (Ah_ ⟨_,rfl,h⟩))))
theorem nz_{v d:Addr}{es:Array DictEntry}{ep:Nat}{Q:Value->Shared->Prop}(hv:s.heap.IsItemsView v d)(x:Ik_ s.heap d es ep)
  (k:Q (.ref s.heap.objs.size) {s with heap:=s.heap.push {cls:=.type "dict_itemiterator",data:=.fields #[.none,.bool false,.ref d,.int 0 0,.int es.size 0,.int ep 0,.none,.none]}}):wpAny (model prog w) A (pyIter (.ref v)) Q E s:=by
 obtain⟨ov,g1,g2,g3⟩:=id hv;obtain⟨o,h1,h2,h3⟩:=x;show wpAny_pyIter_slot hv.typeIs EF_ (BE_ EF_ hv.typeIs F.entry_dict_items_iter ?_ (F.args_dict_items_iter_1 _));unfold Builtin.«dict_items.__iter__»;show Ac_ (Ah_ (Ac_ ?_));unfold Builtin.Dict_items.dictOf;show Ac_ (DM_ g1 g3 (x:=.ref d) rfl (Ah_ (Ac_ ?_)));unfold Builtin.Dict_items.newIterator;show Ac_ (BK_ h1 h3 (Ac_ (Cy_ h1 h3 ?_)));simp only[show Builtin.Dict_items.ownsTuple "dict_itemiterator"=true by decide,if_true];show BZ_ (Ah_ ⟨_,rfl,"dict_itemiterator",_,⟨_,AA_ _ rfl,rfl⟩,F.slot_dict_itemiterator_next.lookup,?_⟩) (by simp only[sizeOk,Builtin.Dict_items.ownedTupleFields,Au_,Al_,AM_,Et_,BG_];lia);simpa[rawInt,Builtin.Dict_items.ownedTupleFields]using k
theorem o5_{it d:Addr}{i ep:Nat}{es:Array DictEntry}{ok ov:Value}{Q:Option Value->Shared->Prop}(hh:A.handled=none)(st:IsItemIter s.heap it d i es.size ep ok ov)(x:Ik_ s.heap d es ep)(hi:es.size<=i)
  (k:∀g,Heap.ExtBut it s.heap g->Q none {s with heap:=g}):wpAny (model prog w) A (pyNext (.ref it)) Q E s:=by
 obtain⟨o,h1,h2,h3⟩:=x;have ty:s.TypeIs (.ref it) "dict_itemiterator" := ⟨_,st,rfl⟩;unfold pyNext;show Ac_ (DY_ (Cu_ (name:=Str.ofString "__next__") ty B1_ (BE_ B1_ ty Dv_ ?_ (Dm_ _))));show Ac_ (Ah_ (Ac_ (Ac_ ?_)))
 first|show Ac_ (BX_ ty (Ah_ ?_))|show Ac_ (Cm_ ty (Ah_ ?_))
 show Ac_ (DI_ st rfl ?_);simp only[show Builtin.Dict_items.ownsTuple "dict_itemiterator"=true by decide,if_true];show(show wpAny _ _ (if(Value.ref d == Value.none)=true then _ else _) _ _ s from ?_);rw[if_neg s_];show Ac_ (Ah_ (Ac_ (BK_ h1 h3 ?_)));rw[if_neg s_];show Ac_ (Ah_ (Ac_ (Cy_ h1 h3 ?_)));rw[if_neg s_];show Ah_ ?_;simp only[show ¬ ((i:Int)<0)from by lia,BS_,AK_,CC_ hi];show Ac_ ?_
 first|show Ac_ (BX_ ty (Ah_ ?_))|show Ac_ (Cm_ ty (Ah_ ?_))
 show(show wpAny _ _ (setField (.ref it) 2 .none >>= _) _ _ s from Ac_ (DH_ st rfl s_ ?_));show op_ (A:=A.in1) (.inl hh) λg y g1 ⟨u,hu,cu⟩=>?_;show Ac_ (Cr_ (T := "StopIteration") (b:=true) ⟨u,hu,cu⟩ isSubtype_stop (Ah_ (k g λb o hb e=>g1 b o ((Bb_ _ _ (Ne.symm hb)).trans e))))
theorem nA_{it d:Addr}{i ep:Nat}{es:Array DictEntry}{ok ov:Value}{Q:Option Value->Shared->Prop}(st:IsItemIter s.heap it d i es.size ep ok ov)(x:Ik_ s.heap d es ep)(hi:i<es.size)
  (k:∀g,IsItemIterOut g it d (i+1) es.size ep es[i].key es[i].val s.heap.objs.size->g.get? s.heap.objs.size=some {cls:=.type "tuple",data:=.seq #[es[i].key,es[i].val]}->(∀b o,b≠it->s.heap.get? b=some o->g.get? b=some o)->Q (some (.ref s.heap.objs.size)) {s with heap:=g}):
  wpAny (model prog w) A (pyNext (.ref it)) Q E s:=by
 obtain⟨o,h1,h2,h3⟩:=x;have ty:s.TypeIs (.ref it) "dict_itemiterator" := ⟨_,st,rfl⟩;have il:it<s.heap.objs.size:=Ay_ st;unfold pyNext;show Ac_ (DY_ (Cu_ (name:=Str.ofString "__next__") ty B1_ (BE_ B1_ ty Dv_ ?_ (Dm_ _))));show Ac_ (Ah_ (Ac_ (Ac_ ?_)))
 first|show Ac_ (BX_ ty (Ah_ ?_))|show Ac_ (Cm_ ty (Ah_ ?_))
 show Ac_ (DI_ st rfl ?_);simp only[show Builtin.Dict_items.ownsTuple "dict_itemiterator"=true by decide,if_true];show(show wpAny _ _ (if(Value.ref d == Value.none)=true then _ else _) _ _ s from ?_);rw[if_neg s_];show Ac_ (Ah_ (Ac_ (BK_ h1 h3 ?_)));rw[if_neg s_];show Ac_ (Ah_ (Ac_ (Cy_ h1 h3 ?_)));rw[if_neg s_];show Ah_ ?_;simp only[show ¬ ((i:Int)<0)from by lia,BS_,AK_,Bu_ hi];show Ac_ ?_
 first|show Ac_ (BX_ ty (Ah_ ?_))|show Ac_ (Cm_ ty (Ah_ ?_))
 show Ac_ (Da_ ty ?_);show(show wpAny _ _ (setField (.ref it) 3 (rawInt ((i:Int)+1)) >>= _) _ _ s from ?_);show Ac_ (Cz_ st s_ λg1 e1 s1=>?_);have e1':IsItemIter g1 it d (i+1) es.size ep ok ov:=by unfold IsItemIter;rw[show((i+1:Nat):Int)=(i:Int)+1 by lia];simpa[rawInt]using e1
 have ty1:Shared.TypeIs {s with heap:=g1} (.ref it) "dict_itemiterator" := ⟨_,e1',rfl⟩;show Ac_ (Bg_ (Ac_ (Da_ (s:={s with heap:=g1}) ty1 (Ac_ (Da_ (s:={s with heap:=g1}) ty1 ?_)))));show(show wpAny _ _ (Builtin.Dict_items.pairFromOwner (.ref it) 6 es[i].key es[i].val) _ _ {s with heap:=g1}from ?_);unfold Builtin.Dict_items.pairFromOwner;show Ac_ (EK_ ?_);generalize hob:({cls:=.type "tuple",data:=.seq #[es[i].key,es[i].val]}:Obj)=ob at k⊢;have fo:ob.isFreed=false:=by rw[<-hob];rfl
 have z1:g1.objs.size=s.heap.objs.size:=s1.1;have e2:IsItemIter (g1.push ob) it d (i+1) es.size ep ok ov:=Ak_ _ e1';have t2:(g1.push ob).get? s.heap.objs.size=some ob:=by rw[<-z1];show AA_ _ fo
 have k2:∀b o,b≠it->s.heap.get? b=some o->(g1.push ob).get? b=some o:=λb o hb e=>Ak_ _ (s1.extBut b o hb e);show(show wpAny _ _ (Builtin.Dict_items.ownedTupleIsFree (.ref it) >>= _) _ _ {s with heap:=g1.push ob}from ?_);have ge:({s with heap:=g1}:Shared).heap.objs.size=s.heap.objs.size:=z1;rw[ge];show Ac_ ?_;unfold Builtin.Dict_items.ownedTupleIsFree;show Ac_ (DM_ e2 rfl (x:=.none) rfl (Ah_ ?_));simp only[if_true];show Ac_ (DM_ e2 rfl (x:=ok) rfl (Ac_ (DM_ e2 rfl (x:=ov) rfl ?_)));show Ac_ (Cz_ e2 s_ λg3 e3 s3=>?_);have e3':IsItemIter g3 it d (i+1) es.size ep es[i].key ov:=e3;show Ac_ (Cz_ e3' s_ λg4 e4 s4=>?_);have e4':IsItemIter g4 it d (i+1) es.size ep es[i].key es[i].val:=e4;show Ac_ (Cz_ e4' s_ λg5 e5 s5=>?_);have e5':IsItemIterOut g5 it d (i+1) es.size ep es[i].key es[i].val s.heap.objs.size:=e5;show Ac_ (Cz_ e5' s_ λg6 e6 s6=>?_);have e6':IsItemIterOut g6 it d (i+1) es.size ep es[i].key es[i].val s.heap.objs.size:=e6;have all:∀b o,b≠it->(g1.push ob).get? b=some o->g6.get? b=some o:=λb o hb e=>s6.extBut b o hb (s5.extBut b o hb (s4.extBut b o hb (s3.extBut b o hb e)));show Ac_ (Fm_ (Ah_ (Ah_ ⟨_,rfl,Ah_ (k g6 e6' (all _ _ (CU_ il) t2) λb o hb e=>all b o hb (k2 b o hb e))⟩)))
theorem jA_{d:Addr}{es:Array DictEntry}{ep:Nat}{Q:Value->Shared->Prop}(hd:(d == sysModules)=false)(x:Ik_ s.heap d es ep)
  (k:Q (.ref s.heap.objs.size) {s with heap:=s.heap.push {cls:=.type "dict_keyiterator",data:=.fields #[.ref d,.int 0 0,.int es.size 0,.int ep 0]}}):wpAny (model prog w) A (pyIter (.ref d)) Q E s:=by
 have ty:=x.ty;obtain⟨o,h1,h2,h3⟩:=x;show wpAny_pyIter_slot ty F.slot_dict_iter (BE_ F.slot_dict_iter ty F.entry_dict_iter ?_ (F.args_dict_iter_1 _));unfold Builtin.«dict.__iter__»;show Ac_ ?_;unfold Builtin.Dict.dictSlotNone;show Ac_ (CJ_ ty ?_);show(show wpAny _ _ (pure (Value.ref d)) _ _ s from Ah_ ?_);show Ac_ (Ah_ (Ac_ ?_));unfold Builtin.Dict.showsAll;rw[hd,if_neg d_];show Ah_ (Ac_ (BK_ h1 h3 (Ac_ (Cy_ h1 h3 (Ac_ ?_)))));show BZ_ (Ah_ ⟨_,rfl,"dict_keyiterator",_,⟨_,AA_ _ rfl,rfl⟩,F.slot_dict_keyiterator_next.lookup,?_⟩) (by simp only[sizeOk,Au_,AM_,Et_,BG_];lia);simpa[rawInt]using k
theorem k8_{it d:Addr}{i ep:Nat}{es:Array DictEntry}{Q:Option Value->Shared->Prop}(hh:A.handled=none)(st:s.heap.IsKeyIter it d i es.size ep)(x:Ik_ s.heap d es ep)(hi:es.size<=i)
  (k:∀g,Heap.ExtBut it s.heap g->Q none {s with heap:=g}):wpAny (model prog w) A (pyNext (.ref it)) Q E s:=by
 obtain⟨o,h1,h2,h3⟩:=x;obtain⟨oi,g1,g2,g3⟩:=st;have ty:s.TypeIs (.ref it) "dict_keyiterator" := ⟨_,g1,g2⟩;unfold pyNext;show Ac_ (DY_ (Cu_ (name:=Str.ofString "__next__") ty Ca_ (BE_ Ca_ ty Dx_ ?_ (Dw_ _))));show Ac_ (Ah_ (Ac_ (Ac_ ?_)))
 first|show Ac_ (B2_ ty (Ah_ ?_))|show Ac_ (Cs_ ty (Ah_ ?_))
 show Ac_ (DI_ g1 g3 ?_);simp only[show Builtin.Dict_items.ownsTuple "dict_keyiterator"=false by decide,BS_,BQ_];show(show wpAny _ _ (if(Value.ref d == Value.none)=true then _ else _) _ _ s from ?_);rw[if_neg s_];show Ac_ (Ah_ (Ac_ (BK_ h1 h3 ?_)));rw[if_neg s_];show Ac_ (Ah_ (Ac_ (Cy_ h1 h3 ?_)));rw[if_neg s_];show Ah_ ?_;simp only[show ¬ ((i:Int)<0)from by lia,BS_,AK_,CC_ hi];show Ac_ ?_
 first|show Ac_ (B2_ ty (Ah_ ?_))|show Ac_ (Cs_ ty (Ah_ ?_))
 show(show wpAny _ _ (setField (.ref it) 0 .none >>= _) _ _ s from Ac_ (DH_ g1 g3 s_ ?_));show op_ (A:=A.in1) (.inl hh) λg y g4 ⟨u,hu,cu⟩=>?_;show Ac_ (Cr_ (T := "StopIteration") (b:=true) ⟨u,hu,cu⟩ isSubtype_stop (Ah_ (k g λb o hb e=>g4 b o ((Bb_ _ _ (Ne.symm hb)).trans e))))
theorem jB_{it d:Addr}{i ep:Nat}{es:Array DictEntry}{Q:Option Value->Shared->Prop}(st:s.heap.IsKeyIter it d i es.size ep)(x:Ik_ s.heap d es ep)(hi:i<es.size)
  (k:∀g,g.IsKeyIter it d (i+1) es.size ep->Heap.SameBut it s.heap g->Q (some es[i].key) {s with heap:=g}):
  wpAny (model prog w) A (pyNext (.ref it)) Q E s:=by
 obtain⟨o,h1,h2,h3⟩:=x;obtain⟨⟨c0,d0,x0,f0⟩,g1,g2,g3⟩:=st
 dsimp only at g2 g3
 subst g2 g3;have ty:s.TypeIs (.ref it) "dict_keyiterator" := ⟨_,g1,rfl⟩;unfold pyNext;show Ac_ (DY_ (Cu_ (name:=Str.ofString "__next__") ty Ca_ (BE_ Ca_ ty Dx_ ?_ (Dw_ _))));show Ac_ (Ah_ (Ac_ (Ac_ ?_)))
 first|show Ac_ (B2_ ty (Ah_ ?_))|show Ac_ (Cs_ ty (Ah_ ?_))
 show Ac_ (DI_ g1 rfl ?_);simp only[show Builtin.Dict_items.ownsTuple "dict_keyiterator"=false by decide,BS_,BQ_];show(show wpAny _ _ (if(Value.ref d == Value.none)=true then _ else _) _ _ s from ?_);rw[if_neg s_];show Ac_ (Ah_ (Ac_ (BK_ h1 h3 ?_)));rw[if_neg s_];show Ac_ (Ah_ (Ac_ (Cy_ h1 h3 ?_)));rw[if_neg s_];show Ah_ ?_;simp only[show ¬ ((i:Int)<0)from by lia,BS_,AK_,Bu_ hi];show Ac_ ?_
 first|show Ac_ (B2_ ty (Ah_ ?_))|show Ac_ (Cs_ ty (Ah_ ?_))
 show Ac_ (EO_ ty ?_);show(show wpAny _ _ (setField (.ref it) 1 (rawInt ((i:Int)+1)) >>= _) _ _ s from ?_);show Ac_ (DH_ g1 rfl s_ ?_);have il:it<s.heap.objs.size:=Ay_ g1;generalize hg:s.heap.update it (Obj.mapFields λx=>x.setIfInBounds 1 (rawInt ((i:Int)+1)))=g at*;have e1:g.get? it=some {cls:=.type "dict_keyiterator",dict:=d0,data:=.fields #[.ref d,.int ((i+1:Nat):Int) 0,.int es.size 0,.int ep 0],slots:=f0}:=by rw[<-hg];show(CF_ _ g1 (by rfl)).trans ?_;rw[show((i+1:Nat):Int)=(i:Int)+1 by lia];rfl
 have sb:Heap.SameBut it s.heap g:=⟨by rw[<-hg];show Df_ _ _ _,λb hb=>by rw[<-hg];show Bb_ _ _ (Ne.symm hb)⟩;have ty1:Shared.TypeIs {s with heap:=g} (.ref it) "dict_keyiterator" := ⟨_,e1,rfl⟩;show Ac_ (Bg_ (Ac_ (EO_ (s:={s with heap:=g}) ty1 ?_)));rw[if_pos d_];show Ah_ (Ah_ ⟨_,rfl,Ah_ (k g ⟨_,e1,rfl,rfl⟩ sb)⟩)
def HQ_(P:Program)(w:World)(a:Addr)(xs:List Eb)(ob:Obj)(h:Heap):Prop:=IV_ P w a xs h/\h.get? a=some ob
structure G4_(P:Program)(w:World)(H:Hp)(d:Addr)(ob:Obj)(xs:List Eb)(kvs:List (Tb×V)):Prop where
 z:kvs.length<=sizeLine
 at_:H d=some (.ext (HQ_ P w d xs ob))
 kb:KB H kvs xs
variable{ob:Obj}
theorem G4_.db(p:G4_ P w H d ob xs kvs):DBx P w H d kvs xs:=⟨p.z,_,p.at_,λh q=>q.1,p.kb⟩
theorem G4_.keep(p:G4_ P w H d ob xs kvs)(h:H' d=H d)(s:∀b ys,H b=some (.tup ys)->H' b=some (.tup ys)):G4_ P w H' d ob xs kvs:=⟨p.z,h.trans p.at_,p.kb.mono λ_ _ z=>s _ _ z⟩
theorem G4_.raw(ok:HOk P w H h)(p:G4_ P w H d ob xs kvs):∃es ep,Ik_ h d es ep/\es.toList=xs.map (entryOfKey (FP_ P w))/\ob.data=.dict es ep/\(d == sysModules)=false:=by obtain⟨⟨⟨hs,o,es,ep,g1,g2,g3,g4,g5⟩,g0⟩,_⟩:=(show FV_ P w H h d (.ext (HQ_ P w d xs ob))from ok d _ p.at_);rw[g0]at g1;cases g1;show⟨es,ep,⟨_,g0,g2,g3⟩,g4,g3,hs⟩
theorem Inv.pinB(I:Inv X pins σ H s)(g:DBx X.prog X.w H d kvs xs):∃ob,Inv X pins σ (upd H d (.ext (HQ_ X.prog X.w d xs ob))) s/\G4_ X.prog X.w (upd H d (.ext (HQ_ X.prog X.w d xs ob))) d ob xs kvs:=by obtain⟨z,φ,h1,hφ,h2⟩:=g;obtain⟨q,⟨ob,ho⟩,_⟩:=(show FV_ X.prog X.w H s.heap d (.ext φ)from I.hok d _ h1);have st:∀a b:Heap,HQ_ X.prog X.w d xs ob a->(∀o,a.get? d=some o->b.get? d=some o)->HQ_ X.prog X.w d xs ob b:=λa b ⟨⟨z0,o',es',ep',z1,z2⟩,z3⟩ k=>⟨⟨z0,o',es',ep',k _ z1,z2⟩,k _ z3⟩;have I2:=el_ (h':=s.heap) (t':=s.toks) (ob:=.ext (HQ_ X.prog X.w d xs ob)) I (by rw[h1];show True.intro) ⟨rfl,λ_ _=>rfl⟩ ⟨ob,ho⟩ ⟨⟨hφ _ q,ho⟩,⟨ob,ho⟩,st⟩;show⟨ob,I2,z,aa_,h2.mono λb k z=>(ae_ (IX_ z h1 (λz=>nomatch z))).trans z⟩
def Ibk(P:Program)(w:World)(d:Addr)(ob:Obj)(xs:List Eb)(kvs:List (Tb×V)):It :=
 ⟨λi H=>G4_ P w H d ob xs kvs/\i<kvs.length,λi H x H'=>H'=H/\∃k v b,kvs[i]?=some (k,v)/\x=.ref b/\Gx_ H b k,λi H=>G4_ P w H d ob xs kvs/\kvs.length<=i⟩
theorem my_{tg:Expr}{it:Addr}{es0:Array DictEntry}(hob:ob.data=.dict es0 ep):
  JM_ P w K tg (Ibk P w d ob xs kvs) [it] it (λi h=>h.IsKeyIter it d i es0.size ep) where
 mem:=s_
 obj:=λi h st b hb=>by
  have e:b=it:=by simpa using hb
  subst e;obtain⟨o,e,c,dd⟩:=st;show⟨o,e,λv z=>by rw[dd]at z;cases z⟩
 keep:=λi h h' st k=>let⟨o,e,r⟩:=st;⟨o,k it s_ o e,r⟩
 item:=by
  intro X hP hw hK hc i pins s σ H E I hf st hg;subst hP hw hK;obtain⟨p,hi⟩:=hg;obtain⟨es,ep',dr,he,hob',_⟩:=p.raw I.hok;rw[hob]at hob';cases hob';have hl:kvs.length=xs.length:=BF_ p.kb;have hz:es0.size=xs.length:=by rw[<-Bd_,he,Ab_]
  have hx:xs[i]?=some (xs[i]'o_):=Aa_ _;have hk:kvs[i]?=some (kvs[i]):=Aa_ _;obtain⟨e1,e2,_⟩:=dp_ p.kb hk hx;obtain⟨f0,f1,f2,f3,f4,f5⟩:=hf it s_
  have ee:es0[i]'o_=entryOfKey (FP_ X.prog X.w) (xs[i]'o_):=by
   have:es0.toList[i]?=some (entryOfKey (FP_ X.prog X.w) (xs[i]'o_)):=by rw[he,Af_,hx];rfl
   rw[BP_,Bu_ o_]at this;show AB_ this
  show jB_ st dr o_ λh' st' sb=>?_;have I1:Inv X pins σ H {s with heap:=h'}:=I.turned (t':=s.toks) (λb o hb e=>(sb.2 b hb).trans e) f0 f1 f3 f4 f5;obtain⟨o,e,c,dd⟩:=id st';rw[ee];show⟨_,rfl,IW_ (s:={s with heap:=h'}) e c dd d_ ⟨.ref (xs[i]'o_).2.1,H,I1,rfl,⟨rfl,(kvs[i]).1,(kvs[i]).2,_,hk,rfl,e2⟩,st',λb hb=>(hf b hb).1⟩⟩
 done:=by
  intro X hP hw hK hc i pins s σ H E I hf st hg;subst hP hw hK;obtain⟨p,hi⟩:=hg;obtain⟨es,ep',dr,he,hob',_⟩:=p.raw I.hok;rw[hob]at hob';cases hob';have hl:kvs.length=xs.length:=BF_ p.kb;have hz:es0.size=xs.length:=by rw[<-Bd_,he,Ab_]
  obtain⟨f0,f1,f2,f3,f4,f5⟩:=hf it s_;show k8_ (I.ok.hd hc) st dr o_ λh' eb=>⟨rfl,I.turned (t':=s.toks) (λb o hb e=>eb b o hb e) f0 f1 f3 f4 f5⟩
 self:=λ_ _ _ _ _ st h=>EY_ st h
def iBK(P:Program)(w:World)(td:TE):TI:=λσ H R=>td σ H λx H1=>∃(d:Addr)(kvs:List (Tb×V)),x=.ref d/\DB P w H1 d kvs/\∀ob xs H2,(∀c,c≠d->H2 c=H1 c)->G4_ P w H2 d ob xs kvs->R (Ibk P w d ob xs kvs) H2
theorem iH_(hP:X.prog=P)(hw:X.w=w){tg l:Expr}{td:TE}(hl:PE X l td):PI X tg l (iBK P w td):=by
 subst hP hw;intro pins s σ H R I h;show thn (hl pins s σ H _ I h) λv s1 ⟨x,H1,I1,r1,q1⟩=>?_;obtain⟨d,kvs,e,⟨xs,hd⟩,q⟩:=q1;subst e;cases r1;obtain⟨ob,I2,pb⟩:=I1.pinB hd;obtain⟨es,ep,dr,he,hob,hsys⟩:=pb.raw I2.hok;show jA_ hsys dr ?_;show⟨s1.heap.objs.size,[s1.heap.objs.size],_,_,_,rfl,I2.kept (t':=s1.toks) λb o e=>Ak_ _ e,my_ hob,⟨_,AA_ _ rfl,rfl,rfl⟩,λb hb=>?_,q ob xs _ (λc hc=>ae_ hc) pb⟩;have e:b=s1.heap.objs.size:=by simpa using hb
 subst e;show I2.fpOk (Aj_ _) (I2.hok.fresh (Aj_ _))
theorem oq_{P:Program}{w:World}{d:Addr}{ob:Obj}{xs:List Eb}{kvs:List (Tb×V)}{g:TG}{tb:TS}{nx bk ct:K9_}{rt:VK}{σ:St}{H:Hp}(Pv:Nat->St->Hp->Prop)(h0:Pv 0 σ H)(hl:∀i σ H,i<=kvs.length->Pv i σ H->G4_ P w H d ob xs kvs)
  (hs:∀(i:Nat) k x b σ H,kvs[i]?=some (k,x)->Gx_ H b k->∀(kk kb:K9_),(∀σ' H',Pv (i+1) σ' H'->kk σ' H')->(∀σ' H',nx σ' H'->kb σ' H')->∀G:Prop,((g (.ref b) σ H λσ2 H2=>tb ⟨kk,rt,kb,kk⟩ σ2 H2)->G)->Pv i σ H->G) (hd:∀σ H,Pv kvs.length σ H->nx σ H):G0_ (Ibk P w d ob xs kvs) g tb ⟨nx,rt,bk,ct⟩ σ H:=by
 show⟨λi m σ H=>m=kvs.length-i/\i<=kvs.length/\Pv i σ H,⟨kvs.length,s_,AE_ _,h0⟩,?_⟩;rintro i m σ H ⟨rfl,hi,p⟩;have q:=hl i σ H hi p;by_cases hlt:i<kvs.length
 .show .inr ⟨⟨q,hlt⟩,Pv (i+1),λσ' H' p'=>⟨kvs.length-(i+1),o_,rfl,hlt,p'⟩,λx H' y=>?_⟩;obtain⟨rfl,k,v,b,hk,rfl,hb⟩:=y;show hs i k v b σ H' hk hb _ _ (λ_ _ q=>q) (λ_ _ q=>q) _ id p
 .have e:i=kvs.length:=o_
  subst e;show .inl ⟨⟨q,Aj_ _⟩,hd σ H p⟩
def Ibt(P:Program)(w:World)(d:Addr)(ob:Obj)(xs:List Eb)(kvs:List (Tb×V)):It :=
 ⟨λi H=>G4_ P w H d ob xs kvs/\i<kvs.length,λi H x H'=>∃T k v q,x=.ref T/\H T=none/\kvs[i]?=some (k,v)/\Gx_ H q k/\H'=upd H T (.tup [.ref q,v]),λi H=>G4_ P w H d ob xs kvs/\kvs.length<=i⟩
theorem lB_{elts:List Expr}{kt:Nat}{tpos:Pos}{it:Addr}{es0:Array DictEntry}(hob:ob.data=.dict es0 ep):
  JM_ P w K (.Tuple elts kt tpos) (Ibt P w d ob xs kvs) [it] it (λi h=>∃ok ov,IsItemIter h it d i es0.size ep ok ov) where
 mem:=s_
 obj:=λi h st b hb=>by
  cases Ae_.mp hb;obtain⟨ok,ov,e⟩:=st;show⟨_,e,λv z=>by cases(show Data.fields _=Data.cell v from z)⟩
 keep:=λi h h' st k=>let⟨ok,ov,e⟩:=st;⟨ok,ov,k it s_ _ e⟩
 item:=by
  intro X hP hw hK hc i pins s σ H E I hf st ⟨p,hi⟩;subst hP hw hK;obtain⟨es,ep',da,he,hob',_⟩:=p.raw I.hok;rw[hob]at hob';cases hob';have hl:kvs.length=xs.length:=BF_ p.kb;have hz:es0.size=xs.length:=by rw[<-Bd_,he,Ab_]
  have hx:xs[i]?=some (xs[i]'o_):=Aa_ _;have hk:kvs[i]?=some (kvs[i]):=Aa_ _;obtain⟨e1,e2,e3⟩:=dp_ p.kb hk hx;obtain⟨ok,ov,st⟩:=st
  have ee:es0[i]'o_=entryOfKey (FP_ X.prog X.w) (xs[i]'o_):=by
   have:es0.toList[i]?=some (entryOfKey (FP_ X.prog X.w) (xs[i]'o_)):=by rw[he,Af_,hx];rfl
   rw[BP_,Bu_ o_]at this;show AB_ this
  show nA_ st da o_ λh' g1 g3 g5=>⟨_,rfl,wpAny_letOwnedTupleGo_items (s:={s with heap:=h'}) g1 λh'' k1 k2=>?_⟩;rw[ee]at g3;generalize hq:(xs[i]'o_)=y at e1 e2 e3 g3;have lt:it<s.heap.objs.size:=Ay_ st;have hT:H s.heap.objs.size=none:=I.hok.fresh (Aj_ _)
  have I1:Inv X pins σ (upd H s.heap.objs.size (.tup [.ref y.2.1,(kvs[i]).2])) {s with heap:=s.heap.push {cls:=.type "tuple",data:=.seq #[.ref y.2.1,y.2.2]}} :=
   I.laid (t':=s.toks) (λb u e=>Ak_ _ e) (Aj_ _) ⟨by change 2<=sizeLine;decide,[.ref y.2.1,y.2.2],.cons rfl (.cons e3 .nil),⟨_,AA_ _ rfl,rfl,_,rfl⟩⟩
  have f1:∀b∈[it],HM_ X pins (upd H s.heap.objs.size (.tup [.ref y.2.1,(kvs[i]).2])) b:=λb hb=>by
   cases Ae_.mp hb;show⟨by rw[ae_ (AL_ lt)];show(hf it hb).1,(hf it hb).2⟩
  have I2:Inv X pins σ (upd H s.heap.objs.size (.tup [.ref y.2.1,(kvs[i]).2])) {s with heap:=h''}:=by
   show Inv.turnedL (s:={s with heap:=s.heap.push {cls:=.type "tuple",data:=.seq #[.ref y.2.1,y.2.2]}}) (ch:=[it]) (t':=s.toks) I1 (λb o hb q=>?_) f1;simp only[Ae_]at hb;show(k2.2 b hb).trans ?_;by_cases hbT:b=s.heap.objs.size
   .subst hbT;have e':(s.heap.push {cls:=.type "tuple",data:=.seq #[.ref y.2.1,y.2.2]}).get? s.heap.objs.size=some o:=q;rw[AA_ _ rfl]at e';cases e';show g3
   .show g5 b o hb ((C3_ _ _ _ hbT).symm.trans (show(s.heap.push {cls:=.type "tuple",data:=.seq #[.ref y.2.1,y.2.2]}).get? b=some o from q))
  show⟨.ref s.heap.objs.size,_,I2,rfl,⟨_,_,_,y.2.1,rfl,hT,hk,e2,rfl⟩,⟨_,_,k1⟩,λb hb=>(f1 b hb).1⟩
 done:=by
  intro X hP hw hK hc i pins s σ H E I hf st ⟨p,hi⟩;subst hP hw hK;obtain⟨es,ep',da,he,hob',_⟩:=p.raw I.hok;rw[hob]at hob';cases hob';have hl:kvs.length=xs.length:=BF_ p.kb;have hz:es0.size=xs.length:=by rw[<-Bd_,he,Ab_]
  obtain⟨f0,f1,f2,f3,f4,f5⟩:=hf it s_;obtain⟨ok,ov,st⟩:=st;show o5_ (I.ok.hd hc) st da o_ λh' eb=>⟨rfl,I.turned (t':=s.toks) (λb o hb e=>eb b o hb e) f0 f1 f3 f4 f5⟩
 self:=λ_ _ _ _ _ st h=>let⟨_,_,e⟩:=st;kcp_self e h
def iBT(P:Program)(w:World)(td:TE):TI:=λσ H R=>td σ H λx H1=>∃(d:Addr)(kvs:List (Tb×V)),x=.ref d/\DB P w H1 d kvs/\∀ob xs H2,(∀c,c≠d->H2 c=H1 c)->G4_ P w H2 d ob xs kvs->R (Ibt P w d ob xs kvs) H2
theorem mz_(hP:X.prog=P)(hw:X.w=w){elts:List Expr}{kt:Nat}{tpos:Pos}{o:Expr}{td:TE}{apos cpos:Pos}(ho:PE X o td)(hbase:attributeBase o "items" X.env (eval o X.env)=eval o X.env:=by rfl) (hline:(apos.endLine == cpos.line)=true:=by rfl):PI X (.Tuple elts kt tpos) (.Call (.Attribute o "items" apos) [] [] cpos) (iBT P w td):=by
 subst hP hw;intro pins s σ H R I h;show C1_ hbase hline (thn (ho pins s σ H _ I h) λv s1 ⟨x,H1,I1,r1,d,kvs,e,⟨xs,hd⟩,q⟩=>?_);subst e;cases r1;obtain⟨ob,I2,pb⟩:=I1.pinB hd;obtain⟨es,ep,raw,he,hob,hsys⟩:=pb.raw I2.hok;show⟨"dict","dict.items",B3_,Ep_,PySem.F.type_dict_items,raw.ty,λb q=>?_,Cd_ rfl (DB_ ?_)⟩
 .cases q;obtain⟨o2,h1,h2,_⟩:=id raw;show⟨o2,h1,h2.2.1⟩
 show Fk_ Ep_ raw.ty PySem.F.entry_dict_items (PySem.F.args_dict_items_1 _) (mx_ d hsys) ⟨⟨es,ep,raw⟩,?_⟩;have I3:=I2.kept (h':=s1.heap.push {cls:=.type "dict_items",data:=.fields #[.ref d]}) (t':=s1.toks) λb o e=>Ak_ _ e;have raw3:Ik_ (s1.heap.push {cls:=.type "dict_items",data:=.fields #[.ref d]}) d es ep:=by obtain⟨o,h1,h2⟩:=id raw;show⟨o,Ak_ _ h1,h2⟩
 show nz_ (s:={s1 with heap:=s1.heap.push {cls:=.type "dict_items",data:=.fields #[.ref d]}}) ⟨_,AA_ _ rfl,rfl,rfl⟩ raw3 ?_;show⟨(s1.heap.push {cls:=.type "dict_items",data:=.fields #[.ref d]}).objs.size,[_],_,_,_,rfl,I3.kept (t':=s1.toks) λb o e=>Ak_ _ e,lB_ hob,⟨_,_,AA_ _ rfl⟩,λb hb=>?_,q ob xs _ (λc hc=>ae_ hc) pb⟩;cases Ae_.mp hb;show I3.fpOk (Aj_ _) (I3.hok.fresh (Aj_ _))
theorem p3_{P:Program}{w:World}{d:Addr}{ob:Obj}{xs:List Eb}{kvs:List (Tb×V)}{g:TG}{tb:TS}{nx bk ct:K9_}{rt:VK}{σ:St}{H:Hp}(Pv:Nat->St->Hp->Prop)(h0:Pv 0 σ H)(hl:∀i σ H,i<=kvs.length->Pv i σ H->G4_ P w H d ob xs kvs)
  (hs:∀(i:Nat) k x T q σ H,kvs[i]?=some (k,x)->H T=none->Gx_ H q k->∀(kk kb:K9_),(∀σ' H',Pv (i+1) σ' H'->kk σ' H')->(∀σ' H',nx σ' H'->kb σ' H')->∀G:Prop,((g (.ref T) σ (upd H T (.tup [.ref q,x])) λσ2 H2=>tb ⟨kk,rt,kb,kk⟩ σ2 H2)->G)->Pv i σ H->G) (hd:∀σ H,Pv kvs.length σ H->nx σ H):G0_ (Ibt P w d ob xs kvs) g tb ⟨nx,rt,bk,ct⟩ σ H:=by
 show⟨λi m σ H=>m=kvs.length-i/\i<=kvs.length/\Pv i σ H,⟨kvs.length,s_,AE_ _,h0⟩,?_⟩;rintro i m σ H ⟨rfl,hi,p⟩;have q:=hl i σ H hi p;by_cases hlt:i<kvs.length
 .show .inr ⟨⟨q,hlt⟩,Pv (i+1),λσ' H' p'=>⟨kvs.length-(i+1),o_,rfl,hlt,p'⟩,λx H' y=>?_⟩;obtain⟨T,k,v,qa,rfl,hT,hk,hqa,rfl⟩:=y;show hs i k v T qa σ H hk hT hqa _ _ (λ_ _ q=>q) (λ_ _ q=>q) _ id p
 .have e:i=kvs.length:=o_
  subst e;show .inl ⟨⟨q,Aj_ _⟩,hd σ H p⟩
theorem lC_{d a:Addr}{xs:List Eb}{k:Tb}{Q:Option DictEntry->Shared->Prop}(hu:A.units+1<cLine)(hk:(FP_ prog w).is s.heap k a)(dd:s.heap.DictOfH (FP_ prog w) d xs)(hz:xs.length<=sizeLine)(hm:k∈xs.map (·.1))
  (h:∀e p h',(k,p)∈xs->e.val=p.2->h'.DictOfH (FP_ prog w) d (xs.filter λx=>decide (x.1≠k))->Heap.SameBut d s.heap h'->Q (some e) {s with heap:=h',toks:=s.toks+3}):wpAny (model prog w) A (Builtin.Dict.takeOut d (.ref a)) Q E s:=by
 obtain⟨o,es,ep,h1,h2,h3,h4,h5,h6⟩:=dd;unfold Builtin.Dict.takeOut;show Bg_ (Ac_ ((FP_ prog w).pyHash (show A.units+1<cLine from hu) hk ?_));show Ac_ (wpAny_dictFind_heap (s:={s with toks:=s.toks+3}) (knd:=FP_ prog w) (show A.units+1<cLine from hu) hk h1 h3 h4 h5 h6 (λno=>?_) λj p hj=>?_)
 .exfalso;obtain⟨x,hx,rfl⟩:=Ao_.mp hm;obtain⟨j,hj,e⟩:=Ap_.mp hx;show no j x.2 (by rw[Aa_ hj,e])
 .have jl:j<xs.length:=(Ai_.mp hj).1;have zl:es.size=xs.length:=by rw[<-Bd_,h4,Ab_]
  show Ac_ (BK_ h1 h3 ?_);rw[Bu_ (show j<es.size by lia)];show Ac_ (wpAny_updateDictKeys h1 h3 ?_ o_ (by simp only[Array.eraseIdxIfInBounds];split <;> simp <;> lia));have sb:Heap.SameBut d s.heap (s.heap.update d (Obj.mapDictKeys λx=>x.eraseIdxIfInBounds j)):=⟨Df_ _ _ _,λb hb=>Bb_ _ _ (Ne.symm hb)⟩
  have ev:(es[j]'o_).val=p.2:=by
   have:es.toList[j]?=some (entryOfKey (FP_ prog w) (k,p)):=by rw[h4,Af_,hj];rfl
   rw[BP_,Bu_ o_]at this;rw[AB_ this];rfl
  show Ah_ (h _ p _ (Ag_ hj) ev ?_ sb)
  have fe:xs.filter (λx=>decide (x.1≠k))=xs.eraseIdx j:=by
   have key:∀(l:List Eb)(j:Nat),(l.map (·.1)).Nodup->∀p,l[j]?=some (k,p)->l.filter (λx=>decide (x.1≠k))=l.eraseIdx j:=by
    intro l
    induction l with
    |nil=>intro j _ p h;cases h
    |cons x l ih =>
     intro j nd p h;rw[AZ_,AU_]at nd;cases j with
     |zero =>
      cases h;rw[BH_ s_,List.eraseIdx_cons_zero];show Fe_.mpr λy hy=>As_ λz=>nd.1 (Ao_.mpr ⟨y,hy,z⟩)
     |succ j =>have hm:k∈l.map (·.1):=Ao_.mpr ⟨_,Ag_ h,rfl⟩;rw[BI_ (by simp only[C5_,ne_eq];show λz=>nd.1 (by rw[z];show hm)),En_,ih j nd.2 p h]
   show key xs j h6 p hj
  rw[fe];obtain⟨c0,d0,x0,f0⟩:=o
  dsimp only at h3
  subst h3;show⟨⟨c0,d0,.dict (es.eraseIdxIfInBounds j) (ep+1),f0⟩,_,_,CF_ _ h1 rfl,h2,rfl,?_,λx hx=>(FP_ prog w).keeps (h5 x (List.mem_of_mem_eraseIdx hx)) h1 rfl sb,h6.sublist (List.Sublist.map _ (List.eraseIdx_sublist _ _))⟩;rw[Array.toList_eraseIdxIfInBounds,h4]
  have em:∀(l:List Eb)(t:Nat),(l.map (entryOfKey (FP_ prog w))).eraseIdx t=(l.eraseIdx t).map (entryOfKey (FP_ prog w)):=by
   intro l
   induction l with
   |nil=>intro t;rfl
   |cons x l ih =>
    intro t;cases t with
    |zero=>rfl
    |succ t=>change _::(l.map _).eraseIdx t=_::(l.eraseIdx t).map _;rw[ih]
  show em _ _
def J1_(P:Program)(w:World):V->List V->Hp->VK->Prop:=λx vs H Q=>∃(a b:Addr)(kvs:List (Tb×V))(k:Tb)(v:V),x=.ref a/\vs=[.ref b]/\DB P w H a kvs/\Gx_ H b k/\FZ_ kvs k=some v/\∀H',(∀c,c≠a->H' c=H c)->DB P w H' a (Io_ kvs k)->Q v H'
theorem o6_(hP:X.prog=P)(hw:X.w=w)(hu:X.A.units+64<cLine):MtR X "dict.pop" (J1_ P w):=by
 subst hP hw;intro pins s σ H x xs v us Q I rx r h;obtain⟨a,b,kvs,k,y,rfl,rfl,⟨zs,g⟩,kb,hv,q⟩:=h;cases rx;obtain⟨u,rfl,e⟩:=Gr_ r;cases e;obtain⟨hsys,⟨φ,ha⟩,rel,dd⟩:=HG_ I.hok g;have hz:zs.length<=sizeLine:=by rw[<-BF_ rel];show g.1
 have hTn:s.TypeIs (.ref a) "dict" := Ff_ dd;obtain⟨o,es,ep,h1,h2,h3,h4,h5,h6⟩:=id dd;obtain⟨w',hw,rw'⟩:=HR_.some_of (v:=y) (o:=(atKey zs k).map (·.2)) (by rw[<-hv];show rel.val k);have hm:k∈zs.map (·.1):=by unfold atKey at hw;rw[Option.map_map]at hw;obtain⟨x,hx,_⟩:=AR_.mp hw;have:=Eu_ hx;show Ao_.mpr ⟨x,CS_ hx,by simpa using this⟩
 show wpAny_call (EZ_ F.slot_dict_pop.plain F.entry_dict_pop (F.slot_dict_pop.check _ _ _ _ _ _ _ _ hTn (F.args_dict_pop_2 _ _) ?_));unfold Builtin.«dict.pop»;show Ac_ ?_;unfold Builtin.Dict.keyAndDefault;show Ac_ (CJ_ hTn ?_);show(show wpAny _ _ (pure (a,Value.ref b,none)) _ _ s from Ah_ ?_);change wpAny _ _ (dictEntries a >>= _) _ _ s;show Ac_ (BK_ h1 h3 ?_)
 have ne:es.isEmpty=false:=by
  have zl:es.size=zs.length:=by rw[<-Bd_,h4,Ab_]
  obtain⟨x,hx,_⟩:=Ao_.mp hm;have:=CB_ hx;rw[Array.isEmpty_eq_false_iff];intro z;rw[z]at zl;simp at zl;lia
 rw[ne];change wpAny _ _ (Builtin.Dict.takeOut a (.ref b) >>= _) _ _ s;show Ac_ (lC_ (show X.A.units+1+1<cLine by lia) (en_ I.hok kb) dd hz hm λe p h' hp he dd' hs'=>?_);change wpAny _ _ (letGo [e.key] [e.val] >>= _) _ _ _;show Ac_ (Fm_ ?_);have he':∃q,h'.get? a=some q:=let⟨q,_,_,hq,_⟩:=dd';⟨q,hq⟩
 have ep:p.2=w':=by
  unfold atKey at hw;rw[Option.map_map]at hw;obtain⟨x,hx,ex⟩:=AR_.mp hw;have xk:x.1=k:=by have:=Eu_ hx;simpa using this
  have xm:=CS_ hx;obtain⟨i,hi,ei⟩:=Ap_.mp xm;obtain⟨j,hj,ej⟩:=Ap_.mp hp;have ij:i=j:=by show(A4_ (i:=i) (j:=j) (by rw[Ab_];show hi) h6).mp ?_;rw[Af_,Af_,Aa_ hi,Aa_ hj,ei,ej];show congrArg some xk
  subst ij;rw[ei]at ej;rw[<-ex,ej];rfl
 show Ah_ ⟨y,_,el_ (t':=s.toks+3) I (by rw[ha];show True.intro) hs' he' (hq_ hsys dd'),?_,q _ (λc hc=>ae_ hc) ⟨_,AH_ (nk_ kvs k) g.1,_,aa_,λ_ z=>z,(rel.drop k).mono λc k' z=>(ae_ (IX_ z ha (λz=>nomatch z))).trans z⟩⟩;rw[he,ep];show rw'
def JE_(P:Program)(w:World)(k1 v1:TE):TE:=λσ H Q=>∀p,H p=none->∀H0,Fo_ H H0->H0 p=some (.ext (IV_ P w p []))->(∀c,c≠p->H0 c=H c)->k1 σ H0 λx1 H1=>v1 σ H1 λy1 H2=>∃b k,x1=.ref b/\Gx_ H2 b k/\H2 p=some (.ext (IV_ P w p []))/\∀H',(∀c,c≠p->H' c=H2 c)->DB P w H' p [(k,y1)]->Q (.ref p) H'
theorem nB_(hP:X.prog=P)(hw:X.w=w){k1 v1:Expr}{t1 t2:TE}{pos:Pos}(hu:X.A.units+64<cLine)(h1:PE X k1 t1)(h2:PE X v1 t2):PE X (.Dict [some k1] [v1] pos) (JE_ P w t1 t2):=by
 subst hP hw;intro pins s σ H Q I q;have hn:=I.hok.fresh (Aj_ s.heap.objs.size);have hd:(s.heap.objs.size == sysModules)=false:=B4_.mpr (CU_ I.big);have ob:∀H',FV_ X.prog X.w H' (s.heap.push {cls:=.type "dict",data:=.dict #[]}) s.heap.objs.size (.ext (IV_ X.prog X.w s.heap.objs.size [])):=λH'=>hq_ hd ⟨_,#[],0,AA_ _ rfl,⟨rfl,rfl,rfl⟩,rfl,rfl,λx hx=>(by cases hx),A6_⟩;have I1:=I.laid (a:=s.heap.objs.size) (o:=.ext (IV_ X.prog X.w s.heap.objs.size [])) (h':=s.heap.push {cls:=.type "dict",data:=.dict #[]}) (t':=s.toks) (λ_ _ q=>Ak_ _ q) (Aj_ _) (ob _);show wpAny_Dict_any rfl rfl s_ s_ ?_;show pairTrees_cons_walk (thn (h1 pins _ σ _ _ I1 (q _ hn _ (Fo_.new hn) aa_ λc hc=>ae_ hc)) λu1 s1 ⟨x1,H1,J1,rx1,q1⟩=>thn (h2 pins s1 σ H1 _ J1 q1) λw1 s2 ⟨y1,H2,J2,ry1,b,k,ea,kb,hp,q4⟩=>pairTrees_nil_walk ?_);subst ea;cases rx1;unfold storeAll;rw[BT_];have g:DBx X.prog X.w H2 s.heap.objs.size [] []:=⟨AE_ _,_,hp,λ_ z=>z,.nil⟩;obtain⟨hsys,_,rel,dd⟩:=HG_ J2.hok g;show Ac_ (Ac_ (wpAny_dictSet_heap (hsz:=AE_ _) (knd:=FP_ X.prog X.w) (show X.A.units+1<cLine by lia) (en_ J2.hok kb) dd λh' dd' hs'=>Ah_ ?_))
 dsimp only
 rw[DG_];have he':∃q,h'.get? s.heap.objs.size=some q:=let⟨q,_,_,hq,_⟩:=dd';⟨q,hq⟩;show Ah_ ⟨.ref s.heap.objs.size,_,el_ J2 (by rw[hp];show True.intro) hs' he' (hq_ hsys dd'),rfl,q4 _ (λc hc=>ae_ hc) ⟨_,(show 1<=sizeLine by decide),_,aa_,λ_ z=>z,(rel.put k kb ry1).mono λc k' z=>(ae_ (IX_ z hp (λz=>nomatch z))).trans z⟩⟩
theorem o7_{es:Array DictEntry}(hd:(d == sysModules)=false):KdlSrc prog w "dict" d d es.size (λi v=>∃e,es[i]?=some e/\v=e.key) (λh=>Ik_ h d es ep) where
 type:=λs x=>x.ty
 there:=λh ⟨o,e,_⟩=>⟨Ay_ e,Ay_ e⟩
 keep:=λh h' ⟨o,e,r⟩ k=>⟨o,k d (.inl rfl) o e,r⟩
 notList:=d_
 notTuple:=d_
 hint:=λA E s Q x q=>by
  unfold Builtin.List.listLengthHint;show Ac_ (CP_ x.ty F.slot_dict_len.lookup ?_);generalize hid:("dict.__len__" : String)=id0
  wp_delta
  rw[show splitId id0=some ("dict","__len__")from by subst hid;decide +kernel];subst hid;show Ac_ (Cr_ (b:=true) x.ty (by rw[isSubtype_type];kernel_rfl) ?_);rw[if_neg d_];rw[if_pos r_];show Ac_ (Eb_ x.ty (Ah_ q))
 iter:=λA s hh x=>by
  show⟨_,λi h=>h.IsKeyIter s.heap.objs.size d i es.size ep/\Ik_ h d es ep,λE Q k=>jA_ hd x k,⟨?_,?_,?_,?_,?_⟩,⟨_,AA_ _ rfl,rfl,rfl⟩,?_⟩
  .intro b hb;rw[Ae_.mp hb];show An_
  .rintro i h h' ⟨⟨o,e,r⟩,⟨o2,e2,r2⟩⟩ k;show⟨⟨o,k _ An_ _ e,r⟩,⟨o2,k _ s_ _ e2,r2⟩⟩
  .rintro i s' Q E hi ⟨st,dr⟩ k;have ne:d≠s.heap.objs.size:=by obtain⟨o,e,_⟩:=x;show AL_ (Ay_ e)
   show jB_ st dr hi λg st' sb=>?_;show k _ g s'.toks ⟨_,Bu_ hi,rfl⟩ ⟨st',?_⟩ λb o hb e=>(sb.2 b (λz=>hb (by rw[z];show Ae_.mpr rfl))).trans e;obtain⟨o,e,r⟩:=dr;show⟨o,(sb.2 d ne).trans e,r⟩
  .rintro s' Q E ⟨st,dr⟩ k;show k8_ hh st dr (Aj_ _) λg eb=>k g s'.toks λb o hb e=>eb b o (λz=>hb (by rw[z];show Ae_.mpr rfl)) e
  .rintro i s' Q E ⟨st,dr⟩ k;show EY_ st k
  .obtain⟨o,e,r⟩:=x;show⟨o,Ak_ _ e,r⟩
def JQ_(P:Program)(w:World):List V->Hp->VK->Prop:=λvs H Q=>∃(d:Addr)(kvs:List (Tb×V)),vs=[.ref d]/\DB P w H d kvs/\kvs.length<900 /\
 ∀l (bs:List Addr),H l=none->bs.length=kvs.length->(∀(i:Nat) k v b,kvs[i]?=some (k,v)->bs[i]?=some b->Gx_ H b k)->Q (.ref l) (upd H l (.lst (bs.map V.ref)))
theorem lD_(hP:X.prog=P)(hw:X.w=w)(hc:X.calm=true):Ga_ X (.type "list") (JQ_ P w):=by
 subst hP hw;intro pins s σ H xs us Q I r h;obtain⟨d,kvs,rfl,⟨zs,g⟩,h64,q⟩:=h;obtain⟨u,rfl,e⟩:=Gr_ r;cases e;obtain⟨hsys,_,rel,dd⟩:=HG_ I.hok g;obtain⟨m,hn,F0⟩:=I.frm;obtain⟨o,es,ep,h1,h2,h3,h4,h5,h6⟩:=dd;have zl:es.size=zs.length:=by rw[<-Bd_,h4,Ab_]
 have hl:kvs.length=zs.length:=BF_ rel;show kdl_N (o7_ (es:=es) (ep:=ep) hsys) (I.ok.hd hc) F0 eJ_ ⟨o,h1,h2,h3⟩ (by rw[zl,<-hl];show g.1) ?_;intro D c h' tk us F N l1 hlu hv
 have eu:us=(zs.map λx=>x.2.1).map Value.ref:=by
  apply List.ext_getElem?;intro j;cases ej:us[j]? with
  |none =>
   have:=CQ_.mp ej;rw[Af_,Af_,BA_ o_];rfl
  |some v =>
   obtain⟨e,he,rfl⟩:=hv j v ej;have:es.toList[j]?=some e:=by rw[BP_];show he
   rw[h4,Af_]at this;obtain⟨x,hx,rfl⟩:=AR_.mp this;rw[Af_,Af_,hx];rfl
 have hD:=(N (D,_) An_).1
 have vr:∀bs:List Addr,FO_ (bs.map V.ref) (bs.map Value.ref):=λbs=>by
  induction bs with
  |nil=>show .nil
  |cons b bs ih=>show .cons rfl ih
 obtain⟨HD,I2⟩:=I.led_new (t':=tk) (o:=.lst ((zs.map λx=>x.2.1).map V.ref)) hn F N l1 ⟨AS_ (Fq_ (by rw[Ab_,Ab_];lia)),us,c,by rw[eu];show vr _,hD⟩;show⟨.ref D,_,I2,rfl,q D _ HD (by rw[Ab_,hl]) λi k v b hk hb=>?_⟩;rw[Af_]at hb;obtain⟨x,hx,rfl⟩:=AR_.mp hb;show(dp_ rel hk hx).2.1
def JO_(P:Program)(w:World)(h:Heap)(d:Addr)(xs:List (Tb×Addr×Value)):Prop :=
 ∃o es ep,h.get? d=some o/\o.ExactDict/\o.data=.dict es ep/\es.toList=xs.map (entryOfKey (FP_ P w))/\(xs.map (·.1)).Nodup
def HN_(D ps:List (Tb×Addr×Value)):List (Tb×Addr×Value):=ps.foldl (λacc q=>storedH acc q.1 q.2.1 q.2.2) D
theorem ks_{D:List (Tb×Addr×Value)}{k:Tb}{b:Addr}{v:Value}{x:Tb×Addr×Value}(h:x∈storedH D k b v):(∃y∈D,y.1=x.1/\y.2.1=x.2.1)\/(x.1=k/\x.2.1=b):=by
 cases e:atKey D k with
 |none =>
  rw[storedH_new e]at h
  rcases Aq_.mp h with h|h
  .show .inl ⟨x,h,rfl,rfl⟩
  .rw[Ae_.mp h];show .inr ⟨rfl,rfl⟩
 |some p =>rw[storedH_old e]at h;obtain⟨y,hy,rfl⟩:=Ao_.mp h;show .inl ⟨y,hy,?_⟩;unfold putAt;split <;> show⟨rfl,rfl⟩
theorem lE_(D:List (Tb×Addr×Value))(k:Tb)(b:Addr)(v:Value):(storedH D k b v).length<=D.length+1:=by
 cases e:atKey D k with
 |none=>rw[storedH_new e,Al_];show Aj_ _
 |some p=>rw[storedH_old e,Ab_];show C8_ _
theorem jC_{h':Heap}{k:Tb}{b:Addr}(e:(FP_ prog w).is h k b)(m:∀o,h.get? b=some o->h'.get? b=some o):(FP_ prog w).is h' k b:=by obtain⟨o,n,u,h1,h2⟩:=e;show⟨o,n,u,m _ h1,h2⟩
theorem d8_{d it p:Addr}{its:Array Value}{h0:Heap}(hu:A.units+2<cLine)(hh:A.handled=none)(hdi:d≠it)(hp:h0.IsList p its)(hpi:p≠it)(hpd:p≠d):
  ∀(ps:List (Tb×Addr×Value))(i:Nat)(j:Int)(D:List (Tb×Addr×Value))(s:Shared),its.size=i+ps.length->D.length+ps.length<=1000->s.heap.IsListIter it p i->JO_ prog w s.heap d D ->
   (∀x∈D,x.2.1≠it/\x.2.1≠d/\(FP_ prog w).is h0 x.1 x.2.1) ->
   (∀b o,b≠it->b≠d->h0.get? b=some o->s.heap.get? b=some o) ->
   (∀m q,ps[m]?=some q->∃(a:Addr)(o:Obj)(n:Nat),its[i+m]?=some (.ref a)/\a≠it/\a≠d/\h0.get? a=some o/\o.cls=.type "tuple" /\ o.data=.seq #[.ref q.2.1,q.2.2] n/\q.2.1≠it/\q.2.1≠d/\(FP_ prog w).is h0 q.1 q.2.1) ->
   (∀h' tk,(∀b o,b≠it->b≠d->h0.get? b=some o->h'.get? b=some o)->JO_ prog w h' d (HN_ D ps)->R (.ok (.ret .none)) {s with heap:=h',toks:=tk}) ->
   codeAny (model prog w) A (.builtin "dict.update.loop" ⟨[.ref d,.ref it,rawInt j,.none],[]⟩) R s
 |[],i,j,D,s,hz,hl,hi,hD,hDk,hk,hit,hR=>by
  obtain⟨op,hop,hpr⟩:=id hp;have hp':s.heap.IsList p its:=⟨op,hk p op hpi hpd hop,hpr⟩;show Cj_ F.rim_entry_dict_update_loop ?_;rw[BW_ F.rim_plain_dict_update_loop _];change wpAny _ A.in1 (pyNext (.ref it) >>= _) _ _ s;show Ac_ (Dg_ hh hi hp' (CC_ (by simp at hz;lia)) λh' eb=>?_);change wpAny _ A.in1 (Builtin.Dict.addKeywords d [] >>= _) _ _ _;obtain⟨od,es,ep,g1,g2⟩:=hD;show Ac_ (Ah_ (Ah_ (hR h' s.toks (λb o h1 h2 e=>eb b o h1 (hk b o h1 h2 e)) ⟨od,es,ep,eb d od hdi g1,g2⟩)))
 |q::ps,i,j,D,s,hz,hl,hi,hD,hDk,hk,hit,hR=>by
  obtain⟨op,hop,hpr⟩:=id hp;have hp':s.heap.IsList p its:=⟨op,hk p op hpi hpd hop,hpr⟩;obtain⟨a,o,n,e1,a1,a2,ho,hc,hd,b1,b2,kis⟩:=hit 0 q rfl;show Cj_ F.rim_entry_dict_update_loop ?_;rw[BW_ F.rim_plain_dict_update_loop _];change wpAny _ A.in1 (pyNext (.ref it) >>= _) _ _ s;show Ac_ (C7_ hi hp' e1 λh1 hi1 sb=>?_);have ho1:h1.get? a=some o:=(sb.2 a a1).trans (hk a o a1 a2 ho);have hT:({s with heap:=h1}:Shared).TypeIs (.ref a) "tuple" := ⟨_,ho1,hc⟩;change wpAny _ A.in1 (holding [Value.ref a] _ >>= _) _ _ _;show Ac_ (Bg_ ?_);show Ac_ ?_;show wpAny_tryCatch ?_;unfold Builtin.Dict.pairItems;show Ac_ (Eb_ hT ?_);rw[if_pos d_];show Ac_ (wpAny_seqItems ho1 hd ?_);show Ah_ ?_;change wpAny _ A.in1 (holding [Value.ref q.2.1,q.2.2] (dictSet d (.ref q.2.1) q.2.2)) _ _ _;show Bg_ ?_;have mv:∀b,b≠it->b≠d->∀o,h0.get? b=some o->h1.get? b=some o:=λb h1' h2' o e=>(sb.2 b h1').trans (hk b o h1' h2' e);have hD1:({s with heap:=h1}:Shared).heap.DictOfH (FP_ prog w) d D:=by obtain⟨od,es,ep,g1,g2,g3,g4,g5⟩:=hD;show⟨od,es,ep,(sb.2 d hdi).trans g1,g2,g3,g4,λx hx=>jC_ (hDk x hx).2.2 (mv _ (hDk x hx).1 (hDk x hx).2.1),g5⟩
  show wpAny_dictSet_heap (knd:=FP_ prog w) (show A.in1.units+1<cLine from hu) (jC_ kis (mv _ b1 b2)) hD1 (λh2 hD2 sb2=>?_) (by simp at hl;rw[BG_];lia);show Ah_ ⟨CO_ F.rim_plain_dict_update_loop _,?_⟩;have sl:=lE_ D q.1 q.2.1 q.2.2;show d8_ hu hh hdi hp hpi hpd ps (i+1) (j+1) (storedH D q.1 q.2.1 q.2.2) {s with heap:=h2,toks:=s.toks+3} (by simp at hz;lia) (by simp at hl;lia) ?_ ?_ (λx hx=>?_) (λb o h1' h2' e=>?_) (λm r e=>?_) λh' tk k3 hD3=>?_
  .obtain⟨oi,hoi,hir⟩:=hi1;show⟨oi,(sb2.2 it (Ne.symm hdi)).trans hoi,hir⟩
  .obtain⟨od,es,ep,g1,g2,g3,g4,_,g5⟩:=hD2;show⟨od,es,ep,g1,g2,g3,g4,g5⟩
  .rcases ks_ hx with⟨y,hy,y1,y2⟩|⟨y1,y2⟩
   .rw[<-y1,<-y2];show hDk y hy
   .rw[y1,y2];show⟨b1,b2,kis⟩
  .show(sb2.2 b h2').trans (mv b h1' h2' o e)
  .obtain⟨a',o',n',z1,z2⟩:=hit (m+1) r e;show⟨a',o',n',by rw[show i+1+m=i+(m+1) by lia];show z1,z2⟩
  .show hR h' tk k3 hD3
def GY_(kvs more:List (Tb×V)):List (Tb×V):=more.foldl (λacc kv=>Gd_ acc kv.1 kv.2) kvs
theorem KB.merge:∀{more:List (Tb×V)}{rs:List (Tb×Addr×Value)}{kvs:List (Tb×V)}{xs:List (Tb×Addr×Value)},KB H more rs->KB H kvs xs->KB H (GY_ kvs more) (HN_ xs rs):=by
 intro more rs kvs xs r;unfold KB at r
 induction r generalizing kvs xs with
 |nil=>intro q;show q
 | @cons p q ps qs h t ih =>intro r0;have e:=KB.put r0 p.1 h.2.1 h.2.2;show ih (kvs:=Gd_ kvs p.1 p.2) (xs:=storedH xs q.1 q.2.1 q.2.2) ?_;rw[<-h.1];show e
theorem jD_:∀(more kvs:List (Tb×V)),(GY_ kvs more).length<=kvs.length+more.length
 |[],kvs=>Aj_ _
 |p::r,kvs=>by have h1:=jD_ r (Gd_ kvs p.1 p.2);have h2:=bf_ kvs p.1 p.2;change(GY_ (Gd_ kvs p.1 p.2) r).length<=_;rw[AM_];lia
theorem jE_(I:Inv X pins σ H s):∀{kvs:List (Tb×V)}{ys:List V}{its:List Value},FO_ ys its->ys.length=kvs.length->(∀(i:Nat)(q:Tb×V),kvs[i]?=some q->∃a b,ys[i]?=some (.ref a)/\H a=some (.tup [.ref b,q.2])/\Gx_ H b q.1) ->
  ∃ps:List (Tb×Addr×Value),KB H kvs ps/\ps.length=its.length/\∀(m:Nat)(q:Tb×Addr×Value),ps[m]?=some q->∃(a:Addr)(o:Obj)(n:Nat),its[m]?=some (.ref a)/\s.heap.get? a=some o/\o.cls=.type "tuple" /\ o.data=.seq #[.ref q.2.1,q.2.2] n/\(FP_ X.prog X.w).is s.heap q.1 q.2.1
 |[],[],_,.nil,_,_=>⟨[],.nil,rfl,λm q e=>by simp at e⟩
 |[],_::_,_,_,e,_=>nomatch e
 |_::_,[],_,_,e,_=>nomatch e
 |kv::kvs,y::ys,_,.cons r1 r2,e,h=>by
  obtain⟨ps,rel,hl,hp⟩:=jE_ I r2 (by simpa using e) λi q hq=>h (i+1) q hq;obtain⟨a,b,ea,ha,hb⟩:=h 0 kv rfl;cases ea;cases r1;obtain⟨zs,rz,⟨ob,ho,hcl,n,hd⟩,_⟩:=I.tuple (.inl (.inl ha));obtain⟨u1,u2,rfl,ru1,ru2⟩:=G1_ rz;cases ru1;show⟨(kv.1,b,u2)::ps,.cons ⟨rfl,hb,ru2⟩ rel,by simp[hl],λm q hq=>?_⟩;cases m with
  |zero =>
   cases hq;show⟨a,ob,n,rfl,ho,hcl,hd,en_ I.hok hb⟩
  |succ m=>show hp m q hq
def JB_(H:Hp)(p:Addr)(kvs:List (Tb×V)):Prop:=∃ys,H p=some (.lst ys)/\ys.length=kvs.length/\∀(i:Nat)(q:Tb×V),kvs[i]?=some q->∃a b,ys[i]?=some (.ref a)/\H a=some (.tup [.ref b,q.2])/\Gx_ H b q.1
def JD_(P:Program)(w:World):List V->Hp->VK->Prop:=λvs H Q=>∃(p:Addr)(kvs:List (Tb×V)),vs=[.ref p]/\JB_ H p kvs/\kvs.length<=900/\∀l,H l=none->∀H',Fo_ H H'->(∀c,c≠l->H' c=H c)->DB P w H' l (GY_ [] kvs)->Q (.ref l) H'
theorem lF_(hP:X.prog=P)(hw:X.w=w)(hu:X.A.units+64<cLine)(hc:X.calm=true):Ga_ X (.type "dict") (JD_ P w):=by
 subst hP hw;intro pins s σ H xs us Q I r h;obtain⟨p,kvs,rfl,⟨ys,hp,hl,hk⟩,hz,q⟩:=h;obtain⟨u,rfl,e⟩:=Gr_ r;cases e;obtain⟨_,its,c,rv,hop⟩:=(show FV_ X.prog X.w H s.heap p (.lst ys)from I.hok p _ hp);obtain⟨ps,rel,pl,hit⟩:=jE_ I rv hl hk;have hh:=I.ok.hd hc;have hlt:∀{b:Addr}{o:Obj},s.heap.get? b=some o->b<s.heap.objs.size:=λe=>Ay_ e;show callType_codes (Q₁:=λobj s₁=>obj=.ref s.heap.objs.size/\s₁={s with heap:=s.heap.push {cls:=.type "dict",data:=.dict #[]}}) F.kt_called_dict (F.kt_typeCall_dict_1 _) F.entry_dict_init (kt_code_dict_new _ ⟨rfl,rfl⟩) ?_;rintro obj s₁ ⟨rfl,rfl⟩;have hnew:(s.heap.push {cls:=.type "dict",data:=.dict #[]}).DictOfH (FP_ X.prog X.w) s.heap.objs.size []:=Heap.DictOfH.new s.heap;have hTn:({s with heap:=s.heap.push {cls:=.type "dict",data:=.dict #[]}}:Shared).TypeIs (.ref s.heap.objs.size) "dict" := Ff_ hnew;show⟨hTn,F.args_dict_init_2 _ _,?_⟩;unfold Builtin.«dict.__init__»;show Ac_ ?_;unfold Builtin.Dict.selfAndRest;show Ac_ (CJ_ hTn ?_);change wpAny _ _ (pure (s.heap.objs.size,[Value.ref p])) _ _ _;show Ah_ ?_;change wpAny _ _ (Builtin.Dict.updateFrom "dict.__init__" s.heap.objs.size (.ref p) [] .none) _ _ _;unfold Builtin.Dict.updateFrom;have hop1:(s.heap.push {cls:=.type "dict",data:=.dict #[]}).get? p=some (seqObj "list" its.toArray c):=Ak_ _ hop;have hT:({s with heap:=s.heap.push {cls:=.type "dict",data:=.dict #[]}}:Shared).TypeIs (.ref p) "list" := ⟨_,hop1,rfl⟩;show Ac_ (Eb_ hT ?_);rw[if_pos d_];show Ac_ (iE_ hop1 rfl rfl rfl kq_ r_ hh λh1 tk k1=>?_);rw[if_pos Option.isNone_none];show Ac_ (D1_ ?_);have hop2:=k1 _ _ hop1;have dsz:s.heap.objs.size<h1.objs.size:=by obtain⟨od,_,_,hod,_⟩:=hnew;show Ay_ (k1 _ _ hod)
 show Ac_ (DZ_ (items:=its.toArray) ⟨_,hop2,rfl,c,rfl⟩ ?_);show Ah_ ⟨CO_ F.rim_plain_dict_update_loop _,?_⟩;have below:∀{b:Addr}{o:Obj},s.heap.get? b=some o->b≠h1.objs.size/\b≠s.heap.objs.size:=λe=>⟨AL_ (Nat.lt_trans (hlt e) dsz),AL_ (hlt e)⟩;have rl:kvs.length=ps.length:=BF_ rel;show d8_ (A:=X.A.in1) (its:=its.toArray) (h0:=s.heap) (p:=p) (show X.A.units+1+2<cLine by lia) hh (AL_ dsz) ⟨_,hop,rfl,c,rfl⟩ (below hop).1 (below hop).2 ps 0 0 [] _ (by simp;lia) (by simp;lia) ?_ ?_ (λx hx=>absurd hx BC_) (λb o b1 b2 e=>?_) (λm q hq=>?_) λh' tk' k3 hD3=>?_
 .show⟨_,AA_ h1 rfl,rfl,rfl⟩
 .obtain⟨od,es,ep,hod,g2,g3,g4,_,g5⟩:=hnew;show⟨od,es,ep,Ak_ _ (k1 _ _ hod),g2,g3,g4,g5⟩
 .show Ak_ _ (k1 _ _ (Ak_ _ e))
 .obtain⟨a,o,n,e1,ho,z1,z2,z3⟩:=hit m q hq;have hb:∃ob,s.heap.get? q.2.1=some ob:=by obtain⟨ob,_,_,g,_⟩:=id z3;show⟨ob,g⟩
  obtain⟨ob,hob⟩:=hb;show⟨a,o,n,by simpa using e1,(below ho).1,(below ho).2,ho,z1,z2,(below hob).1,(below hob).2,z3⟩
 .have ml:=jD_ kvs [];have mz:(GY_ [] kvs).length<=sizeLine:=AS_ (Fq_ (by simp at ml;lia));obtain⟨od,es,ep,g1,g2,g3,g4,g5⟩:=hD3;have fr:=I.hok.fresh (Aj_ s.heap.objs.size);have hs:(s.heap.objs.size == sysModules)=false:=B4_.mpr (Ne.symm (AL_ I.big));show⟨rfl,.ref _,_,I.laid (a:=s.heap.objs.size) (o:=.ext (IV_ X.prog X.w s.heap.objs.size (HN_ [] ps))) (t':=tk') (λb o e=>k3 b o (below e).1 (below e).2 e) (Aj_ _) ⟨⟨hs,od,es,ep,g1,g2,g3,g4,g5⟩,⟨od,g1⟩,λh1 h2 ⟨z0,o',es',ep',z1,z2⟩ k=>⟨z0,o',es',ep',k _ z1,z2⟩⟩,rfl,q _ fr _ (Fo_.new fr) (λc hc=>ae_ hc) ⟨_,mz,_,aa_,λ_ z=>z,(KB.merge rel .nil).mono λb k e=>?_⟩⟩;show(ae_ (ag_ e fr)).trans e
def KL_(P:Program)(w:World)(to:TE)(t:TA):TE:=λσ H Q=>to σ H λx H1=>(∃a kvs,x=.ref a/\DB P w H1 a kvs)/\t σ H1 λxs H2=>J1_ P w x xs H2 Q
theorem o8_{o e:Expr}{es:List Expr}{to:TE}{t:TA}{apos cpos:Pos}(hP:X.prog=P)(hw:X.w=w)(hu:X.A.units+64<cLine)(ho:PE X o to)(ha:PA X (e::es) t)
  (hbase:attributeBase o "pop" X.env (eval o X.env)=eval o X.env:=by rfl)
  (hfew:((backTo cpos (starEach (e::es) X.env)).all (λx=>!x.1) && (backToKw cpos (keywordEach [] X.env)).all (λx=>x.1.isSome)
   && decide ((e::es).length+([]:List Keyword).length+(if([]:List Keyword).isEmpty then 0 else 1)<30))=true:=by rfl)
  (hline:(apos.endLine == cpos.line)=true:=by rfl) (hs:starEach (e::es) X.env=(false,eval e X.env)::starEach es X.env:=by rfl) (hplain:(backTo cpos (starEach es X.env)).any (·.1)=false:=by rfl):
  PE X (.Call (.Attribute o "pop" apos) (e::es) [] cpos) (KL_ P w to t):=by
 intro pins s σ H Q I h;show Ez_ hbase hfew hline rfl (thn (ho pins s σ H _ I h) λv s1 ⟨x,H1,I1,r1,⟨a,kvs,ex,xs,g⟩,q1⟩=>?_);have r1':=r1;rw[ex]at r1';cases r1';subst hP hw;obtain⟨_,_,_,dd⟩:=HG_ I1.hok g;show⟨"dict","dict.pop",B3_,PySem.F.slot_dict_pop,PySem.F.type_dict_pop,dd.typeIs,λb q=>?_,?_⟩
 .cases q;obtain⟨o2,_,_,h1,h2,_⟩:=id dd;show⟨o2,h1,h2.2.1⟩
 have hA:=ha cpos pins s1 σ H1 _ I1 q1;rw[hs]at hA⊢;show Cd_ (by change(false ||(backTo cpos (starEach es X.env)).any (·.1))=false;rw[hplain] <;> rfl) (EX_ ?_);show thn hA λus s2 ⟨vs,H2,I2,r2,q2⟩=>o6_ rfl rfl hu pins s2 σ H2 x vs _ us Q I2 r1 r2 q2
end L2
namespace RimT
section
variable {α:Type}[DecidableEq α]
def Reg(T:List (List α))(P:Nat)(c:Nat×Nat)(l:List (Nat×Nat)):Prop:=Way T P l c/\l.head?=some c/\l.Nodup
end
section
variable {S:Type}[DecidableEq S]
structure GB_(N:Net S):Prop where
 pnd:N.posts.Nodup
 pin:∀p∈N.posts,p∈N.rows.map (·.1)
 p0:0<N.posts.length
variable (d0:S)
variable {d0}
end
variable {β:Type}{R R':β->β->Prop}{f:β->β}
def Lk(R:β->β->Prop):β->List β->β->Prop
 |a,[],b=>R a b
 |a,x::l,b=>R a x/\Lk R x l b
theorem Lk.app:∀{l m:List β}{a x b:β},Lk R a (l++x::m) b↔Lk R a l x/\Lk R x m b
 |[],m,a,x,b=>Iff.rfl
 |y::l,m,a,x,b=>by change R a y/\Lk R y (l++x::m) b↔(R a y/\Lk R y l x)/\Lk R x m b;rw[Lk.app (l:=l),and_assoc]
theorem Lk.map{g:β->β}(h:∀x y,R x y->R' (f x) (g y)):∀{l:List β}{a b:β},(∀x∈l,f x=g x)->Lk R a l b->Lk R' (f a) (l.map g) (g b)
 |[],a,b,_,k=>h a b k
 |x::l,a,b,e,k=>⟨h a x k.1,by
   have:=Lk.map h (l:=l) (λy hy=>e y (Am_ _ hy)) k.2;rw[e x An_]at this;show this⟩
def Cyl(R:β->β->Prop)(l:List β):Prop:=∃a r,l=a::r/\Lk R a r a
theorem Lk.all{A:β->Prop}(h:∀x y,A x->R x y->A y):∀{l:List β}{a b:β},Lk R a l b->A a->(∀x∈l,A x)/\A b
 |[],a,b,k,z=>⟨λx hx=>(nomatch hx),h a b z k⟩
 |x::l,a,b,k,z=>by have zx:=h a x z k.1;obtain⟨h1,h2⟩:=Lk.all h k.2 zx;show⟨λy hy=>(Ar_.mp hy).elim (λe=>e▸zx) (h1 y),h2⟩
theorem Lk.rot{l:List β}(c:Cyl R l){x:β}(hx:x∈l):∃r,Lk R x r x/\(x::r).Perm l:=by
 obtain⟨a,m,rfl,k⟩:=c
 rcases Ar_.mp hx with rfl|hx
 .show⟨m,k,.refl _⟩
 .obtain⟨s,t,rfl⟩:=List.append_of_mem hx;obtain⟨k1,k2⟩:=Lk.app.mp k;show⟨t++a::s,Lk.app.mpr ⟨k2,k1⟩,(List.perm_append_comm (l₁:=x::t) (l₂:=a::s))⟩
section
variable {α:Type}[DecidableEq α]
variable{P:Nat}
theorem Reg.cyl{T:List (List α)}{c:Nat×Nat}{l:List (Nat×Nat)}(r:Reg T P c l):Cyl (Nx T P) l:=by
 have key:∀{l:List (Nat×Nat)}{d:Nat×Nat},Way T P l d->∃a m,l=a::m/\Lk (Nx T P) a m d:=by
  intro l d w
  induction w with
  | @one a b h=>show⟨a,[],rfl,h⟩
  | @more l x y w h ih =>obtain⟨a,m,rfl,k⟩:=ih;show⟨a,m++[x],rfl,Lk.app.mpr ⟨k,h⟩⟩
 obtain⟨a,m,rfl,k⟩:=key r.1;have:=r.2.1;cases this;show⟨_,m,rfl,k⟩
def fs(c x:Nat×Nat):Nat×Nat:=if x.1=c.1/\c.2<=x.2 then(x.1,x.2+1)else x
def ft(c x:Nat×Nat):Nat×Nat:=if x.1=c.1/\c.2<x.2 then(x.1,x.2+1)else x
variable{x:Nat×Nat}
theorem Ka_{c:Nat×Nat}(h:x≠c):fs c x=ft c x:=by
 unfold fs ft;by_cases e:x.1=c.1
 .have:x.2≠c.2:=λz=>h (Bl_ e z);by_cases l:c.2<x.2
  .rw[if_pos ⟨e,AS_ l⟩,if_pos ⟨e,l⟩]
  .rw[if_neg (λz=>l o_),if_neg (λz=>l z.2)]
 .rw[if_neg (λz=>e z.1),if_neg (λz=>e z.1)]
theorem e1_(c x:Nat×Nat):(fs c x).1=x.1:=by unfold fs;split <;> rfl
theorem jF_{c y:Nat×Nat}(h:fs c x=fs c y):x=y:=by have h1:=congrArg Prod.fst h;rw[e1_,e1_]at h1;have h2:=congrArg Prod.snd h;unfold fs at h2;show Bl_ h1 ?_;split at h2 <;> split at h2 <;> (try dsimp only at h2) <;> lia
theorem HU_(c x:Nat×Nat):fs c x≠c:=λz=>by
 unfold fs at z;split at z
 .rename_i h;have:=congrArg Prod.snd z;simp only at this;lia
 .rename_i h;rw[z]at h;show h ⟨rfl,Aj_ _⟩
theorem k9_{T:List (List α)}{c e:Nat×Nat}{w v:α}(hc:c.1<T.length)(h:wi T e=some v)(hk:c.2<=rl T c.1):wi (Fu_ T c w) (fs c e)=some v:=by
 unfold wi Fu_ at*;unfold fs;by_cases e1:e.1=c.1
 .rw[e1]at h;by_cases l:c.2<=e.2
  .rw[if_pos ⟨e1,l⟩];change((T.set c.1 _).getD e.1 [])[e.2+1]?=_;rw[e1,Ad_,A3_,if_pos rfl,if_pos hc];change(ins (T.getD c.1 []) c.2 w)[e.2+1]?=_;unfold ins;have lt:(List.take c.2 (T.getD c.1 [])).length=c.2:=by rw[AT_];unfold rl at hk;lia
   rw[Az_ o_,lt,show e.2+1-c.2=(e.2-c.2)+1 by lia,C2_,List.getElem?_drop,show c.2+(e.2-c.2)=e.2 by lia];show h
  .rw[if_neg (λz=>l z.2),e1,Ad_,A3_,if_pos rfl,if_pos hc];change(ins (T.getD c.1 []) c.2 w)[e.2]?=_;unfold ins;have lt:(List.take c.2 (T.getD c.1 [])).length=c.2:=by rw[AT_];unfold rl at hk;lia
   rw[Aw_ o_,List.getElem?_take,if_pos o_];show h
 .rw[if_neg (λz=>e1 z.1),Ad_,A3_,if_neg (λz=>e1 z.symm),<-Ad_];show h
theorem kt_{T:List (List α)}{c:Nat×Nat}{w:α}(hc:c.1<T.length)(hk:c.2<=rl T c.1):wi (Fu_ T c w) c=some w:=by
 unfold wi Fu_;rw[Ad_,A3_,if_pos rfl,if_pos hc];change(ins (T.getD c.1 []) c.2 w)[c.2]?=_;unfold ins;have lt:(List.take c.2 (T.getD c.1 [])).length=c.2:=by rw[AT_];unfold rl at hk;lia
 rw[Az_ o_,lt,Cf_];rfl
theorem e2_{T:List (List α)}{c:Nat×Nat}{w:α}(hc:c.1<T.length)(p:Nat):rl (Fu_ T c w) p=rl T p+if p=c.1 then 1 else 0:=by
 unfold rl Fu_;rw[Ad_,A3_];by_cases e:c.1=p
 .rw[if_pos e,if_pos hc,if_pos e.symm];change(ins (T.getD c.1 []) c.2 w).length=_;rw[eP_,e]
 .rw[if_neg e,if_neg (λz=>e z.symm),<-Ad_];rfl
theorem gr_{T:List (List α)}{c:Nat×Nat}(h:IsC T P c):c.2<=rl T c.1:=by have:=h.2;split at this <;> lia
theorem o9_{T:List (List α)}{c a b:Nat×Nat}{w:α}(hc:c.1<T.length)(hk:c.2<=rl T c.1)(m:H8_ T a b):H8_ (Fu_ T c w) (fs c a) (fs c b):=by obtain⟨ne,v,h1,h2⟩:=m;show⟨λz=>ne (jF_ z),v,k9_ hc h1 hk,k9_ hc h2 hk⟩
theorem or_{T:List (List α)}{c y:Nat×Nat}{w:α}(ic:IsC T P c)(ix:IsC T P x)(h:Nx T P x y):Nx (Fu_ T c w) P (fs c x) (ft c y):=by
 have hk:=gr_ ic
 rcases h with⟨h1,rfl⟩|⟨h1,m,hm,rfl⟩
 .left;show⟨?_,?_⟩
  .rw[e1_,e2_ ic.1];unfold fs;by_cases e:x.1=c.1
   .rw[if_pos ⟨e,by rw[h1,e];show hk⟩,if_pos e];change x.2+1=_;lia
   .rw[if_neg (λz=>e z.1),if_neg e];lia
  .rw[e1_];unfold ft;rw[if_neg (λz=>by have:=z.2;simp only at this;lia)]
 .right;have lm:=GD_ hm.2.choose_spec.2;show⟨?_,fs c m,o9_ ic.1 hk hm,?_⟩
  .rw[e1_,e2_ ic.1];unfold fs;split
   .rename_i z;change x.2+1<_;rw[if_pos z.1];lia
   .split <;> lia
  .rw[e1_];by_cases pm:m.1<P
   .rw[if_pos pm,if_pos pm];unfold fs ft;by_cases e:m.1=c.1
    .by_cases l:c.2<=m.2
     .rw[if_pos ⟨e,by change c.2<m.2+1;lia⟩,if_pos ⟨e,l⟩]
     .rw[if_neg (λz=>l (by have:=z.2;simp only at this;lia)),if_neg (λz=>l z.2)]
    .rw[if_neg (λz=>e z.1),if_neg (λz=>e z.1)]
   .rw[if_neg pm,if_neg pm,e2_ ic.1];by_cases e:m.1=c.1
    .have ck:c.2<rl T c.1:=by have:=ic.2;rw[if_neg o_]at this;lia
     rw[if_pos e];rw[e]at lm⊢;by_cases z:m.2+1=rl T c.1
     .rw[z,CG_];unfold fs ft;rw[if_neg (λq=>by have:=q.2;simp only at this;lia),if_pos ⟨e,o_⟩];change _=(c.1,(m.2+1+1)%_);rw[z,CG_]
     .rw[A1_ (show m.2+1<rl T c.1 by lia)];unfold fs ft;by_cases l:c.2<=m.2
      .rw[if_pos ⟨rfl,by change c.2<m.2+1;lia⟩,if_pos ⟨e,l⟩];change _=(c.1,(m.2+1+1)%_);rw[A1_ o_]
      .rw[if_neg (λz=>l (by have:=z.2;simp only at this;lia)),if_neg (λz=>l z.2),A1_ o_]
    .rw[if_neg e];unfold fs ft;rw[if_neg (λz=>e z.1),if_neg (λz=>e z.1)];rfl
theorem f3_{T:List (List α)}{c:Nat×Nat}{w:α}(ic:IsC T P c):IsC (Fu_ T c w) P x↔x=c\/∃y,IsC T P y/\x=fs c y:=by
 unfold IsC;rw[ap_,e2_ ic.1];constructor
 .rintro⟨h1,h2⟩;by_cases e:x.1=c.1
  .rw[if_pos e]at h2;by_cases l:x.2<c.2
   .have:=ic.2;have i1:=gr_ ic;show .inr ⟨x,⟨h1,?_⟩,by unfold fs;rw[if_neg (λz=>o_)]⟩;rw[e];lia
   .by_cases q:x.2=c.2
    .show .inl (Bl_ e q)
    .show .inr ⟨(x.1,x.2-1),⟨h1,(show x.2-1<rl T x.1+(if x.1<P then 1 else 0) by lia)⟩,?_⟩;unfold fs;rw[if_pos ⟨e,by change c.2<=x.2-1;lia⟩];show Bl_ rfl (by change x.2=x.2-1+1;lia)
  .rw[if_neg e]at h2;show .inr ⟨x,⟨h1,h2⟩,by unfold fs;rw[if_neg (λz=>e z.1)]⟩
 .rintro(rfl|⟨y,⟨h1,h2⟩,rfl⟩)
  .show⟨ic.1,?_⟩;have:=ic.2;rw[if_pos rfl];lia
  .rw[e1_];show⟨h1,?_⟩;unfold fs;split
   .rename_i z;rw[if_pos z.1];change y.2+1<_;lia
   .split <;> lia
theorem nC_{c:Nat×Nat}(h:x.1≠c.1\/x.2<c.2):fs c x=x:=by unfold fs;rw[if_neg];lia
theorem iI_{c:Nat×Nat}(h:x.1≠c.1\/x.2<=c.2):ft c x=x:=by unfold ft;rw[if_neg];lia
end
def par(X:Nat->Bool):List Nat->Bool
 |[]=>false
 |w::l=>xor (X w) (par X l)
theorem iJ_(X:Nat->Bool):∀l m:List Nat,par X (l++m)=xor (par X l) (par X m)
 |[],m=>(EP_ _).symm
 |w::l,m=>by change xor (X w) (par X (l++m))=xor (xor (X w) (par X l)) (par X m);rw[iJ_ X l m,Bool.xor_assoc]
theorem pa_(X:Nat->Bool)(l:List Nat)(k w:Nat):par X (ins l k w)=xor (X w) (par X l):=by have h:=iJ_ X (l.take k) (l.drop k);rw[Bk_]at h;unfold ins;rw[iJ_,h];change xor _ (xor (X w) _)=_;cases X w <;> cases par X (l.take k) <;> cases par X (l.drop k) <;> rfl
theorem ku_(X Y:Nat->Bool):∀l:List Nat,par (λw=>xor (X w) (Y w)) l=xor (par X l) (par Y l)
 |[]=>rfl
 |w::l=>by change xor (xor (X w) (Y w)) (par _ l)=xor (xor (X w) (par X l)) (xor (Y w) (par Y l));rw[ku_ X Y l];cases X w <;> cases Y w <;> cases par X l <;> cases par Y l <;> rfl
theorem jG_:∀l:List Nat,par (λ_=>false) l=false
 |[]=>rfl
 |w::l=>by change xor false (par _ l)=false;rw[jG_ l];rfl
def aft(T:List (List Nat))(P:Nat)(e:Nat×Nat):Nat×Nat:=if e.1<P then(e.1,e.2+1)else(e.1,(e.2+1)%rl T e.1)
structure HO_(P:Nat)(T:List (List Nat))(X:Nat->Bool)(f:Nat×Nat->Bool):Prop where
 jump:∀e w,wi T e=some w->f (aft T P e)=xor (f e) (X w)
 mate:∀e m w,e≠m->wi T e=some w->wi T m=some w->f e=xor (f m) (X w)
 rim:∀p,p<P->f (p,rl T p)=f ((p+P-1)%P,0)
def JZ_(P:Nat)(T:List (List Nat))(X:Nat->Bool):Prop:=∀p,P<=p->p<T.length->par X (T.getD p [])=false
def St(P:Nat)(T:List (List Nat)):Prop:=∀X,JZ_ P T X->∃f,HO_ P T X f
def back(c x:Nat×Nat):Nat×Nat:=if x.1=c.1/\c.2<x.2 then(x.1,x.2-1)else x
theorem pb_(c x:Nat×Nat):back c (fs c x)=x:=by
 unfold back fs;by_cases h:x.1=c.1/\c.2<=x.2
 .rw[if_pos h,if_pos ⟨h.1,by change c.2<x.2+1;lia⟩];rfl
 .rw[if_neg h,if_neg (λz=>h ⟨z.1,o_⟩)]
theorem eo_(c:Nat×Nat):back c c=c:=by unfold back;rw[if_neg (λz=>Bf_ _ z.2)]
theorem b1_{c x:Nat×Nat}(h:x.1≠c.1\/x.2<=c.2):back c x=x:=by unfold back;rw[if_neg (λz=>o_)]
theorem dr_(c x:Nat×Nat):x=c\/x=fs c (back c x):=by
 by_cases e:x=c
 .show .inl e
 .right;unfold back fs;by_cases h:x.1=c.1/\c.2<x.2
  .rw[if_pos h,if_pos ⟨h.1,by change c.2<=x.2-1;lia⟩];show Bl_ rfl (by change x.2=x.2-1+1;lia)
  .rw[if_neg h,if_neg (λz=>h ⟨z.1,Nat.lt_of_le_of_ne z.2 λq=>e (Bl_ z.1 q.symm)⟩)]
variable{T:List (List Nat)}{P w:Nat}{e:Nat×Nat}
theorem bH_{c:Nat×Nat}{v:Nat}(ic:IsC T P c)(h:wi (Fu_ T c w) (fs c e)=some v):wi T e=some v:=by
 by_cases l:e.2<rl T e.1
 .obtain⟨u,hu⟩:=kj_ l;have:=k9_ (w:=w) ic.1 hu (gr_ ic);rw[this]at h;rw[hu,<-h]
 .exfalso;have:=(GD_ h).1;rw[e1_,e2_ ic.1]at this;have q:=gr_ ic;unfold fs at this;by_cases z:e.1=c.1
  .rw[if_pos ⟨z,by rw[z]at l;lia⟩,if_pos z]at this
   dsimp only at this
   lia
  .rw[if_neg (λy=>z y.1),if_neg z]at this;lia
theorem os_{c:Nat×Nat}(ic:IsC T P c)(h:P<=c.1):c.2<rl T c.1:=by have:=ic.2;rw[if_neg o_]at this;show this
theorem nD_{c:Nat×Nat}(ic:IsC T P c):back c (aft (Fu_ T c w) P c)=c:=by
 have key:back c (c.1,c.2+1)=c:=by unfold back;rw[if_pos ⟨rfl,Dd_ _⟩];rfl
 unfold aft;by_cases h:c.1<P
 .rw[if_pos h,key]
 .have:=os_ ic o_;rw[if_neg h,e2_ ic.1,if_pos rfl,A1_ o_,key]
theorem p4_{c:Nat×Nat}(ic:IsC T P c)(he:e.2<rl T e.1):back c (aft (Fu_ T c w) P (fs c e))=aft T P e:=by
 unfold aft;rw[e1_];by_cases h:e.1<P
 .rw[if_pos h,if_pos h];by_cases z:e.1=c.1/\c.2<=e.2
  .rw[show fs c e=(e.1,e.2+1) by unfold fs;rw[if_pos z]];unfold back;rw[if_pos ⟨z.1,by change c.2<e.2+1+1;lia⟩];rfl
  .rw[show fs c e=e by unfold fs;rw[if_neg z]]
   show b1_ (by
    by_cases q:e.1=c.1
    .show .inr (by change e.2+1<=c.2;lia)
    .show .inl q)
 .rw[if_neg h,if_neg h,e2_ ic.1];by_cases q:e.1=c.1
  .have cl:=os_ ic o_;rw[if_pos q];rw[<-q]at cl;by_cases z:c.2<=e.2
   .rw[show fs c e=(e.1,e.2+1) by unfold fs;rw[if_pos ⟨q,z⟩]];by_cases y:e.2+1=rl T e.1
    .change back c (e.1,(e.2+1+1)%(rl T e.1+1))=(e.1,(e.2+1)%rl T e.1);rw[y,CG_,CG_];show b1_ (.inr (AE_ _))
    .change back c (e.1,(e.2+1+1)%(rl T e.1+1))=(e.1,(e.2+1)%rl T e.1);rw[A1_ (show e.2+1+1<rl T e.1+1 by lia),A1_ (show e.2+1<rl T e.1 by lia)];unfold back;rw[if_pos ⟨q,by change c.2<e.2+1+1;lia⟩];rfl
   .rw[show fs c e=e by unfold fs;rw[if_neg (λy=>z y.2)]];rw[A1_ (show e.2+1<rl T e.1+1 by lia),A1_ (show e.2+1<rl T e.1 by lia)];show b1_ (.inr (by change e.2+1<=c.2;lia))
  .rw[if_neg q,show fs c e=e by unfold fs;rw[if_neg (λy=>q y.1)]];show b1_ (.inl q)
variable{X:Nat->Bool}
theorem HO_.ins{f:Nat×Nat->Bool}(s:HO_ P T X f){c:Nat×Nat}(ic:IsC T P c)(hX:X w=false)(hw:∀e,wi T e=some w->f e=f c):HO_ P (Fu_ T c w) X (λx=>f (back c x)):=by
 have w0:wi (Fu_ T c w) c=some w:=kt_ ic.1 (gr_ ic);show⟨λe v h=>?_,λe m v ne h1 h2=>?_,λp hp=>?_⟩
 .change f (back c (aft (Fu_ T c w) P e))=xor (f (back c e)) (X v)
  rcases dr_ c e with q|q
  .rw[q,w0]at h;cases h;rw[q,nD_ ic,eo_,hX,BR_]
  .rw[q]at h⊢;have h':=bH_ ic h;rw[p4_ ic (GD_ h').1,pb_];show s.jump _ _ h'
 .change f (back c e)=xor (f (back c m)) (X v)
  rcases dr_ c e with q|q <;> rcases dr_ c m with y|y
  .show absurd (q.trans y.symm) ne
  .rw[q,w0]at h1;cases h1;rw[y]at h2;rw[q,eo_,hX,BR_];show(hw _ (bH_ ic h2)).symm
  .rw[y,w0]at h2;cases h2;rw[q]at h1;rw[y,eo_,hX,BR_];show hw _ (bH_ ic h1)
  .show s.mate _ _ v (λz=>ne (by rw[q,y,z])) ?_ ?_
   .rw[q]at h1;show bH_ ic h1
   .rw[y]at h2;show bH_ ic h2
 .change f (back c (p,rl (Fu_ T c w) p))=f (back c ((p+P-1)%P,0));rw[b1_ (x:=((p+P-1)%P,0)) (.inr (AE_ _)),e2_ ic.1];by_cases z:p=c.1
  .have:=gr_ ic;rw[if_pos z];unfold back;rw[if_pos ⟨z,by change c.2<rl T p+1;rw[z];lia⟩];show s.rim p hp
  .rw[if_neg z,b1_ (.inl z)];show s.rim p hp
theorem HO_.app{f:Nat×Nat->Bool}(s:HO_ P T X f){v:Bool}(hP:P<=T.length)(hX:X w=false)(hw:∀e,wi T e=some w->f e=v):HO_ P (T++[[w]]) X (λx=>if x.1=T.length then v else f x):=by
 have left:∀{p},p<T.length->(T++[[w]]).getD p []=T.getD p []:=λ{p} hp=>by rw[Ad_,Aw_ hp,<-Ad_]
 have last:(T++[[w]]).getD T.length []=[w]:=by rw[Ad_,Az_ (Aj_ _),Cf_];rfl
 have cs:∀{e u},wi (T++[[w]]) e=some u->(e.1<T.length/\wi T e=some u)\/(e=(T.length,0)/\u=w):=λ{e u} h=>by
  have lt:=(GD_ h).2;rw[Al_,AP_]at lt;by_cases z:e.1<T.length
  .show .inl ⟨z,?_⟩;unfold wi at*
   rwa[left z]at h
  .have e1:e.1=T.length:=o_
   unfold wi at h;rw[e1,last]at h;cases e2:e.2 with
   |zero=>rw[e2]at h;cases h;show .inr ⟨Bl_ e1 e2,rfl⟩
   |succ n=>rw[e2]at h;cases h
 have rlo:∀{p},p<T.length->rl (T++[[w]]) p=rl T p:=λ{p} hp=>by unfold rl;rw[left hp]
 have aft1:∀{e:Nat×Nat},(aft (T++[[w]]) P e).1=e.1:=λ{e}=>by unfold aft;split <;> rfl
 have afto:∀{e:Nat×Nat},e.1<T.length->aft (T++[[w]]) P e=aft T P e:=λ{e} h=>by unfold aft;rw[rlo h]
 show⟨λe u h=>?_,λe m u ne h1 h2=>?_,λp hp=>?_⟩
 .rw[aft1]
  rcases cs h with⟨a,b⟩|⟨a,b⟩
  .rw[if_neg o_,if_neg o_,afto a];show s.jump _ _ b
  .rw[b,hX,BR_,if_pos (by rw[a]),if_pos (by rw[a])]
 .rcases cs h1 with⟨a,b⟩|⟨a,b⟩ <;> rcases cs h2 with⟨a',b'⟩|⟨a',b'⟩
  .rw[if_neg o_,if_neg o_];show s.mate _ _ _ ne b b'
  .rw[b',hX,BR_,if_neg o_,if_pos (by rw[a'])];show hw _ (b'▸b)
  .rw[b,hX,BR_,if_neg (show ¬ m.1=T.length by lia),if_pos (by rw[a])];show(hw _ (b▸b')).symm
  .show absurd (a.trans a'.symm) ne
 .have:=BN_ (p+P-1) (show 0<P by lia);rw[if_neg o_,if_neg o_,rlo o_];show s.rim p hp
structure Je_(P:Nat)(T:List (List Nat))(R:Nat×Nat->Bool):Prop where
 mate:∀e m w,e≠m->wi T e=some w->wi T m=some w->R e=R (aft T P m)
 rim:∀p,p<P->R (p,rl T p)=R ((p+P-1)%P,0)
noncomputable def bd(P:Nat)(T:List (List Nat))(R:Nat×Nat->Bool)(w:Nat):Bool:=@decide (∃e,wi T e=some w/\R (aft T P e)≠R e) (Classical.propDecidable _)
theorem Jj_{R:Nat×Nat->Bool}(h:Je_ P T R)(he:wi T e=some w):R (aft T P e)=xor (R e) (bd P T R w):=by
 unfold bd;by_cases z:R (aft T P e)=R e
 .rw[@At_ _ (Classical.propDecidable _),BR_]
  .show z
  .rintro⟨m,hm,ne⟩;by_cases q:e=m
   .subst q;show ne z
   .have a:=h.mate e m w q he hm;have b:=h.mate m e w (Ne.symm q) hm he;rw[<-a,b,z]at ne;show ne rfl
 .rw[@As_ _ (Classical.propDecidable _) ⟨e,he,z⟩];revert z;cases R (aft T P e) <;> cases R e <;> simp
theorem HO_.add{f R:Nat×Nat->Bool}(s:HO_ P T X f)(h:Je_ P T R):HO_ P T (λw=>xor (X w) (bd P T R w)) (λx=>xor (f x) (R x)):=by
 show⟨λe w he=>?_,λe m w ne h1 h2=>?_,λp hp=>?_⟩
 .rw[s.jump _ _ he,Jj_ h he];cases f e <;> cases R e <;> cases X w <;> cases bd P T R w <;> rfl
 .rw[s.mate e m w ne h1 h2,h.mate e m w ne h1 h2,Jj_ h h2];cases f m <;> cases R m <;> cases X w <;> cases bd P T R w <;> rfl
 .rw[s.rim p hp,h.rim p hp]
theorem gV_{T:List (List Nat)}{P p:Nat}{X:Nat->Bool}{R:Nat×Nat->Bool}(hj:∀e w,wi T e=some w->R (aft T P e)=xor (R e) (X w)):∀k,k<=rl T p->par X ((T.getD p []).take k)=xor (R (p,0)) (R (p,if p<P then k else k%rl T p))
 |0,_=>by
  rw[Nat.zero_mod];simp[par]
 |k+1,h=>by
  have lt:k<rl T p:=h;have ih:=gV_ (P:=P) (p:=p) hj k o_;obtain⟨w,hw⟩:=kj_ (T:=T) (e:=(p,k)) lt;have q:=hj _ _ hw;have e:(T.getD p []).take (k+1)=(T.getD p []).take k++[w]:=by rw[Bc_];unfold wi at hw;rw[show(T.getD p [])[k]?=some w from hw];rfl
  rw[e,iJ_,ih];have e2:aft T P (p,k)=(p,if p<P then k+1 else(k+1)%rl T p):=by unfold aft;dsimp only;split <;> rfl
  rw[e2]at q;rw[q]
  have e3:(if p<P then k else k%rl T p)=k:=by
   split
   .rfl
   .show A1_ lt
  rw[e3];change xor _ (xor (X w) false)=_;cases R (p,0) <;> cases R (p,k) <;> cases X w <;> rfl
theorem pc_{R:Nat×Nat->Bool}(h:Je_ P T R):JZ_ P T (bd P T R):=λp hp _=>by have:=gV_ (P:=P) (p:=p) (X:=bd P T R) (R:=R) (λe w he=>Jj_ h he) (rl T p) (Aj_ _);unfold rl at this;rw[BD_,if_neg o_,CG_,Bool.xor_self]at this;show this
variable{l:List (Nat×Nat)}
theorem pd_{a b:Nat×Nat}(ia:IsC T P a)(ib:IsC T P b)(ab:b.1≠a.1\/b.2<=a.2)(cl:Cyl (Nx T P) l)(ndl:l.Nodup)(isl:∀x∈l,IsC T P x)(hal:a∈l)(hbl:b∈l):∃A,Cyl (Nx (Fu_ (Fu_ T a w) b w) P) A/\fs b (fs a a)∈A/\fs b a∉A/\aft (Fu_ (Fu_ T a w) b w) P (fs b a)=fs b (fs a a)/\wi (Fu_ (Fu_ T a w) b w) (fs b a)=some w/\IsC (Fu_ T a w) P b:=by
 have ib1:IsC (Fu_ T a w) P b:=by
  by_cases e:b=a
  .rw[f3_ ia,e];show .inl rfl
  .rw[f3_ ia]
   show .inr ⟨b,ib,(nC_ (by
    rcases ab with h|h
    .show .inl h
    .by_cases z:b.1=a.1
     .show .inr (Nat.lt_of_le_of_ne h λq=>e (Bl_ z q))
     .show .inl z)).symm⟩
 have hka:=gr_ ia;have hkb:=gr_ ib1;have ia1:IsC (Fu_ T a w) P (fs a a):=(f3_ ia).mpr (.inr ⟨a,ia,rfl⟩)
 have go:∀x y,IsC T P x->Nx T P x y->Nx (Fu_ (Fu_ T a w) b w) P (fs b (fs a x)) (ft b (ft a y)):=λx y ix n=>or_ ib1 ((f3_ ia).mpr (.inr ⟨x,ix,rfl⟩)) (or_ ia ix n)
 have eF:∀x,x≠a->x≠b->fs b (fs a x)=ft b (ft a x):=λx h1 h2=>by
  rw[Ka_ h1];by_cases e:ft a x=b
  .exfalso;by_cases z:x.1=a.1/\a.2<x.2
   .rw[show ft a x=(x.1,x.2+1) by unfold ft;rw[if_pos z]]at e;have e1:=congrArg Prod.fst e;have e2:=congrArg Prod.snd e
    dsimp only at e1 e2
    lia
   .rw[show ft a x=x by unfold ft;rw[if_neg z]]at e;show h2 e
  .show Ka_ e
 have e1:wi (Fu_ (Fu_ T a w) b w) (fs b a)=some w:=k9_ ib1.1 (kt_ ia.1 hka) hkb;have e2:wi (Fu_ (Fu_ T a w) b w) b=some w:=kt_ ib1.1 hkb;have mt:H8_ (Fu_ (Fu_ T a w) b w) (fs b a) b:=⟨HU_ b a,w,e1,e2⟩;have fsa:fs a a=(a.1,a.2+1):=by unfold fs;rw[if_pos ⟨rfl,Aj_ _⟩]
 have fsb:fs b b=(b.1,b.2+1):=by unfold fs;rw[if_pos ⟨rfl,Aj_ _⟩]
 have fta:ft a a=a:=iI_ (.inr (Aj_ _));have ftb:ft b b=b:=iI_ (.inr (Aj_ _))
 have nxt:∀x m,H8_ (Fu_ (Fu_ T a w) b w) x m->(P<=m.1->m.2+1<rl (Fu_ (Fu_ T a w) b w) m.1)->Nx (Fu_ (Fu_ T a w) b w) P x (m.1,m.2+1):=λx m hm hi=>by
  show .inr ⟨(GD_ hm.2.choose_spec.1).1,m,hm,?_⟩;split
  .rfl
  .rw[A1_ (hi o_)]
 have rlT:∀p,rl (Fu_ (Fu_ T a w) b w) p=rl T p+(if p=a.1 then 1 else 0)+(if p=b.1 then 1 else 0):=λp=>by rw[e2_ ib1.1,e2_ ia.1]
 have la:P<=a.1->a.2<rl T a.1:=λh=>by have:=ia.2;rw[if_neg o_]at this;show this
 have lb:P<=b.1->b.2<rl T b.1:=λh=>by have:=ib.2;rw[if_neg o_]at this;show this
 have c1:P<=(fs b a).1->(fs b a).2+1<rl (Fu_ (Fu_ T a w) b w) (fs b a).1:=λh=>by
  rw[e1_]at h⊢;have:=la h;rw[rlT,if_pos rfl];unfold fs;split
  .rename_i z;rw[if_pos z.1];change a.2+1+1<_;lia
  .lia
 have e:fs b (fs a a)=((fs b a).1,(fs b a).2+1):=by
  rw[fsa];unfold fs;by_cases z:a.1=b.1
  .have:b.2<=a.2:=by
    rcases ab with q|q
    .show absurd z.symm q
    .show q
   rw[if_pos ⟨z,by change b.2<=a.2+1;lia⟩,if_pos ⟨z,this⟩]
  .rw[if_neg (λq=>z q.1),if_neg (λq=>z q.1)]
 have af1:aft (Fu_ (Fu_ T a w) b w) P (fs b a)=fs b (fs a a):=by
  rw[e];unfold aft;split
  .rfl
  .rw[A1_ (c1 o_)]
 have n1:Nx (Fu_ (Fu_ T a w) b w) P b (fs b (fs a a)):=by rw[e];show nxt b (fs b a) mt.symm c1
 clear e
 have ftab:ft b (ft a a)=if a=b then a else fs b a:=by
  rw[fta];split
  .rename_i e;rw[e];show ftb
  .rename_i e;show(Ka_ e).symm
 have ftbb:ft b (ft a b)=b:=by rw[iI_ (c:=a) (x:=b) ab,ftb]
 have lkm:∀{m:List (Nat×Nat)}{x y:Nat×Nat},(∀z∈x::m,IsC T P z)->(∀z∈m,z≠a/\z≠b)->Lk (Nx T P) x m y->Lk (Nx (Fu_ (Fu_ T a w) b w) P) (fs b (fs a x)) (m.map λz=>fs b (fs a z)) (ft b (ft a y)):=by
  intro m
  induction m with
  |nil=>show λ{x y} i _ k=>go x y (i x An_) k
  |cons z m ih =>intro x y i e k;have ez:=e z An_;show⟨?_,ih (λq hq=>i q (Am_ _ hq)) (λq hq=>e q (Am_ _ hq)) k.2⟩;have:=go x z (i x An_) k.1;rw[<-eF z ez.1 ez.2]at this;show this
 obtain⟨r,k,pr⟩:=Lk.rot cl hal;have ndr:=pr.nodup_iff.mpr ndl;by_cases e:a=b
 .subst e;have k1:=lkm (λz hz=>isl z (pr.mem_iff.mp hz)) (λz hz=>(λq:z≠a=>⟨q,q⟩) λq=>(AU_.mp ndr).1 (q▸hz)) k;rw[ftab,if_pos rfl]at k1;show⟨fs a (fs a a)::(r.map (λz=>fs a (fs a z))++[a]),⟨_,_,rfl,Lk.app.mpr ⟨k1,n1⟩⟩,An_,λz=>?_,af1,e1,ib1⟩
  rcases Ar_.mp z with q|z
  .show HU_ a a (jF_ q).symm
  .rcases Aq_.mp z with z|z
   .obtain⟨y,_,q⟩:=Ao_.mp z;show HU_ a y (jF_ q)
   .show HU_ a a (Ae_.mp z)
 .have hbr:b∈r:=by have:=pr.mem_iff.mpr hbl;show(Ar_.mp this).resolve_left λq=>e q.symm
  obtain⟨s,t,rfl⟩:=List.append_of_mem hbr;obtain⟨ka,kb⟩:=Lk.app.mp k;obtain⟨na,nr⟩:=AU_.mp ndr;have nr':=AG_.mp nr
  have isr:∀z,z∈s\/z∈t->IsC T P z/\z≠a/\z≠b:=λz hz=>by
   have hz':z∈s++b::t:=Aq_.mpr (hz.imp id (Am_ _));show⟨isl z (pr.mem_iff.mp (Am_ _ hz')),λq=>na (q▸hz'),λq=>?_⟩
   rcases hz with hz|hz
   .show nr'.2.2 z hz b An_ q
   .show(AU_.mp nr'.2.1).1 (q▸hz)
  have ka1:=lkm (λz hz=>(Ar_.mp hz).elim (λq=>q▸ia) λhz=>(isr z (.inl hz)).1) (λz hz=>(isr z (.inl hz)).2) ka;rw[ftbb]at ka1;show⟨fs b (fs a a)::(s.map (λz=>fs b (fs a z))++[b]),⟨_,_,rfl,Lk.app.mpr ⟨ka1,n1⟩⟩,An_,λz=>?_,af1,e1,ib1⟩
  rcases Ar_.mp z with q|z
  .show HU_ a a (jF_ q).symm
  .rcases Aq_.mp z with z|z
   .obtain⟨y,_,q⟩:=Ao_.mp z;show HU_ a y (jF_ q)
   .show HU_ b a (Ae_.mp z)
theorem Lk.last{β:Type}{R:β->β->Prop}:∀{l:List β}{a b:β},Lk R a l b->∃z∈a::l,R z b
 |[],a,b,k=>⟨a,An_,k⟩
 |x::l,a,b,k=>by obtain⟨z,hz,r⟩:=Lk.last k.2;show⟨z,Am_ _ hz,r⟩
theorem pe_(tw:Tw T)(c:Cyl (Nx T P) l){x y:Nat×Nat}(hx:x∈l)(n:Nx T P x y):y∈l:=by
 obtain⟨r,k,p⟩:=Lk.rot c hx;cases r with
 |nil=>rw[oh_ tw n k];show hx
 |cons z r=>rw[oh_ tw n k.1];show p.mem_iff.mp s_
theorem pf_(hP:0<P)(hPT:P<=T.length)(c:Cyl (Nx T P) l){x:Nat×Nat}(hx:x∈l)(ix:IsC T P x):∀y∈l,IsC T P y:=by
 obtain⟨r,k,p⟩:=Lk.rot c hx;have:=(Lk.all (A:=IsC T P) (λx y h n=>nx_c hP hPT h n) k ix).1;intro y hy
 rcases Ar_.mp (p.mem_iff.mpr hy)with e|h
 .show e▸ix
 .show this y h
theorem pg_(tw:Tw T)(hP:0<P)(hPT:P<=T.length)(c:Cyl (Nx T P) l)(il:∀y∈l,IsC T P y):Je_ P T (λx=>decide (x∈l)):=by
 have both:∀x y,IsC T P x->Nx T P x y->decide (x∈l)=decide (y∈l):=λx y ix n=>by
  have e:x∈l↔y∈l:=⟨λh=>pe_ tw c h n,λh=>by obtain⟨r,k,p⟩:=Lk.rot c h;obtain⟨z,hz,nz⟩:=Lk.last k;have hz':=p.mem_iff.mp hz;rw[mf_ tw hP ix (il z hz') n nz];show hz'⟩;by_cases h:x∈l
  .rw[As_ h,As_ (e.mp h)]
  .rw[At_ h,At_ (λz=>h (e.mpr z))]
 show⟨λe m w ne h1 h2=>both _ _ ⟨(GD_ h1).2,AO_ (GD_ h1).1 (Cq_ _ _)⟩ (.inr ⟨(GD_ h1).1,m,⟨ne,w,h1,h2⟩,rfl⟩),λp hp=>both _ _ ⟨by change p<_;lia,?_⟩ (.inl ⟨rfl,rfl⟩)⟩;change rl T p<rl T p+(if p<P then 1 else 0);rw[if_pos hp];lia
theorem HO_.nx{f:Nat×Nat->Bool}(s:HO_ P T X f){x y:Nat×Nat}(ix:IsC T P x)(n:Nx T P x y):f x=f y:=by
 rcases n with⟨h,rfl⟩|⟨h,m,⟨ne,w,h1,h2⟩,rfl⟩
 .have hp:x.1<P:=by
   have:=ix.2;split at this
   .assumption
   .lia
  have:=s.rim x.1 hp;rw[<-h]at this;show this
 .show(s.mate _ _ _ ne h1 h2).trans (s.jump _ _ h2).symm
theorem HO_.cyl{f:Nat×Nat->Bool}(s:HO_ P T X f)(hP:0<P)(hPT:P<=T.length)(c:Cyl (Nx T P) l){a b:Nat×Nat}(ia:IsC T P a)(ha:a∈l)(hb:b∈l):f a=f b:=by
 obtain⟨r,k,p⟩:=Lk.rot c ha;have:=(Lk.all (A:=λx=>IsC T P x/\f a=f x) (λx y h n=>⟨nx_c hP hPT h.1 n,h.2.trans (s.nx h.1 n)⟩) k ⟨ia,rfl⟩).1
 rcases Ar_.mp (p.mem_iff.mpr hb)with e|h
 .rw[e]
 .show(this b h).2
theorem mA_(X:Nat->Bool){c:Nat×Nat}(hc:c.1<T.length)(hX:X w=false)(p:Nat):par X ((Fu_ T c w).getD p [])=par X (T.getD p []):=by
 unfold Fu_;rw[Ad_,A3_];by_cases e:c.1=p
 .rw[if_pos e,if_pos hc];change par X (RimT.ins (T.getD c.1 []) c.2 w)=_;rw[pa_,hX,EP_,e]
 .rw[if_neg e,<-Ad_]
theorem nE_:St P (List.replicate P []):=λX _=>by
 have no:∀e w,wi (List.replicate P ([]:List Nat)) e=some w->False:=λe w h=>by have:=(GD_ h).1;unfold rl at this;rw[Ad_,C0_]at this;split at this <;> show absurd this (Dt_ _)
 show⟨λ_=>false,λe w h=>(no e w h).elim,λe m w _ h=>(no e w h).elim,λ_ _=>rfl⟩
theorem ph_{W:Nat}{c:Nat×Nat}(hPT:P<=T.length)(hW:W∉T.flatten)(ic:IsC T P c)(st:St P T):St P (Fu_ T c W++[[W]]):=λX ev=>by
 have hX:X W=false:=by have:=ev T.length hPT (by simp[ap_]);rw[Ad_,Az_ (by rw[ap_];show Aj_ _),ap_,Cf_]at this;change X W=false;simpa[par]using this
 obtain⟨f,s⟩:=st X λp h1 h2=>by have:=ev p h1 (by simp[ap_];lia);rw[Ad_,Aw_ (by rw[ap_];show h2),<-Ad_,mA_ X ic.1 hX]at this;show this
 have s1:=s.ins (w:=W) ic hX λe h=>absurd (h0_ h) hW;show⟨_,s1.app (w:=W) (v:=f c) (by rw[ap_];show hPT) hX λe h=>?_⟩
 rcases dr_ c e with q|q
 .rw[q,eo_]
 .rw[q]at h;show absurd (h0_ (bH_ ic h)) hW
theorem p5_{W:Nat}{a b:Nat×Nat}(hP:0<P)(hPT:P<=T.length)(hW:W∉T.flatten)(tw2:Tw (Fu_ (Fu_ T a W) b W))(ia:IsC T P a)(ib:IsC T P b)(ab:b.1≠a.1\/b.2<=a.2)(cl:Cyl (Nx T P) l)(ndl:l.Nodup)(isl:∀x∈l,IsC T P x)(hal:a∈l)(hbl:b∈l)(st:St P T):St P (Fu_ (Fu_ T a W) b W):=λX ev=>by
 obtain⟨A,cA,h1,h2,af,e1,ib1⟩:=pd_ (w:=W) ia ib ab cl ndl isl hal hbl;have hPT2:P<=(Fu_ (Fu_ T a W) b W).length:=by rw[ap_,ap_];show hPT
 have step:∀X,JZ_ P (Fu_ (Fu_ T a W) b W) X->X W=false->∃f,HO_ P (Fu_ (Fu_ T a W) b W) X f:=λX ev hX=>by
  obtain⟨f,s⟩:=st X λp h1 h2=>by have:=ev p h1 (by rw[ap_,ap_];show h2);rw[mA_ X ib1.1 hX,mA_ X ia.1 hX]at this;show this
  have s1:=s.ins (w:=W) ia hX λe h=>absurd (h0_ h) hW;show⟨_,s1.ins (w:=W) ib1 hX λe h=>?_⟩
  rcases dr_ a e with q|q
  .rw[q,eo_,b1_ ab];show s.cyl hP hPT cl ia hal hbl
  .rw[q]at h;show absurd (h0_ (bH_ ia h)) hW
 cases hX:X W with
 |false=>show step X ev hX
 |true =>
  have i1:IsC (Fu_ (Fu_ T a W) b W) P (fs b (fs a a)):=(f3_ ib1).mpr (.inr ⟨_,(f3_ ia).mpr (.inr ⟨a,ia,rfl⟩),rfl⟩);have sh:=pg_ tw2 hP hPT2 cA (pf_ hP hPT2 cA h1 i1);have bW:bd P (Fu_ (Fu_ T a W) b W) (λx=>decide (x∈A)) W=true:=by have:=Jj_ sh e1;rw[af,As_ h1,At_ h2,EP_]at this;show this.symm
  obtain⟨f,s⟩:=step (λw=>xor (X w) (bd P (Fu_ (Fu_ T a W) b W) (λx=>decide (x∈A)) w)) (λp h3 h4=>by rw[ku_,ev p h3 h4,pc_ sh p h3 h4];rfl) (by rw[hX,bW];rfl);have s2:=s.add sh
  have e:(λw=>xor (xor (X w) (bd P (Fu_ (Fu_ T a W) b W) (λx=>decide (x∈A)) w)) (bd P (Fu_ (Fu_ T a W) b W) (λx=>decide (x∈A)) w))=X:=funext λw=>by
   cases X w <;> cases bd P (Fu_ (Fu_ T a W) b W) (λx=>decide (x∈A)) w <;> rfl
  rw[e]at s2;show⟨_,s2⟩
def HP_{β:Type}(R:β->β->Prop):List β->Prop
 |[]=>True
 |[_]=>True
 |x::y::l=>R x y/\HP_ R (y::l)
def Adj(T:List (List Nat))(p q:Nat):Prop:=p≠q/\∃w,w∈T.getD p []/\w∈T.getD q []
theorem p6_(T:List (List Nat))(w p:Nat):(T.getD p []).count w<=T.flatten.count w:=by
 by_cases h:p<T.length
 .have:=do_ w [] T p h;simp only[EQ_]at this;lia
 .rw[Ad_,BA_ o_];show AE_ _
theorem mB_{p:Nat}(h:w∈T.getD p []):p<T.length:=by
 by_cases z:p<T.length
 .show z
 .rw[Ad_,BA_ o_]at h;cases h
theorem nF_{p q:Nat}(tw:Tw T)(ne:p≠q)(hp:w∈T.getD p [])(hq:w∈T.getD q []):∀r,(T.getD r []).count w=if r=p\/r=q then 1 else 0:=by
 have lp:=mB_ hp;have lq:=mB_ hq;have cp:=Bs_.mpr hp;have cq:=Bs_.mpr hq;have hm:w∈T.flatten:=Cb_.mpr ⟨T.getD p [],by rw[Ad_,Aa_ lp];show A2_ lp,hp⟩;have two:=tw w hm;have s1:=do_ w [] T p lp;simp only[EQ_]at s1;have s2:=do_ w [] (T.set p []) q (by simpa using lq);simp only[EQ_]at s2;have g:∀r,r≠p->(T.set p []).getD r []=T.getD r []:=λr hr=>by rw[Ad_,A3_,if_neg (Ne.symm hr),<-Ad_]
 rw[g q (Ne.symm ne)]at s2;intro r;by_cases h1:r=p
 .rw[if_pos (.inl h1),h1];lia
 .by_cases h2:r=q
  .rw[if_pos (.inr h2),h2];lia
  .rw[if_neg (λz=>z.elim h1 h2)];have:=p6_ ((T.set p []).set q []) w r;rw[show((T.set p []).set q []).getD r []=T.getD r [] by rw[Ad_,A3_,if_neg (Ne.symm h2),<-Ad_,g r h1]]at this;lia
theorem kv_(w:Nat):∀l:List Nat,l.count w<=1->par (λv=>decide (v=w)) l=decide (l.count w=1)
 |[],_=>rfl
 |v::l,h=>by
  rw[Ci_]at h;change xor (decide (v=w)) (par _ l)=decide ((v::l).count w=1);rw[Ci_];by_cases e:v=w
  .have h0:l.count w=0:=by simp[e]at h;lia
   rw[kv_ w l o_,h0];simp[e]
  .have h1:l.count w<=1:=by simp[e]at h;show h
   rw[kv_ w l h1];simp[e]
theorem jH_{T:List (List Nat)}(tw:Tw T):∀(l:List Nat)(a:Nat),HP_ (Adj T) (a::l)->∃X:Nat->Bool,(∀r,par X (T.getD r [])=xor (decide (r=a)) (decide (r=(a::l).getLast (A7_ a l))))/\∀w,X w=true->∀r,w∈T.getD r []->r∈a::l
 |[],a,_=>⟨λ_=>false,λr=>by rw[jG_];change false=xor (decide (r=a)) (decide (r=a));rw[Bool.xor_self],λw h=>(nomatch h)⟩
 |b::l,a,h=>by
  obtain⟨X,h1,h2⟩:=jH_ tw l b h.2;obtain⟨ne,w,wa,wb⟩:=h.1;have two:=nF_ tw ne wa wb;show⟨λv=>xor (X v) (decide (v=w)),λr=>?_,λv hv r hr=>?_⟩
  .rw[ku_,h1,kv_ w _ (by rw[two];split <;> lia),two,List.getLast_cons (A7_ b l)];by_cases ra:r=a
   .subst ra;simp[ne]
   .by_cases rb:r=b
    .subst rb;simp[ra]
    .simp[ra,rb]
  .by_cases e:v=w
   .subst e;have:=two r;by_cases z:r=a\/r=b
    .rcases z with z|z
     .rw[z];show An_
     .rw[z];show Am_ _ An_
    .rw[if_neg z]at this;have:=Bs_.mpr hr;lia
   .have hv:xor (X v) (decide (v=w))=true:=hv;rw[At_ e,BR_]at hv;show Am_ _ (h2 v hv r hr)
def Nc(P:Nat)(T:List (List Nat)):Prop:=∀(a:Nat)(l:List Nat)(c:Nat)(m:List Nat),HP_ (Adj T) (a::l)->HP_ (Adj T) (c::m)->(∀x∈a::l,x∉c::m)->a<P->(a::l).getLast (A7_ a l)<P->c<P->(c::m).getLast (A7_ c m)<P ->
 xor (decide (a<=c)) (decide ((a::l).getLast (A7_ a l)<=c))=xor (decide (a<=(c::m).getLast (A7_ c m))) (decide ((a::l).getLast (A7_ a l)<=(c::m).getLast (A7_ c m)))
theorem mC_(X:Nat->Bool):∀l:List Nat,(∀w∈l,X w=false)->par X l=false
 |[],_=>rfl
 |w::l,h=>by change xor (X w) (par X l)=false;rw[h w An_,mC_ X l λv hv=>h v (Am_ _ hv)];rfl
theorem LF_(tw:Tw T)(hPT:P<=T.length)(st:St P T):Nc P T:=by
 intro a l c m ha hc dis aP bP cP dP;generalize eb:(a::l).getLast (A7_ a l)=b at*;obtain⟨X,h1,h2⟩:=jH_ tw l a ha;rw[eb]at h1;have bm:b∈a::l:=by rw[<-eb];show Ee_ _
 obtain⟨f,s⟩:=st X λp hp _=>by rw[h1,At_ (show p≠a by lia),At_ (show p≠b by lia)];rfl
 have off:∀v,v∉a::l->∀k,k<rl T v->f (v,k)=f (v,0):=λv hv k hk=>by
  have:=gV_ (P:=P) (p:=v) s.jump k o_
  rw[mC_ X _ (λw hw=>by
   cases q:X w with
   |false=>rfl
   |true=>show absurd (h2 w q v (List.mem_of_mem_take hw)) hv)]at this
  have e3:(if v<P then k else k%rl T v)=k:=by
   split
   .rfl
   .show A1_ hk
  rw[e3]at this;revert this;cases f (v,k) <;> cases f (v,0) <;> simp
 have hop:∀(m:List Nat)(c:Nat),HP_ (Adj T) (c::m)->(∀x∈c::m,x∉a::l)->f (c,0)=f ((c::m).getLast (A7_ c m),0):=λm=>by
  induction m with
  |nil=>show λc _ _=>rfl
  |cons d m ih =>
   intro c h hx;have:=ih d h.2 λx hx'=>hx x (Am_ _ hx');rw[List.getLast_cons (A7_ d m),<-this];obtain⟨ne,w,wc,wd⟩:=h.1;have nc:=hx c An_;have nd:=hx d (Am_ _ An_);obtain⟨i,hi,ei⟩:=Ap_.mp wc;obtain⟨j,hj,ej⟩:=Ap_.mp wd;have e1:wi T (c,i)=some w:=by unfold wi;change(T.getD c [])[i]?=_;rw[Aa_ hi,ei]
   have e2:wi T (d,j)=some w:=by unfold wi;change(T.getD d [])[j]?=_;rw[Aa_ hj,ej]
   have q:=s.mate (c,i) (d,j) w (λz=>ne (A5_ z).1) e1 e2
   have xw:X w=false:=by
    cases q:X w with
    |false=>rfl
    |true=>show absurd (h2 w q c wc) nc
   rw[xw,BR_,off c nc i hi,off d nd j hj]at q;show q
 have key:=hop m c hc λx hx hx'=>dis x hx' hx;generalize(c::m).getLast (A7_ c m)=d at*
 have rim:∀p,p<P->f ((p+P-1)%P,0)=xor (f (p,0)) (xor (decide (p=a)) (decide (p=b))):=λp hp=>by rw[<-s.rim p hp];have:=gV_ (P:=P) (p:=p) s.jump (rl T p) (Aj_ _);rw[if_pos hp]at this;unfold rl at this⊢;rw[BD_,h1]at this;rw[this];cases f (p,0) <;> cases f (p,(T.getD p []).length) <;> rfl
 have all:∀p,p<P->f (p,0)=xor (xor (f (0,0)) (xor (decide (a<=0)) (decide (b<=0)))) (xor (decide (a<=p)) (decide (b<=p))):=λp=>by
  induction p with
  |zero=>intro _;cases f (0,0) <;> cases decide (a<=0) <;> cases decide (b<=0) <;> rfl
  |succ p ih =>
   intro hp;have r:=rim (p+1) hp;rw[show p+1+P-1=p+P by lia,Nat.add_mod_right,A1_ o_,ih o_]at r
   have e:∀x:Nat,decide (x<=p+1)=xor (decide (x<=p)) (decide (p+1=x)):=λx=>by
    by_cases h:x<=p
    .rw[As_ h,As_ (show x<=p+1 by lia),At_ (show ¬ p+1=x by lia)];rfl
    .by_cases h2:p+1=x
     .rw[At_ h,As_ (show x<=p+1 by lia),As_ h2];rfl
     .rw[At_ h,At_ (show ¬ x<=p+1 by lia),At_ h2];rfl
   rw[e a,e b];revert r;generalize xor (f (0,0)) (xor (decide (a<=0)) (decide (b<=0)))=K;cases f (p+1,0) <;> cases K <;> cases decide (a<=p) <;> cases decide (b<=p) <;> cases decide (p+1=a) <;> cases decide (p+1=b) <;> simp
 rw[all c cP,all d dP]at key;revert key;generalize xor (f (0,0)) (xor (decide (a<=0)) (decide (b<=0)))=K;cases K <;> cases decide (a<=c) <;> cases decide (b<=c) <;> cases decide (a<=d) <;> cases decide (b<=d) <;> simp
structure GrS(P W:Nat)(T:List (List Nat)):Prop extends Gr P W T where
 st:St P T
theorem mD_(P:Nat):GrS P 0 (List.replicate P []):=⟨np_ P,nE_⟩
theorem nG_{W:Nat}{c:Nat×Nat}(g:GrS P W T)(ic:IsC T P c)(h:T.length<P+10):GrS P (W+1) (Fu_ T c W++[[W]]):=⟨oW_ g.toGr ic.1 h,ph_ g.len (λz=>absurd (g.lt W z) (Bf_ _)) ic g.st⟩
theorem pi_{W:Nat}{a b:Nat×Nat}(hP:0<P)(g:GrS P W T)(ia:IsC T P a)(ib:IsC T P b)(ab:b.1≠a.1\/b.2<=a.2)(same:∃l,Cyl (Nx T P) l/\l.Nodup/\(∀x∈l,IsC T P x)/\a∈l/\b∈l):GrS P (W+1) (Fu_ (Fu_ T a W) b W):=by obtain⟨l,cl,nd,il,al,bl⟩:=same;have g2:=pW_ g.toGr ia.1 ib.1;show⟨g2,p5_ hP g.len (λz=>absurd (g.lt W z) (Bf_ _)) g2.tw ia ib ab cl nd il al bl g.st⟩
structure GrN(P W:Nat)(T:List (List Nat)):Prop extends Gr P W T where
 nc:Nc P T
theorem GrS.n{W:Nat}(g:GrS P W T):GrN P W T:=⟨g.toGr,LF_ g.tw g.len g.st⟩
theorem HP_.imp{β:Type}{R R':β->β->Prop}(h:∀x y,R x y->R' x y):∀l:List β,HP_ R l->HP_ R' l
 |[],_=>True.intro
 |[_],_=>True.intro
 |x::y::l,k=>⟨h x y k.1,HP_.imp h (y::l) k.2⟩
theorem Nc.same{T':List (List Nat)}(h:Nc P T)(e:∀p w,w∈T'.getD p []↔w∈T.getD p []):Nc P T':=by have ad:∀x y,Adj T' x y->Adj T x y:=λx y ⟨ne,w,a,b⟩=>⟨ne,w,(e x w).mp a,(e y w).mp b⟩;show λa l c m h1 h2=>h a l c m (h1.imp ad) (h2.imp ad)
section
variable {S:Type}[DecidableEq S]
def Jb_(N:Net S)(x y:S):Prop:=x≠y/\∃r∈N.rows,∃r'∈N.rows,r.1=x/\r'.1=y/\∃w∈r.2,w∈r'.2
def Ncn(N:Net S):Prop:=∀(x:S)(l:List S)(y:S)(m:List S)(a b c d:Nat),HP_ (Jb_ N) (x::l)->HP_ (Jb_ N) (y::m)->(∀z∈x::l,z∉y::m) ->
 N.posts[a]?=some x->N.posts[b]?=some ((x::l).getLast (A7_ x l))->N.posts[c]?=some y->N.posts[d]?=some ((y::m).getLast (A7_ y m)) ->
 xor (decide (a<=c)) (decide (b<=c))=xor (decide (a<=d)) (decide (b<=d))
theorem p7_{W:Nat}(g:GrN P W T){ns ws:Nat->S}{ord:List Nat}(h:ord.Perm (List.range T.length))(hn:∀a b,a<T.length->b<T.length->ns a=ns b->a=b)(hw:∀a b,a<W->b<W->ws a=ws b->a=b){ps:List S}{wo:List (S×(Int×Int))}(hps:ps=(List.range P).map ns):Ncn (⟨ps,F0_ ns ws T ord,wo⟩:Net S):=by
 have num:∀{x y:S},Jb_ (⟨ps,F0_ ns ws T ord,wo⟩:Net S) x y->∃p q,p<T.length/\q<T.length/\x=ns p/\y=ns q/\Adj T p q:=λ{x y} h'=>by
  obtain⟨ne,r,hr,r',hr',rfl,rfl,w,w1,w2⟩:=h';obtain⟨p,hp,rfl⟩:=Ao_.mp hr;obtain⟨q,hq,rfl⟩:=Ao_.mp hr';obtain⟨v,hv,rfl⟩:=Ao_.mp w1;obtain⟨u,hu,e⟩:=Ao_.mp w2
  have lt:∀{p v},v∈T.getD p []->v<W:=λ{p v} hv=>g.lt v (Cb_.mpr ⟨T.getD p [],by
   have:=mB_ hv;rw[Ad_,Aa_ this];show A2_ _,hv⟩)
  rw[hw _ _ (lt hu) (lt hv) e]at hu;show⟨p,q,AX_.mp (h.mem_iff.mp hp),AX_.mp (h.mem_iff.mp hq),rfl,rfl,λz=>ne (by rw[z]),v,hv,hu⟩
 have way:∀(l:List S)(p:Nat),p<T.length->HP_ (Jb_ (⟨ps,F0_ ns ws T ord,wo⟩:Net S)) (ns p::l)->∃l':List Nat,l=l'.map ns/\(∀q∈l',q<T.length)/\HP_ (Adj T) (p::l'):=λl=>by
  induction l with
  |nil=>show λp _ _=>⟨[],rfl,λq hq=>(nomatch hq),True.intro⟩
  |cons y l ih =>intro p hp hh;obtain⟨p',q,hp',hq,e1,rfl,ad⟩:=num hh.1;cases hn _ _ hp hp' e1;obtain⟨l',rfl,il,hl⟩:=ih q hq hh.2;show⟨q::l',rfl,λr hr=>(Ar_.mp hr).elim (λe=>e▸hq) (il r),ad,hl⟩
 intro x l y m a b c d h1 h2 dis ha hb hc hd
 dsimp only at ha hb hc hd
 have at_:∀{a:Nat}{x:S},ps[a]?=some x->a<P/\x=ns a:=λ{a x} h=>by rw[hps,Af_]at h;obtain⟨z,hz,e⟩:=AR_.mp h;have la:=(Ai_.mp hz).1;rw[Br_]at la;rw[Ct_ la]at hz;cases hz;show⟨la,e.symm⟩
 have gl:=g.len;obtain⟨aP,rfl⟩:=at_ ha;obtain⟨cP,rfl⟩:=at_ hc;obtain⟨bP,eb⟩:=at_ hb;obtain⟨dP,ed⟩:=at_ hd;obtain⟨l',rfl,il,hl⟩:=way l a o_ h1;obtain⟨m',rfl,im,hm⟩:=way m c o_ h2;have last:∀(a:Nat)(l':List Nat),(ns a::l'.map ns).getLast (A7_ _ _)=ns ((a::l').getLast (A7_ _ _)):=λa l'=>by have:ns a::l'.map ns=(a::l').map ns:=rfl;simp only[this,List.getLast_map]
 have inl:∀{a:Nat}{l':List Nat},a<T.length->(∀q∈l',q<T.length)->∀q∈a::l',q<T.length:=λha h q hq=>(Ar_.mp hq).elim (λe=>e▸ha) (h q);rw[last]at eb ed;have eb':=hn _ _ (inl o_ il _ (Ee_ _)) o_ eb;have ed':=hn _ _ (inl o_ im _ (Ee_ _)) o_ ed;have:=g.nc a l' c m' hl hm (λz hz hz'=>dis (ns z) (Ao_.mpr ⟨z,hz,rfl⟩) (Ao_.mpr ⟨z,hz',rfl⟩)) aP o_ cP o_;rw[eb',ed']at this;show this
end
section
variable {S:Type}[DecidableEq S]
structure N0(V st gl:List S)(R0:S×Bool->List (S×Bool)):Prop where
 nd:∀x,(R0 x).Nodup
 f:∀v y,y∈R0 (v,false)↔v∈V/\y=(v,true)
 t:∀u y,y∈R0 (u,true)->y.2=false/\y.1≠u/\u∉gl/\y.1∉st/\u∈V/\y.1∈V
 sV:∀s∈st,s∈V
 sg:∀s∈st,s∉gl
structure Fx(R0 R:S×Bool->List (S×Bool))(ex:S×Bool->Int):Prop where
 nd:∀x,(R x).Nodup
 sub:∀x y,y∈R x->y∈R0 x\/x∈R0 y
 one:∀x y,y∈R0 x->(y∈R x↔x∉R y)
 deg:∀x,((R x).length:Int)=(R0 x).length-ex x
variable {V st gl:List S}{R0 R:S×Bool->List (S×Bool)}{ex:S×Bool->Int}
theorem N0.anti(n:N0 V st gl R0){x y:S×Bool}(h:y∈R0 x):x∉R0 y:=λh'=>by
 obtain⟨v,b⟩:=x;obtain⟨u,c⟩:=y;cases b with
 |false =>
  have e:=((n.f v _).mp h).2;cases e;show(n.t _ _ h').2.1 rfl
 |true =>
  have e:=(n.t v _ h).1
  dsimp only at e
  subst e;have e2:=((n.f u _).mp h').2;cases e2;show(n.t _ _ h).2.1 rfl
theorem N0.ne(n:N0 V st gl R0){x y:S×Bool}(h:y∈R0 x):x≠y:=λe=>by subst e;show n.anti h h
theorem Fx.start(n:N0 V st gl R0):Fx R0 R0 λ_=>0:=⟨n.nd,λ_ _ h=>.inl h,λx y h=>⟨λ_=>n.anti h,λ_=>h⟩,λx=>o_⟩
theorem Fx.ext{ex':S×Bool->Int}(f:Fx R0 R ex)(h:∀x,ex x=ex' x):Fx R0 R ex':=by have:ex=ex':=funext h;show this▸f
theorem Fx.ne(n:N0 V st gl R0)(f:Fx R0 R ex){x y:S×Bool}(h:y∈R x):x≠y:=by
 rcases f.sub x y h with z|z
 .show n.ne z
 .show(n.ne z).symm
theorem Fx.back(f:Fx R0 R ex){x y:S×Bool}(h:y∈R x):x∉R y:=by
 rcases f.sub x y h with z|z
 .show(f.one x y z).mp h
 .show λq=>(f.one y x z).mp q h
def flip1(R:S×Bool->List (S×Bool))(x y:S×Bool):S×Bool->List (S×Bool):=λz=>if z=y then R y++[x]else if z=x then(R x).filter (λq=>decide (q≠y))else R z
theorem iK_{α:Type}[DecidableEq α]{l:List α}{y:α}(nd:l.Nodup)(h:y∈l):(l.filter λq=>decide (q≠y)).length+1=l.length:=by
 induction l with
 |nil=>cases h
 |cons a l ih =>
  obtain⟨n1,n2⟩:=AU_.mp nd;by_cases e:a=y
  .subst e;rw[BH_ s_,Fe_.mpr λb hb=>by simp only[C5_,ne_eq];show λz=>n1 (by rw[<-z];show hb)];rfl
  .rw[BI_ (by simpa using e),AM_,AM_,ih n2 ((Ar_.mp h).resolve_left λz=>e z.symm)]
theorem Fx.flip(n:N0 V st gl R0)(f:Fx R0 R ex){x y:S×Bool}(h:y∈R x):Fx R0 (flip1 R x y) λz=>ex z+(if z=x then 1 else 0)-(if z=y then 1 else 0):=by
 have ne:=f.ne n h;have nb:=f.back h
 have mem:∀a b,b∈flip1 R x y a↔(b∈R a/\¬ (a=x/\b=y))\/(a=y/\b=x):=λa b=>by
  unfold flip1;by_cases e1:a=y
  .rw[if_pos e1,Aq_,Ae_];subst e1;constructor
   .rintro(q|q)
    .show .inl ⟨q,λz=>ne z.1.symm⟩
    .show .inr ⟨rfl,q⟩
   .rintro(⟨q,_⟩|⟨_,q⟩)
    .show .inl q
    .show .inr q
  .rw[if_neg e1];by_cases e2:a=x
   .subst e2;rw[if_pos rfl,AI_,decide_eq_true_iff];constructor
    .rintro⟨q,z⟩;show .inl ⟨q,λw=>z w.2⟩
    .rintro(⟨q,z⟩|⟨z,_⟩)
     .show⟨q,λw=>z ⟨rfl,w⟩⟩
     .show absurd z ne
   .rw[if_neg e2];constructor
    .show λq=>.inl ⟨q,λw=>e2 w.1⟩
    .rintro(⟨q,_⟩|⟨z,_⟩)
     .show q
     .show absurd z e1
 show⟨λz=>?_,λa b hb=>?_,λa b hab=>?_,λz=>?_⟩
 .unfold flip1;split
  .show AG_.mpr ⟨f.nd y,s_,λa ha b hb e=>nb (by rw[Ae_.mp hb]at e;show e▸ha)⟩
  .split
   .show(f.nd x).filter _
   .show f.nd z
 .rcases(mem a b).mp hb with⟨q,_⟩|⟨rfl,rfl⟩
  .show f.sub a b q
  .show(f.sub _ _ h).symm
 .have o:=f.one a b hab;have na:=n.ne hab;rw[mem,mem];by_cases c1:a=x/\b=y
  .obtain⟨rfl,rfl⟩:=c1;constructor
   .rintro(⟨_,q⟩|⟨q,_⟩)
    .show absurd ⟨rfl,rfl⟩ q
    .show absurd q na
   .show λq=>absurd (Or.inr ⟨rfl,rfl⟩) q
  .by_cases c2:a=y/\b=x
   .obtain⟨rfl,rfl⟩:=c2;constructor
    .rintro _ (⟨_,q⟩|⟨q,_⟩)
     .show q ⟨rfl,rfl⟩
     .show ne q
    .show λ_=>.inr ⟨rfl,rfl⟩
   .constructor
    .rintro(⟨q,_⟩|q)
     .rintro(⟨w,_⟩|w)
      .show o.mp q w
      .show c1 ⟨w.2,w.1⟩
     .show absurd q c2
    .intro q;show .inl ⟨o.mpr λw=>q (.inl ⟨w,λz=>c2 ⟨z.2,z.1⟩⟩),c1⟩
 .have d:=f.deg z;unfold flip1;by_cases e1:z=y
  .subst e1;rw[if_pos rfl,if_pos rfl,if_neg ne.symm,Al_,AP_];lia
  .by_cases e2:z=x
   .subst e2;have:=iK_ (f.nd z) h;rw[if_neg e1,if_pos rfl,if_pos rfl,if_neg e1];lia
   .rw[if_neg e1,if_neg e2,if_neg e2,if_neg e1];lia
def exU(U D:List S)(x:S×Bool):Int:=(if x.2=false/\x.1∈U then 1 else 0)-(if x.2=true/\x.1∈D then 1 else 0)
structure Fs(V st gl:List S)(R0 R:S×Bool->List (S×Bool))(U D:List S):Prop where
 n:N0 V st gl R0
 fx:Fx R0 R (exU U D)
 us:∀u∈U,u∈st
 ds:∀d∈D,d∈gl
 un:U.Nodup
 dn:D.Nodup
 len:U.length=D.length
variable {U D:List S}
theorem Fs.start(n:N0 V st gl R0):Fs V st gl R0 R0 [] []:=⟨n,(Fx.start n).ext λx=>by unfold exU;simp,λ_ h=>(nomatch h),λ_ h=>(nomatch h),A6_,A6_,rfl⟩
theorem Fs.goal(f:Fs V st gl R0 R U D){g:S}(hg:g∈gl):R0 (g,true)=[]:=by
 cases e:R0 (g,true)with
 |nil=>rfl
 |cons y l=>show absurd hg (f.n.t g y (by rw[e];show An_)).2.2.1
theorem N0.into(n:N0 V st gl R0){g:S}{p:S×Bool}(h:(g,true)∈R0 p):p=(g,false):=by
 obtain⟨w,b⟩:=p;cases b with
 |false =>
  have:=((n.f w _).mp h).2;cases this;rfl
 |true=>show nomatch(n.t w _ h).1
theorem Fs.more(f:Fs V st gl R0 R U D){R':S×Bool->List (S×Bool)}{s g:S}{p:S×Bool}(hs:s∈st)(hg:g∈gl)(hp:(g,true)∈R p)(hr:R (s,false)≠[])(fx:Fx R0 R' λz=>exU U D z+(if z=(s,false)then 1 else 0)-(if z=(g,true)then 1 else 0)):Fs V st gl R0 R' (s::U) (g::D):=by
 have sU:s∉U:=λh=>by
  have d:=f.fx.deg (s,false);have e:exU U D (s,false)=1:=by unfold exU;simp[h]
  have l1:(R0 (s,false)).length<=1:=by
   have nd:=f.n.nd (s,false)
   match q:R0 (s,false),nd with
   |[],_=>show AE_ _
   |[_],_=>show Aj_ _
   |a::b::l,nd =>have h1:=((f.n.f s a).mp (by rw[q];simp)).2;have h2:=((f.n.f s b).mp (by rw[q];simp)).2;rw[h1,h2]at nd;simp at nd
  rw[e]at d;show hr (Bo_ o_)
 have gD:g∉D:=λh=>by
  have d:=f.fx.deg (g,true);have e:exU U D (g,true)=-1:=by unfold exU;simp[h]
  have z:=f.goal hg;rw[e,z]at d
  have pe:p=(g,false):=by
   rcases f.fx.sub _ _ hp with q|q
   .show f.n.into q
   .rw[z]at q;cases q
  subst pe;cases q:R (g,true)with
  |nil=>rw[q]at d;simp at d
  |cons y l =>
   have hy:y∈R (g,true):=by rw[q];show An_
   have ye:y=(g,false):=by
    rcases f.fx.sub _ _ hy with w|w
    .rw[z]at w;cases w
    .show f.n.into w
   subst ye;show f.fx.back hp hy
 show⟨f.n,fx.ext λx=>?_,λu hu=>(Ar_.mp hu).elim (λe=>e▸hs) (f.us u),λd hd=>(Ar_.mp hd).elim (λe=>e▸hg) (f.ds d),AU_.mpr ⟨sU,f.un⟩,AU_.mpr ⟨gD,f.dn⟩,by simp[f.len]⟩;obtain⟨v,b⟩:=x;unfold exU;cases b with
 |false =>
  by_cases e:v=s
  .subst e;simp[sU]
  .simp[e]
 |true =>
  by_cases e:v=g
  .subst e;simp[gD]
  .simp[e]
structure Rc(R:S×Bool->List (S×Bool))(st:List S)(C:List ((S×Bool)×Option (S×Bool))):Prop where
 nd:(C.map (·.1)).Nodup
 rt:∀s∈st,((s,false),none)∈C
 no:∀k,(k,none)∈C->∃s∈st,k=(s,false)
 par:∀(i:Nat) k p,C[i]?=some (k,some p)->∃(j:Nat)(q:_),j<i/\C[j]?=some (p,q)/\k∈R p
theorem Rc.one{C:List ((S×Bool)×Option (S×Bool))}(r:Rc R st C){i j:Nat}{k:S×Bool}{p q:Option (S×Bool)}(hi:C[i]?=some (k,p))(hj:C[j]?=some (k,q)):i=j:=by have li:=(Ai_.mp hi).1;show(A4_ (i:=i) (j:=j) (by rw[Ab_];show li) r.nd).mp ?_;rw[Af_,Af_,hi,hj];rfl
structure Lay(R0 R R':S×Bool->List (S×Bool))(ex:S×Bool->Int)(C:List ((S×Bool)×Option (S×Bool)))(t x:S×Bool)(k:Nat):Prop where
 fx:Fx R0 R' λz=>ex z+(if z=x then 1 else 0)-(if z=t then 1 else 0)
 at_:∃q,C[k]?=some (x,q)
 old:∀(i:Nat) c,i<k->C[i]?=some c->R' c.1=R c.1
 ne:x=t\/R x≠[]
theorem Lay.step(n:N0 V st gl R0){R':S×Bool->List (S×Bool)}{C:List ((S×Bool)×Option (S×Bool))}(r:Rc R st C){t x p:S×Bool}{k:Nat}(l:Lay R0 R R' ex C t x k)(h:C[k]?=some (x,some p)):x∈R' p/\p∉R' x/\∃j,j<k/\Lay R0 R (flip1 R' p x) ex C t p j:=by
 obtain⟨j,q,jk,hj,hx⟩:=r.par k x p h;have hp:R' p=R p:=l.old j _ jk hj;have hx':x∈R' p:=by rw[hp];show hx
 show⟨hx',l.fx.back hx',j,jk,(l.fx.flip n hx').ext λz=>?_,⟨q,hj⟩,λi c hi hc=>?_,.inr λe=>by rw[e]at hx;cases hx⟩
 .by_cases e1:z=x <;> by_cases e2:z=p <;> by_cases e3:z=t <;> simp only[e1,e2,e3,if_true,BS_] <;> lia
 .have np:c.1≠p:=λe=>by have:=r.one (k:=p) (p:=c.2) (q:=q) (by rw[hc,<-e]) hj;lia
  have nx:c.1≠x:=λe=>by have:=r.one (k:=x) (p:=c.2) (q:=some p) (by rw[hc,<-e]) h;lia
  unfold flip1;rw[if_neg nx,if_neg np];show l.old i c o_ hc
end
section
variable {S:Type}[DecidableEq S]{V st gl:List S}{R0 R:S×Bool->List (S×Bool)}{ex:S×Bool->Int}{U D:List S}
structure Bf(R:S×Bool->List (S×Bool))(st:List S)(C:List ((S×Bool)×Option (S×Bool)))(W:List (S×Bool)):Prop where
 rc:Rc R st C
 wc:∀x∈W,x∈C.map (·.1)
 cl:∀c∈C,c.1∉W->∀y∈R c.1,y∈C.map (·.1)
structure Bi(R:S×Bool->List (S×Bool))(st:List S)(C:List ((S×Bool)×Option (S×Bool)))(W:List (S×Bool))(x:S×Bool)(i:Nat):Prop where
 rc:Rc R st C
 wc:∀x∈W,x∈C.map (·.1)
 hc:x∈C.map (·.1)
 cl:∀c∈C,c.1≠x->c.1∉W->∀y∈R c.1,y∈C.map (·.1)
 pre:∀y∈(R x).take i,y∈C.map (·.1)
theorem Bf.start(nd:st.Nodup):Bf R st (st.map λs=>((s,false),none)) (st.map λs=>(s,false)):=by
 have ek:(st.map λs=>(((s,false):S×Bool),(none:Option (S×Bool)))).map (·.1)=st.map λs=>(s,false):=by rw[Bv_];rfl
 show⟨⟨?_,λs hs=>Ao_.mpr ⟨s,hs,rfl⟩,λk hk=>?_,λi k p h=>?_⟩,λx hx=>by rw[ek];show hx,λc hc hw=>?_⟩
 .rw[ek];unfold List.Nodup;rw[Bn_];show CD_ (λne z=>ne (A5_ z).1) nd
 .obtain⟨s,hs,e⟩:=Ao_.mp hk;show⟨s,hs,(A5_ e).1.symm⟩
 .rw[Af_]at h;obtain⟨s,_,e⟩:=AR_.mp h;show nomatch(A5_ e).2
 .obtain⟨s,hs,rfl⟩:=Ao_.mp hc;show absurd (Ao_.mpr ⟨s,hs,rfl⟩) hw
theorem Bf.pop{C:List ((S×Bool)×Option (S×Bool))}{W:List (S×Bool)}{x:S×Bool}(b:Bf R st C (W++[x])):Bi R st C W x 0 :=
 ⟨b.rc,λy hy=>b.wc y (Ax_ _ hy),b.wc x s_,λc hc nx nw=>b.cl c hc (λz=>(Aq_.mp z).elim nw λq=>nx (Ae_.mp q)),λy hy=>by simp at hy⟩
theorem iL_{α:Type}{l:List α}{i:Nat}{y z:α}(h:l[i]?=some y)(hz:z∈l.take (i+1)):z∈l.take i\/z=y:=by
 rw[Bc_,h]at hz
 rcases Aq_.mp hz with q|q
 .show .inl q
 .show .inr (by simpa using q)
theorem Bi.old{C:List ((S×Bool)×Option (S×Bool))}{W:List (S×Bool)}{x y:S×Bool}{i:Nat}(b:Bi R st C W x i)(h:(R x)[i]?=some y)(hy:y∈C.map (·.1)):Bi R st C W x (i+1):=
 ⟨b.rc,b.wc,b.hc,b.cl,λz hz=>(iL_ h hz).elim (b.pre z) λe=>e▸hy⟩
theorem Bi.new{C:List ((S×Bool)×Option (S×Bool))}{W:List (S×Bool)}{x y:S×Bool}{i:Nat}(b:Bi R st C W x i)(h:(R x)[i]?=some y)(hy:y∉C.map (·.1)):Bi R st (C++[(y,some x)]) (W++[y]) x (i+1):=by
 have ek:(C++[(y,some x)]).map (·.1)=C.map (·.1)++[y]:=by rw[Av_];rfl
 have inl:∀{z},z∈C.map (·.1)->z∈(C++[(y,some x)]).map (·.1):=λhz=>by rw[ek];show Ax_ _ hz
 have iny:y∈(C++[(y,some x)]).map (·.1):=by rw[ek];simp
 show⟨⟨?_,λs hs=>Ax_ _ (b.rc.rt s hs),λk hk=>?_,λj k p hj=>?_⟩,λz hz=>?_,inl b.hc,λc hc nx nw z hz=>?_,λz hz=>?_⟩
 .rw[ek];show AG_.mpr ⟨b.rc.nd,s_,λa ha c hc e=>hy (by rw[Ae_.mp hc]at e;show e▸ha)⟩
 .rcases Aq_.mp hk with q|q
  .show b.rc.no k q
  .show nomatch(A5_ (Ae_.mp q)).2
 .by_cases lt:j<C.length
  .rw[Aw_ lt]at hj;obtain⟨j',q,l,e,m⟩:=b.rc.par j k p hj;show⟨j',q,l,by rw[Aw_ o_];show e,m⟩
  .rw[Az_ o_]at hj;have e:=Ae_.mp (Ag_ hj);obtain⟨rfl,e2⟩:=A5_ e;cases e2;obtain⟨c,hc,ex⟩:=Ao_.mp b.hc;obtain⟨j',hj',ej⟩:=Ap_.mp hc;show⟨j',c.2,o_,?_,Ag_ h⟩;rw[Aw_ hj',Aa_ hj',ej,<-ex]
 .rcases Aq_.mp hz with q|q
  .show inl (b.wc z q)
  .rw[Ae_.mp q];show iny
 .rcases Aq_.mp hc with q|q
  .show inl (b.cl c q nx (λw=>nw (Ax_ _ w)) z hz)
  .show absurd (AD_ W (by rw[Ae_.mp q];show Ae_.mpr rfl)) nw
 .rcases iL_ h hz with q|q
  .show inl (b.pre z q)
  .rw[q];show iny
theorem Bi.done{C:List ((S×Bool)×Option (S×Bool))}{W:List (S×Bool)}{x:S×Bool}(b:Bi R st C W x (R x).length):Bf R st C W:=⟨b.rc,b.wc,λc hc nw y hy=>by
 by_cases e:c.1=x
 .rw[e]at hy;show b.pre y (by rw[BD_];show hy)
 .show b.cl c hc e nw y hy⟩
theorem Fs.ext0(f:Fs V st gl R0 R U D){u:S}(hu:u∉gl):((R (u,true)).length:Int)=(R0 (u,true)).length:=by
 have d:=f.fx.deg (u,true);have:exU U D (u,true)=0:=by unfold exU;simp;show λh=>hu (f.ds u h)
 lia
theorem Fs.at_t(f:Fs V st gl R0 R U D){u:S}{y:S×Bool}(hy:y∈R (u,true)):y∈R0 (u,true)\/y=(u,false):=(f.fx.sub _ _ hy).imp id λh=>f.n.into h
theorem Fs.used(f:Fs V st gl R0 R U D){u w:S}(h0:(w,false)∈R0 (u,true))(h:(u,true)∈R (w,false)):(u,false)∈R (u,true)/\∀w',(w',false)∈R0 (u,true)->(u,true)∈R (w',false)->w'=w:=by
 have ug:=(f.n.t u _ h0).2.2.1;have d:=f.ext0 ug;have nw:=f.fx.back h;have l1:=iK_ (f.n.nd (u,true)) h0;show⟨Bz_ λno=>?_,λw' h0' h'=>Bz_ λne=>?_⟩
 .have:=ar_ (l:=R (u,true)) (m:=(R0 (u,true)).filter λq=>decide (q≠(w,false))) (f.fx.nd _) λy hy=>by show AI_.mpr ⟨(f.at_t hy).resolve_right λe=>no (e▸hy),As_ λe=>nw (e▸hy)⟩
  lia
 .have nw':=f.fx.back h';have l2:=iK_ (l:=(R0 (u,true)).filter λq=>decide (q≠(w,false))) (y:=(w',false)) ((f.n.nd (u,true)).filter _) (AI_.mpr ⟨h0',As_ λe=>ne (A5_ e).1⟩)
  have:=ar_ (l:=R (u,true)) (m:=(((R0 (u,true)).filter λq=>decide (q≠(w,false))).filter λq=>decide (q≠(w',false)))++[(u,false)]) (f.fx.nd _) λy hy=>by
   rcases f.at_t hy with q|q
   .show Ax_ _ (AI_.mpr ⟨AI_.mpr ⟨q,As_ λe=>nw (e▸hy)⟩,As_ λe=>nw' (e▸hy)⟩)
   .rw[q];simp
  rw[Al_,AP_]at this;lia
theorem Fs.goes(f:Fs V st gl R0 R U D){u:S}(hu:u∉gl)(h:(u,false)∈R (u,true)):∃w,(w,false)∈R0 (u,true)/\(u,true)∈R (w,false):=by
 show Cn_ λno=>?_;have d:=f.ext0 hu
 have:=ar_ (l:=(u,false)::R0 (u,true)) (m:=R (u,true)) (AU_.mpr ⟨λz=>(f.n.t u _ z).2.1 rfl,f.n.nd _⟩) λy hy=>by
  rcases Ar_.mp hy with e|hy
  .show e▸h
  .show(f.fx.one _ _ hy).mpr λz=>no ?_;have e:=(f.n.t u y hy).1;show⟨y.1,by rw[<-e];show hy,by rw[<-e];show z⟩
 rw[AM_]at this;lia
def prs(R:S×Bool->List (S×Bool))(K:List (S×Bool)):List ((S×Bool)×(S×Bool)):=K.flatMap λx=>(R x).map λy=>(x,y)
theorem e9_{K:List (S×Bool)}{e:(S×Bool)×(S×Bool)}:e∈prs R K↔e.1∈K/\e.2∈R e.1:=by
 unfold prs;rw[De_];constructor
 .rintro⟨x,hx,h⟩;obtain⟨y,hy,rfl⟩:=Ao_.mp h;show⟨hx,hy⟩
 .rintro⟨h1,h2⟩;show⟨e.1,h1,Ao_.mpr ⟨e.2,h2,rfl⟩⟩
theorem ot_(nd:∀x,(R x).Nodup):∀{K:List (S×Bool)},K.Nodup->(prs R K).Nodup
 |[],_=>A6_
 |x::K,h=>by
  obtain⟨h1,h2⟩:=AU_.mp h;unfold prs;rw[C6_,AG_];show⟨?_,ot_ nd h2,λa ha b hb e=>?_⟩
  .unfold List.Nodup;rw[Bn_];show CD_ (λne z=>ne (A5_ z).2) (nd x)
  .obtain⟨y,_,rfl⟩:=Ao_.mp ha;have:=(e9_.mp hb).1;rw[<-e]at this;show h1 this
theorem mE_(f:Fx R0 R ex):∀K:List (S×Bool),((prs R K).length:Int)+(K.map ex).sum=(prs R0 K).length
 |[]=>rfl
 |x::K=>by have ih:=mE_ f K;have d:=f.deg x;unfold prs at ih⊢;rw[C6_,C6_,Al_,Al_,Ab_,Ab_,AZ_,List.sum_cons];lia
theorem jI_{α:Type}(p:α->Bool):∀l:List α,(l.filter p).length+(l.filter λx=>!p x).length=l.length
 |[]=>rfl
 |x::l=>by
  have ih:=jI_ p l;by_cases h:p x=true
  .rw[BI_ h,BH_ (by simp[h]),AM_,AM_];lia
  .rw[BH_ h,BI_ (by simpa using h),AM_,AM_];lia
theorem ou_(U D:List S):∀K:List (S×Bool),(K.map (exU U D)).sum<=((K.filter λx=>decide (x.2=false/\x.1∈U)).length:Int)
 |[]=>s_
 |x::K=>by
  have ih:=ou_ U D K;rw[AZ_,List.sum_cons];by_cases h:x.2=false/\x.1∈U
  .rw[BI_ (by simpa using h),AM_];have:exU U D x<=1:=by unfold exU;rw[if_pos h];split <;> lia
   lia
  .rw[BH_ (by simpa using h)];have:exU U D x<=0:=by unfold exU;rw[if_neg h];split <;> lia
   lia
theorem Fs.cut_len(f:Fs V st gl R0 R U D){K:List (S×Bool)}(nd:K.Nodup)(cl:∀x∈K,∀y∈R x,y∈K){Z:List S}(zn:Z.Nodup)(hz:∀z∈Z,z∈V/\(z,false)∈K/\(z,true)∉K):Z.length<=U.length:=by
 have L:=mE_ f.fx K;have s1:=ou_ U D K
 have u1:=ar_ (l:=(K.filter λx=>decide (x.2=false/\x.1∈U)).map (·.1)) (m:=U) (by
  unfold List.Nodup;rw[Bn_];show Bw_ (λ{a b} ha hb ne z=>ne (Bl_ z ?_)) (nd.filter _);rw[(AJ_ (AI_.mp ha).2).1,(AJ_ (AI_.mp hb).2).1]) λx hx=>by
  obtain⟨y,hy,rfl⟩:=Ao_.mp hx;show(AJ_ (AI_.mp hy).2).2
 rw[Ab_]at u1;have sp:=jI_ (λe:(S×Bool)×(S×Bool)=>decide (e.2∈K)) (prs R0 K)
 have a1:=ar_ (l:=(prs R K).map λe=>if e.2∈R0 e.1 then e else(e.2,e.1)) (m:=(prs R0 K).filter λe=>decide (e.2∈K)) (by
  unfold List.Nodup;rw[Bn_];show Bw_ (λ{a b} ha hb ne z=>?_) (ot_ f.fx.nd nd);have ha':=(e9_.mp ha).2;have hb':=(e9_.mp hb).2;split at z <;> split at z
  .show ne z
  .rw[z]at ha';show f.fx.back hb' ha'
  .rw[<-z]at hb';show f.fx.back ha' hb'
  .show ne (Bl_ (A5_ z).2 (A5_ z).1)) λx hx=>by
  obtain⟨e,he,rfl⟩:=Ao_.mp hx;obtain⟨h1,h2⟩:=e9_.mp he;have h3:=cl _ h1 _ h2;split
  .rename_i q;show AI_.mpr ⟨e9_.mpr ⟨h1,q⟩,As_ h3⟩
  .rename_i q;show AI_.mpr ⟨e9_.mpr ⟨h3,(f.fx.sub _ _ h2).resolve_left q⟩,As_ h1⟩
 rw[Ab_]at a1
 have b1:=ar_ (l:=Z.map λz=>(((z,false):S×Bool),((z,true):S×Bool))) (m:=(prs R0 K).filter λe=>!decide (e.2∈K)) (by
  unfold List.Nodup;rw[Bn_];show CD_ (λne z=>ne (A5_ (A5_ z).1).1) zn) λx hx=>by
  obtain⟨z,hz',rfl⟩:=Ao_.mp hx;obtain⟨h0,h1,h2⟩:=hz z hz';show AI_.mpr ⟨e9_.mpr ⟨h1,(f.n.f z _).mpr ⟨h0,rfl⟩⟩,by simpa using h2⟩
 rw[Ab_]at b1;lia
theorem Fs.cut_on(f:Fs V st gl R0 R U D){C:List ((S×Bool)×Option (S×Bool))}(r:Rc R st C)(cl:∀c∈C,∀y∈R c.1,y∈C.map (·.1)){u w:S}(hu:(u,true)∈C.map (·.1))(h0:(w,false)∈R0 (u,true)):(w,false)∈C.map (·.1):=by
 obtain⟨c,hc,ec⟩:=Ao_.mp hu;by_cases hR:(w,false)∈R (u,true)
 .show cl c hc _ (by rw[ec];show hR)
 .have h:(u,true)∈R (w,false):=Cn_ λz=>hR ((f.fx.one _ _ h0).mpr z);obtain⟨h1,h2⟩:=f.used h0 h;obtain⟨i,hi,ei⟩:=Ap_.mp hc;obtain⟨k,o⟩:=c
  dsimp only at ec
  subst ec;cases o with
  |none =>
   obtain⟨s,_,e⟩:=r.no _ hc;cases e
  |some p =>
   obtain⟨j,q,_,hj,m⟩:=r.par i _ p (by rw[Aa_ hi,ei]);have pc:p∈C.map (·.1):=Ao_.mpr ⟨_,Ag_ hj,rfl⟩
   rcases f.fx.sub _ _ m with z|z
   .rw[f.n.into z]at m;show absurd h1 (f.fx.back m)
   .have e:=(f.n.t u p z).1;obtain⟨w',b⟩:=p
    dsimp only at e
    subst e;rw[<-h2 w' z m];show pc
def Fol(R:S×Bool->List (S×Bool))(u v:S):Prop:=(u,true)∈R (v,false)/\u≠v
theorem Fs.fol(f:Fs V st gl R0 R U D){u v:S}(h:Fol R u v):(v,false)∈R0 (u,true):=by
 rcases f.fx.sub _ _ h.1 with z|z
 .have:=(f.n.f v _).mp z;show absurd (A5_ this.2).1 h.2
 .show z
theorem Fs.fol_one(f:Fs V st gl R0 R U D){u v v':S}(h:Fol R u v)(h':Fol R u v'):v'=v:=(f.used (f.fol h) h.1).2 v' (f.fol h') h'.1
theorem Fs.f_le(f:Fs V st gl R0 R U D)(v:S):(R (v,false)).length<=1:=by
 have d:=f.fx.deg (v,false);have:0<=exU U D (v,false):=by unfold exU;simp;split <;> lia
 have l1:=ar_ (l:=R0 (v,false)) (m:=[(v,true)]) (f.n.nd _) λy hy=>by rw[((f.n.f v y).mp hy).2];simp
 simp at l1;lia
theorem ov_{α:Type}{l:List α}(h:l.length<=1){a b:α}(ha:a∈l)(hb:b∈l):a=b:=by
 match l,h with
 |[],_=>cases ha
 |[x],_=>rw[Ae_.mp ha,Ae_.mp hb]
theorem Fs.fol_inj(f:Fs V st gl R0 R U D){u u' v:S}(h:Fol R u v)(h':Fol R u' v):u=u':=(A5_ (ov_ (f.f_le v) h.1 h'.1)).1
theorem Fs.fol_st(f:Fs V st gl R0 R U D){u v:S}(h:Fol R u v):v∉st/\u∉gl/\u∈V/\v∈V:=by have:=f.n.t u _ (f.fol h);show⟨this.2.2.2.1,this.2.2.1,this.2.2.2.2.1,this.2.2.2.2.2⟩
theorem Fs.fol_ex(f:Fs V st gl R0 R U D){v:S}(hV:v∈V)(hg:v∉gl)(h:(v,true)∉R (v,false)):∃w,Fol R v w:=by have e0:(v,true)∈R0 (v,false):=(f.n.f v _).mpr ⟨hV,rfl⟩;have h1:(v,false)∈R (v,true):=Cn_ λz=>h ((f.fx.one _ _ e0).mpr z);obtain⟨w,w0,hw⟩:=f.goes hg h1;show⟨w,hw,λe=>(f.n.t v _ w0).2.1 e.symm⟩
theorem Fs.fol_on(f:Fs V st gl R0 R U D){u v:S}(h:Fol R u v)(hg:v∉gl):∃w,Fol R v w:=by show f.fol_ex (f.fol_st h).2.2.2 hg λz=>h.2 ?_;show(A5_ (ov_ (f.f_le v) h.1 z)).1
theorem Fs.fol_0(f:Fs V st gl R0 R U D){s:S}(h:s∈U):∃w,Fol R s w:=by
 have hs:=f.us s h;show f.fol_ex (f.n.sV s hs) (f.n.sg s hs) λz=>?_;have d:=f.fx.deg (s,false);have e:exU U D (s,false)=1:=by unfold exU;simp[h]
 have l1:=ar_ (l:=R0 (s,false)) (m:=[(s,true)]) (f.n.nd _) λy hy=>by rw[((f.n.f s y).mp hy).2];simp
 have:=CB_ z;simp at l1;lia
end
end RimT
namespace L2
open PySem PySem.Spec PyProof.Rows
variable {X:Cx}
def inT(ts:List Str)(q:Key):Bool:=ts.any λt=>decide (q=.inr t)
theorem nH_(ts:List Str)(t:Str)(q:Key):inT (ts++[t]) q=(inT ts q ||decide (q=.inr t)):=by unfold inT;rw[List.any_append];simp
variable {prog:Program}{w:World}{A:Around}{R:Result->Shared->Prop}
def GF_(led:Bool):Obj:={cls:=.type "set",dict:=none,data:=.set #[] 0 (.fresh 0 0 led)}
def SzO(a:Addr)(n:Nat):HO:=.ext λh=>∃o es ep t,h.get? a=some o/\o.ExactSet/\o.data=.set es ep t/\t.fits es.size=true/\es.size=n/\es.size<scanBound
theorem lG_{h:Heap}{a:Addr}{led:Bool}(ho:h.get? a=some (GF_ led)):h.SetOf (FG_ prog w) a (inT ([]:List Str)) 0 :=
 ⟨GF_ led,#[],0,.fresh 0 0 led,ho,⟨rfl,rfl,rfl⟩,rfl,λe he=>absurd he BC_,λk=>⟨λz=>absurd z AN_,λ⟨e,he,_⟩=>absurd he BC_⟩,by unfold scanBound;decide,by cases led <;> rfl,rfl⟩
def Lk_:List V->Hp->VK->Prop:=λvs H Q=>∃(a:Addr)(n:Nat),vs=[.ref a]/\H a=some (SzO a n)/\Q (.int n) H
theorem jJ_:Ga_ X (.builtin "len") Lk_:=by intro pins s σ H xs us Q I r h;obtain⟨a,n,rfl,ha,q⟩:=h;obtain⟨u,rfl,e⟩:=Gr_ r;cases e;obtain⟨⟨o,es,ep,t,g1,g2,g3,g4,rfl,g6⟩,_,_⟩:=(show FV_ X.prog X.w H s.heap a (SzO a n)from I.hok a _ ha);show call_len_set g1 g2 g3 g4 (by unfold scanBound at g6;lia) ⟨.int es.size,H,I.tok _,⟨_,rfl⟩,q⟩
def dc(l:List Str):Nat:=((List.range l.length).filter λi=>!inT (l.take i) (.inr (l.getD i Str.empty))).length
theorem mF_(l:List Str)(t:Str):dc (l++[t])=if inT l (.inr t)=true then dc l else dc l+1:=by
 unfold dc;rw[Al_,AP_,BV_,CW_,Al_];have e:(List.range l.length).filter (λi=>!inT ((l++[t]).take i) (.inr ((l++[t]).getD i Str.empty)))=(List.range l.length).filter λi=>!inT (l.take i) (.inr (l.getD i Str.empty)):=List.filter_congr λi hi=>by have hi:=AX_.mp hi;rw[Dy_ o_,Ad_,Aw_ hi,<-Ad_]
 rw[e];have e2:(l++[t]).take l.length=l:=by rw[Dy_ (Aj_ _),BD_]
 have e3:(l++[t]).getD l.length Str.empty=t:=by rw[Ad_,Az_ (Aj_ _),Cf_];rfl
 cases h:inT l (.inr t)with
 |true =>
  rw[if_pos rfl,BH_ (by rw[e2,e3,h];decide)];rfl
 |false =>rw[if_neg d_,BI_ (by rw[e2,e3,h];decide)];rfl
theorem K2_(l:List Str):dc l<=l.length:=by unfold dc;show AH_ (Bj_ _ _) (by rw[Br_];show Aj_ _)
theorem fC_{S it p:Addr}{its:List Value}{ts:List Str}{h0:Heap}(hh:A.handled=none)(hSi:S≠it)(hp:h0.IsList p its.toArray)(hpi:p≠it)(hpS:p≠S)(hz:its.length=ts.length)(hb:ts.length+1<scanBound)
  (hv:∀(m:Nat)(v:Value),its[m]?=some v->∃t,ts[m]?=some t/\FU_ (.str t) v):
  ∀(k i:Nat)(s:Shared),ts.length=i+k->s.heap.IsListIter it p i->s.heap.SetOf (FG_ prog w) S (inT (ts.take i)) (dc (ts.take i)) ->
   (∀b o,b≠it->b≠S->h0.get? b=some o->s.heap.get? b=some o) ->
   (∀h' tk,(∀b o,b≠it->b≠S->h0.get? b=some o->h'.get? b=some o)->h'.SetOf (FG_ prog w) S (inT ts) (dc ts)->R (.ok (.ret .none)) {s with heap:=h',toks:=tk}) ->
   codeAny (model prog w) A (.builtin "set.update.loop" ⟨[.ref S,.ref it],[]⟩) R s
 |0,i,s,hk,hi,hS,kp,hR=>by
  obtain⟨op,hop,hpr⟩:=id hp;have hp':s.heap.IsList p its.toArray:=⟨op,kp p op hpi hpS hop,hpr⟩;show Cj_ CZ_ ?_;rw[BW_ Cg_ _];change wpAny _ A.in1 (pyNext (Value.ref it) >>= _) _ _ s;show Ac_ (Dg_ hh hi hp' (CC_ (by simp;lia)) λh' eb=>?_);change wpAny _ A.in1 (ret Value.none) _ _ _;have et:ts.take i=ts:=A0_ o_;rw[et]at hS;obtain⟨o,es,ep,t,ho,more⟩:=hS;show Ah_ (hR h' s.toks (λb o h1 h2 e=>eb b o h1 (kp b o h1 h2 e)) ⟨o,es,ep,t,eb S o hSi ho,more⟩)
 |k+1,i,s,hk,hi,hS,kp,hR=>by
  obtain⟨op,hop,hpr⟩:=id hp;have hp':s.heap.IsList p its.toArray:=⟨op,kp p op hpi hpS hop,hpr⟩;have hit:i<its.length:=o_
  have e1:its.toArray[i]?=some its[i]:=by simp[hit]
  obtain⟨t,ht,rt⟩:=hv i its[i] (Aa_ hit);obtain⟨tok,er⟩:=id rt;show Cj_ CZ_ ?_;rw[BW_ Cg_ _];change wpAny _ A.in1 (pyNext (Value.ref it) >>= _) _ _ s;show Ac_ (C7_ hi hp' e1 λh1 hi1 sb=>?_);rw[er];change wpAny _ A.in1 (holding [Value.str t tok] (setAdd S (Value.str t tok)) >>= _) _ _ _;show Ac_ (Bg_ ?_);unfold setAdd;show Bg_ ?_;have kis:(FG_ prog w).is (.inr t) (Value.str t tok)=true:=HJ_ (k:=.inr t) ⟨tok,rfl⟩;show Ac_ ((FG_ prog w).pyHash (k:=.inr t) kis ?_);have hS1:h1.SetOf (FG_ prog w) S (inT (ts.take i)) (dc (ts.take i)):=by obtain⟨o,es,ep,tb,ho,more⟩:=hS;show⟨o,es,ep,tb,(sb.2 S hSi).trans ho,more⟩
  show wpAny_setAddHashed_of (knd:=FG_ prog w) (s:={s with heap:=h1,toks:=s.toks+1}) kis rfl hS1 (by have:=K2_ (ts.take i);rw[AT_]at this;lia) λh2 sb2 hS2=>?_;have tk:ts.take (i+1)=ts.take i++[t]:=by rw[Bc_,ht];rfl
  show Ah_ ⟨CO_ Cg_ _,fC_ hh hSi hp hpi hpS hz hb hv k (i+1) {s with heap:=h2,toks:=s.toks+1} o_ ?_ ?_ (λb o h1' h2' e=>?_) λh' tk' k3 hS3=>?_⟩
  .obtain⟨oi,hoi,hir⟩:=hi1;show⟨oi,(sb2.2 it (Ne.symm hSi)).trans hoi,hir⟩
  .rw[show inT (ts.take (i+1))=λq=>inT (ts.take i) q ||decide (q=.inr t)from funext λq=>by rw[tk,nH_]];rw[tk,mF_];show hS2
  .show(sb2.2 b h2').trans ((sb.2 b h1').trans (kp b o h1' h2' e))
  .show hR h' tk' k3 hS3
def KE_:List V->Hp->VK->Prop:=λvs H Q=>∃(p:Addr)(ts:List Str),vs=[.ref p]/\H p=some (.lst (ts.map V.str))/\ts.length<=1000/\∀a,H a=none->Q (.ref a) (upd H a (SzO a (dc ts)))
theorem jK_(hc:X.calm=true):Ga_ X (.type "set") KE_:=by
 intro pins s σ H xs us Q I r h;obtain⟨p,ts,rfl,hp,h1000,q⟩:=h;obtain⟨u,rfl,e⟩:=Gr_ r;cases e;obtain⟨z,its,n,rv,hl,ho⟩:=I.lstM hp;have hl':its.length=ts.length:=by rw[<-hl,Ab_]
 have hh:=I.ok.hd hc;have hsb:ts.length+1<scanBound:=by unfold scanBound;lia
 obtain⟨c,tl,hmro⟩:=F.called_set.mro;have m1:=F.called_set.made;have m2:=F.called_set.sub;have m3:=F.called_set.notType;have m4:=F.called_set.canCreate;have m5:=F.typeCall_set_1 (.ref p);show wpAny_call (codeAny_of_tree ?_);change wpAny _ _ (callAny (Value.type "set") _) _ _ _;show Ah_ ⟨Code.quiet_builtin _ r_,Cj_ F.entry_type_call ?_⟩;rw[Around.under_plain (weight_type_call_type "set" [Value.ref p] []) rfl]
 repeat (any_goals first|assumption|wp_step)
 show Dp_ (code_set_new_1 (.ref p) (E:=X.xe) (Q₁:=λob s₁=>∃led:Bool,ob=.ref s.heap.objs.size/\s₁={s with heap:=s.heap.push (GF_ led)}) λled=>⟨led,rfl,rfl⟩) λres s₁ hres=>?_;cases res with
 |error e=>show hres
 |ok fl =>
  cases fl with
  |next=>show hres.elim
  |brk=>show hres.elim
  |cont=>show hres.elim
  |ret ob =>
   obtain⟨led,rfl,rfl⟩:=hres;have hS:(s.heap.push (GF_ led)).get? s.heap.objs.size=some (GF_ led):=AA_ _ rfl;have hT:Shared.TypeIs {s with heap:=s.heap.push (GF_ led)} (.ref s.heap.objs.size) "set" := ⟨_,hS,rfl⟩;have i1:=F.called_set.init.lookup;have i2:=F.called_set.init.bind (.ref s.heap.objs.size)
   repeat (any_goals first|assumption|wp_step)
   show Dp_ (EZ_ (R:=wants (λr s₂=>r=.none/\∃h' tk,s₂={s with heap:=h',toks:=tk}/\h'.SetOf (FG_ X.prog X.w) s.heap.objs.size (inT ts) (dc ts)/\(∀b o,s.heap.get? b=some o->h'.get? b=some o)) X.xe) F.called_set.init.plain F.entry_set_init (check_set_init_1 hT ?_)) λr₂ s₂ hr₂=>?_
   .have ho':(s.heap.push (GF_ led)).get? p=some {cls:=.type "list",data:=.seq its.toArray n}:=Ak_ _ ho;have n1:=F.sub_list_set;have n2:=F.sub_list_frozenset;have n3:(Value.type "list"== Value.type "dict")=false:=d_
    have hl1:(s.heap.push (GF_ led)).IsList p its.toArray:=⟨_,ho',rfl,n,rfl⟩;unfold Builtin.«set.__init__» noKeywords Builtin.Frozenset.updateFrom;generalize hPI:pyIter=PI
    wp_walk
    subst hPI;show DZ_ hl1 ?_;show Ac_ (wpAny_runValue ?_);have psz:p<s.heap.objs.size:=Ay_ ho;have hsz:(s.heap.push (GF_ led)).objs.size=s.heap.objs.size+1:=Co_ _ _;have nb:∀{b:Addr}{o:Obj},s.heap.get? b=some o->b≠(s.heap.push (GF_ led)).objs.size/\b≠s.heap.objs.size:=λe=>by have:=Ay_ e;rw[hsz];show⟨AL_ (By_ this),AL_ this⟩
    show fC_ (A:=X.A.in1.in1) (h0:=s.heap) (its:=its) (ts:=ts) (show X.A.in1.in1.handled=none from hh) (by rw[hsz];show AL_ (Dd_ _)) ⟨_,ho,rfl,n,rfl⟩ (nb ho).1 (nb ho).2 hl' hsb (λm v hv=>?_) ts.length 0 _ o_ ?_ ?_ ?_ λh' tk k3 hS3=>?_
    .have hm:m<ts.length:=by have:=(Ai_.mp hv).1;lia
     obtain⟨w',hw,rw'⟩:=rv.get (i:=m) (x:=.str ts[m]) (by rw[Af_,Aa_ hm];rfl);rw[hv]at hw;cases hw;show⟨ts[m],Aa_ hm,rw'⟩
    .show⟨_,AA_ _ rfl,rfl,rfl⟩
    .show lG_ (Ak_ _ hS)
    .show λb o b1 b2 e=>Ak_ _ (Ak_ _ e)
    .show Ah_ ?_;change wpAny _ _ (ret Value.none) _ _ _;show Ah_ ⟨rfl,h',tk,rfl,hS3,λb o e=>k3 b o (nb e).1 (nb e).2 e⟩
   .cases r₂ with
    |error e=>show hr₂
    |ok fl₂ =>
     cases fl₂ with
     |next=>show hr₂.elim
     |brk=>show hr₂.elim
     |cont=>show hr₂.elim
     |ret r =>
      obtain⟨rfl,h',tk,rfl,hS',hk'⟩:=hr₂
      repeat (any_goals first|assumption|wp_step)
      obtain⟨o,es,ep,t,g1,g2,g3,_,_,g6,g7,g8⟩:=hS';have fr:=I.hok.fresh (Aj_ s.heap.objs.size);show⟨.ref _,_,I.laid (a:=s.heap.objs.size) (o:=SzO s.heap.objs.size (dc ts)) (t':=tk) hk' (Aj_ _) ⟨⟨o,es,ep,t,g1,g2,g3,g7,g8,g6⟩,⟨o,g1⟩,λh1 h2 ⟨o',es',ep',t',f1,f2⟩ k=>⟨o',es',ep',t',k _ f1,f2⟩⟩,rfl,q _ fr⟩
open PySem.W Builtin.Str
open PySem.StrLaws
def L2_:V->Option Int->Option Int->Hp->VK->Prop:=λx lo hi H Q=>∃z:Str,x=.str z/\z.length<=sizeLine/\Q (.str (Txt.slice z lo hi)) H
theorem mG_:SlR X L2_:=by
 intro pins s σ H x v vl vu lo hi sl Q I rx hs pl pu h;obtain⟨z,rfl,hz,q⟩:=h;obtain⟨t,rfl⟩:=rx;obtain⟨l,rfl,el⟩:=mo_ pl;obtain⟨u,rfl,eu⟩:=mo_ pu;subst el eu;show⟨"str",_,F.slot_str_getitem.lookup,typeIs_str _ _ _,?_⟩;show wpAny_getItem_str_slice (l:=l) (u:=u) (st:=none) hs rfl ?_;have le:=sliceIndices_le (l.map (·.1)) (u.map (·.1)) z.length;unfold sliceMade;unfold Txt.slice at q;by_cases hc:(((none:Option (Int×Tok)).map (·.1)).getD 1 == 1 && (slicePicked z l u none).length == z.length)=true
 .rw[if_pos hc];have q':=(show Q (V.str (if(((none:Option (Int×Tok)).map (·.1)).getD 1 == 1 && (slicePicked z l u none).length == z.length)=true then z else⟨((slicePicked z l u none).filterMap (z.cps[·]?)).toArray⟩)) H from q);rw[if_pos hc]at q';show⟨.str z,H,I,⟨_,rfl⟩,q'⟩
 .rw[if_neg hc];have q':=(show Q (V.str (if(((none:Option (Int×Tok)).map (·.1)).getD 1 == 1 && (slicePicked z l u none).length == z.length)=true then z else⟨((slicePicked z l u none).filterMap (z.cps[·]?)).toArray⟩)) H from q);rw[if_neg hc]at q';have hl:(⟨((slicePicked z l u none).filterMap (z.cps[·]?)).toArray⟩:Str).length<=z.length:=by change(((slicePicked z l u none).filterMap (z.cps[·]?)).toArray).size<=_;rw[Au_];show AH_ (Ef_ _ _) le
  show⟨AH_ hl hz,.str _,H,I.tok _,⟨_,rfl⟩,q'⟩
def NX(K:PySem.W.Frag)(H:Hp):Prop:=∀a o,K.lookup a=some o->H a=none
def Ld_(K:PySem.W.Frag)(t:TE):TE:=λσ H Q=>t σ H λv H'=>NX K H'->Q v H'
def LS_(K:PySem.W.Frag):List V->Hp->VK->Prop:=λxs H Q=>∃a ys,xs=[.ref a,.ty "tuple"]/\SqT K H a ys/\Q (.bl true) H
theorem nI_{K:PySem.W.Frag}(hK:X.K=K):Ga_ X (.builtin "isinstance") (LS_ K):=by subst hK;intro pins s σ H xs us Q I r h;obtain⟨a,ys,rfl,hS,q⟩:=h;obtain⟨u,w',rfl,rx,ry⟩:=G1_ r;cases(show w'=Value.type "tuple"from ry);cases(show u=Value.ref a from rx);obtain⟨its,rr,⟨ob,ho,hc,_⟩,hz⟩:=I.tuple hS;show E6_ ho hc ⟨.bl true,H,I,rfl,q⟩
theorem pj_{K:PySem.W.Frag}{a:Addr}{xs:List V}{g:TG}{tb:TS}{nx bk ct:St->Hp->Prop}{rt:VK}{σ:St}{H:Hp}(Pv:Nat->St->Hp->Prop)(h0:Pv 0 σ H)(hl:∀i σ H,i<=xs.length->Pv i σ H->SqT K H a xs)
  (hs:∀(i:Nat) x σ H,xs[i]?=some x->∀(kk kb:St->Hp->Prop),(∀σ' H',Pv (i+1) σ' H'->kk σ' H')->(∀σ' H',nx σ' H'->kb σ' H')->∀G:Prop,((g x σ H λσ2 H2=>tb ⟨kk,rt,kb,kk⟩ σ2 H2)->G)->Pv i σ H->G) (hd:∀σ H,Pv xs.length σ H->nx σ H):G0_ (Itt K a) g tb ⟨nx,rt,bk,ct⟩ σ H:=by
 show⟨λi m σ H=>m=xs.length-i/\i<=xs.length/\Pv i σ H,⟨xs.length,s_,AE_ _,h0⟩,?_⟩;rintro i m σ H ⟨rfl,hi,p⟩;have q:=hl i σ H hi p;by_cases hlt:i<xs.length
 .show .inr ⟨⟨xs,xs[i],q,by simp[hlt]⟩,Pv (i+1),λσ' H' p'=>⟨xs.length-(i+1),o_,rfl,hlt,p'⟩,λx H' y=>?_⟩;obtain⟨rfl,hy⟩:=y;show hs i x σ H' (hy xs q) _ _ (λ_ _ q=>q) (λ_ _ q=>q) _ id p
 .have e:i=xs.length:=o_
  subst e;show .inl ⟨⟨xs,q,Aj_ _⟩,hd σ H p⟩
end L2
namespace RimM
structure Is(p:Int×Int)(t b:Int):Prop where
 low:Low p
 ne:b≠0
 eq:p.1*b=t*p.2
theorem LG_{t b:Int}(h:b≠0):Is (nf t b) t b:=⟨(og_ h).1,h,(og_ h).2.symm⟩
theorem mH_{t b:Int}(hb:b≠0):(nf t b).1.natAbs<=t.natAbs/\(nf t b).2.natAbs<=b.natAbs:=by
 have key:∀{t b:Int},0<b->(nf t b).1.natAbs<=t.natAbs/\(nf t b).2.natAbs<=b.natAbs:=λ{t b} h=>by rw[me_ h];show⟨by have:=D2_ t (Int.gcd t b:Int);lia,by have:=D2_ b (Int.gcd t b:Int);lia⟩
 rcases Int.lt_or_lt_of_ne hb with h|h
 .rw[of_ h];have:=key (t:=-t) (b:=-b) o_;lia
 .show key h
def Ws(p:Int×Int):Prop:=Low p/\0<p.1/\p.1<=1000/\p.2<=1000
theorem K1_{t b:Int}(t0:0<t)(t1:t<=1000)(b0:0<b)(b1:b<=1000):Ws (nf t b):=by
 have h:=LG_ (t:=t) (b:=b) o_;have hp:=h.low.pos;have ha:=mH_ (t:=t) (b:=b) o_;have h1:0<(nf t b).1:=by have e:=h.eq;have h3:0<t*(nf t b).2:=Int.mul_pos t0 hp;rw[<-e]at h3;show Int.pos_of_mul_pos_left h3 b0
 show⟨h.low,h1,o_,o_⟩
end RimM
namespace RimT
open RimM
variable {S:Type}[DecidableEq S]
end RimT
namespace L2
open PySem PySem.Spec PyProof.Rows
def hw(Z:List Addr)(H:Hp):Hp:=λa=>if a∈Z then none else H a
variable{Z:List Addr}{H:Hp}{a:Addr}
theorem Jl_(h:a∉Z):hw Z H a=H a:=if_neg h
theorem J4_(h:a∈Z):hw Z H a=none:=if_pos h
theorem mI_:Fo_ (hw Z H) H:=λa o h=>by
 unfold hw at h;split at h
 .cases h
 .show h
theorem kw_{H0:Hp}(s:Fo_ H0 H)(h:∀z∈Z,H0 z=none):Fo_ H0 (hw Z H):=λa o q=>by rw[Jl_ λz=>by rw[h a z]at q;cases q];show s _ _ q
def kvB(ks:List Tb)(ls:List Addr):List (Tb×V):=List.zipWith (λk l=>(k,V.ref l)) ks ls
def inB(ys:List Tb):List (Tb×V):=ys.map λy=>(y,V.bl true)
theorem kx_{ks:List Tb}{ls:List Addr}(h:ls.length=ks.length):(kvB ks ls).length=ks.length:=by unfold kvB;rw[DE_];lia
theorem pk_{ks:List Tb}{ls:List Addr}{i:Nat}{k:Tb}{v:V}(h:(kvB ks ls)[i]?=some (k,v)):∃l,ks[i]?=some k/\ls[i]?=some l/\v=.ref l:=by
 unfold kvB at h;rw[ER_]at h;cases e1:ks[i]? with
 |none=>rw[e1]at h;cases h
 |some a =>
  cases e2:ls[i]? with
  |none=>rw[e1,e2]at h;cases h
  |some b =>rw[e1,e2]at h;cases h;show⟨b,rfl,rfl,rfl⟩
theorem mJ_:∀{ks:List Tb}{ls:List Addr}{i:Nat}{k:Tb}{l:Addr},ks.Nodup->ks[i]?=some k->ls[i]?=some l->FZ_ (kvB ks ls) k=some (.ref l)
 |[],_,_,_,_,_,h,_=>nomatch h
 |_::_,[],_,_,_,_,_,h=>nomatch h
 |a::ks,b::ls,0,k,l,_,h1,h2=>by
  cases h1;cases h2;show aW_ rfl
 |a::ks,b::ls,i+1,k,l,nd,h1,h2=>by obtain⟨n1,n2⟩:=AU_.mp nd;change FZ_ ((a,V.ref b)::kvB ks ls) k=_;rw[aN_ (λz:a=k=>n1 (z▸Ag_ (l:=ks) h1))];show mJ_ (ks:=ks) (ls:=ls) n2 h1 h2
theorem la_:∀{ks:List Tb}{ls:List Addr}{k:Tb},k∉ks->FZ_ (kvB ks ls) k=none
 |[],_,_,_=>by unfold kvB;rw[ES_];rfl
 |a::ks,[],_,_=>rfl
 |a::ks,b::ls,k,h=>by change FZ_ ((a,V.ref b)::kvB ks ls) k=_;rw[aN_ λz:a=k=>h (z▸An_)];show la_ λz=>h (Am_ _ z)
theorem iM_:∀{ys:List Tb}{k:Tb},FZ_ (inB ys) k=if k∈ys then some (.bl true)else none
 |[],k=>rfl
 |y::ys,k=>by
  change FZ_ ((y,V.bl true)::inB ys) k=_;by_cases e:y=k
  .rw[aW_ e,if_pos (by rw[e];show An_)]
  .rw[aN_ e,iM_];by_cases m:k∈ys
   .rw[if_pos m,if_pos (Am_ _ m)]
   .rw[if_neg m,if_neg λz=>(Ar_.mp z).elim (λq=>e q.symm) m]
variable{ys:List Tb}
theorem mK_{k:Tb}:Gd_ (inB ys) k (.bl true)=if k∈ys then inB ys else inB (ys++[k]):=by
 by_cases m:k∈ys
 .rw[if_pos m];unfold Gd_;rw[if_pos (by rw[cC_,iM_,if_pos m];rfl)];unfold inB;rw[Bv_];show Fb_ λy _=>?_;change(if y=k then(y,V.bl true)else(y,V.bl true))=_;split <;> rfl
 .rw[if_neg m,eN_ _ (by rw[iM_,if_neg m])];unfold inB;rw[Av_];rfl
theorem nJ_{k:Tb}:Io_ (inB ys) k=inB (ys.filter λq=>decide (q≠k)):=by unfold Io_ inB;rw[List.filter_map];rfl
structure On(P:Program)(w:World)(S H:Hp)(d:Addr)(ks:List Tb)(ls:List Addr)(L:Tb->List Tb):Prop where
 sS:Fo_ S H
 D:DB P w H d (kvB ks ls)
 len:ls.length=ks.length
 kn:ks.Nodup
 nd:ls.Nodup
 dn:d∉ls
 at_:∀(i:Nat) k l,ks[i]?=some k->ls[i]?=some l->DB P w H l (inB (L k))
 fd:S d=none
 fl:∀l∈ls,S l=none
variable {P:Program}{w:World}{S H H':Hp}{d:Addr}{ks:List Tb}{ls:List Addr}{L:Tb->List Tb}
theorem On.look(o:On P w S H d ks ls L){k:Tb}(h:k∈ks):∃(i:Nat)(l:Addr),ks[i]?=some k/\ls[i]?=some l/\FZ_ (kvB ks ls) k=some (.ref l)/\DB P w H l (inB (L k))/\l∈ls:=by
 obtain⟨i,hi,e⟩:=Ap_.mp h;have e1:ks[i]?=some k:=by rw[Aa_ hi,e]
 have e2:ls[i]?=some (ls[i]'(by rw[o.len];show hi)):=Aa_ _;show⟨i,_,e1,e2,mJ_ o.kn e1 e2,o.at_ i k _ e1 e2,A2_ _⟩
theorem On.ext(o:On P w S H d ks ls L){L':Tb->List Tb}(h:∀k∈ks,L k=L' k):On P w S H d ks ls L':=⟨o.sS,o.D,o.len,o.kn,o.nd,o.dn,λi k l h1 h2=>by rw[<-h k (Ag_ h1)];show o.at_ i k l h1 h2,o.fd,o.fl⟩
theorem On.mono(o:On P w S H d ks ls L)(s:Fo_ H H'):On P w S H' d ks ls L:=⟨o.sS.trans s,o.D.mono s,o.len,o.kn,o.nd,o.dn,λi k l h1 h2=>(o.at_ i k l h1 h2).mono s,o.fd,o.fl⟩
theorem On.base{S':Hp}(o:On P w S H d ks ls L)(s:Fo_ S' S):On P w S' H d ks ls L:=⟨s.trans o.sS,o.D,o.len,o.kn,o.nd,o.dn,o.at_,s.free o.fd,λl hl=>s.free (o.fl l hl)⟩
theorem On.other(o:On P w S H d ks ls L){p:Addr}{φ:Heap->Prop}(hp:H p=some (.ext φ))(h:∀c,c≠p->H' c=H c)(pd:d≠p)(pl:p∉ls)(Sp:S p=none):On P w S H' d ks ls L:=by have tk:∀b xs,H b=some (.tup xs)->H' b=some (.tup xs):=λb xs e=>(h b λz=>by rw[z,hp]at e;cases e).trans e;show⟨λa u e=>(h a λz=>by rw[z,Sp]at e;cases e).trans (o.sS a u e),o.D.keep (h d pd) tk,o.len,o.kn,o.nd,o.dn,λi k l h1 h2=>(o.at_ i k l h1 h2).keep (h l λz=>pl (z▸Ag_ h2)) tk,o.fd,o.fl⟩
theorem On.other'(o:On P w S H d ks ls L){p:Addr}(hp:∀xs,H p≠some (.tup xs))(h:∀c,c≠p->H' c=H c)(pd:d≠p)(pl:p∉ls)(Sp:S p=none):On P w S H' d ks ls L:=by have tk:∀b xs,H b=some (.tup xs)->H' b=some (.tup xs):=λb xs e=>(h b λz=>hp xs (z▸e)).trans e;show⟨λa u e=>(h a λz=>by rw[z,Sp]at e;cases e).trans (o.sS a u e),o.D.keep (h d pd) tk,o.len,o.kn,o.nd,o.dn,λi k l h1 h2=>(o.at_ i k l h1 h2).keep (h l λz=>pl (z▸Ag_ h2)) tk,o.fd,o.fl⟩
theorem On.not(o:On P w S H d ks ls L){p:Addr}(h:H p=none):d≠p/\p∉ls/\S p=none:=by
 show⟨λe=>?_,λm=>?_,o.sS.free h⟩
 .obtain⟨φ,e2⟩:=o.D.some;rw[e,h]at e2;cases e2
 .obtain⟨i,hi,e⟩:=Ap_.mp m;obtain⟨φ,e2⟩:=(o.at_ i (ks[i]'(by rw[<-o.len];show hi)) p (Aa_ _) (by rw[Aa_ hi,e])).some;rw[h]at e2;cases e2
theorem On.off(o:On P w S H d ks ls L){u:HO}(h:H a=some u)(hu:∀φ,u≠.ext φ):a∉d::ls:=λm=>by
 rcases Ar_.mp m with e|m
 .obtain⟨φ,e2⟩:=o.D.some;rw[<-e,h]at e2;show hu φ (AB_ e2)
 .obtain⟨i,hi,e⟩:=Ap_.mp m;obtain⟨φ,e2⟩:=(o.at_ i (ks[i]'(by rw[<-o.len];show hi)) a (Aa_ _) (by rw[Aa_ hi,e])).some;rw[h]at e2;show hu φ (AB_ e2)
theorem On.grow(o:On P w S H d ks ls L)(s:Fo_ H H'):On P w (hw (d::ls) H') H' d ks ls L/\Fo_ S (hw (d::ls) H'):=
 ⟨⟨mI_,o.D.mono s,o.len,o.kn,o.nd,o.dn,λi k l h1 h2=>(o.at_ i k l h1 h2).mono s,J4_ An_,λl hl=>J4_ (Am_ _ hl)⟩,kw_ (o.sS.trans s) λz hz=>(Ar_.mp hz).elim (λe=>e▸o.fd) (o.fl z)⟩
theorem On.keys(o:On P w S H d ks ls L){l:Addr}(hl:l∈ls):∃φ,H l=some (.ext φ):=by obtain⟨i,hi,e⟩:=Ap_.mp hl;show(o.at_ i (ks[i]'(by rw[<-o.len];show hi)) l (Aa_ _) (by rw[Aa_ hi,e])).some
theorem On.row(o:On P w S H d ks ls L){i:Nat}{k:Tb}{l:Addr}(h1:ks[i]?=some k)(h2:ls[i]?=some l)(h:∀c,c≠l->H' c=H c)(g:DB P w H' l (inB ys)):On P w S H' d ks ls (λz=>if z=k then ys else L z):=by
 have ll:=Ag_ h2;obtain⟨φ,hφ⟩:=o.keys ll;have tk:∀b xs,H b=some (.tup xs)->H' b=some (.tup xs):=λb xs e=>(h b λz=>by rw[z,hφ]at e;cases e).trans e;show⟨λa q e=>(h a λz=>by rw[z,o.fl l ll]at e;cases e).trans (o.sS a q e),o.D.keep (h d λz=>o.dn (z▸ll)) tk,o.len,o.kn,o.nd,o.dn,λj k' l' g1 g2=>?_,o.fd,o.fl⟩;by_cases e:k'=k
 .have ij:i=j:=(A4_ (Ai_.mp h1).1 o.kn).mp (by rw[h1,g1,e]);subst ij;rw[h2]at g2;cases g2;rw[if_pos e];show g
 .rw[if_neg e];show(o.at_ j k' l' g1 g2).keep (h l' λz=>e ?_) tk;have ij:j=i:=(A4_ (Ai_.mp g2).1 o.nd).mp (by rw[g2,h2,z]);rw[ij,h1]at g1;show(AB_ g1).symm
theorem On.more(o:On P w S H d ks ls L){k:Tb}{q:Addr}(hk:k∉ks)(h:∀c,c≠d->H' c=H c)(g:DB P w H' d (Gd_ (kvB ks ls) k (.ref q)))(hq:DB P w H q (inB ys))(qd:q≠d)(ql:q∉ls)(Sq:S q=none):On P w S H' d (ks++[k]) (ls++[q]) (λz=>if z=k then ys else L z):=by
 obtain⟨φ,hφ⟩:=o.D.some;have tk:∀b xs,H b=some (.tup xs)->H' b=some (.tup xs):=λb xs e=>(h b λz=>by rw[z,hφ]at e;cases e).trans e;have ek:Gd_ (kvB ks ls) k (.ref q)=kvB (ks++[k]) (ls++[q]):=by rw[eN_ _ (la_ hk)];unfold kvB;rw[DF_ o.len.symm];rfl
 show⟨λa u e=>(h a λz=>by rw[z,o.fd]at e;cases e).trans (o.sS a u e),ek▸g,by simp[o.len],AG_.mpr ⟨o.kn,s_,λa ha b hb e=>hk (by rw[Ae_.mp hb]at e;show e▸ha)⟩,AG_.mpr ⟨o.nd,s_,λa ha b hb e=>ql (by rw[Ae_.mp hb]at e;show e▸ha)⟩,λz=>(Aq_.mp z).elim o.dn λe=>qd (Ae_.mp e).symm,λj k' l' g1 g2=>?_,o.fd,λl hl=>(Aq_.mp hl).elim (o.fl l) λe=>by rw[Ae_.mp e];show Sq⟩;by_cases lt:j<ks.length
 .rw[Aw_ lt]at g1;rw[Aw_ (by rw[o.len];show lt)]at g2;rw[if_neg λe:k'=k=>hk (e▸Ag_ g1)];show(o.at_ j k' l' g1 g2).keep (h l' λz=>o.dn (z▸Ag_ g2)) tk
 .rw[Az_ o_]at g1;rw[Az_ (by rw[o.len];lia)]at g2;have e1:=Ae_.mp (Ag_ g1);have e2:=Ae_.mp (Ag_ g2);rw[if_pos e1,e2];show hq.keep (h q qd) tk
theorem On.one(s:Fo_ S H)(D:DB P w H d [])(fd:S d=none):On P w S H d [] [] L:=⟨s,D,rfl,A6_,A6_,(λz=>nomatch z),λi k l h=>(nomatch h),fd,λl h=>(nomatch h)⟩
theorem gW_{c:TT}{tb:TS}{nx bk ct:SHP}{rt:VK}{σ:St}{H:Hp}(W:Nat->St->Hp->Prop)(m0:Nat)(h0:W m0 σ H)
  (hs:∀m σ H,∀kb:SHP,(∀σ' H',nx σ' H'->kb σ' H')->∀G:Prop,((c σ H λb H1=>if b=true then ∃N:St->Hp->Prop,(∀σ' H',N σ' H'->∃m',m'<m/\W m' σ' H')/\tb ⟨N,rt,kb,N⟩ σ H1 else kb σ H1)->G)->W m σ H->G):H5_ c tb ⟨nx,rt,bk,ct⟩ σ H :=
 ⟨W,⟨m0,h0⟩,λm σ H p=>hs m σ H nx (λ_ _ q=>q) _ id p⟩
end L2
namespace RimT
section
theorem ky_{β:Type}{R:β->β->Prop}:∀{l:List β},HP_ R l↔∀(i:Nat) x y,l[i]?=some x->l[i+1]?=some y->R x y
 |[]=>⟨λ_ i x y h=>(by simp at h),λ_=>True.intro⟩
 |[a]=>⟨λ_ i x y _ h=>(by simp at h),λ_=>True.intro⟩
 |a::b::l=>by
  constructor
  .rintro⟨h1,h2⟩ i x y hx hy;cases i with
   |zero=>cases hx;cases hy;show h1
   |succ i=>show ky_.mp h2 i x y hx hy
  .show λh=>⟨h 0 a b rfl rfl,ky_.mpr λi x y hx hy=>h (i+1) x y hx hy⟩
variable {S:Type}[DecidableEq S]{V st gl:List S}{R0 R:S×Bool->List (S×Bool)}{U D:List S}
structure Wy(R:S×Bool->List (S×Bool))(s:S)(w:List S):Prop where
 hd:w[0]?=some s
 hop:∀(i:Nat) x y,w[i]?=some x->w[i+1]?=some y->Fol R x y
 nd:w.Nodup
theorem Wy.one(s:S):Wy R s [s]:=⟨rfl,λi x y _ h=>(by simp at h),s_⟩
theorem Wy.more(f:Fs V st gl R0 R U D){s:S}{w:List S}(y:Wy R s w)(hs:s∈st){x v:S}(hx:w[w.length-1]?=some x)(h:Fol R x v):Wy R s (w++[v]):=by
 have l0:0<w.length:=(Ai_.mp y.hd).1;show⟨by rw[Aw_ l0];show y.hd,λi a b ha hb=>?_,AG_.mpr ⟨y.nd,s_,λa ha b hb e=>?_⟩⟩
 .have lb:=(Ai_.mp hb).1;rw[Al_,AP_]at lb;rw[Aw_ o_]at ha;by_cases lt:i+1<w.length
  .rw[Aw_ lt]at hb;show y.hop i a b ha hb
  .have e:i=w.length-1:=o_
   rw[e,hx]at ha;cases ha;rw[Az_ o_]at hb;rw[Ae_.mp (Ag_ hb)];show h
 .rw[Ae_.mp hb]at e;subst e;obtain⟨i,hi,ei⟩:=Ap_.mp ha;cases i with
  |zero =>
   have:=y.hd;rw[Aa_ hi,ei]at this;cases this;show(f.fol_st h).1 hs
  |succ i =>
   have hb':w[i+1]?=some a:=by rw[Aa_ hi,ei]
   have ha':w[i]?=some w[i]:=Aa_ o_;have:=f.fol_inj (y.hop i _ _ ha' hb') h;rw[this]at ha';have:=(A4_ (i:=i) (j:=w.length-1) o_ y.nd).mp (ha'.trans hx.symm);lia
theorem Wy.in_(f:Fs V st gl R0 R U D){s:S}{w:List S}(y:Wy R s w)(hs:s∈st):∀x∈w,x∈V:=λx hx=>by
 obtain⟨i,hi,ei⟩:=Ap_.mp hx;cases i with
 |zero =>
  have:=y.hd;rw[Aa_ hi,ei]at this;cases this;show f.n.sV _ hs
 |succ i=>show(f.fol_st (y.hop i _ x (Aa_ o_) (by rw[Aa_ hi,ei]))).2.2.2
structure Wz(R:S×Bool->List (S×Bool))(st gl:List S)(s:S)(w:List S):Prop extends Wy R s w where
 two:2<=w.length
 last:∀x,w[w.length-1]?=some x->x∈gl
 mid:∀(i:Nat) x,i+1<w.length->w[i+1]?=some x->x∉st/\(i+2<w.length->x∉gl)
theorem Wy.done(f:Fs V st gl R0 R U D){s:S}{w:List S}(y:Wy R s w)(hs:s∈U){x:S}(hx:w[w.length-1]?=some x)(no:∀v,¬ Fol R x v):Wz R st gl s w:=by
 have l0:0<w.length:=(Ai_.mp y.hd).1
 have l2:2<=w.length:=by
  show Nat.le_of_not_lt λh=>?_;have:w.length-1=0:=o_
  rw[this,y.hd]at hx;cases hx;obtain⟨v,hv⟩:=f.fol_0 hs;show no v hv
 show⟨y,l2,λz hz=>?_,λi z hi hz=>?_⟩
 .rw[hx]at hz;cases hz;show Cn_ λhg=>?_;obtain⟨v,hv⟩:=f.fol_on (y.hop (w.length-2) w[w.length-2] x (Aa_ o_) (by rw[show w.length-2+1=w.length-1 by lia];show hx)) hg;show no v hv
 .have h1:=f.fol_st (y.hop i w[i] z (Aa_ o_) hz);show⟨h1.1,λh=>(f.fol_st (y.hop (i+1) z w[i+2] hz (Aa_ h))).2.1⟩
theorem nK_(f:Fs V st gl R0 R U D){s s':S}{w w':List S}(y:Wy R s w)(y':Wy R s' w')(hs:s∈st)(hs':s'∈st)(ne:s≠s'):∀(i j:Nat) x,w[i]?=some x->w'[j]?=some x->False:=by
 intro i
 induction i with
 |zero =>
  intro j x hi hj;rw[y.hd]at hi;cases hi;cases j with
  |zero =>
   rw[y'.hd]at hj;cases hj;show ne rfl
  |succ j =>
   have lj:=(Ai_.mp hj).1;show(f.fol_st (y'.hop j _ _ (Aa_ o_) hj)).1 hs
 |succ i ih =>
  intro j x hi hj;have li:=(Ai_.mp hi).1;have h1:=y.hop i _ _ (Aa_ o_) hi;cases j with
  |zero =>
   rw[y'.hd]at hj;cases hj;show(f.fol_st h1).1 hs'
  |succ j =>have lj:=(Ai_.mp hj).1;have h2:=y'.hop j _ _ (Aa_ o_) hj;have e:=f.fol_inj h1 h2;show ih j _ (Aa_ o_) (by rw[e];show Aa_ o_)
end
def lsts(Q:List Int):Nat->List (List Int)
 |0=>[[]]
 |k+1=>Q.flatMap λq=>(lsts Q k).map λl=>q::l
theorem lb_{Q:List Int}:∀{l:List Int},(∀x∈l,x∈Q)->l∈lsts Q l.length
 |[],_=>by simp[lsts]
 |x::l,h=>De_.mpr ⟨x,h x An_,Ao_.mpr ⟨l,lb_ λy hy=>h y (Am_ _ hy),rfl⟩⟩
def xI(a b c d:Int):Bool:=xor (decide (a<=c)) (decide (b<=c))== xor (decide (a<=d)) (decide (b<=d))
def IA_(P es:List Int):Bool:=(List.range P.length).all λi=>(List.range P.length).all λj=>decide (i=j) ||xI (P.getD i 0) (es.getD i 0) (P.getD j 0) (es.getD j 0)
def okM(P Q:List Int):Bool:=(lsts Q P.length).all λes=>!(decide es.Nodup && IA_ P es) ||decide (es=Q)
def I8_(n:Nat)(P Q:List Int):Bool:=decide (0<P.length) && decide (P.length=Q.length) && decide (P++Q).Nodup && ((P++Q).all λx=>decide (0<=x/\x<n)) && okM P Q
structure GM_(n:Nat)(P Q:List Int):Prop where
 pos:0<P.length
 len:P.length=Q.length
 nd:(P++Q).Nodup
 lt:∀x∈P++Q,0<=x/\x<(n:Int)
 m:okM P Q=true
theorem ow_{n:Nat}{P Q:List Int}(h:I8_ n P Q=true):GM_ n P Q:=by unfold I8_ at h;simp only[B7_,C5_,B9_]at h;show⟨h.1.1.1.1,h.1.1.1.2,h.1.1.2,λx hx=>h.1.2 x hx,h.2⟩
theorem GM_.same{n:Nat}{P Q es:List Int}(r:GM_ n P Q)(hl:es.length=P.length)(hin:∀x∈es,x∈Q)(nd:es.Nodup)(ap:∀i j,i<P.length->j<P.length->i≠j->xI (P.getD i 0) (es.getD i 0) (P.getD j 0) (es.getD j 0)=true):es=Q:=by
 have h:=B9_.mp r.m es (by rw[<-hl];show lb_ hin)
 have a:IA_ P es=true:=by
  unfold IA_;show B9_.mpr λi hi=>B9_.mpr λj hj=>?_;by_cases e:i=j
  .rw[As_ e,Bool.true_or]
  .rw[ap i j (AX_.mp hi) (AX_.mp hj) e,Bool.or_true]
 rw[As_ nd,a]at h;simpa using h
end RimT
namespace Rim49
open PySem PySem.Spec PyProof.Rows L2 RimM
variable{p:List Value->Prop}
theorem byL1(h:∀a,p [a])(us:List Value)(e:us.length=1):p us:=by obtain⟨a,rfl⟩:=C9_.mp e;show h a
theorem byLc{n:Nat}(h:∀a,∀us:List Value,us.length=n->p (a::us))(us:List Value)(e:us.length=n+1):p us:=by
 cases us with
 |nil=>cases e
 |cons a us=>show h a us (Nat.succ.inj e)
theorem byL2(h:∀a b,p [a,b]):∀us:List Value,us.length=2->p us:=byLc λa=>byL1 (h a)
theorem byL3(h:∀a b c,p [a,b,c]):∀us:List Value,us.length=3->p us:=byLc λa=>byL2 (h a)
theorem byL4(h:∀a b c d,p [a,b,c,d]):∀us:List Value,us.length=4->p us:=byLc λa=>byL3 (h a)
theorem lH_:Hg_ "int"=True:=eq_true (.inl rfl)
theorem kz_:Hg_ "bool"=True:=eq_true (.inr (.inl rfl))
theorem jL_:Hg_ "tuple"=True:=eq_true (.inr (.inr (.inl rfl)))
theorem kA_:Hg_ "list"=True:=eq_true (.inr (.inr (.inr (.inl rfl))))
theorem lI_:Hg_ "str"=True:=eq_true (.inr (.inr (.inr (.inr rfl))))
theorem nL_{x y:Int}(hx:0<=x)(hy:0<y):Int.gcd y (x%y)=Int.gcd x y:=by obtain⟨m,rfl⟩:=Cv_ hx;obtain⟨n,rfl⟩:=Cv_ (Int.le_of_lt hy);change Int.gcd (n:Int) ((m:Int)%(n:Int))=Int.gcd (m:Int) (n:Int);rw[<-Eg_,Eq_,Eq_,Nat.gcd_comm n,<-Nat.gcd_rec,Nat.gcd_comm]
theorem KW_{v:V}{Q:V->Prop}:onV (some (some v)) Q=Q v:=rfl
theorem K3_{i:Int}{Q:Int->Prop}:onI (.int i) Q=Q i:=rfl
theorem KU_{i:Bool}{Q:Bool->Prop}:onB (.bl i) Q=Q i:=rfl
theorem K0_{i:Addr}{Q:Addr->Prop}:onR (.ref i) Q=Q i:=rfl
theorem KX_{x:V}{Q:V->Prop}:on1 [x] Q=Q x:=rfl
theorem KZ_{x y:V}{Q:V->V->Prop}:on2 [x,y] Q=Q x y:=rfl
local macro_rules | `(tactic|walk_at "s2")=>`(tactic|simp only[KW_,K3_,KU_,K0_,KX_,KZ_,pE_,pF_,pG_,pH_,pI_,pJ_,scal,tyV,List.map_cons,List.map_nil,List.length_cons,List.length_nil,List.replicate,List.cons_append,List.nil_append,List.append_nil,List.set_cons_zero,List.set_cons_succ,List.getElem?_cons_zero,List.getElem?_cons_succ,Option.some.injEq,List.cons.injEq,V.int.injEq,V.bl.injEq,V.str.injEq,V.ref.injEq,V.ty.injEq,HO.tup.injEq,HO.lst.injEq,exists_eq_left,exists_eq_left',exists_and_left,and_assoc,and_true,true_and,aa_,Gc_,GE_,Ip_,Nat.zero_add,Nat.reduceAdd,Nat.reduceSub,decide_eq_true_eq,Bool.not_eq_true',decide_eq_false_iff_not,reduceCtorEq,false_or,or_false,true_or,or_true,lH_,kz_,jL_,kA_,lI_,Bool.false_eq_true,if_false,if_true,Bool.not_false,Bool.not_true,Bool.not_not,pT_,oC_,oN_,List.map,Option.bind,oo_])
local macro_rules | `(tactic|walk_at "s0")=>`(tactic|dsimp only[L2_,KG_,KQ_,LP_,IF_,KI_,JE_,iBK,iBT,J1_,KL_,JQ_,JD_,Km_,HS_,KE_,HE_,KW_,K3_,KU_,K0_,KX_,KZ_,Ig_,rSum,LL_,Kj_,Hm_,LY_,LO_,JW_,LI_,Ki_,tC,tCB,tOp,rI,rI0,KR_,LZ_,Kr_,LN_,Lo_,JX_,tB,LX_,tOr,LQ_,Lc_,tOrV,Le_,rU,tUn,LM_,tBM,Lm_,Jd_,L2.start,JV_,J2_,KH_,Lv_,rEq,rNe,La_,Lg_,Ku_,Ls_,L0_,List.map_cons,List.map_nil,List.length_cons,List.length_nil,List.replicate,List.cons_append,List.nil_append,List.set_cons_zero,List.set_cons_succ,List.getElem?_cons_zero,List.getElem?_cons_succ,Mf_,Kx_,L6_,KK_,LR_,JY_,Jc_,pick,KM_,iZip,Lq_,Kn_,LK_,JL_,List.map,Kz_,Lf_,tSl,Mc_,KS_,IH_,Lj_,KF_,Mi_,IP_,KO_,Jy_,JF_,Iy_,Ma_,Ja_,IM_,KP_,L5_,rSlS,HS_,JR_,ID_,Kw_,iDV,iDK,rIn,Ix_,Kq_,Lp_,Lt_,JU_,LJ_,Ko_,oo_,Ld_,Kp_,iDI,tIsN,Lu_,L7_,LS_,rEqV,L3_,Ky_,rEqD,tTry,Lh_])
local macro_rules | `(tactic|walk_at "s3")=>`(tactic|(walk_at "s2";try (walk_at "s0";try walk_at "s2")))
local macro_rules | `(tactic|walk_at "s1")=>`(tactic|first|(walk_at "s0";try walk_at "s3")|walk_at "s3")
local macro_rules | `(tactic|walk_at "bx")=>`(tactic|first|(show o1_ ?_;intro _ _)|show pZ_ (by assumption) ?_|show LA_ (by assumption) ?_)
local macro_rules | `(tactic|walk_at "rd")=>`(tactic|((first|walk_at "s1" | (walk_at "bx";try walk_at "s1"));repeat (walk_at "bx";try walk_at "s1")))
local macro_rules | `(tactic|nofun)=>`(tactic|walk_at "rd")
structure Txt(K:PySem.W.Frag)(mg:Str->Option Value):Prop where
 n_abs:mg "abs"=none
 n_max:mg "max"=none
 n_min:mg "min"=none
 n_dict:mg "dict"=none
 n_len:mg "len"=none
 n_range:mg "range"=none
 n_list:mg "list"=none
 n_isinstance:mg "isinstance"=none
 n_int:mg "int"=none
 n_bool:mg "bool"=none
 n_tuple:mg "tuple"=none
 n_str:mg "str"=none
 n_enumerate:mg "enumerate"=none
 n_sorted:mg "sorted"=none
 n_zip:mg "zip"=none
 n_sum:mg "sum"=none
 n_set:mg "set"=none
 n_reversed:mg "reversed"=none
variable {P:Program}{w:World}{K:PySem.W.Frag}{mg:Str->Option Value}{base:Heap}
theorem nM_{b:Int}(h:b≠0):Builtin.Int.intBits b=b.natAbs.log2+1:=by unfold Builtin.Int.intBits;simp[h]
theorem p8_{g b:Int}(h0:g≠0)(h1:g.natAbs<=b.natAbs)(hb:Builtin.Int.intBits b<=8000):g.natAbs.log2<9000:=by have h:=CA_ (a:=g) (b:=b) (n:=8000) h1 hb;rw[nM_ h0]at h;lia
structure ZL(N P:List Str)(sc:Scope):Prop extends FA_ N P sc where
 loc:∀x∈N,sc.names.lookup x=some .local
structure ZM(N P:List Str)(sc:Scope):Prop extends FA_ N P sc where
 loc:∀x∈N,sc.names.lookup x=some .local\/sc.names.lookup x=some .cell
variable{X:Cx}{x:Str}{pos:Pos}{p0:List Str}
theorem zv(i:Nat)(h:ZL X.N p0 X.env.scope)(hN:X.N[i]?=some x:=by rfl)(hd:(x == ("__debug__" : Str))=false:=by decide)(hcd:(x == ("__classdict__" : Str))=false:=by decide):PE X (.Name x pos) (Ki_ i):=n4_ hN (.inl (h.loc x (List.mem_of_getElem? hN))) hd hcd
theorem zw(i:Nat)(h:ZM X.N p0 X.env.scope)(hN:X.N[i]?=some x:=by rfl)(hd:(x == ("__debug__" : Str))=false:=by decide)(hcd:(x == ("__classdict__" : Str))=false:=by decide):PE X (.Name x pos) (Ki_ i):=n4_ hN ((h.loc x (List.mem_of_getElem? hN)).elim .inl λz=>.inr (.inl z)) hd hcd
theorem zh(i:Nat)(h:ZL X.N p0 X.env.scope)(hi:X.N[i]?=some x:=by rfl):PG X (.Name x pos) (Hm_ i):=ah_ h.nd hi (h.loc x (List.mem_of_getElem? hi))
theorem zas{e:Expr}{te:TE}(i:Nat){pos':Pos}(h:ZL X.N p0 X.env.scope)(he:PE X e te)(hi:X.N[i]?=some x:=by rfl)(hs:IS_ e=false:=by rfl):PS X (.Assign [.Name x pos'] e pos) (Kj_ te (Hm_ i)):=aj_ h.nd hi (h.loc x (List.mem_of_getElem? hi)) he hs
theorem zL{N P:List Str}{sc:Scope}(a:sc.kind=.function:=by rfl)(b:sc.isCoroutine=false:=by rfl)(c:sc.isGenerator=false:=by rfl)(d:N.Nodup:=by rfl')(e:N.take P.length=P:=by rfl)(f:∀x∈P,sc.names.lookup x=some .local\/sc.names.lookup x=some .cell:=by rfl')(g:∀y∈sc.names,y.2≠.free:=by rfl')(l:∀x∈N,sc.names.lookup x=some .local:=by rfl'):ZL N P sc:=⟨⟨a,b,c,d,e,f,g⟩,l⟩
theorem zM{N P:List Str}{sc:Scope}(a:sc.kind=.function:=by rfl)(b:sc.isCoroutine=false:=by rfl)(c:sc.isGenerator=false:=by rfl)(d:N.Nodup:=by rfl')(e:N.take P.length=P:=by rfl)(f:∀x∈P,sc.names.lookup x=some .local\/sc.names.lookup x=some .cell:=by rfl')(g:∀y∈sc.names,y.2≠.free:=by rfl')(l:∀x∈N,sc.names.lookup x=some .local\/sc.names.lookup x=some .cell:=by rfl'):ZM N P sc:=⟨⟨a,b,c,d,e,f,g⟩,l⟩
abbrev LK(s:Stmt)(x:Str)(k:NameKind):Prop:=(Fp_ s).names.lookup x=some k
abbrev stN(i:Nat):Stmt:=PySem.Challenge.pw_rimread_k49_ways_or_a_cut.main.body.getD i (.Pass ⟨0,0,0,0⟩)
abbrev Ge_:Stmt:=stN 16
theorem kB_:ZL ["_law_script","_law_k"] ["_law_script","_law_k"] (Fp_ Ge_):=zL
theorem hs_:LK Ge_ "len" .globalImplicit:=r_
def IU_(K:PySem.W.Frag):Sp:=λvs H Q _=>∃(a:Addr)(ns:List Int)(i:Int),vs=[.ref a,.int i]/\SqL K H a (ns.map V.int)/\0<=i/\∀z,Q (.int z) H
theorem kC_(T:Txt K mg)(F:Fn0 K mg "_law_cell_at" Ge_):Cal P w K mg base "_law_cell_at" ["_law_script","_law_k"] 1 (IU_ K):=by
  show aU_ F kB_.1 λf cdv A outer s H vs Q E hr h=>?_;obtain⟨a,ns,i,rfl,hS,h0,k⟩:=h;refine'⟨_,?D,?R⟩
  case D =>
   refine' ad_ ?a (af_ (az_ ac_))
   case' a=>refine' F4_ (aq_ HI_ (zv 1 kB_) (ak_ gl_ hs_ T.n_len aH_ (pa_c (zv 0 kB_) ab_)) (FJ_ _)) (af_ (az_ (Fv_ (nj_ (K:=K) rfl) (zv 0 kB_) (zv 1 kB_)))) aI_
  case R =>
   nofun;show⟨_,.inl hS,?_⟩;rw[Ab_];show ite2 (λhl=>?_) (λhl=>?_)
   .show⟨a,_,i,V.int (ns.getD i.toNat 0),rfl,rfl,hS,fv_ h0 ?_,k _⟩;have:i.toNat<ns.length:=o_
    simp[Af_,this,List.getD]
   .show k 0
abbrev Gp_:Stmt:=stN 17
theorem ep_:ZL ["_law_script","_law_at","_law_by","_law_prime","_law_cell","_law_big_here","_law_k","_law_one"] ["_law_script","_law_at"] (Fp_ Gp_):=zL
theorem d9_:LK Gp_ "_law_cell_at" .globalImplicit:=r_
theorem iN_:LK Gp_ "range" .globalImplicit:=r_
def JK_(K:PySem.W.Frag):Sp:=λvs H Q _=>∃(a:Addr)(ns:List Int)(j:Int),vs=[.ref a,.int j]/\0<=j/\SqL K H a (ns.map V.int)/\∀z H',Fo_ H H'->Q (.int z) H'
theorem K5_{a0 a1 a2 a3 a4 a5 a6 a7:Int}(i:Int)(h0:0<=i)(h1:i<8)(P:Int->Prop)(p0:P a0)(p1:P a1)(p2:P a2)(p3:P a3)(p4:P a4)(p5:P a5)(p6:P a6)(p7:P a7):
  ∃v,atI [V.int a0,.int a1,.int a2,.int a3,.int a4,.int a5,.int a6,.int a7] i=some (.int v)/\P v:=by
 have:i=0\/i=1\/i=2\/i=3\/i=4\/i=5\/i=6\/i=7:=o_
 rcases this with rfl|rfl|rfl|rfl|rfl|rfl|rfl|rfl
 .show⟨_,rfl,p0⟩
 .show⟨_,rfl,p1⟩
 .show⟨_,rfl,p2⟩
 .show⟨_,rfl,p3⟩
 .show⟨_,rfl,p4⟩
 .show⟨_,rfl,p5⟩
 .show⟨_,rfl,p6⟩
 .show⟨_,rfl,p7⟩
theorem pl_(T:Txt K mg)(F:Fn0 K mg "_law_big" Gp_) (Hk_:Cal P w K mg base "_law_cell_at" ["_law_script","_law_k"] 1 (IU_ K)):Cal P w K mg base "_law_big" ["_law_script","_law_at"] 2 (JK_ K):=by
  show aU_ F ep_.1 λf cdv A outer s H vs Q E hr h=>?_;obtain⟨a,ns,j,rfl,hj,hS,k⟩:=h;refine'⟨_,?D,?R⟩
  case D =>
   refine' ad_ (zas 2 ep_ (aF_ ?a)) ?b
   case' a=>refine' pa_c ac_ (pa_c ac_ (pa_c ac_ (pa_c ac_ (pa_c ac_ (pa_c ac_ (pa_c ac_ (pa_c ac_ ab_)))))))
   case' b=>refine' ad_ (zas 3 ep_ (aF_ ?c)) (ad_ (zas 4 ep_ (am_ Hk_ (hr.mono d_) d9_ (pa_c (zv 0 ep_) (pa_c (zv 1 ep_) ab_)))) ?d)
   case' c=>refine' pa_c ac_ (pa_c ac_ (pa_c ac_ (pa_c ac_ (pa_c ac_ (pa_c ac_ (pa_c ac_ (pa_c ac_ ab_)))))))
   case' d=>refine' ad_ (F4_ (aq_ KT_ (zv 4 ep_) (Fs_ n7_ ac_ ac_) (FJ_ _)) (af_ (az_ (zv 4 ep_))) aI_) ?e
   case' e=>refine' ad_ (zas 5 ep_ ac_) (ad_ (aO_ AC_ rfl (a5_ iN_ T.n_range (pa_c ac_ ab_)) ?f ?g) (af_ (az_ (zv 5 ep_))))
   case f=>show zh 6 ep_
   case' g=>refine' ad_ (zas 7 ep_ (Fs_ aS_ ?h (Fs_ i2_ (zv 6 ep_) (zv 6 ep_)))) (af_ (zas 5 ep_ (Fs_ aS_ (Fs_ i2_ (zv 5 ep_) ac_) ?i)))
   case' h=>refine' Fs_ aS_ (Fs_ aJ_ (am_ Hk_ (hr.mono d_) d9_ (pa_c (zv 0 ep_) (pa_c (Fs_ aS_ (zv 1 ep_) (Fs_ aJ_ (zv 6 ep_) ac_)) ab_))) (Fs_ n7_ ac_ ac_)) ac_
   case' i=>refine' Fs_ aJ_ (Fs_ aJ_ (Fs_ i2_ (zv 7 ep_) (Fv_ ao_ (zv 2 ep_) (Fs_ aJ_ (zv 6 ep_) ac_))) (Fv_ ao_ (zv 3 ep_) (Fs_ aJ_ (zv 6 ep_) ac_))) ac_
  case R =>
   nofun;show⟨d_,λp hp=>⟨d_,λq hq=>?_⟩⟩;generalize e1:upd H p (HO.tup _)=H1 at hq⊢;have s1:Fo_ H H1:=e1▸Fo_.new hp;have p1:H1 p=some (.tup _):=e1▸aa_;generalize e2:upd H1 q (HO.tup _)=H2;have s2:Fo_ H1 H2:=e2▸Fo_.new hq;have q2:H2 q=some (.tup _):=e2▸aa_;have p2:=s2 _ _ p1;have sS:Fo_ H H2:=s1.trans s2;clear e1 e2;show⟨a,ns,j,rfl,sS.seq hS,hj,λz=>?_⟩;nofun;show⟨d_,d_,d_,?_⟩;show ite2 (λ_=>k _ _ sS) (λ_=>⟨d_,d_,?_⟩);show cb_ (λi σ H'=>H'=H2/\∃(b:Int)(v6 v7:Option V),σ=[some (V.ref a),some (V.int j),some (V.ref p),some (V.ref q),some (V.int z),some (V.int b),v6,v7]) ⟨rfl,0,none,none,rfl⟩ ?_ ?_
   .rintro i σ H' hi ⟨rfl,b,v6,v7,rfl⟩;have hi':i<60:=hi;nofun;have m9:=AY_ (0+(i:Int)) (show(9:Int)≠0 by decide);show⟨d_,a,ns,_,rfl,sS.seq hS,o_,λy=>?_⟩;nofun;show⟨d_,d_,d_,d_,.inl ⟨o_,o_⟩,.inr ⟨d_,d_⟩,d_,?_⟩;have m8:=AY_ (0+(i:Int)) (show(8:Int)≠0 by decide);have l8:=AQ_ (0+(i:Int)) (show(0:Int)<8 by decide);obtain⟨v,hv,v0,v1⟩:=K5_ (a0:=48271) (a1:=69621) (a2:=16807) (a3:=39373) (a4:=21401) (a5:=60493) (a6:=87721) (a7:=31337) ((0+(i:Int))%8) m8 l8 (λv=>0<v/\v<100000) d_ d_ d_ d_ d_ d_ d_ d_;obtain⟨u,hu,u0,u1⟩:=K5_ (a0:=99991) (a1:=99989) (a2:=99971) (a3:=99961) (a4:=99929) (a5:=99923) (a6:=99907) (a7:=99901) ((0+(i:Int))%8) m8 l8 (λv=>0<v/\v<100000) d_ d_ d_ d_ d_ d_ d_ d_;simp only[p2,q2,Option.some.injEq,HO.tup.injEq,exists_eq_left'];simp only[hv,hu];nofun;show⟨.inr ⟨o_,o_⟩,d_,u0,d_,_,rfl⟩
   .rintro σ H' ⟨rfl,b,v6,v7,rfl⟩;nofun;show k _ _ sS
def dF(p:Int×Int):Dt:=.tup [.int p.1,.int p.2]
variable{H:Hp}{v:V}
theorem lc_{p:Int×Int}(h:Rep H v (dF p)):∃q,v=.ref q/\H q=some (.tup [.int p.1,.int p.2]):=by obtain⟨q,xs,e,hq,x,r,e1,hx,y,r',e2,hy,e3⟩:=h;cases hx;cases hy;subst e1 e2 e3;show⟨q,e,hq⟩
abbrev GR_:Stmt:=stN 18
theorem kD_:ZL ["_law_top","_law_bottom","_law_one","_law_other"] ["_law_top","_law_bottom"] (Fp_ GR_):=zL
theorem eq_:LK GR_ "_law_one" .local:=r_
theorem er_:LK GR_ "_law_other" .local:=r_
theorem kE_:LK GR_ "abs" .globalImplicit:=r_
def IQ_:Sp:=λvs H Q _=>∃t b:Int,vs=[.int t,.int b]/\0<b/\Builtin.Int.intBits b<=8000/\∀p H',Fo_ H H'->Rep (Hj_ H H') (.ref p) (dF (nf t b))->Q (.ref p) H'
theorem pm_(T:Txt K mg)(F:Fn0 K mg "_law_low" GR_):Cal P w K mg base "_law_low" ["_law_top","_law_bottom"] 1 IQ_:=by
  show aU_ F kD_.1 λf cdv A outer s H vs Q E hr h=>?_;obtain⟨a,b,rfl,hb,lb,k⟩:=h;refine'⟨_,?D,?R⟩
  case D =>
   refine' ad_ (n6_ (i:=2) (j:=3) rfl kD_.nd rfl rfl d_ eq_ er_ (pa_c (ak_ m8_ kE_ T.n_abs pU_ (pa_c (zv 0 kD_) ab_)) (pa_c (zv 1 kD_) ab_)) rfl) ?a
   case' a=>refine' ad_ (dH_ AC_ (aq_ J5_ (zv 3 kD_) ac_ (FJ_ _)) (af_ (n6_ (i:=2) (j:=3) rfl kD_.nd rfl rfl d_ eq_ er_ (pa_c (zv 3 kD_) (pa_c (Fs_ aJ_ (zv 2 kD_) (zv 3 kD_)) ab_)) rfl))) ?b
   case' b=>refine' af_ (az_ (aF_ (pa_c (Fs_ aw_ (zv 0 kD_) (zv 2 kD_)) (pa_c (Fs_ aw_ (zv 1 kD_) (zv 2 kD_)) ab_))))
  case R =>
   nofun
   show kg_ (λσ H1=>∃(x y:Int),σ=[some (.int a),some (.int b),some (.int x),some (.int y)]/\H1=H/\0<=x/\0<=y/\Int.gcd x y=Int.gcd a b)
    (λσ _=>match σ with | [_,_,_,some (.int y)]=>y.toNat|_=>0) ?_ ?_
   .show⟨_,_,rfl,rfl,?_,o_,?_⟩
    .split <;> lia
    .split
     .rw[Int.neg_gcd]
     .rfl
   .rintro σ H1 ⟨x,y,rfl,rfl,hx,hy,e⟩;nofun;show ite2 (λhne=>?_) (λhe=>?_)
    .show⟨_,N_ok,?_⟩;nofun;have h1:=AY_ x (show y≠0 by lia);have h2:=AQ_ x hne;show⟨hne,hy,h1,(nL_ hx hne).trans e,o_⟩
    .have hy0:y=0:=o_
     have hx':x=(Int.gcd a b:Nat):=by rw[<-e,hy0,Int.gcd_zero_right];lia
     have g0:=gpos (t:=a) (b:=b) o_;have hl:=p8_ (g:=(Int.gcd a b:Int)) (b:=b) o_ (Nat.le_of_dvd o_ (Int.natAbs_dvd_natAbs.mpr (C4_ ..))) lb;subst hx';show⟨g0,hl,g0,hl,d_,λp hp=>k p _ (Fo_.new hp) ⟨p,_,rfl,?_,_,_,rfl,rfl,_,_,rfl,rfl,rfl⟩⟩;rw[cH_ hp,aa_,me_ hb]
abbrev F2_:Stmt:=stN 19
theorem bb_:ZL ["_law_big_here","_law_bottom","_law_top"] ["_law_big_here"] (Fp_ F2_):=zL
theorem f4_:LK F2_ "_law_low" .globalImplicit:=r_
def Ia_:Sp:=λvs H Q _=>∃z:Int,vs=[.int z]/\∀(p q:Addr) H' (t b y:Int),Fo_ H H'->H p=none->H q=none->Ws (nf t b)->H' p=some (.tup [.ref q,.int y])->H' q=some (.tup [.int (nf t b).1,.int (nf t b).2])->Q (.ref p) H'
theorem jT_(T:Txt K mg)(F:Fn0 K mg "_law_worth_of" F2_) (I0_:Cal P w K mg base "_law_low" ["_law_top","_law_bottom"] 1 IQ_):Cal P w K mg base "_law_worth_of" ["_law_big_here"] 2 Ia_:=by
  show aU_ F bb_.1 λf cdv A outer s H vs Q E hr h=>?_;obtain⟨z,rfl,k⟩:=h;refine'⟨_,?D,?R⟩
  case D =>
   refine' ad_ (zas 1 bb_ (Fs_ aS_ ac_ (Fs_ aJ_ (zv 0 bb_) ac_))) ?a
   case' a=>refine' ad_ (jf_ (F4_ (aq_ GP_ (Fs_ aJ_ (Fs_ aw_ (zv 0 bb_) ac_) ac_) ac_ (FJ_ _)) ?b aI_)) ?c
   case' b=>refine' af_ (zas 1 bb_ (Fs_ aS_ ac_ (Fs_ aJ_ (Fs_ aw_ (zv 0 bb_) ac_) ac_)))
   case' c=>refine' ad_ (jf_ (F4_ (aq_ GP_ (Fs_ aJ_ (Fs_ aw_ (zv 0 bb_) ac_) ac_) ac_ (FJ_ _)) ?d aI_)) ?e
   case' d=>refine' af_ (zas 1 bb_ (Fs_ aS_ ac_ (Fs_ aJ_ (Fs_ aw_ (zv 0 bb_) ac_) ac_)))
   case' e=>refine' ad_ (zas 0 bb_ (Fs_ aw_ (zv 0 bb_) ac_)) (ad_ (zas 2 bb_ (Fs_ aS_ ac_ (Fs_ aJ_ (zv 0 bb_) ac_))) ?f)
   case' f=>refine' ad_ (jf_ (F4_ (aq_ GP_ (Fs_ aJ_ (Fs_ aw_ (zv 0 bb_) ac_) ac_) ac_ (FJ_ _)) ?g aI_)) ?h
   case' g=>refine' af_ (zas 2 bb_ (Fs_ aS_ ac_ (Fs_ aJ_ (Fs_ aw_ (zv 0 bb_) ac_) ac_)))
   case' h=>refine' ad_ (jf_ (F4_ (aq_ GP_ (Fs_ aJ_ (Fs_ aw_ (zv 0 bb_) ac_) ac_) ac_ (FJ_ _)) ?i aI_)) (af_ ?j)
   case' i=>refine' af_ (zas 2 bb_ (Fs_ aS_ ac_ (Fs_ aJ_ (Fs_ aw_ (zv 0 bb_) ac_) ac_)))
   case' j=>refine' az_ (aF_ (pa_c (am_ I0_ (hr.mono d_) f4_ (pa_c (zv 2 bb_) (pa_c (zv 1 bb_) ab_))) (pa_c (Fs_ aw_ (zv 0 bb_) ac_) ab_)))
  case R =>
   nofun;show⟨d_,λσ H1=>∃b:Int,σ=[some (.int z),some (.int b),none]/\H=H1/\0<b/\b<=1000,?_,?_⟩
   .nofun;show⟨d_,d_,d_,ite2 (λ_=>?_) (λ_=>?_)⟩
    .have:=AY_ (z/12) (show(12:Int)≠0 by decide);have:=AQ_ (z/12) (show(0:Int)<12 by decide);show⟨d_,d_,d_,o_,o_⟩
    .have:=AY_ z (show(3:Int)≠0 by decide);have:=AQ_ z (show(0:Int)<3 by decide);lia
   rintro σ H1 ⟨b,rfl,rfl,b0,b1⟩;nofun;show⟨λσ H1=>∃b:Int,σ=[some (.int z),some (.int b),none]/\H=H1/\0<b/\b<=1000,?_,?_⟩
   .nofun;show⟨d_,d_,d_,ite2 (λ_=>?_) (λ_=>⟨b0,b1⟩)⟩;have:=AY_ (z/48) (show(1000:Int)≠0 by decide);have:=AQ_ (z/48) (show(0:Int)<1000 by decide);show⟨d_,d_,d_,o_,o_⟩
   clear b0 b1 b;rintro σ H1 ⟨b,rfl,rfl,b0,b1⟩;nofun;show⟨d_,d_,d_,?_⟩;generalize z/48000=y;show⟨λσ H1=>∃t:Int,σ=[some (.int y),some (.int b),some (.int t)]/\H=H1/\0<t/\t<=1000,?_,?_⟩
   .nofun;show⟨d_,d_,d_,ite2 (λ_=>?_) (λ_=>?_)⟩
    .have:=AY_ (y/20) (show(12:Int)≠0 by decide);have:=AQ_ (y/20) (show(0:Int)<12 by decide);show⟨d_,d_,d_,o_,o_⟩
    .have:=AY_ y (show(5:Int)≠0 by decide);have:=AQ_ y (show(0:Int)<5 by decide);lia
   rintro σ H1 ⟨t,rfl,rfl,t0,t1⟩;nofun;show⟨λσ H1=>∃t:Int,σ=[some (.int y),some (.int b),some (.int t)]/\H=H1/\0<t/\t<=1000,?_,?_⟩
   .nofun;show⟨d_,d_,d_,ite2 (λ_=>?_) (λ_=>⟨t0,t1⟩)⟩;have:=AY_ (y/80) (show(1000:Int)≠0 by decide);have:=AQ_ (y/80) (show(0:Int)<1000 by decide);show⟨d_,d_,d_,o_,o_⟩
   clear t0 t1 t;rintro σ H1 ⟨t,rfl,rfl,t0,t1⟩;nofun;show⟨t,b,rfl,b0,CA_ (b:=1000) o_ d_,λq H1 s1 r1=>?_⟩;nofun;obtain⟨q',eq,hq⟩:=lc_ r1;cases eq;obtain⟨q0,q1⟩:=aY_ hq;show⟨d_,d_,d_,λp hp=>k p q _ t b (y/80000) (s1.trans (Fo_.new hp)) (s1.free hp) q0 (K1_ t0 t1 b0 b1) aa_ (Fo_.new hp _ _ q1)⟩
open RimT
theorem un1{n c:Nat}(h:n+64<c):n+1<c:=o_
structure Tg{α:Type}(lab:α->V)(H:Hp)(l:Addr)(as_:List Addr)(T:List (List α)):Prop where
 top:H l=some (.lst (as_.map V.ref))
 len:as_.length=T.length
 row:∀p a,as_[p]?=some a->H a=some (.lst ((T.getD p []).map lab))
variable{l:Addr}{as_:List Addr}
theorem Tg.mono{α:Type}{lab:α->V}{H':Hp}{T:List (List α)}(h:Tg lab H l as_ T)(s:Fo_ H H'):Tg lab H' l as_ T:=⟨s _ _ h.top,h.len,λp a e=>s _ _ (h.row p a e)⟩
theorem Tg.at_{α:Type}{lab:α->V}{T:List (List α)}(h:Tg lab H l as_ T){p:Nat}(hp:p<T.length):∃a,as_[p]?=some a/\atI (as_.map V.ref) (p:Int)=some (.ref a)/\H a=some (.lst ((T.getD p []).map lab)):=by have e:as_[p]?=some (as_[p]'(by rw[h.len];show hp)):=Aa_ _;show⟨_,e,?_,h.row p _ e⟩;rw[fv_ o_ (by rw[AK_,Af_,e];rfl)]
abbrev Tn:=Tg (λn:Nat=>V.int n)
def cV(c:Nat×Nat):HO:=.tup [.int c.1,.int c.2]
def cK(c:Nat×Nat):List Key:=[.inl c.1,.inl c.2]
def GK_{α:Type}(H:Hp)(m:Addr)(T:List (List α)):Prop:=∃kvs,H m=some (.dT kvs)/\∀a b,H8_ T a b->∃q,FZ_ kvs (cK a)=some (.ref q)/\H q=some (cV b)
theorem GK_.mono{α:Type}{H':Hp}{m:Addr}{T:List (List α)}(h:GK_ H m T)(s:Fo_ H H'):GK_ H' m T:=by obtain⟨kvs,e,k⟩:=h;show⟨kvs,s _ _ e,λa b hab=>(k a b hab).elim λq hq=>⟨q,hq.1,s _ _ hq.2⟩⟩
abbrev Fx_:Stmt:=stN 22
theorem a6_:ZL ["_law_turns","_law_posts","_law_mates_here","_law_corner","_law_p","_law_k","_law_q","_law_j"] ["_law_turns","_law_posts","_law_mates_here","_law_corner"] (Fp_ Fx_):=zL
theorem cl_:LK Fx_ "len" .globalImplicit:=r_
def Hw_:Sp:=λvs H Q _=>∃(α:Type)(_:DecidableEq α)(lab:α->V)(l m c:Addr)(as_:List Addr)(T:List (List α))(P:Nat)(e:Nat×Nat),vs=[.ref l,.int P,.ref m,.ref c]/\Tg lab H l as_ T/\GK_ H m T/\Tw T/\0<P/\H c=some (cV e)/\IsC T P e /\
 ∀q H' d,Fo_ H H'->H q=none->H' q=some (cV d)->Nx T P e d->Q (.ref q) H'
theorem f5_(T:Txt K mg)(F:Fn0 K mg "_law_corner_behind" Fx_):Cal P w K mg base "_law_corner_behind" ["_law_turns","_law_posts","_law_mates_here","_law_corner"] 1 Hw_:=by
  show aU_ F a6_.1 λf cdv A outer s H vs Q E hr h=>?_;obtain⟨α,dec,lab,l,m,c,as_,Tt,Pp,e,rfl,hT,hm,tw,P0,hc,ic,k⟩:=h;refine'⟨_,?D,?R⟩
  case D =>
   refine' ad_ (i1_ (zv 3 a6_) (bp_ (K:=K) (n:=2) rfl rfl (au_ ?a (au_ ?b bm_)))) ?c
   case a=>show zh 4 a6_
   case b=>show zh 5 a6_
   case' c=>refine' ad_ ?d (ad_ ?e (ad_ ?f (af_ (az_ ?g))))
   case' d=>refine' F4_ (aq_ GP_ (zv 5 a6_) (ak_ al_ cl_ T.n_len aH_ (pa_c (Fv_ an_ (zv 0 a6_) (zv 4 a6_)) ab_)) (FJ_ _)) ?h aI_
   case' h=>refine' af_ (az_ (aF_ (pa_c (Fs_ aJ_ (Fs_ lX_ (zv 4 a6_) ac_) (zv 1 a6_)) (pa_c ac_ ab_))))
   case' e=>refine' i1_ (dd_ (un1 hr.units) (zv 2 a6_) (aF_ (pa_c (zv 4 a6_) (pa_c (zv 5 a6_) ab_)))) (bp_ (K:=K) (n:=2) rfl rfl (au_ ?i (au_ ?j bm_)))
   case i=>show zh 6 a6_
   case j=>show zh 7 a6_
   case' f=>refine' F4_ (aq_ HI_ (zv 6 a6_) (zv 1 a6_) (FJ_ _)) (af_ (az_ (aF_ (pa_c (zv 6 a6_) (pa_c (Fs_ aS_ (zv 7 a6_) ac_) ab_))))) aI_
   case' g=>refine' aF_ (pa_c (zv 6 a6_) (pa_c (Fs_ aJ_ (Fs_ aS_ (zv 7 a6_) ac_) (ak_ al_ cl_ T.n_len aH_ (pa_c (Fv_ an_ (zv 0 a6_) (zv 6 a6_)) ab_))) ab_))
  case R =>
   nofun;obtain⟨a,ea,at0,ra⟩:=hT.at_ ic.1;show⟨_,SqT.of hc,rfl,_,_,rfl,_,_,rfl,rfl,_,_,rfl,hT.top,_,at0,_,rfl,_,.inl ra,?_⟩;nofun;rw[Ab_];show ite2 (λhe=>?_) (λhe=>?_)
   .have hz:((e.1:Int)-1)%(Pp:Int)=(((e.1+Pp-1)%Pp:Nat):Int):=by rw[Eg_,show((e.1+Pp-1:Nat):Int)=(e.1:Int)-1+Pp by lia];simp
    have he':e.2=rl Tt e.1:=by unfold rl;lia
    show⟨o_,d_,λp hp=>k p _ ((e.1+Pp-1)%Pp,0) (Fo_.new hp) hp ?_ (.inl ⟨he',rfl⟩)⟩;rw[aa_,hz];rfl
   .have hlt:e.2<rl Tt e.1:=by have:=ic.2;unfold rl at this⊢;split at this <;> lia
    obtain⟨ww,hw⟩:=kj_ hlt;obtain⟨b,hb⟩:=oS_ tw hw;obtain⟨kvs,hkv,hall⟩:=hm;obtain⟨q,vq,hq⟩:=hall e b hb;show⟨d_,λp hp=>?_⟩;have s1:Fo_ H (upd H p (.tup [.int e.1,.int e.2])):=Fo_.new hp;generalize e1:upd H p (.tup [.int e.1,.int e.2])=H1 at s1⊢;have hp1:H1 p=some (cV e):=e1▸aa_;have g:GQ_ H1 m (.ref p) (some (.ref q)):=vq▸GQ_.t (k:=cK e) (s1 _ _ hkv) hp1;have hT1:=hT.mono s1;have hbl:=GD_ hb.2.choose_spec.2;show⟨_,g,_,rfl,_,SqT.of (s1 _ _ hq),rfl,_,_,rfl,_,_,rfl,rfl,_,rfl,?_⟩;show ite2 (λhlp=>?_) (λhlp=>?_)
    .show⟨_,rfl,d_,λr hr=>k r _ (b.1,b.2+1) (s1.trans (Fo_.new hr)) (s1.free hr) ?_ (.inr ⟨hlt,b,hb,?_⟩)⟩
     .rw[aa_];rfl
     .rw[if_pos o_]
    .obtain⟨a2,ea2,at2,ra2⟩:=hT1.at_ hbl.2;have hl2:(0:Int)<(rl Tt b.1:Nat):=o_
     show⟨_,rfl,_,_,rfl,hT1.top,_,at2,_,rfl,_,.inl ra2,?_⟩;rw[Ab_];show⟨hl2,d_,λr hr=>k r _ (b.1,(b.2+1)%rl Tt b.1) (s1.trans (Fo_.new hr)) (s1.free hr) ?_ (.inr ⟨hlt,b,hb,?_⟩)⟩
     .rw[aa_];change some (HO.tup [V.int b.1,V.int (((b.2:Int)+1)%(rl Tt b.1:Nat))])=some (HO.tup [V.int b.1,V.int (((b.2+1)%rl Tt b.1:Nat):Int)]);rw[Eg_,Int.natCast_add];rfl
     .rw[if_neg o_]
def Cs(H:Hp):List Addr->List (Nat×Nat)->Prop
 |[],[]=>True
 |x::xs,c::cs=>H x=some (cV c)/\Cs H xs cs
 |_,_=>False
theorem Cs.mono{H H':Hp}(s:Fo_ H H'):∀{xs:List Addr}{cs:List (Nat×Nat)},Cs H xs cs->Cs H' xs cs
 |[],[],_=>trivial
 |x::xs,c::cs,h=>⟨s _ _ h.1,Cs.mono s h.2⟩
theorem Cs.len{H:Hp}:∀{xs:List Addr}{cs:List (Nat×Nat)},Cs H xs cs->xs.length=cs.length
 |[],[],_=>rfl
 |x::xs,c::cs,h=>by rw[AM_,AM_,Cs.len h.2]
theorem Cs.snoc{H:Hp}{y:Addr}{d:Nat×Nat}(hy:H y=some (cV d)):∀{xs:List Addr}{cs:List (Nat×Nat)},Cs H xs cs->Cs H (xs++[y]) (cs++[d])
 |[],[],_=>⟨hy,trivial⟩
 |x::xs,c::cs,h=>⟨h.1,Cs.snoc hy h.2⟩
theorem Cs.get{H:Hp}:∀{xs:List Addr}{cs:List (Nat×Nat)}{i:Nat}{d:Nat×Nat},Cs H xs cs->cs[i]?=some d->∃x,xs[i]?=some x/\H x=some (cV d)
 |[],[],i,d,h,e=>by cases e
 |[],_::_,_,_,h,_=>h.elim
 |_::_,[],_,_,h,_=>h.elim
 |x::xs,c::cs,0,d,h,e=>by cases e;show⟨x,rfl,h.1⟩
 |x::xs,c::cs,i+1,d,h,e=>Cs.get (i:=i) h.2 e
def dC(c:Nat×Nat):Dt:=.tup [.int c.1,.int c.2]
theorem mL_{x:Addr}{c:Nat×Nat}(h:H x=some (cV c)):Rep H (.ref x) (dC c):=⟨x,_,rfl,h,_,_,rfl,rfl,_,_,rfl,rfl,rfl⟩
theorem p9_(a b:Nat×Nat):deq (dC a) (dC b)=some (decide (a=b)):=by
 by_cases h1:(a.1:Int)=b.1 <;> by_cases h2:(a.2:Int)=b.2
 .have e:a=b:=Bl_ o_ o_;subst e;simp[dC,deq,deqs]
 .have e:a≠b:=λz=>h2 (by rw[z]);simp[dC,deq,deqs,h1,h2,e]
 .have e:a≠b:=λz=>h1 (by rw[z]);simp[dC,deq,deqs,h1,h2,e]
 .have e:a≠b:=λz=>h1 (by rw[z]);simp[dC,deq,deqs,h1,h2,e]
abbrev F1_:Stmt:=stN 23
theorem eS_:ZL ["_law_turns","_law_posts","_law_mates_here","_law_corner","_law_found","_law_here"] ["_law_turns","_law_posts","_law_mates_here","_law_corner"] (Fp_ F1_):=zL
theorem by_:LK F1_ "_law_corner_behind" .globalImplicit:=r_
def HC_:Sp:=λvs H Q _=>∃(α:Type)(_:DecidableEq α)(lab:α->V)(l m c:Addr)(as_:List Addr)(T:List (List α))(P:Nat)(e:Nat×Nat),vs=[.ref l,.int P,.ref m,.ref c]/\Tg lab H l as_ T/\GK_ H m T/\Tw T/\0<P/\P<=T.length/\H c=some (cV e)/\IsC T P e/\(corners T P).length<=900 /\
 ∀R H' xs cs,Fo_ H H'->H R=none->H' R=some (.lst (xs.map V.ref))->Cs H' xs cs->cs≠[]->cs.length<=(corners T P).length->(∀d∈cs,IsC T P d)->Way T P cs e->cs.head?=some e->cs.Nodup->Q (.ref R) H'
theorem lJ_(T:Txt K mg)(F:Fn0 K mg "_law_region" F1_) (Gw_:Cal P w K mg base "_law_corner_behind" ["_law_turns","_law_posts","_law_mates_here","_law_corner"] 1 Hw_):Cal P w K mg base "_law_region" ["_law_turns","_law_posts","_law_mates_here","_law_corner"] 2 HC_:=by
  show aU_ F eS_.1 λf cdv A outer s H vs Q E hr h=>?_;obtain⟨α,dec,lab,l,m,c,as_,Tt,Pp,e,rfl,hT,hm,tw,P0,PT,hc,ic,c9,k⟩:=h;refine'⟨_,?D,?R⟩
  case D =>
   refine' ad_ (zas 4 eS_ (bn_ (pa_c (zv 3 eS_) ab_))) (ad_ ?a (ad_ ?b (af_ (az_ (zv 4 eS_)))))
   case' a=>refine' zas 5 eS_ (am_ Gw_ (hr.mono d_) by_ (pa_c (zv 0 eS_) (pa_c (zv 1 eS_) (pa_c (zv 2 eS_) (pa_c (zv 3 eS_) ab_)))))
   case' b=>refine' dH_ AC_ (aq_ (hY_ (hr.units)) (zv 5 eS_) (zv 3 eS_) (FJ_ _)) (ad_ (aK_ (Gn_ AF_ AV_ AW_ aQ_ (zv 4 eS_) (pa_c (zv 5 eS_) ab_))) ?c)
   case' c=>refine' af_ (zas 5 eS_ (am_ Gw_ (hr.mono d_) by_ (pa_c (zv 0 eS_) (pa_c (zv 1 eS_) (pa_c (zv 2 eS_) (pa_c (zv 5 eS_) ab_))))))
  case R =>
   nofun;show⟨d_,λR hR=>?_⟩;have s0:Fo_ H (upd H R (.lst [.ref c])):=Fo_.new hR;show⟨_,_,_,l,m,c,as_,Tt,Pp,e,rfl,hT.mono s0,hm.mono s0,tw,P0,s0 _ _ hc,ic,λq H1 d s1 hq hd nx=>?_⟩;nofun
   show kg_ (λσ H'=>∃(S:Hp)(xs:List Addr)(cs:List (Nat×Nat))(h:Addr)(d:Nat×Nat),σ=[some (.ref l),some (.int Pp),some (.ref m),some (.ref c),some (.ref R),some (.ref h)]/\Fo_ H S/\S R=none/\Fo_ S H'/\H' R=some (.lst (xs.map V.ref))/\Cs S xs cs/\S h=some (cV d)/\Way Tt Pp cs d/\cs.head?=some e/\cs.Nodup)
    (λσ H'=>match H' R with|some (.lst xs)=>(corners Tt Pp).length+1-xs.length|_=>0) ?_ ?_
   .have h0R:upd H R (.lst [.ref c]) R=some (.lst [.ref c]):=aa_;show⟨grow H (upd H R (.lst [.ref c])) H1,[c],[e],q,d,rfl,cJ_ s0,by rw[eM_ h0R];show hR,iw_ s0 s1,s1 _ _ h0R,⟨cJ_ s0 _ _ hc,trivial⟩,by rw[iv_ hq];show hd,.one nx,rfl,s_⟩
   .rintro σ H' ⟨S,xs,cs,h,d,rfl,hS,SR,SH,hxs,hcs,hh,wy,hd0,nd⟩;nofun;have wl:=oV_ tw P0 PT wy hd0 ic nd;have wa:=iy_ tw P0 PT wy hd0 ic;have xl:=hcs.len;show⟨_,mL_ (SH _ _ hh),_,mL_ (SH _ _ (hS _ _ hc)),_,p9_ d e,by simp[dC,dep,deps],?_⟩;by_cases hde:d=e
    .rw[if_neg (by simp[hde])];show k R H' xs cs (hS.trans SH) hR hxs (hcs.mono SH) (k2_ wy) wl wa.2.1 (hde▸wy) hd0 nd
    .rw[if_pos (by simp[hde])];show⟨_,N_ok,?_⟩;nofun;have sz:(xs.map V.ref).length<sizeLine:=by have:=Fq_ (show xs.length+1<=1000 by lia);rw[Ab_];lia
     have dn:=oU_ tw P0 PT wy hd0 ic nd hde;show⟨.inl ⟨_,SqL.of hxs⟩,_,hxs,sz,?_⟩;have SH2:Fo_ S (upd H' R (.lst (xs.map V.ref++[.ref h]))):=cB_ SH SR;have e2:upd H' R (.lst (xs.map V.ref++[.ref h])) R=some (.lst (xs.map V.ref++[.ref h])):=aa_;generalize upd H' R (.lst (xs.map V.ref++[.ref h]))=H2 at SH2 e2⊢;show⟨_,_,_,l,m,h,as_,Tt,Pp,d,rfl,(hT.mono hS).mono SH2,(hm.mono hS).mono SH2,tw,P0,SH2 _ _ hh,wa.1,λq2 H3 d2 s3 hq2 hd2 nx2=>⟨⟨grow S H2 H3,xs++[h],cs++[d],q2,rfl,hS.trans (cJ_ SH2),?_,iw_ SH2 s3,?_,?_,d2,?_,.more wy nx2,?_,?_⟩,?_⟩⟩
     .rw[eM_ e2];show SR
     .rw[Av_];show s3 _ _ e2
     .show Cs.snoc (cJ_ SH2 _ _ hh) (hcs.mono (cJ_ SH2))
     .rw[iv_ hq2];show hd2
     .cases cs with
      |nil=>show absurd rfl (k2_ wy)
      |cons a b=>show hd0
     .rw[AG_];show⟨nd,s_,λa ha b hb ab=>?_⟩;rw[Ae_.mp hb]at ab;show dn (ab▸ha)
     .rw[s3 _ _ e2,hxs];simp only[Al_,Ab_,AP_];lia
def Gf_(T:List (List Nat))(P n:Nat):List (Nat×Nat):=(List.range n).flatMap λp=>(List.range (rl T p+(if p<P then 1 else 0))).map λk=>(p,k)
theorem de_(T:List (List Nat))(P n:Nat):Gf_ T P (n+1)=Gf_ T P n++(List.range (rl T n+(if n<P then 1 else 0))).map λk=>(n,k):=by unfold Gf_;rw[BV_,DC_];simp
theorem gv_(T:List (List Nat))(P:Nat){n:Nat}:∀{m:Nat},n<=m->(Gf_ T P n).length<=(Gf_ T P m).length
 |0,h=>by rw[Nat.le_zero.mp h];show Aj_ _
 |m+1,h=>by
  by_cases e:n=m+1
  .rw[e];show Aj_ _
  .have:=gv_ T P (n:=n) (m:=m) o_;rw[de_,Al_];lia
theorem ox_{H:Hp}:∀{vs:List V}{cs:List (Nat×Nat)},FM_ H vs (cs.map dC)->∃xs:List Addr,vs=xs.map V.ref/\Cs H xs cs
 |[],[],_=>⟨[],rfl,trivial⟩
 |v::vs,c::cs,h=>by
  obtain⟨x,r,e,hx,hr⟩:=h;cases e;obtain⟨q,ys,e1,hq,a,b,e2,ha,a2,b2,e3,ha2,e4⟩:=hx;cases ha;cases ha2;subst e1 e2 e3 e4;obtain⟨xs,e5,hc⟩:=ox_ hr;show⟨q::xs,by rw[e5];rfl,hq,hc⟩
 |[],_::_,h=>by obtain⟨x,r,e,_⟩:=h;cases e
 |_::_,[],h=>by cases h
abbrev FT_:Stmt:=stN 21
theorem dN_:ZM ["_law_turns","_law_posts","_law_found","_law_p"] ["_law_turns","_law_posts"] (Fp_ FT_):=zM
theorem cD_:LK FT_ "_law_found" .local:=r_
theorem dO_:LK FT_ "_law_p" .cell:=r_
theorem hu_:LK FT_ "int" .globalImplicit:=r_
theorem eu_:LK FT_ "len" .globalImplicit:=r_
theorem dt_:LK FT_ "range" .globalImplicit:=r_
def Hh_:Sp:=λvs H Q _=>∃(l:Addr)(as_:List Addr)(T:List (List Nat))(P:Nat),vs=[.ref l,.int P]/\Tn H l as_ T/\T.length<=16/\(corners T P).length<=900 /\
 ∀R H',Fo_ H H'->Rep (Hj_ H H') (.ref R) (.lst ((corners T P).map dC))->Q (.ref R) H'
theorem kF_(T:Txt K mg)(F:Fn0 K mg "_law_corners" FT_):Cal P w K mg base "_law_corners" ["_law_turns","_law_posts"] 1 Hh_:=by
  show aU_ F dN_.1 λf cdv A outer s H vs Q E hr h=>?_;obtain⟨l,as_,Tt,Pp,rfl,hT,t16,c9,k⟩:=h;refine'⟨_,?D,?R⟩
  case D =>
   refine' ad_ (aj_ (i:=2) dN_.nd rfl cD_ (bn_ ab_)) ?a
   case' a=>refine' ad_ (aO_ AC_ rfl (a5_ dt_ T.n_range (pa_c (ak_ al_ eu_ T.n_len aH_ (pa_c (zw 0 dN_) ab_)) ab_)) ?b ?c) (af_ (az_ (zw 2 dN_)))
   case b=>show kX_ (i:=3) dN_.nd rfl dO_ rfl
   case' c=>refine' af_ (aj_ (i:=2) dN_.nd rfl cD_ (Fs_ ei_ (zw 2 dN_) (cG_ (N':=["_law_k","_law_p"]) (ix:=[none,some 3]) rfl rfl (bL_ ?d) (a5_ dt_ T.n_range ?e) (λ_ _ _=>?f) (λ_ _ _=>?g) (λ_ _ _=>(aF_ (pa_c (pvc 1 rfl rfl) (pa_c (pv1 0 rfl rfl) ab_)))))))
   case d=>show(by change G5_ (Fp_ FT_) ["_law_turns","_law_posts","_law_found","_law_p"] _ _ _=true;decide +kernel)
   case' e=>refine' pa_c (Fs_ aS_ (ak_ al_ eu_ T.n_len aH_ (pa_c (Fv_ an_ (zw 0 dN_) (zw 3 dN_)) ab_)) (bQ_ i3_ hu_ T.n_int oc_ (pa_c (il_ HI_ (zw 3 dN_) (zw 1 dN_) (FJ_ _)) ab_))) ab_
   case f=>show ah_ (i:=0) (by change List.Nodup (["_law_k","_law_p"]:List Str);decide +kernel) rfl rfl
   case g=>show dk_
  case R =>
   nofun;show⟨d_,λR hR=>?_⟩;have s0:Fo_ H (upd H R (.lst [])):=Fo_.new hR;show⟨_,.inl (s0 _ _ hT.top),?_⟩;rw[Ab_,hT.len];show⟨o_,o_,?_⟩;rw[AK_];show cb_ (λi σ H'=>∃(R:Addr)(e:Option V),σ=[some (.ref l),some (.int Pp),some (.ref R),e]/\Fo_ H H'/\Rep (Hj_ H H') (.ref R) (.lst ((Gf_ Tt Pp i).map dC))) ?_ ?_ ?_
   .show⟨R,none,rfl,s0,R,[],rfl,?_,rfl⟩;rw[cH_ hR,aa_]
   .rintro i σ H' hi ⟨R,e,rfl,sH,rep⟩;nofun;have hT':=hT.mono sH;obtain⟨a,ea,at0,ra⟩:=hT'.at_ hi;rw[CH_];show⟨_,hT'.top,_,at0,_,rfl,_,.inl ra,?_⟩;right
    have eN:(((Tt.getD i []).map λn:Nat=>V.int n).length:Int)+(if(i:Int)<(Pp:Int)then 1 else 0)=((rl Tt i+(if i<Pp then 1 else 0):Nat):Int):=by
     rw[Ab_];unfold rl;by_cases z:i<Pp
     .rw[if_pos o_,if_pos z];lia
     .rw[if_neg o_,if_neg z];lia
    rw[eN];have c1:=gv_ Tt Pp (n:=i+1) (m:=Tt.length) hi;have c2:(Gf_ Tt Pp Tt.length).length<=900:=c9;rw[de_,Al_,Ab_,Br_]at c1;clear eN;generalize hN:rl Tt i+(if i<Pp then 1 else 0)=N at c1⊢;show⟨o_,o_,?_⟩;obtain⟨R',vs,eR,hR',reps⟩:=rep;cases eR;obtain⟨nR,hR1⟩:=aY_ hR';have lv:=reps.length;rw[Ab_]at lv;show cA_ (n:=N) (B:=H) (Pσ:=λσ=>∃e,σ=[e,some (.int i)]) (ds:=((List.range N).map λk=>(i,k)).map dC) sH ⟨none,rfl⟩ s_ o_ (λj H2 hj s2=>by change j<Int.toNat _;lia) (λH2 s2=>by change Int.toNat _<=_;lia) ?_ ?_
    .rintro D j z d σ' H2 H2' hD hDo hs2 hj hdj ⟨rfl,rfl⟩ ⟨e2,rfl⟩ R2 kR;nofun;show⟨d_,λp hp=>kR _ _ _ ⟨_,rfl⟩ (Fo_.new hp) ?_⟩;have:d=dC (i,j):=by rw[Bv_,Af_,Ct_ hj]at hdj;show(AB_ hdj).symm
     rw[this];show mL_ ?_;obtain⟨oD,hoD⟩:=hDo;rw[bo_ (λz=>by rw[z,hoD]at hp;cases hp) ((sH.trans hs2).free hp),aa_];change some (HO.tup [V.int i,V.int (0+(j:Int))])=some (HO.tup [V.int i,V.int j]);rw[CH_]
    .intro D H2 hD s2 rep2;obtain⟨D',ws,eD,hD',reps2⟩:=rep2;cases eD;obtain⟨nD,hD1⟩:=aY_ hD';have lw:=reps2.length;rw[Ab_,Ab_,Br_]at lw;show⟨_,rfl,_,s2 _ _ hR1,_,hD1,AS_ (Fq_ (show vs.length+ws.length<=1000 by rw[lv,lw];lia)),λp hp=>⟨(sH.trans s2).trans (Fo_.new hp),p,vs++ws,rfl,?_,?_⟩⟩
     .rw[cH_ ((sH.trans s2).free hp),aa_]
     .rw[de_,hN,Av_];show(FM_.mono (jl_ (s2.trans (Fo_.new hp))) _ reps).append (FM_.mono (jl_ (Fo_.new hp)) _ reps2)
   .rintro σ H' ⟨R,e,rfl,sH,rep⟩;nofun;show k R H' sH rep
def Dn(p k:Nat)(e:Nat×Nat):Prop:=e.1<p\/(e.1=p/\e.2<k)
theorem oy_{a b:Nat×Nat}(h:cK a=cK b):a=b:=by
 unfold cK at h;injection h with h1 h2
 injection h2 with h2 _
 injection h1 with h1
 injection h2 with h2
 show Bl_ o_ o_
structure Mi{α:Type}(ky:α->Key)(T:List (List α))(S:Hp)(D:Nat×Nat->Prop)(k1:List (Key×V))(k2:List (List Key×V)):Prop where
 fi:∀w:α,(∃c q,D c/\wi T c=some w/\FZ_ k1 (ky w)=some (.ref q)/\S q=some (cV c))\/((∀c,D c->wi T c≠some w)/\FZ_ k1 (ky w)=none)
 ma:∀a b,H8_ T a b->D a->D b->∃q,FZ_ k2 (cK a)=some (.ref q)/\S q=some (cV b)
variable{S:Hp}{k1:List (Key×V)}{k2:List (List Key×V)}
theorem Mi.mono{α:Type}{ky:α->Key}{T:List (List α)}{S':Hp}{D:Nat×Nat->Prop}(h:Mi ky T S D k1 k2)(s:Fo_ S S'):Mi ky T S' D k1 k2 :=
 ⟨λw=>(h.fi w).imp (λ⟨c,q,a,b,d,e⟩=>⟨c,q,a,b,d,s _ _ e⟩) id,λa b m x y=>(h.ma a b m x y).elim λq z=>⟨q,z.1,s _ _ z.2⟩⟩
theorem Mi.imp{α:Type}{ky:α->Key}{T:List (List α)}{D D':Nat×Nat->Prop}(h:Mi ky T S D k1 k2)(i:∀c w,wi T c=some w->(D c↔D' c)):Mi ky T S D' k1 k2 :=
 ⟨λw=>(h.fi w).imp (λ⟨c,q,a,b,d,e⟩=>⟨c,q,(i c _ b).mp a,b,d,e⟩) (λ⟨a,b⟩=>⟨λc x y=>a c ((i c _ y).mpr x) y,b⟩),λa b m x y=>by obtain⟨_,w,wa,wb⟩:=id m;show h.ma a b m ((i a _ wa).mpr x) ((i b _ wb).mpr y)⟩
theorem Mi.new{α:Type}[DecidableEq α]{ky:α->Key}{T:List (List α)}{D:Nat×Nat->Prop}(h:Mi ky T S D k1 k2){c0:Nat×Nat}{w:α}{q0:Addr}(inj:∀a b,ky a=ky b->a=b)(hw:wi T c0=some w)(hn:FZ_ k1 (ky w)=none)(h0:S q0=some (cV c0)):
  Mi ky T S (λc=>D c\/c=c0) (Gd_ k1 (ky w) (.ref q0)) k2:=by
 have no:∀c,D c->wi T c≠some w:=by
  rcases h.fi w with⟨c,q,_,_,e,_⟩|⟨a,_⟩
  .rw[hn]at e;cases e
  .show a
 show⟨λw'=>?_,λa b m x y=>?_⟩
 .rw[fx_];by_cases e:w'=w
  .subst e;show .inl ⟨c0,q0,.inr rfl,hw,by rw[if_pos rfl],h0⟩
  .rw[if_neg (λz=>e (inj _ _ z))]
   rcases h.fi w' with⟨c,q,a,b,d,f⟩|⟨a,b⟩
   .show .inl ⟨c,q,.inl a,b,d,f⟩
   .show .inr ⟨λc hc hcw=>?_,b⟩
    rcases hc with hc|hc
    .show a c hc hcw
    .rw[hc,hw]at hcw;cases hcw;show e rfl
 .obtain⟨ne,w',wa,wb⟩:=id m
  rcases x with x|x <;> rcases y with y|y
  .show h.ma a b m x y
  .rw[y,hw]at wb;cases wb;show absurd wa (no a x)
  .rw[x,hw]at wa;cases wa;show absurd wb (no b y)
  .show absurd (x.trans y.symm) ne
variable{q:Addr}
theorem Mi.old{α:Type}[DecidableEq α]{ky:α->Key}{T:List (List α)}{D:Nat×Nat->Prop}(tw:Tw T)(h:Mi ky T S D k1 k2){c0 c:Nat×Nat}{w:α}{q0:Addr}(hw:wi T c0=some w)(hD:¬ D c0)(hc:D c)(hcw:wi T c=some w)(hq:S q=some (cV c))(h0:S q0=some (cV c0)):
  Mi ky T S (λc=>D c\/c=c0) k1 (Gd_ (Gd_ k2 (cK c0) (.ref q)) (cK c) (.ref q0)):=by
 have ne:c≠c0:=λz=>hD (z▸hc);have m0:H8_ T c c0:=⟨ne,w,hcw,hw⟩;show⟨λw'=>?_,λa b m x y=>?_⟩
 .rcases h.fi w' with⟨c,q,a,b,d,f⟩|⟨a,b⟩
  .show .inl ⟨c,q,.inl a,b,d,f⟩
  .show .inr ⟨λc' hc' hcw'=>?_,b⟩
   rcases hc' with hc'|hc'
   .show a c' hc' hcw'
   .rw[hc',hw]at hcw';cases hcw';show a c hc hcw
 .rw[fx_,fx_];by_cases e1:a=c
  .subst e1;rw[if_pos rfl,fy_ tw m m0];show⟨q0,rfl,h0⟩
  .rw[if_neg (λz=>e1 (oy_ z))];by_cases e2:a=c0
   .subst e2;rw[if_pos rfl,fy_ tw m m0.symm];show⟨q,rfl,hq⟩
   .rw[if_neg (λz=>e2 (oy_ z))];have da:=x.resolve_right e2
    rcases y with y|y
    .show h.ma a b m da y
    .rw[y]at m;show absurd (fy_ tw m.symm m0.symm) e1
structure MS(H S H':Hp)(F M:Addr)(k1:List (Key×V))(k2:List (List Key×V)):Prop where
 hS:Fo_ H S
 sF:S F=none
 sM:S M=none
 sH:Fo_ S H'
 f:H' F=some (.dK k1)
 m:H' M=some (.dT k2)
variable{H':Hp}{F M:Addr}
theorem MS.new{p:Addr}{o:HO}(h:MS H S H' F M k1 k2)(hp:H' p=none):MS H (upd S p o) (upd H' p o) F M k1 k2:=by
 have nF:F≠p:=λz=>by rw[<-z,h.f]at hp;cases hp
 have nM:M≠p:=λz=>by rw[<-z,h.m]at hp;cases hp
 show⟨h.hS.trans (bk_ h.sH hp),by rw[ae_ nF];show h.sF,by rw[ae_ nM];show h.sM,gQ_ h.sH hp,by rw[ae_ nF];show h.f,by rw[ae_ nM];show h.m⟩
theorem MS.ne(h:MS H S H' F M k1 k2):F≠M:=λz=>by have:=h.f;rw[z,h.m]at this;cases this
theorem MS.putF(h:MS H S H' F M k1 k2)(k1':List (Key×V)):MS H S (upd H' F (.dK k1')) F M k1' k2 :=
 ⟨h.hS,h.sF,h.sM,cB_ h.sH h.sF,aa_,by rw[ae_ h.ne.symm];show h.m⟩
theorem MS.putM(h:MS H S H' F M k1 k2)(k2':List (List Key×V)):MS H S (upd H' M (.dT k2')) F M k1 k2' :=
 ⟨h.hS,h.sF,h.sM,cB_ h.sH h.sM,by rw[ae_ h.ne];show h.f,aa_⟩
abbrev F5_:Stmt:=stN 20
theorem du_:ZL ["_law_turns","_law_first","_law_mates_here","_law_p","_law_k","_law_wire"] ["_law_turns"] (Fp_ F5_):=zL
theorem fH_:LK F5_ "len" .globalImplicit:=r_
theorem ev_:LK F5_ "range" .globalImplicit:=r_
def Ie_:Sp:=λvs H Q _=>∃(α:Type)(_:DecidableEq α)(lab:α->V)(ky:α->Key)(l:Addr)(as_:List Addr)(T:List (List α)),vs=[.ref l]/\(∀w,lab w=kV (ky w))/\(∀a b,ky a=ky b->a=b)/\Tg lab H l as_ T/\Tw T/\T.length<=16/\(∀p,rl T p<=30)/\∀m H',Fo_ H H'->H m=none->GK_ H' m T->Q (.ref m) H'
theorem mM_(T:Txt K mg)(F:Fn0 K mg "_law_mates" F5_):Cal P w K mg base "_law_mates" ["_law_turns"] 1 Ie_:=by
  show aU_ F du_.1 λf cdv A outer s H vs Q E hr h=>?_;obtain⟨α,dec,lab,ky,l,as_,Tt,rfl,hlab,inj,hT,tw,t16,r30,k⟩:=h;refine'⟨_,?D,?R⟩
  case D =>
   refine' ad_ ?a (ad_ ?b ?c)
   case a=>show zas 1 du_ eO_
   case b=>show zas 2 du_ nn_
   case' c=>refine' ad_ (aO_ AC_ rfl (a5_ ev_ T.n_range (pa_c (ak_ al_ fH_ T.n_len aH_ (pa_c (zv 0 du_) ab_)) ab_)) ?d ?e) (af_ (az_ (zv 2 du_)))
   case d=>show zh 3 du_
   case' e=>refine' af_ (aO_ AC_ rfl ?f ?g (ad_ (zas 5 du_ (Fv_ an_ (Fv_ an_ (zv 0 du_) (zv 3 du_)) (zv 4 du_))) ?h))
   case' f=>refine' a5_ ev_ T.n_range (pa_c (ak_ al_ fH_ T.n_len aH_ (pa_c (Fv_ an_ (zv 0 du_) (zv 3 du_)) ab_)) ab_)
   case g=>show zh 4 du_
   case' h=>refine' af_ (F4_ (ft_ (oe_ (un1 hr.units) (zv 5 du_) (zv 1 du_))) ?i (af_ (fZ_ (un1 hr.units) (zv 1 du_) (zv 5 du_) (aF_ (pa_c (zv 3 du_) (pa_c (zv 4 du_) ab_))) rfl)))
   case' i=>refine' ad_ (fZ_ (un1 hr.units) (zv 2 du_) (aF_ (pa_c (zv 3 du_) (pa_c (zv 4 du_) ab_))) (dd_ (un1 hr.units) (zv 1 du_) (zv 5 du_)) rfl) ?j
   case' j=>refine' af_ (fZ_ (un1 hr.units) (zv 2 du_) (dd_ (un1 hr.units) (zv 1 du_) (zv 5 du_)) (aF_ (pa_c (zv 3 du_) (pa_c (zv 4 du_) ab_))) rfl)
  case R =>
   nofun;intro Fd hFd Md hMd;have s0:Fo_ H (upd (upd H Fd (HO.dK [])) Md (HO.dT [])):=(Fo_.new hFd).trans (Fo_.new hMd);have nF:Fd≠Md:=λz=>by rw[<-z,aa_]at hMd;cases hMd
   have hM0:H Md=none:=(Fo_.new hFd).free hMd;have ms0:MS H H (upd (upd H Fd (HO.dK [])) Md (HO.dT [])) Fd Md [] []:=⟨Fo_.refl _,hFd,hM0,s0,by rw[ae_ nF];show aa_,aa_⟩;generalize upd (upd H Fd (HO.dK [])) Md (HO.dT [])=H0 at s0 ms0⊢;show⟨_,.inl (s0 _ _ hT.top),?_⟩;rw[Ab_,hT.len];show⟨o_,o_,?_⟩;rw[AK_];show cb_ (λi σ H'=>∃(S:Hp)(k1:List (Key×V))(k2:List (List Key×V))(e3 e4 e5:Option V),σ=[some (.ref l),some (.ref Fd),some (.ref Md),e3,e4,e5]/\MS H S H' Fd Md k1 k2/\Mi ky Tt S (Dn i 0) k1 k2/\k1.length<=30*i/\k2.length<=60*i) ?_ ?_ ?_
   .show⟨H,[],[],_,_,_,rfl,ms0,⟨λw=>.inr ⟨λc hc=>?_,rfl⟩,λa b m x y=>?_⟩,Aj_ _,Aj_ _⟩
    .rcases hc with z|z <;> lia
    .rcases x with z|z <;> lia
   .rintro i σ H' hi ⟨S,k1,k2,e3,e4,e5,rfl,ms,mi,l1,l2⟩;have hT1:=(hT.mono ms.hS).mono ms.sH;obtain⟨a,ea,at0,ra⟩:=hT1.at_ hi;nofun;rw[CH_];show⟨_,hT1.top,_,at0,_,rfl,_,.inl ra,?_⟩;rw[Ab_];have r3:=r30 i;unfold rl at r3;show⟨o_,o_,?_⟩;rw[AK_];show cb_ (λj σ H'=>∃(S:Hp)(k1:List (Key×V))(k2:List (List Key×V))(e4 e5:Option V),σ=[some (.ref l),some (.ref Fd),some (.ref Md),some (.int i),e4,e5]/\MS H S H' Fd Md k1 k2/\Mi ky Tt S (Dn i j) k1 k2/\k1.length<=30*i+j/\k2.length<=60*i+2*j) ?_ ?_ ?_
    .show⟨S,k1,k2,_,_,rfl,ms,mi,o_,o_⟩
    .clear ms mi l1 l2 hT1 ra ea at0 a k1 k2 S;rintro j σ H' hj ⟨S,k1,k2,e4,e5,rfl,ms,mi,l1,l2⟩;have hT1:=(hT.mono ms.hS).mono ms.sH;obtain⟨a,ea,at0,ra⟩:=hT1.at_ hi;nofun;simp only[CH_];obtain⟨w,hw⟩:∃w,(Tt.getD i [])[j]?=some w:=⟨_,Aa_ hj⟩;have hwi:wi Tt (i,j)=some w:=hw;have i16:i<16:=o_
     have nD:¬ Dn i j (i,j):=by unfold Dn;lia
     have eD:∀c w',wi Tt c=some w'->((Dn i j c\/c=(i,j))↔Dn i (j+1) c):=λc w' _=>by
      unfold Dn;constructor
      .rintro((z|⟨z,z2⟩)|z)
       .show .inl z
       .show .inr ⟨z,o_⟩
       .rw[z];show .inr ⟨rfl,Dd_ _⟩
      .rintro(z|⟨z,z2⟩)
       .show .inl (.inl z)
       .by_cases y:c.2=j
        .show .inr (Bl_ z y)
        .show .inl (.inr ⟨z,o_⟩)
     show⟨_,hT1.top,_,at0,_,rfl,_,ra,kV (ky w),?_,_,GQ_.k (k:=ky w) ms.f,?_⟩
     .show fv_ o_ (by rw[AK_,Af_,hw,Cx_,hlab])
     rcases mi.fi w with⟨c,q,dc,wc,hv,hq⟩|⟨no,hv⟩
     .rw[if_pos (by rw[hv];rfl)];show⟨.ref q,hv▸GQ_.k (k:=ky w) ms.f,d_,λp hp=>?_⟩;have ms1:=ms.new (o:=cV (i,j)) hp;have ms2:=ms1.putM (Gd_ k2 (cK (i,j)) (.ref q));have z1:=bf_ k2 (cK (i,j)) (.ref q);show⟨_,Iv_.t (k:=cK (i,j)) ms1.m aa_ (Fq_ o_),d_,λq0 hq0=>?_⟩;have ms3:=ms2.new (o:=cV (i,j)) hq0;have mi3:=(mi.mono (bk_ (o:=cV (i,j)) ms.sH hp)).mono (bk_ (o:=cV (i,j)) ms2.sH hq0);have hqS:=bk_ (o:=cV (i,j)) ms2.sH hq0 _ _ (bk_ (o:=cV (i,j)) ms.sH hp _ _ hq);have z2:=bf_ (Gd_ k2 (cK (i,j)) (.ref q)) (cK c) (.ref q0);show⟨.ref q,hv▸GQ_.k (k:=ky w) ms3.f,_,Iv_.t (k:=cK c) ms3.m (ms3.sH _ _ hqS) (Fq_ o_),?_⟩;show⟨_,_,_,ms3.putM _,(Mi.old tw mi3 hwi nD dc wc hqS aa_).imp eD,o_,o_⟩
     .rw[if_neg (by rw[hv];decide)];show⟨d_,λq0 hq0=>?_⟩;have ms1:=ms.new (o:=cV (i,j)) hq0;have z1:=bf_ k1 (ky w) (.ref q0);show⟨_,Iv_.k (k:=ky w) ms1.f (Fq_ o_),?_⟩;show⟨_,_,_,ms1.putF _,((mi.mono (bk_ ms.sH hq0)).new inj hwi hv aa_).imp eD,o_,o_⟩
    .rintro σ H' ⟨S,k1,k2,e4,e5,rfl,ms,mi,l1,l2⟩;show⟨S,k1,k2,_,_,_,rfl,ms,mi.imp λc w hw=>?_,o_,o_⟩;have:=(GD_ hw).1;unfold rl at this;unfold Dn;constructor
     .rintro(z|⟨z,z2⟩)
      .show .inl o_
      .show .inl o_
     .rintro(z|⟨z,z2⟩)
      .by_cases y:c.1=i
       .rw[y]at this;show .inr ⟨y,this⟩
       .show .inl o_
      .lia
   .rintro σ H' ⟨S,k1,k2,e3,e4,e5,rfl,ms,mi,l1,l2⟩;nofun;show k Md H' (ms.hS.trans ms.sH) hM0 ⟨k2,ms.m,λa b m=>?_⟩;obtain⟨ne,w,wa,wb⟩:=id m;obtain⟨q,h1,h2⟩:=mi.ma a b m (.inl (GD_ wa).2) (.inl (GD_ wb).2);show⟨q,h1,ms.sH _ _ h2⟩
structure To(B H:Hp)(l:Addr)(as_:List Addr)(T:List (List Nat)):Prop where
 tn:Tn H l as_ T
 nd:as_.Nodup
 nl:l∉as_
 fl:B l=none
 fa:∀a∈as_,B a=none
variable{T:List (List Nat)}
theorem To.mono{B:Hp}(h:To B H l as_ T)(s:Fo_ H H'):To B H' l as_ T:=⟨h.tn.mono s,h.nd,h.nl,h.fl,h.fa⟩
theorem kG_(n p:Nat):(List.replicate n ([]:List Nat)).getD p []=[]:=by rw[Ad_,C0_];split <;> rfl
theorem Ji_(T:List (List Nat))(p:Nat):rl T p<=T.flatten.length:=by
 unfold rl;rw[Ad_];cases e:T[p]? with
 |none=>show AE_ _
 |some l =>
  obtain⟨hp,e1⟩:=Ai_.mp e;have h2:T.flatten.length=(T.take p).flatten.length+(T.drop p).flatten.length:=by rw[<-Al_,<-Be_,Bk_]
  rw[Cl_ hp,e1,A8_,Al_]at h2;change l.length<=_;lia
theorem both{c1:Prop}[Decidable c1]{α:Type}{C:α->Prop}{c2:α->Prop}[∀x,Decidable (c2 x)]{X:α->Prop}{Y:Prop}(a:α)(ha:C a)(hX:c1->c2 a->X a)(hY:Y):if c1 then ∃x,C x/\(if c2 x then X x else Y)else Y:=by
 by_cases h1:c1
 .rw[if_pos h1];show⟨a,ha,?_⟩;by_cases h2:c2 a
  .rw[if_pos h2];show hX h1 h2
  .rw[if_neg h2];show hY
 .rw[if_neg h1];show hY
theorem kH_(l:List Nat)(k wire:Nat):(l.map λn:Nat=>V.int n).take k++V.int (0+(wire:Nat))::(l.map λn:Nat=>V.int n).drop k=(RimT.ins l k wire).map λn:Nat=>V.int n:=by unfold RimT.ins;rw[Av_,AZ_,Cw_,Dc_,CH_]
theorem To.ins{B:Hp}(h:To B H l as_ T){c:Nat×Nat}{a:Addr}(ha:as_[c.1]?=some a)(wire:Nat):To B (upd H a (.lst ((RimT.ins (T.getD c.1 []) c.2 wire).map λn:Nat=>V.int n))) l as_ (Fu_ T c wire):=by
 have la:l≠a:=λe=>h.nl (by rw[e];show Ag_ ha);have cl:c.1<as_.length:=(Ai_.mp ha).1;show⟨⟨by rw[ae_ la];show h.tn.top,by rw[ap_];show h.tn.len,λp b hb=>?_⟩,h.nd,h.nl,h.fl,h.fa⟩;by_cases e:c.1=p
 .subst e;rw[ha]at hb;cases hb;rw[aa_];unfold Fu_;rw[Ad_ (l:=T.set _ _),A3_,if_pos rfl,if_pos (by rw[<-h.tn.len];show cl)];rfl
 .have ba:b≠a:=λz=>by rw[z]at hb;show e ((A4_ cl h.nd).mp (ha.trans hb.symm))
  rw[ae_ ba,h.tn.row p b hb];unfold Fu_;rw[Ad_ (l:=T.set _ _),A3_,if_neg e,<-Ad_]
theorem To.more{B:Hp}(h:To B H l as_ T)(sB:Fo_ B H){a:Addr}(na:H a=none)(r:List Nat):To B (upd (upd H a (.lst (r.map λn:Nat=>V.int n))) l (.lst ((as_++[a]).map V.ref))) l (as_++[a]) (T++[r]):=by
 have la:l≠a:=ag_ h.tn.top na;have an:a∉as_:=λz=>by obtain⟨p,hp,e⟩:=Ap_.mp z;have:=h.tn.row p a (by rw[Aa_ hp,e]);rw[na]at this;cases this
 show⟨⟨aa_,by simp[h.tn.len],λp b hb=>?_⟩,AG_.mpr ⟨h.nd,s_,λx hx y hy e=>an (by rw[<-Ae_.mp hy,<-e];show hx)⟩,λz=>?_,h.fl,λb hb=>?_⟩
 .have bl:b≠l:=λe=>by
   rw[e]at hb
   rcases Aq_.mp (Ag_ hb)with z|z
   .show h.nl z
   .show la (Ae_.mp z)
  rw[ae_ bl];by_cases hp:p<as_.length
  .rw[Aw_ hp]at hb;have e:=h.tn.row p b hb;rw[ae_ (λz=>by rw[z,na]at e;cases e),e,Ad_,Ad_,Aw_ (by rw[<-h.tn.len];show hp)]
  .rw[Az_ o_]at hb;have e:=Ae_.mp (Ag_ hb);have hz:p=as_.length:=by have:=(Ai_.mp hb).1;simp at this;lia
   rw[e,aa_,hz,h.tn.len,Ad_,Az_ (Aj_ _)];simp
 .rcases Aq_.mp z with z|z
  .show h.nl z
  .show la (Ae_.mp z)
 .rcases Aq_.mp hb with z|z
  .show h.fa b z
  .rw[Ae_.mp z];show sB.free na
abbrev FI_:Stmt:=stN 24
theorem a7_:ZL ["_law_big_here","_law_posts","_law_many","_law_within","_law_turns","_law_wire","_law_corners_here","_law_one","_law_way","_law_region_here","_law_other","_law_p","_law_k"] ["_law_big_here","_law_posts","_law_many","_law_within"] (Fp_ FI_):=zL
theorem bh_:LK FI_ "_law_turns" .local:=r_
theorem fI_:LK FI_ "_law_corners" .globalImplicit:=r_
theorem gD_:LK FI_ "_law_mates" .globalImplicit:=r_
theorem f6_:LK FI_ "_law_region" .globalImplicit:=r_
theorem bR_:LK FI_ "len" .globalImplicit:=r_
theorem ew_:LK FI_ "range" .globalImplicit:=r_
theorem gE_:LK FI_ "sorted" .globalImplicit:=r_
def H7_:Sp:=λvs H Q _=>∃(z:Int)(P W:Nat),vs=[.int z,.int P,.int W,.int 10]/\1<=P/\P<=6/\W<=15 /\
 ∀(p l:Addr)(as_:List Addr)(T:List (List Nat))(y:Int) H',Fo_ H H'->H' p=some (.tup [.ref l,.int y])->To H H' l as_ T->GrN P W T->Q (.ref p) H'
theorem mN_(T:Txt K mg)(F:Fn0 K mg "_law_grown" FI_) (Is_:Cal P w K mg base "_law_corners" ["_law_turns","_law_posts"] 1 Hh_) (Jo_:Cal P w K mg base "_law_mates" ["_law_turns"] 1 Ie_) (I1_:Cal P w K mg base "_law_region" ["_law_turns","_law_posts","_law_mates_here","_law_corner"] 2 HC_):Cal P w K mg base "_law_grown" ["_law_big_here","_law_posts","_law_many","_law_within"] 3 H7_:=by
  show aU_ F a7_.1 λf cdv A outer s H vs Q E hr h=>?_;obtain⟨z,Pp,W,rfl,P1,P6,W15,k⟩:=h;refine'⟨_,?D,?R⟩
  case D =>
   refine' ai_ (dL_ (i:=4) (N':=["_law_p"]) (ix:=[none]) rfl rfl a7_.nd rfl bh_ rfl (bL_ ?a) (a5_ ew_ T.n_range (pa_c (zv 1 a7_) ab_)) (λ_ _ _=>?b) (λ_ _ _=>?c) (λ_ _ _=>(bn_ ab_))) ?d
   case a=>show(by change G5_ (Fp_ FI_) ["_law_big_here","_law_posts","_law_many","_law_within","_law_turns","_law_wire","_law_corners_here","_law_one","_law_way","_law_region_here","_law_other","_law_p","_law_k"] _ _ _=true;decide +kernel)
   case b=>show ah_ (i:=0) (by change List.Nodup (["_law_p"]:List Str);decide +kernel) rfl rfl
   case c=>show dk_
   case' d=>refine' ad_ ?e (af_ (az_ (aF_ (pa_c (zv 4 a7_) (pa_c (zv 0 a7_) ab_)))))
   case' e=>refine' aO_ AC_ rfl (a5_ ew_ T.n_range (pa_c (zv 2 a7_) ab_)) ?f (ai_ (zas 6 a7_ (am_ Is_ (hr.mono d_) fI_ (pa_c (zv 4 a7_) (pa_c (zv 1 a7_) ab_)))) ?g)
   case f=>show zh 5 a7_
   case' g=>refine' ai_ (zas 7 a7_ (Fv_ an_ (zv 6 a7_) (Fs_ aJ_ (zv 0 a7_) (ak_ al_ bR_ T.n_len aH_ (pa_c (zv 6 a7_) ab_))))) ?h
   case' h=>refine' ai_ (zas 0 a7_ (Fs_ aw_ (zv 0 a7_) (ak_ al_ bR_ T.n_len aH_ (pa_c (zv 6 a7_) ab_)))) ?i
   case' i=>refine' ai_ (zas 8 a7_ (Fs_ aJ_ (zv 0 a7_) ac_)) (ai_ (zas 0 a7_ (Fs_ aw_ (zv 0 a7_) ac_)) (af_ ?j))
   case' j=>refine' F4_ ?k (ai_ ?l (af_ (aK_ (Gn_ AF_ AV_ AW_ aQ_ (zv 4 a7_) (pa_c (bn_ (pa_c (zv 5 a7_) ab_)) ab_))))) ?m
   case' k=>refine' PW.pt (eg_ (aq_ GP_ (zv 8 a7_) ac_ (FJ_ _)) (dG_ (aq_ HI_ (ak_ al_ bR_ T.n_len aH_ (pa_c (zv 4 a7_) ab_)) (Fs_ aS_ (zv 1 a7_) (zv 3 a7_)) (FJ_ _))))
   case' l=>refine' aK_ (Gn_ AF_ Eh_ Ei_ jm_ (Fv_ an_ (zv 4 a7_) (Fv_ ao_ (zv 7 a7_) ac_)) (pa_c (Fv_ ao_ (zv 7 a7_) ac_) (pa_c (zv 5 a7_) ab_)))
   case' m=>refine' ai_ ?n (ai_ (zas 10 a7_ (Fv_ an_ (zv 9 a7_) (Fs_ aJ_ (zv 0 a7_) (ak_ al_ bR_ T.n_len aH_ (pa_c (zv 9 a7_) ab_))))) ?o)
   case' n=>refine' zas 9 a7_ (am_ I1_ (hr.mono d_) f6_ (pa_c (zv 4 a7_) (pa_c (zv 1 a7_) (pa_c (am_ Jo_ (hr.mono d_) gD_ (pa_c (zv 4 a7_) ab_)) (pa_c (zv 7 a7_) ab_)))))
   case' o=>refine' ai_ (zas 0 a7_ (Fs_ aw_ (zv 0 a7_) (ak_ al_ bR_ T.n_len aH_ (pa_c (zv 9 a7_) ab_)))) ?p
   case' p=>refine' af_ (aO_ AC_ rfl ?q (bp_ (K:=K) (n:=2) rfl rfl (au_ ?r (au_ ?s bm_))) ?t)
   case' q=>refine' ax_ (K:=K) rfl (kr_ hr.units gE_ T.n_sorted (pa_c (bn_ (pa_c (zv 7 a7_) (pa_c (zv 10 a7_) ab_))) ab_))
   case r=>show zh 11 a7_
   case s=>show zh 12 a7_
   case' t=>refine' af_ (aK_ (Gn_ AF_ Eh_ Ei_ jm_ (Fv_ an_ (zv 4 a7_) (zv 11 a7_)) (pa_c (zv 12 a7_) (pa_c (zv 5 a7_) ab_))))
  case R =>
   nofun;show⟨o_,o_,?_⟩;rw[show Int.toNat (Pp:Int)=Pp by lia];intro D hD;show⟨λi m σ H'=>m=Pp-i/\i<=Pp/\(∃e,σ=[e])/\Fo_ H H'/\∃as_:List Addr,as_.length=i/\To H H' D as_ (List.replicate i []),⟨Pp,s_,AE_ _,⟨_,rfl⟩,Fo_.new hD,[],rfl,⟨⟨aa_,rfl,λp a h=>(by cases h)⟩,A6_,λh=>(by cases h),hD,λa h=>(by cases h)⟩⟩,?_⟩;rintro i m σ H' ⟨rfl,hi,⟨e,rfl⟩,s1,as_,al,hT⟩;by_cases hlt:i<Pp
   .show .inr ⟨hlt,λσ2 H2=>(∃e,σ2=[e])/\Fo_ H H2/\∃as_:List Addr,as_.length=i+1/\To H H2 D as_ (List.replicate (i+1) []),λσ2 H2 ⟨a,b,c⟩=>⟨Pp-(i+1),o_,rfl,hlt,a,b,c⟩,?_⟩;rintro x H'' ⟨rfl,rfl⟩;nofun;show⟨AE_ _,λa na=>?_⟩;have fa:H a=none:=s1.free na;have Da:D≠a:=ag_ hT.tn.top na;show⟨as_.map V.ref,by rw[ae_ Da];show hT.tn.top,Fq_ (by rw[Ab_];lia),⟨_,rfl⟩,λb o hb=>?_,as_++[a],by simp[al],?_⟩
    .rw[ae_ (ag_ hb hD),ae_ (ag_ hb fa)];show s1 _ _ hb
    .have an:a∉as_:=λh=>by obtain⟨p,hp,e⟩:=Ap_.mp h;have:=hT.tn.row p a (by rw[Aa_ hp,e]);rw[na]at this;cases this
     show⟨⟨by rw[aa_,Av_];rfl,by simp[al],λp b hb=>?_⟩,?_,?_,hD,λb hb=>?_⟩
     .have hbD:b≠D:=λe=>by
       rw[e]at hb
       rcases Aq_.mp (Ag_ hb)with h|h
       .show hT.nl h
       .show Da (Ae_.mp h)
      rw[ae_ hbD];by_cases hp:p<as_.length
      .rw[Aw_ hp]at hb;have e:=hT.tn.row p b hb;rw[ae_ (λz=>by rw[z,na]at e;cases e),e,kG_,show([]:List Nat)::List.replicate i []=List.replicate (i+1) []from rfl,kG_]
      .have e:b=a:=by rw[Az_ o_]at hb;have:=Ag_ hb;show Ae_.mp this
       rw[e,aa_,show([]:List Nat)::List.replicate i []=List.replicate (i+1) []from rfl,kG_];rfl
     .show AG_.mpr ⟨hT.nd,s_,λx hx y hy e=>an (by rw[<-Ae_.mp hy,<-e];show hx)⟩
     .intro h
      rcases Aq_.mp h with h|h
      .show hT.nl h
      .show Da (Ae_.mp h)
     .rcases Aq_.mp hb with h|h
      .show hT.fa b h
      .rw[Ae_.mp h];show fa
   .have e:i=Pp:=o_
    subst e;show .inl ⟨Aj_ _,?_⟩;nofun;show⟨o_,o_,?_⟩;rw[show Int.toNat (W:Int)=W by lia];show fB_ (λv σ H2=>∃(z:Int)(e5 e6 e7 e8 e9 e10 e11 e12:Option V)(as_:List Addr)(T:List (List Nat)),σ=[some (.int z),some (.int i),some (.int W),some (.int 10),some (.ref D),e5,e6,e7,e8,e9,e10,e11,e12]/\Fo_ H H2/\To H H2 D as_ T/\GrS i v T) ⟨z,none,none,none,none,none,none,none,none,as_,_,rfl,s1,hT,mD_ i⟩ ?_ ?_
    .rintro v σ H2 hv kc kb hkc hkb G hG ⟨z,e5,e6,e7,e8,e9,e10,e11,e12,as_,T,rfl,s2,hT,gr⟩;show hG ?_;have hv':v<W:=hv;have gc:=gr.corners;have gl:=gr.len;have gm:=gr.most;nofun;show⟨D,as_,T,i,rfl,hT.tn,o_,o_,λR H3 s3 repR=>?_⟩;obtain⟨_,vs,e0,hR',hvs⟩:=id repR;cases e0;obtain⟨nR,hR⟩:=aY_ hR';have hvl:vs.length=(corners T i).length:=by rw[hvs.length,Ab_]
     have c0:0<(corners T i).length:=by have:(0,0)∈corners T i:=e8_.mpr ⟨by change 0<T.length;lia,by change 0<_+(if 0<i then 1 else 0);rw[if_pos o_];lia⟩;show CB_ this
     obtain⟨j,hj,jl⟩:∃j:Nat,z%(vs.length:Int)=j/\j<vs.length:=⟨(z%(vs.length:Int)).toNat,by have:=AY_ z (show(vs.length:Int)≠0 by lia);lia,by have:=AY_ z (show(vs.length:Int)≠0 by lia);have:=AQ_ z (show(0:Int)<(vs.length:Int) by lia);lia⟩;obtain⟨xs,ex,hcs⟩:=ox_ (FM_.mono cI_ _ hvs);have ec:(corners T i)[j]?=some ((corners T i)[j]'o_):=Aa_ _;obtain⟨q,hxq,hq⟩:=hcs.get ec;have ic:IsC T i ((corners T i)[j]'o_):=e8_.mp (A2_ _);generalize(corners T i)[j]'o_=c at*
     have lg:((vs.length:Int)).natAbs.log2<9000:=by
      have:((vs.length:Int)).natAbs<=1000:=o_
      by_cases h0:((vs.length:Int)).natAbs=0
      .rw[h0];decide
      .rw[EG_ h0];show BB_ this r_
     nofun;show⟨vs,.inl hR,o_,vs,hR,.ref q,?_,?_⟩
     .rw[hj];show fv_ o_ ?_;rw[AK_,ex,Af_,hxq];rfl
     nofun;show⟨vs,.inl hR,o_,lg,?_⟩;nofun;show⟨d_,?_⟩;nofun;show⟨d_,r_,?_⟩;nofun;have hT3:=hT.mono s3;have s23:=s2.trans s3;have cb:c.2<=rl T c.1:=by have:=ic.2;split at this <;> lia
     show both (as_.map V.ref) (.inl hT3.tn.top) (λh1 h2=>?_) ?_
     .obtain⟨a,ea,at0,ra⟩:=hT3.tn.at_ ic.1;have rw30:rl T c.1<=30:=by have:=Ji_ T c.1;rw[gr.tot]at this;lia
      have rln:(T.getD c.1 []).length=rl T c.1:=rfl;have Da:D≠a:=λe=>hT3.nl (by rw[e];show Ag_ ea);have fa:=hT3.fa a (Ag_ ea);nofun;show⟨_,hq,_,Gc_,_,_,rfl,hT3.tn.top,.ref a,at0,.inl ⟨_,.inl (.inl ra)⟩,_,hq,_,GE_,a,rfl,_,_,rfl,ra,o_,by rw[Ab_,rln];lia,by rw[Ab_,rln];lia,?_⟩;rw[AK_,kH_];have hT4:=hT3.ins ea v;have s4:Fo_ H (upd H3 a (.lst ((RimT.ins (T.getD c.1 []) c.2 v).map λn:Nat=>V.int n))):=λb o hb=>by rw[ae_ (ag_ hb fa)];show s23 _ _ hb
      generalize upd H3 a (.lst ((RimT.ins (T.getD c.1 []) c.2 v).map λn:Nat=>V.int n))=H4 at*;nofun;show⟨.inl ⟨_,.inl (.inl hT4.tn.top)⟩,d_,λp np=>?_⟩;have Dp:D≠p:=ag_ hT4.tn.top np;have hT5:=hT4.more s4 np [v];show⟨as_.map V.ref,by rw[ae_ Dp];show hT4.tn.top,Fq_ (by rw[Ab_];have:=hT4.tn.len;rw[ap_]at this;lia),?_⟩;have e1:as_.map V.ref++[V.ref p]=(as_++[p]).map V.ref:=s_
      have e2:[V.int (0+(v:Nat))]=[v].map λn:Nat=>V.int n:=s_
      rw[e1,e2];show hkc _ _ ⟨_,_,_,_,_,_,_,_,_,_,_,rfl,λb o hb=>?_,hT5,nG_ gr ic (by rw[Ab_]at h2;have:=hT3.tn.len;lia)⟩;rw[ae_ (ag_ hb hT.fl),ae_ (ag_ hb (s4.free np))];show s4 _ _ hb
     .have rl30:∀p,rl T p<=30:=λp=>by have:=Ji_ T p;rw[gr.tot]at this;lia
      nofun;show⟨Nat,_,_,λn:Nat=>.inl (n:Int),D,as_,T,rfl,λ_=>rfl,λa b h=>Int.ofNat.inj (Sum.inl.inj h),hT3.tn,gr.tw,o_,rl30,λM H4 s4 nM hM=>?_⟩;show⟨_,_,_,D,M,q,as_,T,i,c,rfl,hT3.tn.mono s4,hM,gr.tw,o_,gl,s4 _ _ hq,ic,o_,λR2 H5 xs2 cs2 s5 nR2 hR2 hcs2 ne2 len2 all2 wy2 hd2 nn2=>?_⟩;have x2l:xs2.length=cs2.length:=hcs2.len;have l2:0<cs2.length:=Fg_.mpr ne2
      have lg2:(((xs2.map V.ref).length:Int)).natAbs.log2<9000:=by
       rw[Ab_];by_cases h0:((xs2.length:Int)).natAbs=0
       .rw[h0];decide
       .rw[EG_ h0];show BB_ (show((xs2.length:Int)).natAbs<=1000 by lia) r_
      generalize hy:z/(vs.length:Int)/3=y;obtain⟨j2,hj2,jl2⟩:∃j:Nat,y%((xs2.map V.ref).length:Int)=j/\j<xs2.length:=by rw[Ab_];have a1:=AY_ y (show(xs2.length:Int)≠0 by lia);have a2:=AQ_ y (show(0:Int)<(xs2.length:Int) by lia);show⟨(y%(xs2.length:Int)).toNat,o_,o_⟩
      have ec2:cs2[j2]?=some (cs2[j2]'o_):=Aa_ _;obtain⟨q2,hxq2,hq2⟩:=hcs2.get ec2;have ic2:IsC T i (cs2[j2]'o_):=all2 _ (A2_ _);have md:(cs2[j2]'o_)∈cs2:=A2_ _;generalize cs2[j2]'o_=d at*;have hq5:=s5 _ _ (s4 _ _ hq);nofun;show⟨_,.inl hR2,by rw[Ab_];lia,_,hR2,.ref q2,?_,?_⟩
      .rw[hj2];show fv_ o_ ?_;rw[AK_,Af_,hxq2];rfl
      nofun;show⟨_,.inl hR2,by rw[Ab_];lia,lg2,?_⟩;nofun;show⟨d_,λp np=>⟨(c.1,c.2),(Fo_.new np) _ _ hq5,(d.1,d.2),(Fo_.new np) _ _ hq2,λl zs nl hzs=>⟨⟨_,.inl (.inl aa_)⟩,?_⟩⟩⟩;have cyl:Cyl (Nx T i) cs2:=Reg.cyl ⟨wy2,hd2,nn2⟩;have mc:c∈cs2:=List.mem_of_head? hd2
      obtain⟨r1,r2,a1,a2,ez,g1,g2,i1,i2,ab12,sm12⟩:∃(r1 r2:Addr)(a1 a2:Nat×Nat),zs=[V.ref r1,V.ref r2]/\H5 r1=some (cV a1)/\H5 r2=some (cV a2)/\IsC T i a1/\IsC T i a2/\(a2.1≠a1.1\/a2.2<=a1.2)/\∃l,Cyl (Nx T i) l/\l.Nodup/\(∀x∈l,IsC T i x)/\a1∈l/\a2∈l:=by
       rcases hzs with⟨e,lx⟩|⟨e,lx⟩
       .show⟨q,q2,c,d,e,hq5,hq2,ic,ic2,by have:=hp_.mp lx;dsimp only at this;lia,cs2,cyl,nn2,all2,mc,md⟩
       .show⟨q2,q,d,c,e,hq2,hq5,ic2,ic,by have:=hp_.mp lx;dsimp only at this;lia,cs2,cyl,nn2,all2,md,mc⟩
      have S6:Fo_ H5 (upd (upd H5 p (HO.lst [V.ref q,V.ref q2])) l (HO.lst zs)):=(Fo_.new np).trans (Fo_.new nl);have hT6:=((hT3.mono s4).mono s5).mono S6;have s6:Fo_ H (upd (upd H5 p (HO.lst [V.ref q,V.ref q2])) l (HO.lst zs)):=s23.trans (s4.trans (s5.trans S6));have hl6:=aa_ (H:=upd H5 p (HO.lst [V.ref q,V.ref q2])) (a:=l) (o:=HO.lst zs);have h61:=S6 _ _ g1;have h62:=S6 _ _ g2;have lT:l∉as_:=λz=>by obtain⟨p',hp',e⟩:=Ap_.mp z;have e2:=((hT3.mono s4).mono s5).tn.row p' l (by rw[Aa_ hp',e]);have e3:=(Fo_.new np (o:=HO.lst [V.ref q,V.ref q2])) _ _ e2;rw[nl]at e3;cases e3
      generalize upd (upd H5 p (HO.lst [V.ref q,V.ref q2])) l (HO.lst zs)=H6 at*;have notT:∀r a,H6 r=some (cV a)->r∉as_:=λr a hr z=>by obtain⟨p',hp',e⟩:=Ap_.mp z;have e2:=hT6.tn.row p' r (by rw[Aa_ hp',e]);rw[hr]at e2;cases e2
      subst ez
      have step:∀(T':List (List Nat))(a:Nat×Nat)(H7:Hp),T'.length=T.length->(∀p,rl T p<=rl T' p)->(∀p,rl T' p<=40)->IsC T i a->To H H7 D as_ T'->Fo_ H H7->∃ad,atI (as_.map V.ref) (a.1:Int)=some (.ref ad)/\H7 ad=some (.lst ((T'.getD a.1 []).map λn:Nat=>V.int n))/\(a.2:Nat)<=(T'.getD a.1 []).length/\(T'.getD a.1 []).length<1000/\ad∈as_/\To H (upd H7 ad (.lst ((RimT.ins (T'.getD a.1 []) a.2 v).map λn:Nat=>V.int n))) D as_ (Fu_ T' a v)/\Fo_ H (upd H7 ad (.lst ((RimT.ins (T'.getD a.1 []) a.2 v).map λn:Nat=>V.int n))):=λT' a H7 hl hm h40 ia hT7 s7=>by
       obtain⟨ad,ea,at0,ra⟩:=hT7.tn.at_ (p:=a.1) (by rw[hl];show ia.1);have:=ia.2;have m1:=hm a.1;have m2:=h40 a.1;have ab:a.2<=rl T a.1:=by split at this <;> lia
       show⟨ad,at0,ra,by unfold rl at*;lia,by unfold rl at*;lia,Ag_ ea,hT7.ins ea v,λb o hb=>?_⟩;rw[ae_ (ag_ hb (hT7.fa ad (Ag_ ea)))];show s7 _ _ hb
      have lenS:∀(T':List (List Nat))(a:Nat×Nat)(p:Nat),rl (Fu_ T' a v) p<=rl T' p+1:=λT' a p=>by
       unfold Fu_ rl;rw[Ad_,Ad_,A3_];by_cases h:a.1=p
       .subst h;by_cases h2:a.1<T'.length
        .simp only[if_true,h2,Option.getD_some,eP_];rw[Ad_];show Aj_ _
        .simp[h2,BA_ (CL_.mp h2)]
       .simp[h]
      show bE_ (xs:=[V.ref r1,V.ref r2]) (λt σ H7=>∃(e11 e12:Option V),σ=[some (.int (y/((xs2.map V.ref).length:Int))),some (.int i),some (.int W),some (.int 10),some (.ref D),some (.int (0+(v:Nat))),some (.ref R),some (.ref q),some (.int (z/(vs.length:Int)%3)),some (.ref R2),some (.ref q2),e11,e12]/\Fo_ H H7/\(∀b o,b∉as_->H6 b=some o->H7 b=some o)/\To H H7 D as_ (if t=0 then T else if t=1 then Fu_ T a1 v else Fu_ (Fu_ T a1 v) a2 v)) ⟨e11,e12,rfl,s6,λb o _ h=>h,hT6⟩ ?_ ?_ ?_
      .rintro t σ H7 ht ⟨e11,e12,rfl,s7,k7,hT7⟩;show .inl (.inl (k7 _ _ lT hl6))
      .rintro t x σ H7 hx kc2 kb2 hkc2 hkb2 G2 hG2 ⟨e11,e12,rfl,s7,k7,hT7⟩;show hG2 ?_
       match t,hx with
       |0,hx =>
        cases hx;have hr1:=k7 _ _ (notT _ _ h61) h61;obtain⟨ad,at0,ra,ab,a1000,ain,hT8,s8⟩:=step T a1 H7 rfl (λ_=>Aj_ _) (λp=>by have:=rl30 p;lia) i1 hT7 s7;nofun;show⟨_,SqT.of hr1,rfl,_,_,rfl,_,_,rfl,rfl,_,_,rfl,hT7.tn.top,.ref ad,at0,.inl ⟨_,.inl (.inl ra)⟩,ad,rfl,_,_,rfl,ra,o_,by rw[Ab_,AK_];show ab,by rw[Ab_];show a1000,?_⟩;rw[AK_,kH_];show hkc2 _ _ ⟨_,_,rfl,s8,λb o hb h=>by rw[ae_ (λe=>hb (by rw[e];show ain))];show k7 b o hb h,hT8⟩
       |1,hx =>
        cases hx;have hr2:=k7 _ _ (notT _ _ h62) h62;obtain⟨ad,at0,ra,ab,a1000,ain,hT8,s8⟩:=step (Fu_ T a1 v) a2 H7 (ap_ ..) (λp=>gS_ v p) (λp=>by have:=rl30 p;have:=lenS T a1 p;lia) i2 hT7 s7;nofun;show⟨_,SqT.of hr2,rfl,_,_,rfl,_,_,rfl,rfl,_,_,rfl,hT7.tn.top,.ref ad,at0,.inl ⟨_,.inl (.inl ra)⟩,ad,rfl,_,_,rfl,ra,o_,by rw[Ab_,AK_];show ab,by rw[Ab_];show a1000,?_⟩;rw[AK_,kH_];show hkc2 _ _ ⟨_,_,rfl,s8,λb o hb h=>by rw[ae_ (λe=>hb (by rw[e];show ain))];show k7 b o hb h,hT8⟩
      .rintro σ H7 ⟨e11,e12,rfl,s7,k7,hT7⟩;show hkc _ _ ⟨_,_,_,_,_,_,_,_,_,as_,_,rfl,s7,hT7,pi_ o_ gr i1 i2 ab12 sm12⟩
    .rintro σ H2 ⟨z,e5,e6,e7,e8,e9,e10,e11,e12,as_,T,rfl,s2,hT,gr⟩;nofun;show⟨d_,λp np=>k p D as_ T z _ (s2.trans (Fo_.new np)) aa_ (hT.mono (Fo_.new np)) gr.n⟩
def sgs:List Nat:=(Str.ofString "abcdefghijklmnopqrstuvwxyz0123456789").cps.toList
theorem mO_:sgs.length=36:=r_
theorem qa_:sgs.Nodup:=r_
def sg(i:Nat):Nat:=sgs.getD i 0
variable{i:Nat}
theorem J9_(h:i<36):sgs[i]?=some (sg i):=by unfold sg;rw[Ad_,Aa_ (by rw[mO_];show h)];rfl
theorem mP_{j:Nat}(hi:i<36)(hj:j<36)(h:sg i=sg j):i=j:=(A4_ (by rw[mO_];show hi) qa_).mp (by rw[J9_ hi,J9_ hj,h])
theorem ld_{z:Int}(h0:0<=z)(h1:z<36):atI sgs z=some (sg z.toNat):=fv_ h0 (J9_ o_)
def one(c:Nat):Str:=⟨#[c]⟩
def nmA(hd tl:Str)(fi k:Nat):Str:=hd++one (sg ((fi+7*k)%36))++tl
theorem nN_(a b:Str):(a++b).cps.toList=a.cps.toList++b.cps.toList:=by change(a.cps++b.cps).toList=_;simp
theorem pn_{hd tl:Str}{fi a b:Nat}(ha:a<16)(hb:b<16)(h:nmA hd tl fi a=nmA hd tl fi b):a=b:=by have e:=congrArg (λs:Str=>s.cps.toList) h;simp only[nmA,nN_]at e;have e2:=List.append_cancel_right e;have e3:=List.append_cancel_left e2;have e4:sg ((fi+7*a)%36)=sg ((fi+7*b)%36):=(E5_ e3).1;have:=mP_ (BN_ _ d_) (BN_ _ d_) e4;lia
def nmB(fi k:Nat):Str:=⟨(List.replicate (1+k%7) (sg fi)++if 6<k then[sg ((fi+1+k/7)%36)]else[]).toArray⟩
theorem po_{fi a b:Nat}(hf:fi<36)(ha:a<16)(hb:b<16)(h:nmB fi a=nmB fi b):a=b:=by
 have e0:=congrArg (λs:Str=>s.cps.toList) h;have e:List.replicate (1+a%7) (sg fi)++(if 6<a then[sg ((fi+1+a/7)%36)]else[])=List.replicate (1+b%7) (sg fi)++(if 6<b then[sg ((fi+1+b/7)%36)]else[]):=by simpa[nmB]using e0
 have ne:∀c,6<c->c<16->sg ((fi+1+c/7)%36)≠sg fi:=λc h1 h2 z=>by have:=mP_ (BN_ _ d_) hf z;lia
 have len:=congrArg List.length e;simp only[Al_,EI_]at len;have last:=congrArg List.getLast? e;by_cases h1:6<a <;> by_cases h2:6<b
 .rw[if_pos h1,if_pos h2]at last len;rw[BY_,BY_]at last;have e4:sg ((fi+1+a/7)%36)=sg ((fi+1+b/7)%36):=by simpa using last
  have:=mP_ (BN_ _ d_) (BN_ _ d_) e4;simp at len;lia
 .rw[if_pos h1,if_neg h2]at last;rw[BY_,BL_,Ej_ 1 (b%7),E0_,BY_]at last;show absurd (by simpa using last) (ne a h1 ha)
 .rw[if_neg h1,if_pos h2]at last;rw[BL_,Ej_ 1 (a%7),E0_,BY_,BY_]at last;show absurd (by simpa using last.symm) (ne b h2 hb)
 .rw[if_neg h1,if_neg h2]at len;simp at len;lia
theorem le_{f:Nat->Str}{n:Nat}(h:∀a b,a<n->b<n->f a=f b->a=b):((List.range n).map f).Nodup:=by unfold List.Nodup;rw[Bn_];show Bw_ (λ{a b} ha hb ne e=>ne (h a b (AX_.mp ha) (AX_.mp hb) e)) Ed_
theorem mul_one{c:Nat}:∀m:Nat,1<=m->m<=7->MulOk (one c) (m:Int)/\Txt.mul (one c) (m:Int)=⟨(List.replicate m c).toArray⟩
 |0,h,_=>absurd h d_
 |1,_,_=>⟨⟨d_,λ_ h=>absurd h s_,λ_ h=>absurd h s_⟩,rfl⟩
 |2,_,_=>⟨⟨d_,λ_ _=>(by change ¬ ((1:Int) > _);decide),λ_ _=>(by change Builtin.Str.tooLong 2=false;decide +kernel)⟩,rfl⟩
 |3,_,_=>⟨⟨d_,λ_ _=>(by change ¬ ((1:Int) > _);decide),λ_ _=>(by change Builtin.Str.tooLong 3=false;decide +kernel)⟩,rfl⟩
 |4,_,_=>⟨⟨d_,λ_ _=>(by change ¬ ((1:Int) > _);decide),λ_ _=>(by change Builtin.Str.tooLong 4=false;decide +kernel)⟩,rfl⟩
 |5,_,_=>⟨⟨d_,λ_ _=>(by change ¬ ((1:Int) > _);decide),λ_ _=>(by change Builtin.Str.tooLong 5=false;decide +kernel)⟩,rfl⟩
 |6,_,_=>⟨⟨d_,λ_ _=>(by change ¬ ((1:Int) > _);decide),λ_ _=>(by change Builtin.Str.tooLong 6=false;decide +kernel)⟩,rfl⟩
 |7,_,_=>⟨⟨d_,λ_ _=>(by change ¬ ((1:Int) > _);decide),λ_ _=>(by change Builtin.Str.tooLong 7=false;decide +kernel)⟩,rfl⟩
 |m+8,_,h=>absurd h o_
def opt(x:Str)(b:Bool):Str:=if b then x else Str.empty
theorem pp_(x:Str)(p:Prop)[Decidable p]:MulOk x (if p then 1 else 0)/\Txt.mul x (if p then 1 else 0)=opt x (decide p):=by
 by_cases h:p
 .rw[if_pos h,show decide p=true from As_ h];show⟨⟨d_,λ_ h=>absurd h s_,λ_ h=>absurd h s_⟩,rfl⟩
 .rw[if_neg h,show decide p=false from At_ h];show⟨⟨d_,λh=>absurd d_ h,λh=>absurd d_ h⟩,rfl⟩
theorem qb_(fi k:Nat):(⟨(List.replicate (1+k%7) (sg fi)).toArray⟩:Str)++opt (one (sg ((fi+1+k/7)%36))) (decide (6<k))=nmB fi k:=by
 unfold nmB opt;by_cases h:6<k
 .rw[if_pos (As_ h),if_pos h];change(⟨(List.replicate (1+k%7) (sg fi)).toArray++[sg ((fi+1+k/7)%36)].toArray⟩:Str)=_;rw[List.append_toArray]
 .rw[if_neg (by simp[h]),if_neg h];change(⟨_ ++ #[]⟩:Str)=_;simp
theorem bz_{H:Hp}:∀(ts:List Str),FM_ H (ts.map V.str) (ts.map Dt.str)
 |[]=>rfl
 |t::ts=>⟨_,_,rfl,rfl,bz_ ts⟩
theorem fJ_{H:Hp}:∀{us:List V}{ts:List Str},FM_ H us (ts.map Dt.str)->us=ts.map V.str
 |us,[],h=>h
 |us,n::ns,⟨x,r,e,hx,hr⟩=>by
  cases hx;rw[e,fJ_ hr];rfl
theorem lf_{B:Hp}{D:Addr}{ts:List Str}(hB:B D=none)(h:H D=some (.lst (ts.map V.str))):Rep (Hj_ B H) (.ref D) (.lst (ts.map Dt.str)):=⟨D,_,rfl,by rw[cH_ hB];show h,bz_ ts⟩
theorem jU_(z:Str)(lo hi:Option Int):(Txt.slice z lo hi).length<=z.length:=by
 unfold Txt.slice;split
 .show Aj_ _
 .change(_:Array Nat).size<=_;rw[Au_];show AH_ (Ef_ _ _) (sliceIndices_le lo hi z.length)
abbrev FQ_:Stmt:=stN 25
theorem a2_:ZM ["_law_big_here","_law_many","_law_signs","_law_size","_law_spot","_law_word","_law_rest","_law_k","_law_first","_law_names_here","_law_more"] ["_law_big_here","_law_many"] (Fp_ FQ_):=zM
theorem dU_:LK FQ_ "_law_signs" .cell:=r_
theorem fe_:LK FQ_ "_law_size" .local:=r_
theorem kK_:LK FQ_ "_law_spot" .cell:=r_
theorem ff_:LK FQ_ "_law_word" .cell:=r_
theorem b3_:LK FQ_ "_law_rest" .local:=r_
theorem cR_:LK FQ_ "_law_k" .local:=r_
theorem fg_:LK FQ_ "_law_first" .cell:=r_
theorem dV_:LK FQ_ "_law_names_here" .local:=r_
theorem gz_:LK FQ_ "_law_more" .local:=r_
theorem iP_:LK FQ_ "int" .globalImplicit:=r_
theorem cS_:LK FQ_ "range" .globalImplicit:=r_
def Ic_:Sp:=λvs H Q _=>∃(z:Int)(n:Nat),vs=[.int z,.int n]/\n<=16/\∀D (nms:List Str) H',Fo_ H H'->Rep (Hj_ H H') (.ref D) (.lst (nms.map Dt.str))->nms.length=n->nms.Nodup->Q (.ref D) H'
theorem mQ_(T:Txt K mg)(F:Fn0 K mg "_law_names" FQ_):Cal P w K mg base "_law_names" ["_law_big_here","_law_many"] 1 Ic_:=by
  show aU_ F a2_.1 λf cdv A outer s H vs Q E hr h=>?_;obtain⟨z,n,rfl,n16,k⟩:=h;refine'⟨_,?D,?R⟩
  case D =>
   refine' ad_ (ek_ (i:=2) a2_.nd rfl dU_ rfl fs_ rfl) ?a
   case' a=>refine' ad_ (aj_ (i:=3) a2_.nd rfl fe_ (Fs_ aS_ ac_ (Fs_ aJ_ (zw 0 a2_) ac_))) (ad_ (ek_ (i:=4) a2_.nd rfl kK_ rfl (Fs_ aJ_ (Fs_ aw_ (zw 0 a2_) ac_) (zw 3 a2_)) rfl) ?b)
   case' b=>refine' ad_ (ek_ (i:=5) a2_.nd rfl ff_ rfl fs_ rfl) (ad_ (aj_ (i:=6) a2_.nd rfl b3_ (Fs_ aw_ (zw 0 a2_) ac_)) ?c)
   case' c=>refine' ad_ (aO_ AC_ rfl (a5_ cS_ T.n_range (pa_c (zw 3 a2_) ab_)) ?d ?e) (ad_ (ek_ (i:=8) a2_.nd rfl fg_ rfl (Fs_ aJ_ (zw 6 a2_) ac_) rfl) ?f)
   case d=>show ah_ (i:=7) a2_.nd rfl cR_
   case' e=>refine' ad_ (ek_ (i:=5) a2_.nd rfl ff_ rfl (Fs_ eL_ (zw 5 a2_) (Fv_ kW_ (zw 2 a2_) (Fs_ aJ_ (zw 6 a2_) ac_))) rfl) (af_ (aj_ (i:=6) a2_.nd rfl b3_ (Fs_ aw_ (zw 6 a2_) ac_)))
   case' f=>refine' ad_ (dL_ (i:=9) (N':=["_law_k","_law_word","_law_spot","_law_signs","_law_first"]) (ix:=[none,some 5,some 4,some 2,some 8]) rfl rfl a2_.nd rfl dV_ rfl (bL_ ?g) (a5_ cS_ T.n_range (pa_c (zw 1 a2_) ab_)) (λ_ _ _=>?h) (λ_ _ _=>?i) (λ_ _ _=>(Fs_ eL_ ?j (ca_ mG_ (pvc 1 rfl rfl) (b0_ (Fs_ aS_ (pvc 2 rfl rfl) ac_)) ?k)))) ?l
   case g=>show(by change G5_ (Fp_ FQ_) ["_law_big_here","_law_many","_law_signs","_law_size","_law_spot","_law_word","_law_rest","_law_k","_law_first","_law_names_here","_law_more"] _ _ _=true;decide +kernel)
   case h=>show ah_ (i:=0) (by change List.Nodup (["_law_k","_law_word","_law_spot","_law_signs","_law_first"]:List Str);decide +kernel) rfl rfl
   case i=>show dk_
   case' j=>refine' Fs_ eL_ (ca_ mG_ (pvc 1 rfl rfl) ?m (b0_ (pvc 2 rfl rfl))) (Fv_ kW_ (pvc 3 rfl rfl) (Fs_ aJ_ (Fs_ aS_ (pvc 4 rfl rfl) (Fs_ i2_ ac_ (pv1 0 rfl rfl))) ac_))
   case m=>show dI_
   case k=>show dI_
   case' l=>refine' ad_ (F4_ (aq_ GP_ (Fs_ aJ_ (Fs_ aw_ (zw 6 a2_) ac_) ac_) ac_ (FJ_ _)) ?n aI_) (af_ (az_ (zw 9 a2_)))
   case' n=>refine' ad_ (aj_ (i:=9) a2_.nd rfl dV_ (bn_ ab_)) (af_ (aO_ AC_ rfl (a5_ cS_ T.n_range (pa_c (zw 1 a2_) ab_)) ?o ?p))
   case o=>show ah_ (i:=7) a2_.nd rfl cR_
   case' p=>refine' ad_ (aj_ (i:=10) a2_.nd rfl gz_ (Fv_ kW_ (zw 2 a2_) (Fs_ aJ_ (Fs_ aS_ (Fs_ aS_ (zw 8 a2_) ac_) (Fs_ aw_ (zw 7 a2_) ac_)) ac_))) (af_ ?q)
   case' q=>refine' aK_ (Gn_ AF_ AV_ AW_ aQ_ (zw 9 a2_) (pa_c (Fs_ eL_ (Fs_ h2_ (Fv_ kW_ (zw 2 a2_) (zw 8 a2_)) (Fs_ aS_ ac_ (Fs_ aJ_ (zw 7 a2_) ac_))) ?r) ab_))
   case' r=>refine' Fs_ h2_ (zw 10 a2_) (bQ_ i3_ iP_ T.n_int oc_ (pa_c (il_ J5_ (zw 7 a2_) ac_ (FJ_ _)) ab_))
  case R =>
   nofun;have m8:=AY_ z (show(8:Int)≠0 by decide);have l8:=AQ_ z (show(0:Int)<8 by decide);show⟨d_,d_,r_,o_,d_,r_,o_,o_,?_⟩;have sz:100000<=sizeLine:=by rw[BG_];decide
   have sl:(Str.ofString "abcdefghijklmnopqrstuvwxyz0123456789").length<=sizeLine:=AH_ r_ sz;have e1:∀c,(one c).length=1:=λ_=>rfl;generalize z/8%(1+z%8)=spot;obtain⟨size,hsize,s8⟩:∃m:Nat,(1+z%8).toNat=m/\m<=8:=⟨_,rfl,o_⟩;rw[hsize];generalize hz8:1+z%8=z8;generalize z/64=r0;show cb_ (λi σ H'=>∃(word:Str)(rest:Int)(e7:Option V),σ=[some (.int z),some (.int n),some (.str (Str.ofString "abcdefghijklmnopqrstuvwxyz0123456789")),some (.int z8),some (.int spot),some (.str word),some (.int rest),e7,none,none,none]/\H'=H/\word.length<=i) ⟨_,r0,none,rfl,rfl,r_⟩ ?_ ?_
   .rintro i σ H' hi ⟨word,rest,e7,rfl,rfl,wl⟩;have hi':i<size:=hi;nofun;have m36:=AY_ rest (show(36:Int)≠0 by decide);have l36:=AQ_ rest (show(0:Int)<36 by decide);show⟨d_,sl,_,ld_ m36 l36,?_⟩;have e2:(⟨#[sg (rest%36).toNat]⟩:Str).length=1:=rfl;show⟨o_,d_,r_,by rw[mn_];lia⟩
   .rintro σ H' ⟨word,rest,e7,rfl,rfl,wl⟩;nofun;obtain⟨fi,hfi,fi36⟩:∃fi:Nat,rest%36=fi/\fi<36:=by have a1:=AY_ rest (show(36:Int)≠0 by decide);have a2:=AQ_ rest (show(0:Int)<36 by decide);show⟨(rest%36).toNat,o_,o_⟩
    show⟨d_,o_,o_,?_⟩;rw[hfi,show Int.toNat (n:Int)=n by lia];obtain⟨hd,hhd,hl⟩:∃hd,Txt.slice word none (some spot)=hd/\hd.length<=8:=⟨_,rfl,by have:=jU_ word none (some spot);lia⟩;obtain⟨tl,htl,tl'⟩:∃tl,Txt.slice word (some (spot+1)) none=tl/\tl.length<=8:=⟨_,rfl,by have:=jU_ word (some (spot+1)) none;lia⟩;show cA_ (n:=n) (B:=λ_=>none) (Pσ:=λσ=>∃e,σ=[e,some (.str word),some (.int spot),some (.str (Str.ofString "abcdefghijklmnopqrstuvwxyz0123456789")),some (.int fi)]) (ds:=((List.range n).map (nmA hd tl fi)).map Dt.str) (λb o e=>by cases e) ⟨_,rfl⟩ s_ o_ (λj H2 hj s2=>hj) (λH2 s2=>Aj_ _) ?_ ?_
    .rintro D i x d σ' H2 H2' hD hDo hs2 hi hdi ⟨rfl,rfl⟩ ⟨e,rfl⟩ R kR;nofun;have hi':i<n:=hi;have hd2:d=Dt.str (nmA hd tl fi i):=by rw[Af_,Af_,Ct_ hi']at hdi;show(AB_ hdi).symm
     have eI:((fi:Int)+7*(0+(i:Nat)))%36=(((fi+7*i)%36:Nat):Int):=o_
     have lt36:(fi+7*i)%36<36:=BN_ _ d_;rw[eI];rw[hhd,htl];show⟨o_,.inl ⟨d_,d_⟩,d_,sl,_,ld_ o_ o_,?_⟩;rw[AK_];have e2:(⟨#[sg ((fi+7*i)%36)]⟩:Str).length=1:=rfl;show⟨o_,o_,by rw[mn_];lia,?_⟩;show kR _ _ _ ⟨_,rfl⟩ (Fo_.refl _) ?_;rw[hd2];show rfl
    .intro D H2 hD s2 rep2;show⟨d_,r_,d_,ite2 (λ_=>?_) (λ_=>?_)⟩
     .show⟨AE_ _,λl nl=>⟨o_,o_,?_⟩⟩;have nl':H' l=none:=s2.free nl;show cb_ (λi σ H3=>∃(e7 e12:Option V),σ=[some (.int z),some (.int n),some (.str (Str.ofString "abcdefghijklmnopqrstuvwxyz0123456789")),some (.int z8),some (.int spot),some (.str word),some (.int rest),e7,some (.int fi),some (.ref l),e12]/\Fo_ H' H3/\H3 l=some (.lst (((List.range i).map (nmB fi)).map V.str))) ⟨_,_,rfl,s2.upd nl',aa_⟩ ?_ ?_
      .rintro i σ H3 hi ⟨e7,e12,rfl,s3,hl3⟩;have hi':i<n:=hi;nofun;have eI:((fi:Int)+1+(0+(i:Nat))/7)%36=(((fi+1+i/7)%36:Nat):Int):=o_
       have lt36:(fi+1+i/7)%36<36:=BN_ _ d_;have eM:(1:Int)+(0+(i:Nat))%7=((1+i%7:Nat):Int):=o_
       rw[eI,eM];obtain⟨mo,me⟩:=mul_one (c:=sg fi) (1+i%7) o_ o_;show⟨d_,r_,d_,sl,_,ld_ o_ o_,?_⟩;show⟨.inl ⟨_,.inl (.inl hl3)⟩,sl,_,ld_ o_ o_,d_,?_⟩;rw[AK_,AK_];change MulOk (one (sg fi)) _/\_;show⟨mo,.inr ?_⟩;change MulOk (one (sg ((fi+1+i/7)%36))) _/\((Txt.mul (one (sg fi)) _).length+(Txt.mul (one (sg ((fi+1+i/7)%36))) _).length<=sizeLine)/\∃x,_/\_/\Fo_ H' (upd H3 l (HO.lst (x++[V.str (Txt.mul (one (sg fi)) _++Txt.mul (one (sg ((fi+1+i/7)%36))) _)])))/\x++[V.str (Txt.mul (one (sg fi)) _++Txt.mul (one (sg ((fi+1+i/7)%36))) _)]=_;obtain⟨p1,p2⟩:=pp_ (one (sg ((fi+1+i/7)%36))) (6<0+(i:Int));have ln:(⟨(List.replicate (1+i%7) (sg fi)).toArray⟩:Str).length<=7:=by change((List.replicate (1+i%7) (sg fi)).toArray).size<=7;simp;lia
       have lo:(opt (one (sg ((fi+1+i/7)%36))) (decide (6<0+(i:Int)))).length<=1:=by
        unfold opt;split
        .show Aj_ _
        .show AE_ _
       rw[me,p2];have eD:decide (6<0+(i:Int))=decide (6<i):=by apply Ek_.mpr;lia
       show⟨p1,o_,_,hl3,Fq_ (by simp;lia),λb o hb=>?_,?_⟩
       .rw[ae_ (ag_ hb nl')];show s3 _ _ hb
       .rw[eD,qb_,BV_,Av_,Av_];rfl
      .rintro σ H3 ⟨e7,e12,rfl,s3,hl3⟩;nofun;show k l _ H3 s3 (lf_ nl' hl3) s_ (le_ λa b ha hb e=>po_ fi36 o_ o_ e)
     .obtain⟨_,us,e0,hD2,hus⟩:=id rep2;cases e0;rw[fJ_ hus]at hD2;show k D _ H2 s2 (lf_ hD (aY_ hD2).2) s_ (le_ λa b ha hb e=>pn_ o_ o_ e)
def rot(l:List Nat)(t:Nat):List Nat:=l.drop t++l.take t
theorem mR_(l:List Nat)(t:Nat):(rot l t).length=l.length:=by unfold rot;rw[Al_,B6_,AT_];lia
theorem jV_(l:List Nat)(t x:Nat):(rot l t).count x=l.count x:=by unfold rot;rw[B0_,Ej_,<-B0_,Bk_]
theorem qc_{P W p t:Nat}(g:Gr P W T)(hp:p<T.length):Gr P W (T.set p (rot (T.getD p []) t)):=by
 have fc:∀x,(T.set p (rot (T.getD p []) t)).flatten.count x=T.flatten.count x:=λx=>by have:=do_ x (rot (T.getD p []) t) T p hp;rw[jV_]at this;lia
 show⟨by rw[BM_];show g.len,by rw[BM_];show g.most,λw hw=>by rw[fc];show g.two w hw,λw hw=>?_,λq h1 h2=>?_,?_⟩
 .have:=Bs_.mpr hw;rw[fc]at this;show g.lt w (Bs_.mp this)
 .rw[BM_]at h2;have:=g.ne q h1 h2;unfold rl at this⊢;rw[Ad_,A3_];by_cases e:p=q
  .subst e;rw[if_pos rfl,if_pos hp];change 0<(rot (T.getD p []) t).length;rw[mR_];show this
  .rw[if_neg e,<-Ad_];show this
 .have:=kk_ (rot (T.getD p []) t) T p hp;rw[mR_,g.tot]at this;lia
theorem jW_{a:Addr}:∀{l:List Addr}{p:Nat},a∉l->l.Nodup->(l.set p a).Nodup
 |[],_,_,_=>A6_
 |x::l,0,ha,h=>by
  rw[DR_];show AU_.mpr ⟨λz=>ha (Am_ _ z),(AU_.mp h).2⟩
 |x::l,p+1,ha,h=>by
  rw[DS_];show AU_.mpr ⟨λz=>?_,jW_ (λz=>ha (Am_ _ z)) (AU_.mp h).2⟩
  rcases D3_ z with z|z
  .show(AU_.mp h).1 z
  .show ha (by rw[z];show An_)
theorem To.put{B:Hp}(h:To B H l as_ T)(sB:Fo_ B H){a:Addr}{p:Nat}(hp:p<T.length)(na:H a=none)(r:List Nat):To B (upd (upd H a (.lst (r.map λn:Nat=>V.int n))) l (.lst ((as_.set p a).map V.ref))) l (as_.set p a) (T.set p r):=by
 have la:l≠a:=ag_ h.tn.top na;have an:a∉as_:=λz=>by obtain⟨p,hp,e⟩:=Ap_.mp z;have:=h.tn.row p a (by rw[Aa_ hp,e]);rw[na]at this;cases this
 have mem:∀b,b∈as_.set p a->b=a\/b∈as_:=λb hb=>D3_ hb |>.symm;have pl:p<as_.length:=by rw[h.tn.len];show hp
 show⟨⟨aa_,by rw[BM_,BM_];show h.tn.len,λq b hb=>?_⟩,?_,λz=>?_,h.fl,λb hb=>?_⟩
 .have bl:b≠l:=λe=>by
   rcases mem b (Ag_ hb)with z|z
   .show la (e.symm.trans z)
   .show h.nl (by rw[<-e];show z)
  rw[ae_ bl,Ad_,A3_];rw[A3_]at hb;by_cases e:p=q
  .rw[if_pos e,if_pos hp];rw[if_pos e,if_pos pl]at hb;cases hb;rw[aa_];rfl
  .rw[if_neg e]at hb⊢;have e2:=h.tn.row q b hb;rw[ae_ (λz=>by rw[z,na]at e2;cases e2),e2,Ad_]
 .show jW_ an h.nd
 .rcases mem l z with z|z
  .show la z
  .show h.nl z
 .rcases mem b hb with z|z
  .rw[z];show sB.free na
  .show h.fa b z
theorem pq_{P W p t:Nat}(g:GrN P W T)(hp:p<T.length):GrN P W (T.set p (rot (T.getD p []) t)):=by
 show⟨qc_ g.toGr hp,?_⟩
 have key:∀q w,w∈(T.set p (rot (T.getD p []) t)).getD q []↔w∈T.getD q []:=λq w=>by
  rw[Ad_,A3_];by_cases e:p=q
  .subst e;rw[if_pos rfl,if_pos hp];change w∈rot (T.getD p []) t↔_;rw[<-Bs_,jV_,Bs_]
  .rw[if_neg e,<-Ad_]
 show g.nc.same λq w=>key q w
abbrev F9_:Stmt:=stN 26
theorem fK_:ZL ["_law_turns","_law_posts","_law_big_here","_law_p","_law_turn"] ["_law_turns","_law_posts","_law_big_here"] (Fp_ F9_):=zL
theorem dW_:LK F9_ "len" .globalImplicit:=r_
theorem hx_:LK F9_ "range" .globalImplicit:=r_
def H6_:Sp:=λvs H Q _=>∃(B:Hp)(l:Addr)(as_:List Addr)(T:List (List Nat))(P W:Nat)(z:Int),vs=[.ref l,.int P,.int z]/\Fo_ B H/\To B H l as_ T/\GrN P W T/\P<=6/\W<=15 /\
 ∀bs T' H',Fo_ B H'->(∀b o,b≠l->H b=some o->H' b=some o)->To B H' l bs T'->GrN P W T'->T'.length=T.length->Q (.ref l) H'
theorem mS_(T:Txt K mg)(F:Fn0 K mg "_law_begun" F9_):Cal P w K mg base "_law_begun" ["_law_turns","_law_posts","_law_big_here"] 1 H6_:=by
  show aU_ F fK_.1 λf cdv A outer s H vs Q E hr h=>?_;obtain⟨B,l,as_,Tt,Pp,W,z,rfl,sB,hT,gr,P6,W15,k⟩:=h;have gl:=gr.len;have gm:=gr.most;refine'⟨_,?D,?R⟩
  case D =>
   refine' ad_ ?a (af_ (az_ (zv 0 fK_)))
   case' a=>refine' aO_ AC_ rfl (g2_ hx_ T.n_range (pa_c (zv 1 fK_) (pa_c (ak_ al_ dW_ T.n_len aH_ (pa_c (zv 0 fK_) ab_)) ab_))) ?b ?c
   case b=>show zh 3 fK_
   case' c=>refine' ad_ (zas 4 fK_ (Fs_ aJ_ (zv 2 fK_) (ak_ al_ dW_ T.n_len aH_ (pa_c (Fv_ an_ (zv 0 fK_) (zv 3 fK_)) ab_)))) ?d
   case' d=>refine' ad_ (zas 2 fK_ (Fs_ aw_ (zv 2 fK_) (ak_ al_ dW_ T.n_len aH_ (pa_c (Fv_ an_ (zv 0 fK_) (zv 3 fK_)) ab_)))) (af_ ?e)
   case' e=>refine' i1_ (Fs_ ei_ (ca_ c4_ (Fv_ an_ (zv 0 fK_) (zv 3 fK_)) (b0_ (zv 4 fK_)) ?f) (ca_ c4_ (Fv_ an_ (zv 0 fK_) (zv 3 fK_)) ?g (b0_ (zv 4 fK_)))) (pM_ (zv 0 fK_) (zv 3 fK_) nd_)
   case f=>show dI_
   case g=>show dI_
  case R =>
   nofun;have al:=hT.tn.len;show⟨_,.inl hT.tn.top,o_,o_,by rw[Ab_];lia,by rw[Ab_];lia,?_⟩;rw[Ab_,show Int.toNat ((as_.length:Nat)-(Pp:Nat):Int)=Tt.length-Pp by lia];show cb_ (λi σ H'=>∃(z:Int)(e3 e4:Option V)(bs:List Addr)(T':List (List Nat)),σ=[some (.ref l),some (.int Pp),some (.int z),e3,e4]/\Fo_ B H'/\(∀b o,b≠l->H b=some o->H' b=some o)/\To B H' l bs T'/\GrN Pp W T'/\T'.length=Tt.length) ⟨z,none,none,as_,Tt,rfl,sB,λb o _ h=>h,hT,gr,rfl⟩ ?_ ?_
   .rintro i σ H' hi ⟨z,e3,e4,bs,T',rfl,sB',kp,hT',gr',hl⟩;have hi':i<Tt.length-Pp:=hi;obtain⟨a,ea,at0,ra⟩:=hT'.tn.at_ (p:=Pp+i) o_;have r0:=gr'.ne (Pp+i) o_ o_;have rt:rl T' (Pp+i)<=30:=by have:=Ji_ T' (Pp+i);rw[gr'.tot]at this;lia
    have rle:(T'.getD (Pp+i) []).length=rl T' (Pp+i):=rfl;have eP:(Pp:Int)+(i:Nat)=((Pp+i:Nat):Int):=o_
    nofun;rw[eP];have rdef:T'.getD (Pp+i) []=T'.getD (Pp+i) []:=rfl;generalize hr0:T'.getD (Pp+i) []=r at*;obtain⟨t,ht,tl⟩:∃t:Nat,z%(((r.map λn:Nat=>V.int n).length:Nat):Int)=t/\t<r.length:=by rw[Ab_];have a1:=AY_ z (show(r.length:Int)≠0 by lia);have a2:=AQ_ z (show(0:Int)<(r.length:Int) by lia);show⟨(z%(r.length:Int)).toNat,o_,o_⟩
    have lg:(((r.map λn:Nat=>V.int n).length:Int)).natAbs.log2<9000:=by
     rw[Ab_];by_cases h0:((r.length:Int)).natAbs=0
     .rw[h0];decide
     .rw[EG_ h0];show BB_ (show((r.length:Int)).natAbs<=1000 by lia) r_
    have c1:Hf_ (r.map λn:Nat=>V.int n) (some (t:Int)) none=(r.drop t).map λn:Nat=>V.int n:=by rw[iu_ _ _ (by simp;lia),Dc_]
    have c2:Hf_ (r.map λn:Nat=>V.int n) none (some (t:Int))=(r.take t).map λn:Nat=>V.int n:=by rw[kY_ _ _ (by simp;lia),Cw_]
    have top:=hT'.tn.top;show⟨_,top,_,at0,a,rfl,_,.inl ra,by rw[Ab_];lia,_,top,_,at0,a,rfl,_,.inl ra,by rw[Ab_];lia,lg,_,top,_,at0,a,rfl,_,ra,λp1 n1=>⟨_,(Fo_.new n1) _ _ top,_,at0,a,rfl,_,(Fo_.new n1) _ _ ra,λp2 n2=>?_⟩⟩;rw[ht,c1]at n2⊢;rw[c2];have S2:Fo_ H' (upd (upd H' p1 (HO.lst ((r.drop t).map λn:Nat=>V.int n))) p2 (HO.lst ((r.take t).map λn:Nat=>V.int n))):=(Fo_.new n1).trans (Fo_.new n2);have h1:=(Fo_.new n2 (o:=HO.lst ((r.take t).map λn:Nat=>V.int n))) _ _ (aa_ (H:=H') (a:=p1) (o:=HO.lst ((r.drop t).map λn:Nat=>V.int n)));generalize upd (upd H' p1 (HO.lst ((r.drop t).map λn:Nat=>V.int n))) p2 (HO.lst ((r.take t).map λn:Nat=>V.int n))=H2 at*;show⟨_,h1,by rw[Ab_,Ab_];show AH_ (show _<=1000 by rw[B6_,AT_];lia) (by rw[BG_];decide),λp3 n3=>?_⟩;have e3:((r.drop t).map λn:Nat=>V.int n)++((r.take t).map λn:Nat=>V.int n)=(rot r t).map λn:Nat=>V.int n:=by rw[<-Av_];rfl
    rw[e3];have hT2:=(hT'.mono S2).put (sB'.trans S2) (p:=Pp+i) o_ n3 (rot r t);rw[List.map_set]at hT2;have lp:l≠p3:=ag_ (S2 _ _ top) n3;show⟨_,by rw[ae_ lp];show S2 _ _ top,Pp+i,?_,λb o hb=>?_,λb o hb h=>?_,bs.set (Pp+i) p3,T'.set (Pp+i) (rot r t),hT2,?_,by rw[BM_];show hl⟩
    .have bl:=hT'.tn.len;unfold ixN;rw[Ab_];rw[if_pos o_,if_pos o_,AK_]
    .rw[ae_ (ag_ hb hT.fl),ae_ (ag_ hb ((sB'.trans S2).free n3))];show S2 _ _ (sB' _ _ hb)
    .have e4:=kp b o hb h;rw[ae_ hb,ae_ (ag_ (S2 _ _ e4) n3)];show S2 _ _ e4
    .have g2:=pq_ (t:=t) gr' (p:=Pp+i) o_;rw[hr0]at g2;show g2
   .rintro σ H' ⟨z,e3,e4,bs,T',rfl,sB',kp,hT',gr',hl⟩;nofun;show k bs T' H' sB' kp hT' gr' hl
def dS(x:Str):Dt:=.str x
def dRw(r:Str×List Str):Dt:=.tup [.str r.1,.lst (r.2.map dS)]
def dWo(r:Str×(Int×Int)):Dt:=.tup [.str r.1,.tup [.int r.2.1,.int r.2.2]]
def G7_(N:Net Str):Dt:=.tup [.lst (N.posts.map dS),.lst (N.rows.map dRw),.lst (N.worths.map dWo)]
theorem aM_{xs:List Str}(h:i<xs.length):(xs.map V.str)[i]?=some (.str (xs.getD i Str.empty)):=by rw[Af_,Aa_ h,Ad_,Aa_ h];rfl
theorem fL_{xs:List Str}(h:xs.Nodup){a b:Nat}(ha:a<xs.length)(hb:b<xs.length)(e:xs.getD a Str.empty=xs.getD b Str.empty):a=b:=by show(A4_ ha h).mp ?_;rw[Ad_,Ad_,Aa_ ha,Aa_ hb]at e;rw[Aa_ ha,Aa_ hb];show congrArg some e
theorem jX_{α β:Type}(f:α->β):∀(l:List α)(t:Nat),(l.map f).eraseIdx t=(l.eraseIdx t).map f
 |[],_=>rfl
 |_::_,0=>rfl
 |x::l,t+1=>by change f x::(l.map f).eraseIdx t=f x::(l.eraseIdx t).map f;rw[jX_ f l t]
theorem h7_:∀{l:List Nat}{t:Nat}(h:t<l.length),(l[t]::l.eraseIdx t).Perm l
 |x::l,0,_=>.refl _
 |x::l,t+1,h=>by have ih:=h7_ (l:=l) (t:=t) (by simpa using h);change(l[t]'(by simpa using h)::x::l.eraseIdx t).Perm (x::l);show(List.Perm.swap _ _ _).trans (ih.cons x)
theorem dX_:∀{us:List V}{ts:List Str},FM_ H us (ts.map dS)->us=ts.map V.str:=λh=>fJ_ h
theorem mT_{α:Type}(f:α->Dt){zs ws:List V}(h:zs.Perm ws):∀{wl:List α},FM_ H ws (wl.map f)->∃wl':List α,wl'.Perm wl/\FM_ H zs (wl'.map f):=by
 induction h with
 |nil=>show λ{wl} r=>⟨wl,.refl _,r⟩
 |cons x _ ih =>
  intro wl r;cases wl with
  |nil=>cases r
  |cons d wl =>
   obtain⟨_,_,e,hx,hr⟩:=r;cases e;obtain⟨wl',p,r'⟩:=ih hr;show⟨d::wl',p.cons d,_,_,rfl,hx,r'⟩
 |swap x y l =>
  intro wl r;cases wl with
  |nil=>cases r
  |cons d wl =>
   obtain⟨_,_,e,hx,hr⟩:=r;cases e;cases wl with
   |nil=>cases hr
   |cons d2 wl =>
    obtain⟨_,_,e,hy,hr⟩:=hr;cases e;show⟨d2::d::wl,.swap _ _ _,_,_,rfl,hy,_,_,rfl,hx,hr⟩
 |trans _ _ h1 h2 =>intro wl r;obtain⟨w1,p1,r1⟩:=h2 r;obtain⟨w2,p2,r2⟩:=h1 r1;show⟨w2,p2.trans p1,r2⟩
def Lb_(H6:Hp)(a l D1 D2 O R:Addr)(Pp W n:Nat)(nms wns:List Str)(T':List (List Nat))(σ:L2.St)(H':Hp):Prop :=
 ∃(z:Int)(e11:Option V)(S:Hp)(rem dn:List Nat)(ys:List V),σ=[some (.ref a),some (.int 0),some (.int 9),some (.int z),some (.int Pp),some (.int W),some (.ref l),some (.ref D1),some (.ref D2),some (.ref O),some (.ref R),e11,none,none,none]/\Fo_ H6 S/\Fo_ S H'/\S O=none/\S R=none/\H' O=some (.lst (rem.map λn:Nat=>V.int n))/\H' R=some (.lst ys)/\FM_ S ys ((F0_ (λp=>nms.getD p Str.empty) (λv=>wns.getD v Str.empty) T' dn).map dRw)/\(dn++rem).Perm (List.range n)
def Mb_(O:Addr)(H:Hp):Nat:=match H O with|some (.lst xs)=>xs.length|_=>0
abbrev Fw_:Stmt:=stN 27
theorem aB_:ZM ["_law_script","_law_at","_law_most","_law_big_here","_law_posts","_law_many","_law_turns","_law_names_here","_law_wires","_law_order","_law_rows","_law_p","_law_worths","_law_wire","_law_worth"] ["_law_script","_law_at","_law_most"] (Fp_ Fw_):=zM
theorem aD_:LK Fw_ "_law_big_here" .local:=r_
theorem c8_:LK Fw_ "_law_posts" .local:=r_
theorem cn_:LK Fw_ "_law_many" .local:=r_
theorem bM_:LK Fw_ "_law_turns" .local:=r_
theorem ex_:LK Fw_ "_law_names_here" .local:=r_
theorem gA_:LK Fw_ "_law_wires" .cell:=r_
theorem co_:LK Fw_ "_law_order" .local:=r_
theorem dY_:LK Fw_ "_law_rows" .local:=r_
theorem dZ_:LK Fw_ "_law_p" .local:=r_
theorem d0_:LK Fw_ "_law_worths" .local:=r_
theorem fM_:LK Fw_ "_law_wire" .local:=r_
theorem fN_:LK Fw_ "_law_worth" .local:=r_
theorem f7_:LK Fw_ "_law_begun" .globalImplicit:=r_
theorem bS_:LK Fw_ "_law_big" .globalImplicit:=r_
theorem f8_:LK Fw_ "_law_grown" .globalImplicit:=r_
theorem dv_:LK Fw_ "_law_names" .globalImplicit:=r_
theorem eX_:LK Fw_ "_law_worth_of" .globalImplicit:=r_
theorem ce_:LK Fw_ "len" .globalImplicit:=r_
theorem hy_:LK Fw_ "list" .globalImplicit:=r_
theorem ea_:LK Fw_ "range" .globalImplicit:=r_
theorem f9_:LK Fw_ "sorted" .globalImplicit:=r_
structure WOk(N:Net Str):Prop where
 nd:(N.worths.map (·.1)).Nodup
 mem:∀x,x∈N.worths.map (·.1)↔x∈N.all
 ws:∀x∈N.worths,Ws x.2
def JI_(K:PySem.W.Frag):Sp:=λvs H Q _=>∃(a:Addr)(ns:List Int),vs=[.ref a,.int 0,.int 9]/\SqL K H a (ns.map V.int)/\∀v (N:Net Str) H',Fo_ H H'->Rep H' v (G7_ N)->Gm_ N->GB_ N->WOk N->Ncn N->Q v H'
theorem lK_(T:Txt K mg)(F:Fn0 K mg "_law_net_by" Fw_) (Ih_:Cal P w K mg base "_law_big" ["_law_script","_law_at"] 2 (JK_ K)) (Jp_:Cal P w K mg base "_law_grown" ["_law_big_here","_law_posts","_law_many","_law_within"] 3 H7_) (Ii_:Cal P w K mg base "_law_names" ["_law_big_here","_law_many"] 1 Ic_) (Jq_:Cal P w K mg base "_law_begun" ["_law_turns","_law_posts","_law_big_here"] 1 H6_) (HV_:Cal P w K mg base "_law_worth_of" ["_law_big_here"] 2 Ia_):Cal P w K mg base "_law_net_by" ["_law_script","_law_at","_law_most"] 4 (JI_ K):=by
  show aU_ F aB_.1 λf cdv A outer s H vs Q E hr h=>?_;obtain⟨a,ns,rfl,hS,k⟩:=h;refine'⟨_,?D,?R⟩
  case D =>
   refine' ai_ (aj_ (i:=3) aB_.nd rfl aD_ (am_ Ih_ (hr.mono d_) bS_ (pa_c (zw 0 aB_) (pa_c (zw 1 aB_) ab_)))) ?a
   case' a=>refine' ai_ (aj_ (i:=4) aB_.nd rfl c8_ (Fs_ aS_ ac_ (Fs_ aJ_ (zw 3 aB_) ac_))) ?b
   case' b=>refine' ai_ (aj_ (i:=5) aB_.nd rfl cn_ (Fs_ aJ_ (Fs_ aw_ (zw 3 aB_) ac_) (Fs_ aS_ (zw 2 aB_) ac_))) ?c
   case' c=>refine' ad_ (jf_ (F4_ (aq_ GP_ (Fs_ aJ_ (Fs_ aw_ (Fs_ aw_ (zw 3 aB_) ac_) (Fs_ aS_ (zw 2 aB_) ac_)) ac_) ac_ (FJ_ _)) ?d aI_)) ?e
   case' d=>refine' af_ (aj_ (i:=5) aB_.nd rfl cn_ (Fs_ aJ_ (Fs_ aw_ (Fs_ aw_ (zw 3 aB_) ac_) (Fs_ aS_ (zw 2 aB_) ac_)) ac_))
   case' e=>refine' ai_ (i1_ ?f (bp_ (K:=K) (n:=2) rfl rfl (au_ ?g (au_ ?h bm_)))) (ai_ (aj_ (i:=7) aB_.nd rfl ex_ (am_ Ii_ (hr.mono d_) dv_ ?i)) ?j)
   case' f=>refine' am_ Jp_ (hr.mono d_) f8_ (pa_c (Fs_ aw_ (Fs_ aw_ (zw 3 aB_) ac_) (Fs_ aS_ (zw 2 aB_) ac_)) (pa_c (zw 4 aB_) (pa_c (zw 5 aB_) (pa_c ac_ ab_))))
   case g=>show ah_ (i:=6) aB_.nd rfl bM_
   case h=>show ah_ (i:=3) aB_.nd rfl aD_
   case' i=>refine' pa_c (am_ Ih_ (hr.mono d_) bS_ (pa_c (zw 0 aB_) (pa_c (Fs_ aS_ (zw 1 aB_) ac_) ab_))) (pa_c (ak_ al_ ce_ T.n_len aH_ (pa_c (zw 6 aB_) ab_)) ab_)
   case' j=>refine' ai_ ?k (ai_ (aj_ (i:=6) aB_.nd rfl bM_ (am_ Jq_ (hr.mono d_) f7_ (pa_c (zw 6 aB_) (pa_c (zw 4 aB_) (pa_c (zw 3 aB_) ab_))))) ?l)
   case' k=>refine' ek_ (i:=8) aB_.nd rfl gA_ rfl (am_ Ii_ (hr.mono d_) dv_ (pa_c (am_ Ih_ (hr.mono d_) bS_ (pa_c (zw 0 aB_) (pa_c (Fs_ aS_ (zw 1 aB_) ac_) ab_))) (pa_c (zw 5 aB_) ab_))) rfl
   case' l=>refine' ai_ ?m (ai_ ?n (ai_ (aj_ (i:=10) aB_.nd rfl dY_ (bn_ ab_)) ?o))
   case' m=>refine' aj_ (i:=9) aB_.nd rfl co_ (gn_ rfl hy_ T.n_list ea_ T.n_range (pa_c (ak_ al_ ce_ T.n_len aH_ (pa_c (zw 6 aB_) ab_)) ab_))
   case' n=>refine' aj_ (i:=3) aB_.nd rfl aD_ (am_ Ih_ (hr.mono d_) bS_ (pa_c (zw 0 aB_) (pa_c (Fs_ aS_ (zw 1 aB_) ac_) ab_)))
   case' o=>refine' ad_ (dH_ AC_ (aq_ (hY_ (hr.units)) (zw 9 aB_) (bn_ ab_) (FJ_ _)) ?p) (ai_ (aj_ (i:=12) aB_.nd rfl d0_ (bn_ ab_)) ?q)
   case' p=>refine' ai_ ?r (ai_ ?s (af_ (aK_ (Gn_ AF_ AV_ AW_ aQ_ (zw 10 aB_) (pa_c ?t ab_)))))
   case' r=>refine' aj_ (i:=11) aB_.nd rfl dZ_ (Gn_ AF_ Dj_ Dk_ ne_ (zw 9 aB_) (pa_c (Fs_ aJ_ (zw 3 aB_) (ak_ al_ ce_ T.n_len aH_ (pa_c (zw 9 aB_) ab_))) ab_))
   case' s=>refine' aj_ (i:=3) aB_.nd rfl aD_ (Fs_ aw_ (zw 3 aB_) (Fs_ aS_ (ak_ al_ ce_ T.n_len aH_ (pa_c (zw 9 aB_) ab_)) ac_))
   case' t=>refine' aF_ (pa_c (Fv_ an_ (zw 7 aB_) (zw 11 aB_)) (pa_c (cG_ (N':=["_law_wire","_law_wires"]) (ix:=[none,some 8]) rfl rfl (bL_ ?u) (ax_ (K:=K) rfl (Fv_ an_ (zw 6 aB_) (zw 11 aB_))) (λ_ _ _=>?v) (λ_ _ _=>?w) (λ_ _ _=>(Fv_ an_ (pvc 1 rfl rfl) (pv1 0 rfl rfl)))) ab_))
   case u=>show(by change G5_ (Fp_ Fw_) ["_law_script","_law_at","_law_most","_law_big_here","_law_posts","_law_many","_law_turns","_law_names_here","_law_wires","_law_order","_law_rows","_law_p","_law_worths","_law_wire","_law_worth"] _ _ _=true;decide +kernel)
   case v=>show ah_ (i:=0) (by change List.Nodup (["_law_wire","_law_wires"]:List Str);decide +kernel) rfl rfl
   case w=>show dk_
   case' q=>refine' ad_ (aO_ AC_ rfl (a5_ ea_ T.n_range (pa_c (zw 5 aB_) ab_)) ?x ?y) (af_ (az_ ?z))
   case x=>show ah_ (i:=13) aB_.nd rfl fM_
   case' y=>refine' ai_ (i1_ (am_ HV_ (hr.mono d_) eX_ (pa_c (zw 3 aB_) ab_)) (bp_ (K:=K) (n:=2) rfl rfl (au_ ?aa (au_ ?ab bm_)))) ?ac
   case aa=>show ah_ (i:=14) aB_.nd rfl fN_
   case ab=>show ah_ (i:=3) aB_.nd rfl aD_
   case' ac=>refine' af_ (aK_ (Gn_ AF_ AV_ AW_ aQ_ (zw 12 aB_) (pa_c (aF_ (pa_c (Fv_ an_ (zw 8 aB_) (zw 13 aB_)) (pa_c (zw 14 aB_) ab_))) ab_)))
   case' z=>refine' aF_ (pa_c (ca_ c4_ (zw 7 aB_) ?ad (b0_ (zw 4 aB_))) (pa_c (zw 10 aB_) (pa_c (ak_ (lA_ hr.units) f9_ T.n_sorted ej_ (pa_c (zw 12 aB_) ab_)) ab_)))
   case ad=>show dI_
  case R =>
   nofun;show⟨a,ns,0,rfl,d_,hS,λz0 H0 s0=>?_⟩;nofun;obtain⟨Pp,hP,P1,P6⟩:∃m:Nat,(1+z0%6:Int)=m/\1<=m/\m<=6:=by have a1:=AY_ z0 (show(6:Int)≠0 by decide);have a2:=AQ_ z0 (show(0:Int)<6 by decide);show⟨(1+z0%6).toNat,o_,o_,o_⟩
   rw[hP];show⟨d_,?_⟩;nofun;show⟨d_,r_,d_,?_⟩;nofun;show⟨λσ Hx=>∃W:Nat,σ=[some (.ref a),some (.int 0),some (.int 9),some (.int z0),some (.int Pp),some (.int W),none,none,none,none,none,none,none,none,none]/\Hx=H0/\W<=15,?_,?_⟩
   .nofun;have a1:=AY_ (z0/6) (show(9+1:Int)≠0 by decide);have a2:=AQ_ (z0/6) (show(0:Int)<9+1 by decide);have a3:=AY_ (z0/48/(9+1)) (show(16:Int)≠0 by decide);have a4:=AQ_ (z0/48/(9+1)) (show(0:Int)<16 by decide);show⟨d_,r_,d_,r_,d_,ite2 (λ_=>?_) (λ_=>?_)⟩
    .show⟨d_,r_,d_,r_,d_,(z0/48/(9+1)%16).toNat,o_,o_⟩
    .show⟨(z0/6%(9+1)).toNat,o_,o_⟩
   rintro σ Hx ⟨W,rfl,rfl,W15⟩;have hS0:=s0.seq hS;nofun;show⟨d_,r_,d_,r_,?_⟩;show⟨_,Pp,W,rfl,P1,P6,W15,λpg l as_ T y H1 s1 hpg hT gr=>?_⟩;have gl:=gr.len;have gm:=gr.most;show⟨pg,rfl,_,SqT.of hpg,rfl,_,_,rfl,_,_,rfl,rfl,?_⟩;nofun;show⟨a,ns,_,rfl,d_,(s1.seq hS0),λz1 H2 s2=>?_⟩;have hT2:=hT.mono s2;have al:=hT2.tn.len;show⟨_,.inl hT2.tn.top,?_⟩;rw[Ab_];show⟨z1,as_.length,rfl,o_,λD1 nms H3 s3 rep1 nl1 nd1=>?_⟩;have s03:=s1.trans (s2.trans s3);nofun;show⟨a,ns,_,rfl,d_,s03.seq hS0,λz2 H4 s4=>⟨z2,W,rfl,o_,λD2 wns H5 s5 rep2 nl2 nd2=>?_⟩⟩;have s05:=s03.trans (s4.trans s5);have hT5:=hT2.mono (s3.trans (s4.trans s5));nofun;show⟨Hx,l,as_,T,Pp,W,y,rfl,s05,hT5,gr,P6,W15,λbs T' H6 s6 kp hT6 gr' hl6=>?_⟩;obtain⟨_,us1,e1,hD1',hus1⟩:=id rep1;cases e1;rw[fJ_ hus1]at hD1';obtain⟨_,us2,e2,hD2',hus2⟩:=id rep2;cases e2;rw[fJ_ hus2]at hD2';have D1l:D1≠l:=(ag_ hT2.tn.top (aY_ hD1').1).symm;have D2l:D2≠l:=(ag_ ((hT2.mono (s3.trans s4)).tn.top) (aY_ hD2').1).symm;have hD1:H6 D1=some (.lst (nms.map V.str)):=kp _ _ D1l ((s4.trans s5) _ _ (aY_ hD1').2);have hD2:H6 D2=some (.lst (wns.map V.str)):=kp _ _ D2l (aY_ hD2').2;clear hD1' hD2' hus1 hus2 rep1 rep2;have hS6:=s6.seq hS0;have bl:=hT6.tn.len;have gl6:=gr'.len;have gm6:=gr'.most;clear hT hT2 hT5 s1 s2 s3 s4 s5 s03 s05 kp hpg;nofun;show⟨_,.inl hT6.tn.top,bs.length,by rw[Ab_],o_,λO nO=>?_⟩;have S7:Fo_ H6 (upd H6 O (HO.lst (GT_ bs.length))):=Fo_.new nO;have hO:=aa_ (H:=H6) (a:=O) (o:=HO.lst (GT_ bs.length));generalize upd H6 O (HO.lst (GT_ bs.length))=H7 at*;nofun;show⟨a,ns,_,rfl,d_,S7.seq hS6,λz3 H8 s8=>?_⟩;nofun;show⟨AE_ _,λR nR=>?_⟩;nofun;have R6:H6 R=none:=(S7.trans s8).free nR;have RO:R≠O:=(ag_ (s8 _ _ hO) nR).symm;have eN:GT_ bs.length=(List.range bs.length).map λn:Nat=>V.int n:=rfl
   show nx_ (Lb_ H6 a l D1 D2 O R Pp W bs.length nms wns T')
    (λ_ H'=>Mb_ O H') ⟨z3,none,H6,List.range bs.length,[],[],rfl,Fo_.refl _,(S7.trans s8).upd R6,nO,R6,by rw[ae_ RO.symm];show s8 _ _ hO,aa_,rfl,.refl _⟩ ?_
   rintro σ H' kb hkb G hG ⟨z,e11,S,rem,dn,ys,rfl,sS,sH,SO,SR,hO',hR',repS,pm⟩;show hG ?_;nofun;show⟨AE_ _,λp np=>?_⟩;have Sp:Fo_ H' (upd H' p (HO.lst [])):=Fo_.new np
   have repO:Rep (upd H' p (HO.lst [])) (.ref O) (.lst (rem.map λn:Nat=>Dt.int n)):=⟨O,_,rfl,Sp _ _ hO',by
    clear hO' pm
    induction rem with
    |nil=>show rfl
    |cons x r ih=>show⟨_,_,rfl,rfl,ih⟩⟩
   have repp:Rep (upd H' p (HO.lst [])) (.ref p) (.lst []):=⟨p,[],rfl,aa_,rfl⟩;have pO:p≠O:=(ag_ hO' np).symm;have pR:p≠R:=(ag_ hR' np).symm
   have dle:dep (.lst (rem.map λn:Nat=>Dt.int n))<=60:=by
    have:deps (rem.map λn:Nat=>Dt.int n)=0:=by
     clear hO' pm repO
     induction rem with
     |nil=>rfl
     |cons x r ih=>change max 0 (deps (r.map λn:Nat=>Dt.int n))=0;rw[ih];rfl
    change deps _+1<=60;lia
   have sH2:Fo_ S (upd H' p (HO.lst [])):=sH.trans Sp;generalize upd H' p (HO.lst [])=Hq at*;have hOq:=Sp _ _ hO';have hRq:=Sp _ _ hR'
   show⟨_,repO,_,repp,decide (rem=[]),by
    cases rem with
    |nil=>rfl
    |cons x r=>simp[deq,deqs],dle,?_⟩
   show ite2 (λhne=>?_) (λhemp=>?_)
   .have rne:rem≠[]:=CX_ hne;have rl0:0<rem.length:=Fg_.mpr rne;show⟨_,N_ok,?_⟩;obtain⟨t,ht,tl⟩:∃t:Nat,z%(((rem.map λn:Nat=>V.int n).length:Nat):Int)=t/\t<rem.length:=by rw[Ab_];have a1:=AY_ z (show(rem.length:Int)≠0 by lia);have a2:=AQ_ z (show(0:Int)<(rem.length:Int) by lia);show⟨(z%(rem.length:Int)).toNat,o_,o_⟩
    have rl16:rem.length<=16:=by have:=pm.length_eq;rw[Al_,Br_]at this;lia
    have er:((rem.map λn:Nat=>V.int n).eraseIdx t)=(rem.eraseIdx t).map λn:Nat=>V.int n:=jX_ _ _ _;have el:(rem.eraseIdx t).length=rem.length-1:=List.length_eraseIdx_of_lt tl
    have lg:((((rem.map λn:Nat=>V.int n).eraseIdx t).length:Int)+1).natAbs.log2<9000:=by
     rw[er,Ab_];by_cases h0:(((rem.eraseIdx t).length:Int)+1).natAbs=0
     .rw[h0];decide
     .rw[EG_ h0];show BB_ (show(((rem.eraseIdx t).length:Int)+1).natAbs<=1000 by lia) r_
    have hp0:rem[t]?=some (rem[t]):=Aa_ tl;have pn:rem[t]<bs.length:=AX_.mp (pm.mem_iff.mp (AD_ _ (A2_ tl)));have pm2:(dn++[rem[t]]++rem.eraseIdx t).Perm (List.range bs.length):=by show List.Perm.trans ?_ pm;rw[A9_];show(h7_ tl).append_left dn
    generalize rem[t]=pt at*;nofun;show⟨.inl ⟨_,.inl (.inl hOq)⟩,_,.inl hOq,by rw[Ab_];lia,_,hOq,by rw[ht];lia,by rw[ht];lia,t,?_,.int pt,by rw[Af_,hp0];rfl,?_⟩
    .rw[ht,Ab_];rw[Ex_ o_ o_,AK_]
    nofun;show⟨o_,lg,?_⟩;rw[er];nofun;have OR:O≠R:=RO.symm;have sH3:Fo_ S (upd Hq O (HO.lst ((rem.eraseIdx t).map λn:Nat=>V.int n))):=cB_ sH2 SO;have hR3:upd Hq O (HO.lst ((rem.eraseIdx t).map λn:Nat=>V.int n)) R=some (.lst ys):=by rw[ae_ RO];show hRq
    have hO3:=aa_ (H:=Hq) (a:=O) (o:=HO.lst ((rem.eraseIdx t).map λn:Nat=>V.int n));generalize upd Hq O (HO.lst ((rem.eraseIdx t).map λn:Nat=>V.int n))=H3 at*;have s63:Fo_ H6 H3:=sS.trans sH3;obtain⟨a1,ea1,at1,ra1⟩:=hT6.tn.at_ (p:=pt) o_;have ra3:=s63 _ _ ra1
    have lt:∀v∈T'.getD pt [],v<wns.length:=λv hv=>by
     rw[nl2];show gr'.lt v ?_;have hm:T'.getD pt []∈T':=by rw[Ad_,Aa_ (show pt<T'.length by lia)];show A2_ _
     show Cb_.mpr ⟨_,hm,hv⟩
    have rl30:(T'.getD pt []).length<=30:=by have:=Ji_ T' pt;rw[gr'.tot]at this;unfold rl at this;lia
    have atn:atI (nms.map V.str) ((pt:Nat):Int)=some (.str (nms.getD pt Str.empty)):=fv_ o_ (by rw[AK_];show aM_ o_);show⟨.inl ⟨_,.inl (.inl hR3)⟩,_,s63 _ _ hD1,_,atn,_,s63 _ _ hT6.tn.top,_,at1,a1,rfl,⟨_,.inl (.inl ra3)⟩,?_⟩;generalize hrow:T'.getD pt []=row at*;have hD2':=s63 _ _ hD2;show cA_ (n:=row.length) (B:=λ_=>none) (Pσ:=λσ=>∃e,σ=[e,some (.ref D2)]) (ds:=(row.map λv=>wns.getD v Str.empty).map dS) (λb o e=>by cases e) ⟨_,rfl⟩ s_ o_ (λj Hj hj sj=>⟨_,.int (row[j]:Nat),.inl (.inl (sj _ _ ra3)),by simp[hj]⟩) (λHj sj=>⟨_,.inl (.inl (sj _ _ ra3)),s_⟩) ?_ ?_
    .rintro D j x d σ' Hj Hj' hD hDo hsj hj hdj ⟨rfl,hy⟩ ⟨e,rfl⟩ R0 kR;have hx:=hy _ (.inl (.inl (hsj _ _ ra3)));rw[Af_,Aa_ hj]at hx;cases hx;have hd:d=dS (wns.getD row[j] Str.empty):=by rw[Af_,Af_,Aa_ hj]at hdj;show(AB_ hdj).symm
     nofun;show⟨_,hsj _ _ hD2',_,fv_ o_ (by rw[AK_];show aM_ (lt _ (A2_ hj))),kR _ _ _ ⟨_,rfl⟩ (Fo_.refl _) ?_⟩;rw[hd];show rfl
    .intro D H4 hD s4 rep4;show⟨d_,λq nq=>?_⟩;have hD3:H3 D=none:=hD;obtain⟨_,us,e4,hD4',hus⟩:=id rep4;cases e4;have hD4:=(aY_ hD4').2;rw[dX_ hus]at hD4;have qR:q≠R:=(ag_ (s4 _ _ hR3) nq).symm;have qO:q≠O:=(ag_ (s4 _ _ hO3) nq).symm;have g1:Fo_ S (grow S H3 H4):=cJ_ sH3;have g2:Fo_ (grow S H3 H4) H4:=iw_ sH3 s4;have gO:grow S H3 H4 O=none:=by rw[eM_ hO3];show SO
     have gR:grow S H3 H4 R=none:=by rw[eM_ hR3];show SR
     have gD:grow S H3 H4 D=some (.lst ((row.map λv=>wns.getD v Str.empty).map V.str)):=by rw[iv_ hD3];show hD4
     have g3:Fo_ (grow S H3 H4) (upd (grow S H3 H4) q (.tup [.str (nms.getD pt Str.empty),.ref D])):=bk_ g2 nq;have g4:Fo_ (upd (grow S H3 H4) q (.tup [.str (nms.getD pt Str.empty),.ref D])) (upd H4 q (.tup [.str (nms.getD pt Str.empty),.ref D])):=gQ_ g2 nq;have gO2:upd (grow S H3 H4) q (.tup [.str (nms.getD pt Str.empty),.ref D]) O=none:=by rw[ae_ qO.symm];show gO
     have gR2:upd (grow S H3 H4) q (.tup [.str (nms.getD pt Str.empty),.ref D]) R=none:=by rw[ae_ qR.symm];show gR
     have yl:ys.length=dn.length:=by rw[repS.length,Ab_];unfold F0_;rw[Ab_]
     have dl:dn.length<=16:=by have:=pm.length_eq;rw[Al_,Br_]at this;lia
     show⟨ys,by rw[ae_ qR.symm];show s4 _ _ hR3,Fq_ o_,⟨_,_,upd (grow S H3 H4) q (.tup [.str (nms.getD pt Str.empty),.ref D]),rem.eraseIdx t,dn++[pt],ys++[.ref q],rfl,sS.trans (g1.trans g3),cB_ g4 gR2,gO2,gR2,?_,aa_,?_,pm2⟩,?_⟩
     .rw[ae_ OR,ae_ qO.symm];show s4 _ _ hO3
     .have er2:F0_ (λp=>nms.getD p Str.empty) (λv=>wns.getD v Str.empty) T' (dn++[pt])=F0_ (λp=>nms.getD p Str.empty) (λv=>wns.getD v Str.empty) T' dn++[(nms.getD pt Str.empty,row.map λv=>wns.getD v Str.empty)]:=by unfold F0_;rw[Av_,AZ_,Dq_,hrow]
      rw[er2,Av_];show FM_.append (FM_.mono (g1.trans g3) _ repS) ⟨_,_,rfl,⟨q,_,rfl,aa_,_,_,rfl,rfl,_,_,rfl,⟨D,_,rfl,g3 _ _ gD,bz_ _⟩,rfl⟩,rfl⟩
     .unfold Mb_;rw[ae_ OR,ae_ qO.symm,s4 _ _ hO3,hO'];change((rem.eraseIdx t).map _).length<(rem.map _).length;rw[Ab_,Ab_];lia
   .have re:rem=[]:=by
     by_cases h:rem=[]
     .show h
     .show absurd (At_ h) hemp
    subst re;rw[BL_]at pm;show hkb _ _ ?_;nofun;show⟨AE_ _,λL nL=>?_⟩;nofun;show⟨o_,o_,?_⟩;rw[show Int.toNat (W:Int)=W by lia];have s6q:Fo_ H6 Hq:=sS.trans sH2;have hD2q:=s6q _ _ hD2;have hD1q:=s6q _ _ hD1;show fB_ (λi σ H'=>∃(z:Int)(e13 e14:Option V)(S':Hp)(vs:List V)(wl:List (Str×(Int×Int))),σ=[some (.ref a),some (.int 0),some (.int 9),some (.int z),some (.int Pp),some (.int W),some (.ref l),some (.ref D1),some (.ref D2),some (.ref O),some (.ref R),e11,some (.ref L),e13,e14]/\Fo_ Hq S'/\Fo_ S' H'/\S' L=none/\H' L=some (.lst vs)/\FM_ S' vs (wl.map dWo)/\wl.map (·.1)=wns.take i/\∀x∈wl,Ws x.2) ⟨z,none,none,Hq,[],[],rfl,Fo_.refl _,Fo_.new nL,nL,aa_,rfl,rfl,λx hx=>by cases hx⟩ ?_ ?_
    .rintro i σ H5 hi kc kb hkc hkb G hG ⟨z,e13,e14,S',vs,wl,rfl,sq,sS5,SL,hL,repW,wnm,wws⟩;show hG ?_;have hi':i<W:=hi;have iw:i<wns.length:=o_
     nofun;show⟨z,rfl,λpw qw H7 t0 b0 y0 s7 npw nqw tw hpw hqw=>?_⟩;have s57:=sS5.trans s7;have wll:wl.length=i:=by have:=congrArg List.length wnm;rw[Ab_,AT_]at this;lia
     have vl:vs.length=i:=by rw[repW.length,Ab_];show wll
     show⟨pw,rfl,_,SqT.of hpw,rfl,_,_,rfl,_,_,rfl,rfl,?_⟩;nofun;show⟨.inl ⟨_,.inl (.inl (s7 _ _ hL))⟩,_,(sq.trans s57) _ _ hD2q,_,fv_ o_ (by rw[show Int.toNat (0+(i:Nat):Int)=i by lia];show aM_ iw),d_,λq nq=>?_⟩;have g1:Fo_ S' (grow S' H5 H7):=cJ_ sS5;have g2:Fo_ (grow S' H5 H7) H7:=iw_ sS5 s7;have gL:grow S' H5 H7 L=none:=by rw[eM_ hL];show SL
     have gq:grow S' H5 H7 qw=some (.tup [.int (nf t0 b0).1,.int (nf t0 b0).2]):=by rw[iv_ nqw];show hqw
     have qL:q≠L:=(ag_ (s7 _ _ hL) nq).symm;have g3:Fo_ (grow S' H5 H7) (upd (grow S' H5 H7) q (.tup [.str (wns.getD i Str.empty),.ref qw])):=bk_ g2 nq;have g4:Fo_ (upd (grow S' H5 H7) q (.tup [.str (wns.getD i Str.empty),.ref qw])) (upd H7 q (.tup [.str (wns.getD i Str.empty),.ref qw])):=gQ_ g2 nq;have gL2:upd (grow S' H5 H7) q (.tup [.str (wns.getD i Str.empty),.ref qw]) L=none:=by rw[ae_ qL.symm];show gL
     show⟨vs,by rw[ae_ qL.symm];show s7 _ _ hL,Fq_ o_,hkc _ _ ⟨y0,_,_,upd (grow S' H5 H7) q (.tup [.str (wns.getD i Str.empty),.ref qw]),_,wl++[(wns.getD i Str.empty,nf t0 b0)],rfl,sq.trans (g1.trans g3),cB_ g4 gL2,gL2,aa_,?_,?_,λx hx=>(Aq_.mp hx).elim (wws x) λhx=>by rw[Ae_.mp hx];show tw⟩⟩
     .rw[Av_];show FM_.append (FM_.mono (g1.trans g3) _ repW) ⟨_,_,rfl,⟨q,_,rfl,aa_,_,_,rfl,rfl,_,_,rfl,⟨qw,_,rfl,g3 _ _ gq,_,_,rfl,rfl,_,_,rfl,rfl,rfl⟩,rfl⟩,rfl⟩
     .rw[Av_,wnm,Bc_,Aa_ iw,Ad_,Aa_ iw];rfl
    .rintro σ H5 ⟨z,e13,e14,S',vs,wl,rfl,sq,sS5,SL,hL,repW,wnm,wws⟩;rw[A0_ o_]at wnm;nofun;have wll:wl.length=W:=by rw[<-nl2,<-wnm,Ab_]
     have vl:vs.length=wl.length:=by rw[repW.length,Ab_]
     have sq5:=sq.trans sS5;have c1:Hf_ (nms.map V.str) none (some ((Pp:Nat):Int))=(nms.take Pp).map V.str:=by rw[kY_ _ _ (by rw[Ab_];lia),Cw_]
     show⟨_,sq5 _ _ hD1q,λq nq=>?_⟩;rw[c1];have Sq:Fo_ H5 (upd H5 q (HO.lst ((nms.take Pp).map V.str))):=Fo_.new nq;have hq:=aa_ (H:=H5) (a:=q) (o:=HO.lst ((nms.take Pp).map V.str));generalize upd H5 q (HO.lst ((nms.take Pp).map V.str))=H6' at*;show⟨L,vs,λi=>wns.getD i Str.empty,rfl,Sq _ _ hL,o_,λi hi=>?_,λi j hi hj e=>fL_ nd2 o_ o_ e,λl' zs nl' hpm=>?_⟩
     .obtain⟨d,hd,hr⟩:=repW.of_get (i:=i) (x:=vs[i]) (Aa_ hi);rw[Af_,Aa_ o_]at hd;rw[<-AB_ hd]at hr;obtain⟨aa,_,ea,haa,_,_,e1,hx1,_,_,e2,hx2,e3⟩:=hr;obtain⟨ww,_,ew,hww,_,_,e4,hy1,_,_,e5,hy2,e6⟩:=hx2;subst e6 e5 e4 e3 e2 e1;cases hx1;cases hy1;cases hy2;subst ew;have en:(wl[i]'o_).1=wns.getD i Str.empty:=by rw[<-wnm,Ad_,Af_,Aa_ o_];rfl
      rw[en]at haa;show⟨aa,ww,_,by rw[Aa_ hi,ea],Sq _ _ (sS5 _ _ haa),Sq _ _ (sS5 _ _ hww)⟩
     .show⟨d_,λpe npe=>?_⟩;obtain⟨wl',pw,repW'⟩:=mT_ dWo hpm repW;have Sl:Fo_ H6' (upd H6' l' (HO.lst zs)):=Fo_.new nl';have hl':=aa_ (H:=H6') (a:=l') (o:=HO.lst zs);generalize upd H6' l' (HO.lst zs)=H7' at*;have Se:Fo_ H7' (upd H7' pe (HO.tup [V.ref q,V.ref R,V.ref l'])):=Fo_.new npe;have he:=aa_ (H:=H7') (a:=pe) (o:=HO.tup [V.ref q,V.ref R,V.ref l']);generalize upd H7' pe (HO.tup [V.ref q,V.ref R,V.ref l'])=H8' at*;have tot:Fo_ H5 H8':=Sq.trans (Sl.trans Se);show k (.ref pe) ⟨nms.take Pp,F0_ (λp=>nms.getD p Str.empty) (λv=>wns.getD v Str.empty) T' dn,wl'⟩ H8' (s0.trans (s6.trans (s6q.trans (sq5.trans tot)))) ⟨pe,_,rfl,he,_,_,rfl,⟨q,_,rfl,(Sl.trans Se) _ _ hq,bz_ _⟩,_,_,rfl,⟨R,ys,rfl,tot _ _ (sq5 _ _ hRq),FM_.mono (sH2.trans (sq5.trans tot)) _ repS⟩,_,_,rfl,⟨l',zs,rfl,Se _ _ hl',FM_.mono (sS5.trans tot) _ repW'⟩,rfl⟩ ?_ ?_ ?_ ?_
      .show pY_ gr'.toGr (by rw[<-bl];show pm) P6 W15 (λx y hx hy e=>fL_ nd1 o_ o_ e) (λx y hx hy e=>fL_ nd2 o_ o_ e) (by rw[AT_];lia) (by rw[pw.length_eq];lia)
      .have nl1':nms.length=T'.length:=o_
       show⟨List.Nodup.sublist (List.take_sublist _ _) nd1,λx hx=>?_,by rw[AT_];lia⟩;obtain⟨j,hj,ej⟩:=Ap_.mp hx;have hj2:j<nms.length:=by rw[AT_]at hj;lia
       show Ao_.mpr ⟨_,Ao_.mpr ⟨j,pm.mem_iff.mpr (AX_.mpr o_),rfl⟩,?_⟩;change nms.getD j Str.empty=x;rw[Ad_,Aa_ hj2];rw[CE_]at ej;show ej
      .have pn:=pw.map (·.1);rw[wnm]at pn;show⟨pn.nodup_iff.mpr nd2,λx=>?_,λx hx=>wws x (pw.mem_iff.mp hx)⟩;rw[pn.mem_iff];have al:=k7_ (S:=Str) (ns:=λp=>nms.getD p Str.empty) (ws:=λv=>wns.getD v Str.empty) (T:=T') (ord:=dn) (by rw[<-bl];show pm);change x∈wns↔x∈((F0_ _ _ T' dn).map (·.2)).flatten;rw[al.mem_iff];constructor
       .intro hx;obtain⟨j,hj,ej⟩:=Ap_.mp hx;show Ao_.mpr ⟨j,Bs_.mp (by rw[gr'.two j o_];decide),?_⟩;change wns.getD j Str.empty=x;rw[Ad_,Aa_ hj];show ej
       .intro hx;obtain⟨j,hj,ej⟩:=Ao_.mp hx;have hl:=gr'.lt j hj;have ej':wns.getD j Str.empty=x:=ej;rw[Ad_,Aa_ (show j<wns.length by lia)]at ej';rw[<-ej'];show A2_ _
      .show p7_ gr' (by rw[<-bl];show pm) (λx y hx hy e=>fL_ nd1 o_ o_ e) (λx y hx hy e=>fL_ nd2 o_ o_ e) ?_;apply CM_
       .rw[AT_,Ab_,Br_];lia
       .intro p h1 h2;rw[AT_]at h1;rw[CE_,Cc_,List.getElem_range,Ad_,Aa_ o_];rfl
def dE(e:End Str):Dt:=.tup [.str e.1,.int e.2]
def Gl_(acc:List (Str×List (End Str)))(ls:List Addr):List (Key×V):=List.zipWith (λkv l=>(Sum.inr kv.1,V.ref l)) acc ls
structure DE(en:End Str->Dt)(S H:Hp)(d:Addr)(ls:List Addr)(acc:List (Str×List (End Str))):Prop where
 sH:Fo_ S H
 dict:H d=some (.dK (Gl_ acc ls))
 len:ls.length=acc.length
 nd:ls.Nodup
 dn:d∉ls
 lst:∀(i:Nat)(l:Addr)(kv:Str×List (End Str)),ls[i]?=some l->acc[i]?=some kv->∃vs,H l=some (.lst vs)/\FM_ S vs (kv.2.map en)
 fd:S d=none
 fl:∀l∈ls,S l=none
variable{en:End Str->Dt}{d:Addr}{ls:List Addr}{acc:List (Str×List (End Str))}
theorem DE.mono(h:DE en S H d ls acc)(s:Fo_ H H'):DE en S H' d ls acc :=
 ⟨h.sH.trans s,s _ _ h.dict,h.len,h.nd,h.dn,λi l kv h1 h2=>(h.lst i l kv h1 h2).elim λvs z=>⟨vs,s _ _ z.1,z.2⟩,h.fd,h.fl⟩
theorem DE.stay(h:DE en S H d ls acc)(nq:H q=none)(o:HO):DE en (upd S q o) (upd H q o) d ls acc:=by
 have qd:q≠d:=(ag_ h.dict nq).symm;have ql:∀l∈ls,q≠l:=λl hl e=>by obtain⟨i,hi,ei⟩:=Ap_.mp hl;obtain⟨vs,z,_⟩:=h.lst i l (acc[i]'(by rw[<-h.len];show hi)) (by rw[Aa_ hi,ei]) (Aa_ _);rw[<-e,nq]at z;cases z
 show⟨gQ_ h.sH nq,by rw[ae_ qd.symm];show h.dict,h.len,h.nd,h.dn,λi l kv h1 h2=>(h.lst i l kv h1 h2).elim λvs z=>⟨vs,by rw[ae_ (ql l (Ag_ h1)).symm];show z.1,FM_.mono (bk_ h.sH nq) _ z.2⟩,by rw[ae_ qd.symm];show h.fd,λl hl=>by rw[ae_ (ql l hl).symm];show h.fl l hl⟩
theorem kM_(h:ls.length=acc.length):(Gl_ acc ls).length=acc.length:=by unfold Gl_;rw[DE_];lia
theorem eT_{w:Str}:∀{acc:List (Str×List (End Str))}{ls:List Addr}{i:Nat}{es:List (End Str)},ls.length=acc.length->acc[i]?=some (w,es)->(∀j kv,j<i->acc[j]?=some kv->kv.1≠w)->∃l,ls[i]?=some l/\FZ_ (Gl_ acc ls) (.inr w)=some (.ref l)
 |[],_,_,_,_,h,_=>by cases h
 |kv::acc,[],_,_,h,_,_=>by cases h
 |kv::acc,l::ls,0,es,_,h,_=>by
  cases h;show⟨l,rfl,aW_ rfl⟩
 |kv::acc,l::ls,i+1,es,hl,h,hn=>by obtain⟨l',h1,h2⟩:=eT_ (w:=w) (acc:=acc) (ls:=ls) (i:=i) (by simpa using hl) h λj kv hj hkv=>hn (j+1) kv o_ hkv;show⟨l',h1,?_⟩;change FZ_ ((Sum.inr kv.1,V.ref l)::Gl_ acc ls) (.inr w)=_;rw[aN_ (λz=>hn 0 kv o_ rfl (DK_ z))];show h2
theorem gX_{w:Str}:∀{acc:List (Str×List (End Str))}{ls:List Addr},(∀kv∈acc,kv.1≠w)->FZ_ (Gl_ acc ls) (.inr w)=none
 |[],_,_=>by unfold Gl_;rw[ES_];rfl
 |kv::acc,[],_=>rfl
 |kv::acc,l::ls,h=>by change FZ_ ((Sum.inr kv.1,V.ref l)::Gl_ acc ls) (.inr w)=_;rw[aN_ (λz=>h kv An_ (DK_ z))];show gX_ λkv hkv=>h kv (Am_ _ hkv)
variable{e:End Str}
theorem nO_{w:Str}(hl:ls.length=acc.length)(h:∀kv∈acc,kv.1≠w):Gd_ (Gl_ acc ls) (.inr w) (.ref q)=Gl_ (acc++[(w,[e])]) (ls++[q]):=by have hv:=gX_ (ls:=ls) h;unfold Gd_;rw[if_neg (by rw[cC_,hv];decide)];unfold Gl_;rw[DF_ hl.symm];rfl
theorem DE.old(h:DE en S H d ls acc){w:Str}{es:List (End Str)}{t:V}{vs:List V}(hi:acc[i]?=some (w,es))(hl:ls[i]?=some l)(hv:H l=some (.lst vs))(hr:FM_ S vs (es.map en))(ht:Rep S t (en e)):
  DE en S (upd H l (.lst (vs++[t]))) d ls (acc.set i (w,es++[e])):=by
 have dl:d≠l:=λz=>h.dn (by rw[z];show Ag_ hl);have il:i<ls.length:=(Ai_.mp hl).1;have ia:i<acc.length:=by rw[<-h.len];show il
 show⟨cB_ h.sH (h.fl l (Ag_ hl)),?_,by rw[BM_];show h.len,h.nd,h.dn,λj l' kv h1 h2=>?_,h.fd,h.fl⟩
 .rw[ae_ dl,h.dict];congr 2;unfold Gl_;apply CM_
  .simp
  .intro j g1 g2;rw[E1_,E1_];by_cases z:i=j
   .subst z;rw[EM_];rw[Aa_ ia]at hi;rw[AB_ hi]
   .rw[Fa_ z]
 .rw[A3_]at h2;by_cases z:i=j
  .subst z;rw[if_pos rfl,if_pos ia]at h2;cases h2;rw[hl]at h1;cases h1;show⟨_,aa_,?_⟩;rw[Av_];show FM_.append hr ⟨_,_,rfl,ht,rfl⟩
  .rw[if_neg z]at h2;obtain⟨vs',g1,g2⟩:=h.lst j l' kv h1 h2;have ll:l'≠l:=λy=>by rw[y]at h1;show z ((A4_ il h.nd).mp (hl.trans h1.symm))
   show⟨vs',by rw[ae_ ll];show g1,g2⟩
theorem DE.new(h:DE en S H d ls acc){w:Str}{t:V}(hn:∀kv∈acc,kv.1≠w)(hq:H q=some (.lst []))(qd:q≠d)(ql:q∉ls)(Sq:S q=none)(ht:Rep S t (en e)):
  DE en S (upd (upd H d (.dK (Gd_ (Gl_ acc ls) (.inr w) (.ref q)))) q (.lst [t])) d (ls++[q]) (acc++[(w,[e])]):=by
 show⟨cB_ (cB_ h.sH h.fd) Sq,?_,by simp[h.len],?_,?_,λj l' kv h1 h2=>?_,h.fd,λl hl=>?_⟩
 .rw[ae_ qd.symm,aa_,nO_ h.len hn]
 .show AG_.mpr ⟨h.nd,s_,λx hx y hy z=>ql (by rw[<-Ae_.mp hy,<-z];show hx)⟩
 .intro z
  rcases Aq_.mp z with z|z
  .show h.dn z
  .show qd (Ae_.mp z).symm
 .by_cases hj:j<ls.length
  .rw[Aw_ hj]at h1;rw[Aw_ (by rw[<-h.len];show hj)]at h2;obtain⟨vs',g1,g2⟩:=h.lst j l' kv h1 h2;have e1:l'≠q:=λz=>ql (by rw[<-z];show Ag_ h1);have e2:l'≠d:=λz=>h.dn (by rw[<-z];show Ag_ h1);show⟨vs',by rw[ae_ e1,ae_ e2];show g1,g2⟩
  .rw[Az_ o_]at h1;rw[Az_ (by rw[<-h.len];lia)]at h2;have e1:=Ae_.mp (Ag_ h1);have e2:=Ae_.mp (Ag_ h2);subst e1 e2;show⟨_,aa_,_,_,rfl,ht,rfl⟩
 .rcases Aq_.mp hl with z|z
  .show h.fl l z
  .rw[Ae_.mp z];show Sq
variable{N:Net Str}
theorem b5_(h:Rep H v (G7_ N)):∃(pn p0 p1 p2:Addr)(rs ws:List V),v=.ref pn/\H pn=some (.tup [.ref p0,.ref p1,.ref p2])/\H p0=some (.lst (N.posts.map V.str))/\H p1=some (.lst rs)/\FM_ H rs (N.rows.map dRw)/\H p2=some (.lst ws)/\FM_ H ws (N.worths.map dWo):=by obtain⟨pn,_,rfl,hn,_,_,rfl,⟨p0,ps,rfl,h0,r0⟩,_,_,rfl,⟨p1,rs,rfl,h1,r1⟩,_,_,rfl,⟨p2,ws,rfl,h2,r2⟩,rfl⟩:=h;rw[dX_ r0]at h0;show⟨pn,p0,p1,p2,rs,ws,rfl,hn,h0,h1,r1,h2,r2⟩
theorem pr_{r:Str×List Str}(h:Rep H v (dRw r)):∃q l,v=.ref q/\H q=some (.tup [.str r.1,.ref l])/\H l=some (.lst (r.2.map V.str)):=by obtain⟨q,_,rfl,hq,x,_,rfl,hx,_,_,rfl,⟨l,us,rfl,hl,rl⟩,rfl⟩:=h;rw[dX_ rl]at hl;cases hx;show⟨q,l,rfl,hq,hl⟩
theorem fO_{rs:List V}{rows:List (Str×List Str)}{x:V}(h:FM_ H rs (rows.map dRw))(e:rs[i]?=some x):∃r q l,rows[i]?=some r/\x=.ref q/\H q=some (.tup [.str r.1,.ref l])/\H l=some (.lst (r.2.map V.str)):=by
 obtain⟨d,hd,hr⟩:=h.of_get e;rw[Af_]at hd;cases e2:rows[i]? with
 |none=>rw[e2]at hd;cases hd
 |some r =>rw[e2]at hd;rw[<-AB_ hd]at hr;obtain⟨q,l,h1,h2,h3⟩:=pr_ hr;show⟨r,q,l,rfl,h1,h2,h3⟩
theorem ga_(p:Str):∀(ws:List Str)(k j:Nat),(FX_ p k ws)[j]?=(ws[j]?).map λx=>(x,(p,k+j))
 |[],_,_=>by simp[FX_]
 |w::ws,k,0=>rfl
 |w::ws,k,j+1=>by change(FX_ p (k+1) ws)[j]?=(ws[j]?).map λx=>(x,(p,k+(j+1)));rw[ga_ p ws (k+1) j,show k+1+j=k+(j+1) by lia]
theorem h8_(p:Str)(ws:List Str)(k:Nat):(FX_ p k ws).length=ws.length:=by
 have:=congrArg List.length (eR_ p ws k)
 rwa[Ab_]at this
theorem gY_{rows:List (Str×List Str)}{r:Str×List Str}(h:rows[i]?=some r):occ (rows.take (i+1))=occ (rows.take i)++FX_ r.1 0 r.2:=by unfold occ;rw[Bc_,h,Av_,Be_];simp
theorem lg_(ok:Gm_ N)(l m:List (Str×End Str))(h:l++m=occ N.rows):(FY_ l).length<=30:=by
 have e:∀l:List (Str×End Str),(FY_ l).length<=l.length:=λl=>by
  have key:∀n (l:List (Str×End Str)),l.length=n->(FY_ l).length<=n:=λn=>by
   induction n with
   |zero=>intro l h;rw[Bo_ h];show Aj_ _
   |succ n ih =>
    intro l h;obtain⟨m,x,rfl⟩:∃m x,l=m++[x]:=⟨l.dropLast,l.getLast (λe=>by rw[e]at h;cases h),(Bp_ _).symm⟩;rw[eQ_];have h2:=ih m (by simpa using h);have h3:=congrArg List.length (em_ (w:=x.1) (e:=x.2) (a:=FY_ m));rw[Ab_]at h3;split at h3
    .rw[Ab_]at h3;lia
    .rw[Al_,Ab_]at h3;simp at h3;lia
  show key _ l rfl
 have h1:=e l;have h2:=congrArg List.length h;have h3:=congrArg List.length (hn_ N.rows);rw[Ab_]at h3;have h4:=ok.tot;unfold Net.all at h4;rw[Al_]at h2;lia
theorem h9_(ok:Gm_ N)(l m:List (Str×End Str))(h:l++m=occ N.rows):∀kv∈FY_ l,kv.2.length<=30:=λkv hkv=>by
 have h0:=(cE_ _ l rfl).2.1 kv hkv;have h1:kv.2.length<=l.length:=by rw[h0,Ab_];show Bj_ _ _
 have h2:=congrArg List.length h;have h3:=congrArg List.length (hn_ N.rows);rw[Ab_]at h3;have h4:=ok.tot;unfold Net.all at h4;rw[Al_]at h2;lia
theorem nP_{a b:Addr}{x y:HO}(h:a≠b):upd (upd H a x) b y=upd (upd H b y) a x:=by
 funext c;by_cases h1:c=a
 .subst h1;rw[ae_ h,aa_,aa_]
 .by_cases h2:c=b
  .subst h2;rw[aa_,ae_ h1,aa_]
  .rw[ae_ h2,ae_ h1,ae_ h1,ae_ h2]
abbrev FH_:Stmt:=stN 1
theorem a8_:ZL ["net","ends","point","wires","place","wire"] ["net"] (Fp_ FH_):=zL
theorem df_:LK FH_ "enumerate" .globalImplicit:=r_
def IJ_:Sp:=λvs H Q _=>∃(v:V)(N:Net Str),vs=[v]/\Rep H v (G7_ N)/\Gm_ N/\∀d S ls H',Fo_ H S->DE dE S H' d ls (FW_ N)->H d=none->Q (.ref d) H'
theorem hz_(T:Txt K mg)(F:Fn0 K mg "ends_by_wire" FH_):Cal P w K mg base "ends_by_wire" ["net"] 1 IJ_:=by
  show aU_ F a8_.1 λf cdv A outer s H vs Q E hr h=>?_;obtain⟨v,N,rfl,hv,ok,k⟩:=h;refine'⟨_,?D,?R⟩
  case D =>
   refine' ad_ ?a (ad_ ?b (af_ (az_ (zv 1 a8_))))
   case a=>show zas 1 a8_ eO_
   case' b=>refine' aO_ AC_ rfl (ax_ (K:=K) rfl (Fv_ ao_ (zv 0 a8_) ac_)) (bp_ (K:=K) (n:=2) rfl rfl (au_ ?c (au_ ?d bm_))) ?e
   case c=>show zh 2 a8_
   case d=>show zh 3 a8_
   case' e=>refine' af_ (aO_ AC_ rfl (oQ_ (K:=K) rfl df_ T.n_enumerate (pa_c (zv 3 a8_) ab_)) (bp_ (K:=K) (n:=2) rfl rfl (au_ ?f (au_ ?g bm_))) ?h)
   case f=>show zh 4 a8_
   case g=>show zh 5 a8_
   case' h=>refine' af_ (aK_ (Gn_ AF_ AV_ AW_ aQ_ (Gn_ B3_ CI_ DJ_ fz_ (zv 1 a8_) (pa_c (zv 5 a8_) (pa_c (bn_ ab_) ab_))) ?i))
   case' i=>refine' pa_c (aF_ (pa_c (zv 2 a8_) (pa_c (zv 4 a8_) ab_))) ab_
  case R =>
   nofun;obtain⟨pn,p0,p1,p2,rs,ws,rfl,hn,h0,h1,r1,h2,r2⟩:=b5_ hv;have rl:rs.length=N.rows.length:=by rw[r1.length,Ab_]
   intro d nd;have Sd:Fo_ H (upd H d (HO.dK [])):=Fo_.new nd;show⟨pn,rfl,_,Sd _ _ hn,_,GE_,p1,rfl,⟨_,.inl (.inl (Sd _ _ h1))⟩,?_⟩;have D0:DE dE H (upd H d (HO.dK [])) d [] (FY_ (occ (N.rows.take 0))):=⟨Sd,aa_,rfl,A6_,λz=>(by cases z),λi l kv z=>(by cases z),nd,λl z=>(by cases z)⟩;show ip_ (xs:=rs) (λi σ H'=>∃(e2 e3 e4 e5:Option V)(S:Hp)(ls:List Addr),σ=[some (.ref pn),some (.ref d),e2,e3,e4,e5]/\Fo_ H S/\DE dE S H' d ls (FY_ (occ (N.rows.take i)))) ⟨none,none,none,none,H,[],rfl,Fo_.refl _,D0⟩ ?_ ?_ ?_
   .rintro i σ H' hi ⟨e2,e3,e4,e5,S,ls,rfl,sS,de⟩;show .inl (.inl (de.sH _ _ (sS _ _ h1)))
   .rintro i x σ H' hx ⟨e2,e3,e4,e5,S,ls,rfl,sS,de⟩;obtain⟨r,q,l,hr1,rfl,hq,hl⟩:=fO_ r1 hx;have s1:=sS.trans de.sH;rw[gY_ hr1];have occle:∀j,∃m,(occ (N.rows.take i)++(FX_ r.1 0 r.2).take j)++m=occ N.rows:=λj=>by show⟨(FX_ r.1 0 r.2).drop j++occ (N.rows.drop (i+1)),?_⟩;rw[A9_,<-A9_ (List.take j _),Bk_,<-A9_,<-gY_ hr1];unfold occ;rw[<-Be_,<-Av_,Bk_]
    nofun;show⟨_,SqT.of (s1 _ _ hq),rfl,_,_,rfl,_,_,rfl,rfl,l,rfl,⟨_,.inl (.inl (s1 _ _ hl))⟩,?_⟩;show oY_ (xs:=r.2.map V.str) (λj σ H'=>∃(e4 e5:Option V)(S:Hp)(ls:List Addr),σ=[some (.ref pn),some (.ref d),some (.str r.1),some (.ref l),e4,e5]/\Fo_ H S/\DE dE S H' d ls (FY_ (occ (N.rows.take i)++(FX_ r.1 0 r.2).take j))) ⟨e4,e5,S,ls,rfl,sS,by rw[List.take_zero,BL_];show de⟩ ?_ ?_ ?_
    .rintro j σ H2 hj ⟨e4,e5,S,ls,rfl,sS,de⟩;show .inl (.inl ((sS.trans de.sH) _ _ hl))
    .rintro j x T0 σ H2 hx ⟨e4,e5,S,ls,rfl,sS,de⟩ nT;rw[Af_]at hx
     obtain⟨wr,hw,rfl⟩:∃wr,r.2[j]?=some wr/\x=.str wr:=by
      cases e:r.2[j]? with
      |none=>rw[e]at hx;cases hx
      |some wr=>rw[e]at hx;cases hx;show⟨wr,rfl,rfl⟩
     have tk:(FX_ r.1 0 r.2).take (j+1)=(FX_ r.1 0 r.2).take j++[(wr,(r.1,j))]:=by rw[Bc_,ga_,hw];simp
     obtain⟨m,hm⟩:=occle j;have few:=lg_ ok _ _ hm;have short:=h9_ ok _ _ hm;rw[tk,<-A9_,eQ_];generalize FY_ (occ (N.rows.take i)++(FX_ r.1 0 r.2).take j)=acc at*;have de2:=de.mono (Fo_.new nT (o:=HO.tup [V.int j,V.str wr]));have hT:=aa_ (H:=H2) (a:=T0) (o:=HO.tup [V.int j,V.str wr]);generalize upd H2 T0 (HO.tup [V.int j,V.str wr])=H3 at*;nofun;show⟨_,SqT.of hT,rfl,_,_,rfl,_,_,rfl,rfl,.inr (.inr (.inl (.inl ⟨_,de2.dict⟩))),AE_ _,λq nq=>?_⟩;have qd:q≠d:=(ag_ de2.dict nq).symm;have ql:q∉ls:=λz=>by obtain⟨i0,hi0,ei⟩:=Ap_.mp z;obtain⟨vs,z2,_⟩:=de2.lst i0 q (acc[i0]'(by rw[<-de2.len];show hi0)) (by rw[Aa_ hi0,ei]) (Aa_ _);rw[nq]at z2;cases z2
     have Sq:S q=none:=de2.sH.free nq;have de3:=de2.mono (Fo_.new nq (o:=HO.lst []));have hq4:=aa_ (H:=H3) (a:=q) (o:=HO.lst []);generalize upd H3 q (HO.lst [])=H4 at*;show⟨_,.inr wr,rfl,de3.dict,by rw[kM_ de3.len];lia,λv2 hv2=>?_,λhnone=>?_⟩
     .have hex:∃kv∈acc,kv.1=wr:=by
       by_cases hc:∃kv∈acc,kv.1=wr
       .show hc
       .rw[gX_ (λkv hkv z=>hc ⟨kv,hkv,z⟩)]at hv2;cases hv2
      obtain⟨i0,es,g1,g2,g3⟩:=dq_ (e:=(r.1,j)) hex;obtain⟨lw,l1,l2⟩:=eT_ de3.len g1 g2;rw[l2]at hv2;cases hv2;obtain⟨vs,hvs,hrep⟩:=de3.lst i0 lw _ l1 g1;have vle:vs.length<=30:=by rw[hrep.length,Ab_];show short _ (Ag_ g1)
      show⟨.inl ⟨_,.inl (.inl hvs)⟩,d_,λt nt=>⟨lw,rfl,vs,(Fo_.new nt) _ _ hvs,Fq_ o_,?_⟩⟩;have de5:=de3.stay nt (.tup [.str r.1,.int j]);have de6:=de5.old g1 l1 ((Fo_.new nt) _ _ hvs) (FM_.mono (bk_ de3.sH nt) _ hrep) (e:=(r.1,j)) ⟨t,_,rfl,aa_,_,_,rfl,rfl,_,_,rfl,rfl,rfl⟩;rw[g3];show⟨_,sS.trans (bk_ de3.sH nt),ls,de6⟩
     .have hno:∀kv∈acc,kv.1≠wr:=λkv hkv z=>by obtain⟨i0,es,g1,g2,g3⟩:=dq_ (e:=(r.1,j)) ⟨kv,hkv,z⟩;obtain⟨lw,l1,l2⟩:=eT_ de3.len g1 g2;rw[l2]at hnone;cases hnone
      have hqd:upd H4 d (HO.dK (Gd_ (Gl_ acc ls) (Sum.inr wr) (V.ref q))) q=some (.lst []):=by rw[ae_ qd];show hq4
      show⟨.inl ⟨_,.inl (.inl hqd)⟩,d_,λt nt=>?_⟩;have td:t≠d:=λz=>by rw[z,aa_]at nt;cases nt
      have nt4:H4 t=none:=by rw[ae_ td]at nt;show nt
      have tq:t≠q:=(ag_ hq4 nt4).symm;have de5:=de3.stay nt4 (.tup [.str r.1,.int j]);have de6:=de5.new (e:=(r.1,j)) (q:=q) hno (by rw[ae_ tq.symm];show hq4) qd ql (by rw[ae_ tq.symm];show Sq) ⟨t,_,rfl,aa_,_,_,rfl,rfl,_,_,rfl,rfl,rfl⟩;show⟨[],by rw[ae_ tq.symm];show hqd,Fq_ d_,upd S t (.tup [.str r.1,.int j]),sS.trans (bk_ de3.sH nt4),ls++[q],?_⟩;rw[hm_ hno,nP_ td.symm];show de6
    .rintro σ H2 ⟨e4,e5,S,ls,rfl,sS,de⟩;rw[A0_ (l:=FX_ r.1 0 r.2) (by rw[h8_,Ab_];show Aj_ _)]at de;show⟨_,_,_,_,rfl,S,sS,ls,de⟩
   .rintro σ H' ⟨e2,e3,e4,e5,S,ls,rfl,sS,de⟩;rw[A0_ o_]at de;nofun;show k d S ls H' sS de nd
mutual
theorem iQ_:∀d:Dt,deq d d=some true
 | .non=>rfl
 | .bl a=>by simp[deq]
 | .int a=>by simp[deq]
 | .str a=>by simp[deq]
 | .tup xs=>hA_ xs
 | .lst xs=>by rw[deq,if_pos rfl];show hA_ xs
theorem hA_:∀ds:List Dt,deqs ds ds=some true
 |[]=>rfl
 |d::ds=>by rw[deqs,iQ_ d,hA_ ds];rfl
end
theorem ey_{α:Type}{f:α->Dt}{n:Nat}(h:∀a,dep (f a)<=n):∀l:List α,deps (l.map f)<=n
 |[]=>AE_ _
 |a::l=>Nat.max_le.mpr ⟨h a,ey_ h l⟩
theorem ps_(N:Net Str):dep (G7_ N)<=6:=by
 have h1:dep (.lst (N.posts.map dS))<=5:=AH_ (BO_ (ey_ (f:=dS) (n:=1) (λa=>by simp[dS,dep]) _)) d_;have h2:dep (.lst (N.rows.map dRw))<=5:=AH_ (BO_ (ey_ (f:=dRw) (n:=3) (λr=>by have:dep (.lst (r.2.map dS))<=2:=BO_ (ey_ (f:=dS) (n:=1) (λa=>by simp[dS,dep]) _);change max 0 (max (dep (.lst (r.2.map dS))) 0)+1<=3;lia) _)) d_;have h3:dep (.lst (N.worths.map dWo))<=5:=AH_ (BO_ (ey_ (f:=dWo) (n:=3) (λr=>by simp[dWo,dep,deps]) _)) d_;change max (dep (.lst (N.posts.map dS))) (max (dep (.lst (N.rows.map dRw))) (max (dep (.lst (N.worths.map dWo))) 0))+1<=6;lia
abbrev GO_:Stmt:=stN 28
theorem nQ_:ZL ["_law_net"] ["_law_net"] (Fp_ GO_):=zL
theorem fP_:LK GO_ "list" .globalImplicit:=r_
def HT_:Sp:=λvs H Q _=>∃(v:V)(N:Net Str),vs=[v]/\Rep H v (G7_ N)/\Gm_ N/\∀v' H',Fo_ H H'->Rep H' v' (G7_ N)->Q v' H'
theorem nR_(T:Txt K mg)(F:Fn0 K mg "_law_copy" GO_):Cal P w K mg base "_law_copy" ["_law_net"] 1 HT_:=by
  show aU_ F nQ_.1 λf cdv A outer s H vs Q E hr h=>?_;obtain⟨v,N,rfl,hv,ok,k⟩:=h;obtain⟨pn,p0,p1,p2,rs,ws,rfl,hn,h0,h1,r1,h2,r2⟩:=b5_ hv;have rl:rs.length=N.rows.length:=by rw[r1.length,Ab_]
  have few:=ok.few;refine'⟨_,?D,?R⟩
  case D =>
   refine' af_ (az_ (aF_ (pa_c (bQ_ dm_ fP_ T.n_list cs_ (pa_c (Fv_ ao_ (zv 0 nQ_) ac_) ab_)) ?a)))
   case' a=>refine' pa_c ?b (pa_c (bQ_ dm_ fP_ T.n_list cs_ (pa_c (Fv_ ao_ (zv 0 nQ_) ac_) ab_)) ab_)
   case' b=>refine' cG_ (N':=["_law_point","_law_wires"]) (ix:=[none,none]) rfl rfl (bL_ ?c) (ax_ (K:=K) rfl (Fv_ ao_ (zv 0 nQ_) ac_)) (λ_ _ _=>(bp_ (K:=K) (n:=2) rfl rfl (au_ ?d (au_ ?e bm_)))) (λ_ _ _=>?f) (λ_ _ _=>?g)
   case c=>show(by change G5_ (Fp_ GO_) ["_law_net"] _ _ _=true;decide +kernel)
   case d=>show ah_ (i:=0) (by change List.Nodup (["_law_point","_law_wires"]:List Str);decide +kernel) rfl rfl
   case e=>show ah_ (i:=1) (by change List.Nodup (["_law_point","_law_wires"]:List Str);decide +kernel) rfl rfl
   case f=>show dk_
   case' g=>refine' aF_ (pa_c (pv1 0 rfl rfl) (pa_c (bQ_ dm_ rfl T.n_list cs_ (pa_c (pv1 1 rfl rfl) ab_)) ab_))
  case R =>
   nofun;show⟨_,hn,_,Gc_,p0,rfl,_,.inl h0,λc0 n0=>?_⟩;have S1:Fo_ H (upd H c0 (HO.lst (N.posts.map V.str))):=Fo_.new n0;have hc0:=aa_ (H:=H) (a:=c0) (o:=HO.lst (N.posts.map V.str));generalize upd H c0 (HO.lst (N.posts.map V.str))=H1 at*;show⟨_,S1 _ _ hn,_,GE_,p1,rfl,⟨_,.inl (.inl (S1 _ _ h1))⟩,?_⟩;have h11:=S1 _ _ h1;show cA_ (n:=N.rows.length) (B:=λ_=>none) (Pσ:=λσ=>∃e e',σ=[e,e']) (ds:=N.rows.map dRw) (λb o e=>by cases e) ⟨_,_,rfl⟩ s_ o_ (λi H' hi s'=>⟨rs,rs[i]'o_,.inl (.inl (s' _ _ h11)),Aa_ _⟩) (λH' s'=>⟨rs,.inl (.inl (s' _ _ h11)),o_⟩) ?_ ?_
   .rintro D i x d σ' H2 H2' hD hDo hs2 hi hdi ⟨rfl,hy⟩ ⟨e,e',rfl⟩ R kR;obtain⟨od,hDo⟩:=hDo;have hx:=hy _ (.inl (.inl (hs2 _ _ h11)));obtain⟨r,q,l,hr1,rfl,hq,hl⟩:=fO_ r1 hx;have s12:=S1.trans hs2;have hd:d=dRw r:=by rw[Af_,hr1]at hdi;show(AB_ hdi).symm
    nofun;show⟨_,SqT.of (s12 _ _ hq),rfl,_,_,rfl,_,_,rfl,rfl,l,rfl,_,.inl (s12 _ _ hl),λc1 n1=>⟨d_,λc2 n2=>?_⟩⟩;have c1D:c1≠D:=(ag_ hDo n1).symm;have c2D:c2≠D:=(ag_ ((Fo_.new n1 (o:=HO.lst (r.2.map V.str))) _ _ hDo) n2).symm;show kR _ _ _ ⟨_,_,rfl⟩ ((Fo_.new n1).trans (Fo_.new n2)) ?_;rw[hd];show⟨c2,_,rfl,by rw[bo_ c2D rfl];show aa_,_,_,rfl,rfl,_,_,rfl,⟨c1,_,rfl,by rw[bo_ c1D rfl];show(Fo_.new n2) _ _ aa_,bz_ _⟩,rfl⟩
   .intro D H2 hD s2 rep2;have s02:=S1.trans s2;show⟨_,s02 _ _ hn,_,Ip_,p2,rfl,_,.inl (s02 _ _ h2),λc2 n2=>⟨d_,λpe ne=>?_⟩⟩;have S3:=Fo_.new n2 (o:=HO.lst ws);have S4:=Fo_.new ne (o:=HO.tup [V.ref c0,V.ref D,V.ref c2]);show k _ _ (s02.trans (S3.trans S4)) ⟨pe,_,rfl,aa_,_,_,rfl,⟨c0,_,rfl,(s2.trans (S3.trans S4)) _ _ hc0,bz_ _⟩,_,_,rfl,Rep.mono (cI_.trans (S3.trans S4)) _ rep2,_,_,rfl,⟨c2,ws,rfl,S4 _ _ aa_,FM_.mono (s02.trans (S3.trans S4)) _ r2⟩,rfl⟩
abbrev Gk_:Stmt:=stN 3
theorem jY_:ZL ["net"] ["net"] (Fp_ Gk_):=zL
def Jz_:Sp:=λvs H Q _=>∃(v:V)(N:Net Str),vs=[v]/\Rep H v (G7_ N)/\Gm_ N/\∀D H',Fo_ H H'->H D=none->H' D=some (.lst ((N.rows.map (·.1)).map V.str))->Q (.ref D) H'
theorem jZ_(T:Txt K mg)(F:Fn0 K mg "points_of" Gk_):Cal P w K mg base "points_of" ["net"] 1 Jz_:=by
  show aU_ F jY_.1 λf cdv A outer s H vs Q E hr h=>?_;obtain⟨v,N,rfl,hv,ok,k⟩:=h;obtain⟨pn,p0,p1,p2,rs,ws,rfl,hn,h0,h1,r1,h2,r2⟩:=b5_ hv;have rl:rs.length=N.rows.length:=by rw[r1.length,Ab_]
  have few:=ok.few;refine'⟨_,?D,?R⟩
  case D =>
   refine' af_ (az_ (cG_ (N':=["point","wires"]) (ix:=[none,none]) rfl rfl (bL_ ?a) (ax_ (K:=K) rfl (Fv_ ao_ (zv 0 jY_) ac_)) (λ_ _ _=>(bp_ (K:=K) (n:=2) rfl rfl (au_ ?b (au_ ?c bm_)))) (λ_ _ _=>?d) (λ_ _ _=>(pv1 0 rfl rfl))))
   case a=>show(by change G5_ (Fp_ Gk_) ["net"] _ _ _=true;decide +kernel)
   case b=>show ah_ (i:=0) (by change List.Nodup (["point","wires"]:List Str);decide +kernel) rfl rfl
   case c=>show ah_ (i:=1) (by change List.Nodup (["point","wires"]:List Str);decide +kernel) rfl rfl
   case d=>show dk_
  case R =>
   nofun;show⟨_,hn,_,GE_,p1,rfl,⟨_,.inl (.inl h1)⟩,?_⟩;show cA_ (n:=N.rows.length) (B:=λ_=>none) (Pσ:=λσ=>∃e e',σ=[e,e']) (ds:=(N.rows.map (·.1)).map dS) (λb o e=>by cases e) ⟨_,_,rfl⟩ s_ o_ (λi H' hi s'=>⟨rs,rs[i]'o_,.inl (.inl (s' _ _ h1)),Aa_ _⟩) (λH' s'=>⟨rs,.inl (.inl (s' _ _ h1)),o_⟩) ?_ ?_
   .rintro D i x d σ' H2 H2' hD hDo hs2 hi hdi ⟨rfl,hy⟩ ⟨e,e',rfl⟩ R kR;have hx:=hy _ (.inl (.inl (hs2 _ _ h1)));obtain⟨r,q,l,hr1,rfl,hq,hl⟩:=fO_ r1 hx;have hd:d=dS r.1:=by rw[Af_,Af_,hr1]at hdi;show(AB_ hdi).symm
    nofun;show⟨_,SqT.of (hs2 _ _ hq),rfl,_,_,rfl,_,_,rfl,rfl,kR _ _ _ ⟨_,_,rfl⟩ (Fo_.refl _) ?_⟩;rw[hd];show rfl
   .intro D H2 hD s2 rep2;obtain⟨_,us,e0,hu',hus⟩:=id rep2;cases e0;rw[dX_ hus]at hu';show k D H2 s2 hD (aY_ hu').2
theorem cT_(hK:X.K=K):OpR X (compareOp .NotIn) (rIn K true):=by subst hK;show i9_
theorem dA_(x:Str):∀(r:List Str),inV (.str x) (r.map V.str)=decide (x∈r)
 |[]=>rfl
 |y::r=>by
  have:=dA_ x r;simp only[inV,AZ_,CN_,eqV]at this⊢;rw[this];by_cases h:y=x
  .subst h;simp
  .have h2:x≠y:=λz=>h z.symm;simp[h,h2]
theorem bF_:∀(r:List Str),(r.map V.str).all GS_=true
 |[]=>rfl
 |y::r=>by simp[GS_]
theorem b7_{α β:Type}(d:α)(f:α->Bool)(g:α->β)(ls:List α):((List.range ls.length).filter λi=>f (ls.getD i d)).map (λi=>g (ls.getD i d))=(ls.filter f).map g:=by
 conv=>rhs;rw[<-RimT.h3_ d ls,List.filter_map,Bv_]
 rfl
abbrev FS_:Stmt:=stN 4
theorem gF_:ZM ["net"] ["net"] (Fp_ FS_):=zM
theorem cZ_:LK FS_ "points_of" .globalImplicit:=r_
def Fz_(N:Net Str):List Str:=(N.rows.map (·.1)).filter λp=>decide (p∉N.posts)
def Hy_:Sp:=λvs H Q _=>∃(v:V)(N:Net Str),vs=[v]/\Rep H v (G7_ N)/\Gm_ N/\∀D H',Fo_ H H'->H D=none->H' D=some (.lst ((Fz_ N).map V.str))->Q (.ref D) H'
theorem gG_(T:Txt K mg)(F:Fn0 K mg "points_within" FS_) (HW_:Cal P w K mg base "points_of" ["net"] 1 Jz_):Cal P w K mg base "points_within" ["net"] 2 Hy_:=by
  show aU_ F gF_.1 λf cdv A outer s H vs Q E hr h=>?_;obtain⟨v,N,rfl,hv,ok,k⟩:=h;obtain⟨pn,p0,p1,p2,rs,ws,rfl,hn,h0,h1,r1,h2,r2⟩:=b5_ hv;have few:=ok.few;refine'⟨_,?D,?R⟩
  case D =>
   refine' af_ ?a
   case' a=>refine' az_ (cG_ (N':=["point","net"]) (ix:=[none,some 0]) rfl rfl (bL_ ?b) (ax_ (K:=K) rfl (am_ HW_ (hr.mono d_) cZ_ (pa_c (zw 0 gF_) ab_))) (λ_ _ _=>?c) (λ_ _ _=>(g9_ (aq_ (cT_ (K:=K) rfl) (pv1 0 rfl rfl) (Fv_ ao_ (pvc 1 rfl rfl) ac_) (by with_unfolding_all rfl)))) (λ_ _ _=>(pv1 0 rfl rfl)))
   case b=>show(by change G5_ (Fp_ FS_) ["net"] _ _ _=true;decide +kernel)
   case c=>show ah_ (i:=0) (by change List.Nodup (["point","net"]:List Str);decide +kernel) rfl rfl
  case R =>
   nofun;show⟨_,N,rfl,hv,ok,λD1 H1 s1 nD1 hD1=>⟨D1,rfl,⟨_,.inl (.inl hD1)⟩,?_⟩⟩;obtain⟨ps,hps,pl⟩:∃ps:List Str,ps=N.rows.map (·.1)/\ps.length<=16:=⟨_,rfl,by rw[Ab_];show few⟩;have ew:Fz_ N=ps.filter λp=>decide (p∉N.posts):=by unfold Fz_;rw[hps]
   rw[<-hps]at hD1;rw[ew]at k;show cK_ (n:=ps.length) (B:=λ_=>none) (Pσ:=λσ=>∃e,σ=[e,some (.ref pn)]) (bs:=λi=>decide (ps.getD i Str.empty∉N.posts)) (val:=λi=>dS (ps.getD i Str.empty)) (λb o e=>by cases e) ⟨_,rfl⟩ o_ (λj H2 hj s2=>⟨_,.str (ps.getD j Str.empty),.inl (.inl (s2 _ _ hD1)),aM_ hj⟩) (λH2 s2=>⟨_,.inl (.inl (s2 _ _ hD1)),s_⟩) ?_ ?_
   .rintro D i y σ' H3 H3' hD hDo hs3 hi ⟨rfl,hy⟩ ⟨e2,rfl⟩ Y R kY kR;have hx2:=hy _ (.inl (.inl (hs3 _ _ hD1)));rw[aM_ hi]at hx2;cases hx2;have s13:=s1.trans hs3;nofun;show⟨_,s13 _ _ hn,_,Gc_,p0,rfl,_,.inl (.inl (.inl (s13 _ _ h0))),rfl,bF_ _,?_⟩;rw[dA_];by_cases hc:ps.getD i Str.empty∈N.posts
    .rw[if_neg (by rw[As_ hc];decide)];show kR (At_ λz=>z hc) _ _ ⟨_,rfl⟩ (Fo_.refl _)
    .rw[if_pos (At_ hc)];show kY (As_ hc) _ _ _ ⟨_,rfl⟩ (Fo_.refl _) rfl
   .intro D H2 hD s2 rep2;have fr:=b7_ Str.empty (λp=>decide (p∉N.posts)) dS ps;rw[fr]at rep2;obtain⟨_,us,e0,hu',hus⟩:=id rep2;cases e0;rw[dX_ hus]at hu';show k D H2 (s1.trans s2) (s1.free hD) (aY_ hu').2
theorem un2{n c:Nat}(h:n+64<c):n+2<c:=o_
theorem ia_(hK:X.K=K):OpR X (compareOp .In) (rIn K false):=by subst hK;show l5_
def tied(es:List (Str×List (End Str)))(u v:Str):Prop:=∃kv∈es,∃a b,kv.2=[a,b]/\((a.1=u/\b.1=v)\/(b.1=u/\a.1=v))
structure Op(V st gl:List Str)(pr:Str->Str->Prop)(L:Tb->List Tb):Prop where
 f:∀v,v∈V->L (v,false)=[(v,true)]
 nd:∀v,(L (v,true)).Nodup
 t:∀u y,u∈V->(y∈L (u,true)↔y.2=false/\u≠y.1/\u∉gl/\y.1∉st/\y.1∈V/\pr u y.1)
def Jh_(L:Tb->List Tb)(u v:Str)(z:Tb):List Tb:=if z=(u,true)then(if(v,false)∈L (u,true)then L (u,true)else L (u,true)++[(v,false)])else L z
variable{st gl:List Str}{pr:Str->Str->Prop}{L:Tb->List Tb}{u:Str}
theorem Op.yes{V:List Str}(o:Op V st gl pr L){v:Str}(h:u≠v/\u∉gl/\v∉st/\v∈V):Op V st gl (λx y=>pr x y\/(x=u/\y=v)) (Jh_ L u v):=by
 show⟨λx hx=>?_,λx=>?_,λx y hx=>?_⟩
 .unfold Jh_;rw[if_neg (λe:(x,false)=(u,true)=>Bool.noConfusion (A5_ e).2)];show o.f x hx
 .unfold Jh_;split
  .split
   .show o.nd u
   .rename_i m;show AG_.mpr ⟨o.nd u,s_,λa ha b hb e=>m (by rw[Ae_.mp hb]at e;show e▸ha)⟩
  .show o.nd x
 .unfold Jh_;by_cases e:x=u
  .subst e;rw[if_pos rfl];have q:=o.t x y hx;by_cases m:(v,false)∈L (x,true)
   .rw[if_pos m,q];have q2:=(o.t x _ hx).mp m;constructor
    .rintro⟨a,b,c,d,e,f⟩;show⟨a,b,c,d,e,.inl f⟩
    .rintro⟨a,b,c,d,e,f⟩;show⟨a,b,c,d,e,f.elim id λz=>?_⟩;rw[z.2];show q2.2.2.2.2.2
   .rw[if_neg m,Aq_,Ae_,q];constructor
    .rintro(⟨a,b,c,d,e,f⟩|z)
     .show⟨a,b,c,d,e,.inl f⟩
     .rw[z];show⟨rfl,h.1,h.2.1,h.2.2.1,h.2.2.2,.inr ⟨rfl,rfl⟩⟩
    .rintro⟨a,b,c,d,e,f⟩
     rcases f with f|f
     .show .inl ⟨a,b,c,d,e,f⟩
     .show .inr (Bl_ f.2 a)
  .rw[if_neg (λz=>e (A5_ z).1),o.t x y hx];constructor
   .rintro⟨a,b,c,d,e,f⟩;show⟨a,b,c,d,e,.inl f⟩
   .rintro⟨a,b,c,d,e',f⟩;show⟨a,b,c,d,e',f.elim id λz=>absurd z.1 e⟩
theorem Op.no{V:List Str}(o:Op V st gl pr L){v:Str}(h:¬ (u≠v/\u∉gl/\v∉st/\v∈V)\/u∉V):Op V st gl (λx y=>pr x y\/(x=u/\y=v)) L:=by
 show⟨o.f,o.nd,λx y hx=>?_⟩;rw[o.t x y hx];constructor
 .rintro⟨a,b,c,d,e,f⟩;show⟨a,b,c,d,e,.inl f⟩
 .rintro⟨a,b,c,d,e,f⟩;show⟨a,b,c,d,e,f.elim id λz=>?_⟩;rw[z.1]at b c hx;rw[z.2]at b d e;show absurd ⟨b,c,d,e⟩ (h.resolve_right λq=>q hx)
theorem Op.imp{V:List Str}{pr':Str->Str->Prop}(o:Op V st gl pr L)(h:∀x y,pr x y↔pr' x y):Op V st gl pr' L:=⟨o.f,o.nd,λx y hx=>by rw[o.t x y hx,h]⟩
theorem pt_{k:Key}{x:V}(h:(Gl_ acc ls)[i]?=some (k,x)):∃kv l,acc[i]?=some kv/\ls[i]?=some l/\k=.inr kv.1/\x=.ref l:=by
 unfold Gl_ at h;rw[ER_]at h;cases e1:acc[i]? with
 |none=>rw[e1]at h;cases h
 |some kv =>
  cases e2:ls[i]? with
  |none=>rw[e1,e2]at h;cases h
  |some l =>rw[e1,e2]at h;cases h;show⟨kv,l,rfl,rfl,rfl,rfl⟩
def eV(e:End Str):HO:=.tup [.str e.1,.int e.2]
theorem nS_{vs:List V}{a b:End Str}(h:FM_ S vs ([a,b].map dE)):∃qa qb,vs=[.ref qa,.ref qb]/\S qa=some (eV a)/\S qb=some (eV b):=by obtain⟨_,_,rfl,⟨qa,_,rfl,ha,_,_,rfl,hx,_,_,rfl,hy,rfl⟩,_,_,rfl,⟨qb,_,rfl,hb,_,_,rfl,hz,_,_,rfl,hu,rfl⟩,rfl⟩:=h;cases hx;cases hy;cases hz;cases hu;show⟨qa,qb,rfl,ha,hb⟩
def HA_(A:List Str):List Tb:=A.flatMap λp=>[(p,false),(p,true)]
def L1(A:List Str)(z:Tb):List Tb:=if z.2=false/\z.1∈A then[(z.1,true)]else[]
theorem d1_{A:List Str}{z:Tb}:z∈HA_ A↔z.1∈A:=by
 unfold HA_;rw[De_];constructor
 .rintro⟨p,hp,h⟩;simp only[Ar_,BC_,D7_]at h
  rcases h with rfl|rfl <;> show hp
 .intro h;show⟨z.1,h,?_⟩;obtain⟨p,b⟩:=z;cases b <;> simp
abbrev FE_:Stmt:=stN 6
theorem bi_:ZL ["net","starts","goals","within","onward","point","pair","near","far"] ["net","starts","goals"] (Fp_ FE_):=zL
theorem c0_:LK FE_ "ends_by_wire" .globalImplicit:=r_
theorem cU_:LK FE_ "points_within" .globalImplicit:=r_
def IT_(P:Program)(w:World):Sp:=λvs H Q _=>∃(v:V)(N:Net Str)(s g:Addr)(st gl:List Str),vs=[v,.ref s,.ref g]/\Rep H v (G7_ N)/\Gm_ N/\H s=some (.lst (st.map V.str))/\H g=some (.lst (gl.map V.str))/\(st++Fz_ N++gl).Nodup/\st.length<=6/\gl.length<=6 /\
 ∀d ks ls L H',On P w H H' d ks ls L->(∀x,x∈ks↔x.1∈st++Fz_ N++gl)->Op (st++Fz_ N++gl) st gl (tied (FW_ N)) L->Q (.ref d) H'
theorem iR_(T:Txt K mg)(F:Fn0 K mg "steps_open" FE_) (G2_:Cal P w K mg base "points_within" ["net"] 2 Hy_) (G9_:Cal P w K mg base "ends_by_wire" ["net"] 1 IJ_):Cal P w K mg base "steps_open" ["net","starts","goals"] 3 (IT_ P w):=by
  show aU_ F bi_.1 λf cdv A outer s0 H vs Q E hr h=>?_;obtain⟨v,N,s,g,st,gl,rfl,hv,ok,hs,hg,nd,s6,g6,k⟩:=h;refine'⟨_,?D,?R⟩
  case D =>
   refine' ai_ (zas 3 bi_ (am_ G2_ (hr.mono d_) cU_ (pa_c (zv 0 bi_) ab_))) ?a
   case' a=>refine' ai_ ?b (ai_ (aO_ AC_ rfl (ax_ (K:=K) rfl (Fs_ ei_ (Fs_ ei_ (zv 1 bi_) (zv 3 bi_)) (zv 2 bi_))) ?c ?d) ?e)
   case b=>show zas 4 bi_ (mw_ (P:=P) (w:=w) rfl rfl)
   case c=>show zh 5 bi_
   case' d=>refine' ai_ ?f (af_ (hr_ (P:=P) (w:=w) rfl rfl (un2 hr.units) (zv 4 bi_) (aF_ (pa_c (zv 5 bi_) (pa_c F7_ ab_))) ?g rfl))
   case' f=>refine' hr_ (P:=P) (w:=w) rfl rfl (un2 hr.units) (zv 4 bi_) (aF_ (pa_c (zv 5 bi_) (pa_c F7_ ab_))) (nB_ (P:=P) (w:=w) rfl rfl hr.units (aF_ (pa_c (zv 5 bi_) (pa_c F7_ ab_))) F7_) rfl
   case g=>show mw_ (P:=P) (w:=w) rfl rfl
   case' e=>refine' ad_ (aO_ AC_ rfl (nv_ (am_ G9_ (hr.mono d_) c0_ (pa_c (zv 0 bi_) ab_))) ?h ?i) (af_ (az_ (zv 4 bi_)))
   case h=>show zh 6 bi_
   case' i=>refine' af_ (aO_ AC_ rfl (oO_ (K:=K) rfl (aF_ ?j)) (bp_ (K:=K) (n:=2) rfl rfl (au_ ?k (au_ ?l bm_))) ?m)
   case' j=>refine' pa_c (aF_ (pa_c (Fv_ ao_ (Fv_ an_ (zv 6 bi_) ac_) ac_) (pa_c (Fv_ ao_ (Fv_ an_ (zv 6 bi_) ac_) ac_) ab_))) ?n
   case' n=>refine' pa_c (aF_ (pa_c (Fv_ ao_ (Fv_ an_ (zv 6 bi_) ac_) ac_) (pa_c (Fv_ ao_ (Fv_ an_ (zv 6 bi_) ac_) ac_) ab_))) ab_
   case k=>show zh 7 bi_
   case l=>show zh 8 bi_
   case' m=>refine' af_ (F4_ (PW.pt ?o) (af_ ?p) aI_)
   case' o=>refine' eg_ (aq_ Iq_ (zv 7 bi_) (zv 8 bi_) (FJ_ _)) (eg_ (aq_ (ia_ (K:=K) rfl) (zv 7 bi_) (Fs_ ei_ (zv 1 bi_) (zv 3 bi_)) (by with_unfolding_all rfl)) (dG_ (aq_ (ia_ (K:=K) rfl) (zv 8 bi_) (Fs_ ei_ (zv 3 bi_) (zv 2 bi_)) (by with_unfolding_all rfl))))
   case' p=>refine' hr_ (P:=P) (w:=w) rfl rfl (un2 hr.units) (f2_ (P:=P) (w:=w) rfl rfl (un2 hr.units) (zv 4 bi_) (aF_ (pa_c (zv 7 bi_) (pa_c F7_ ab_)))) (aF_ (pa_c (zv 8 bi_) (pa_c F7_ ab_))) F7_ rfl
  case R =>
   nofun;show⟨v,N,rfl,hv,ok,λWd H1 S1 nW hW=>?_⟩;have wl:(Fz_ N).length<=16:=AH_ (Bj_ _ _) (by rw[Ab_];show ok.few);generalize Fz_ N=wi at*;nofun;intro d nd' H2 S2 D2 o2;have on2:On P w (hw [d] H2) H2 d [] [] (λ_=>[]):=On.one mI_ D2 (J4_ s_);have sS2:Fo_ H1 (hw [d] H2):=kw_ S2 λz hz=>by rw[Ae_.mp hz];show nd'
   nofun;have hW2:=S2 _ _ hW;have hs2:=S2 _ _ (S1 _ _ hs);have hg2:=S2 _ _ (S1 _ _ hg);show⟨st.map V.str,hs2,wi.map V.str,hW2,AS_ (Fq_ (by rw[Ab_,Ab_];lia)),λp np=>⟨gl.map V.str,(Fo_.new np) _ _ hg2,AS_ (Fq_ (by rw[Al_,Ab_,Ab_,Ab_];lia)),λp1 np1=>?_⟩⟩;rw[<-Av_]at np1;rw[<-Av_,<-Av_];have S4:Fo_ H2 (upd (upd H2 p (HO.lst ((st++wi).map V.str))) p1 (HO.lst ((st++wi++gl).map V.str))):=(Fo_.new np).trans (Fo_.new np1);have hV:=aa_ (H:=upd H2 p (HO.lst ((st++wi).map V.str))) (a:=p1) (o:=HO.lst ((st++wi++gl).map V.str));generalize upd (upd H2 p (HO.lst ((st++wi).map V.str))) p1 (HO.lst ((st++wi++gl).map V.str))=H4 at*;obtain⟨on4,sS4⟩:=on2.grow S4;have vl:(st++wi++gl).length<=28:=by simp;lia
   have dV:d≠p1:=λe=>by obtain⟨φ,e2⟩:=on4.D.some;rw[e,hV]at e2;cases e2
   have hV4:hw [d] H4 p1=some (.lst ((st++wi++gl).map V.str)):=(Jl_ (by simpa using dV.symm)).trans hV;generalize hVl:st++wi++gl=Vl at*;show⟨⟨_,.inl (.inl hV)⟩,?_⟩;show bE_ (xs:=Vl.map V.str) (λi σ H'=>∃(e5:Option V)(S:Hp)(ls:List Addr),σ=[some v,some (V.ref s),some (V.ref g),some (V.ref Wd),some (V.ref d),e5,none,none,none]/\Fo_ (hw [d] H4) S/\On P w S H' d (HA_ (Vl.take i)) ls (L1 (Vl.take i))) ⟨none,hw [d] H4,[],rfl,Fo_.refl _,on4.ext λk hk=>nomatch hk⟩ ?_ ?_ ?_
   .rintro i σ H' hi ⟨e5,S,ls,rfl,sS,on⟩;show .inl (.inl (on.sS _ _ (sS _ _ hV4)))
   .rintro i x σ H' hx kk kb hk hb G hG ⟨e5,S,ls,rfl,sS,on⟩;show hG ?_;rw[Af_]at hx;obtain⟨z,hz,rfl⟩:=AR_.mp hx;nofun;intro p np H0 S0 hp0 o0;have zn:z∉Vl.take i:=λm=>by obtain⟨j,hj,ej⟩:=Ap_.mp m;rw[AT_]at hj;rw[CE_]at ej;have:=(A4_ (i:=j) (j:=i) o_ nd).mp (by rw[hz,Aa_ o_,ej]);lia
    obtain⟨pd,pl,Sp⟩:=on.not np;have on0:=on.mono S0;show⟨d_,λt1 nt1=>⟨(z,true),aa_,(Fo_.new nt1) _ _ hp0,λH5 o5 D5=>⟨d_,λt2 nt2=>?_⟩⟩⟩;have on1:=on0.mono (Fo_.new nt1 (o:=HO.tup [V.str z,V.bl true]));have on5:=on1.other ((Fo_.new nt1) _ _ hp0) o5 pd pl Sp;have S6:=Fo_.new nt2 (o:=HO.tup [V.str z,V.bl false]);have ht2:=aa_ (H:=H5) (a:=t2) (o:=HO.tup [V.str z,V.bl false]);generalize upd H5 t2 (HO.tup [V.str z,V.bl false])=H6 at*;have on6:=on5.mono S6;have D6:=D5.mono S6;have tl:(Vl.take i).length<=28:=by rw[AT_];lia
    have kl:∀A:List Str,(HA_ A).length=2*A.length:=λA=>by
     induction A with
     |nil=>rfl
     |cons a A ih=>change((a,false)::(a,true)::HA_ A).length=_;rw[AM_,AM_,ih,AM_];lia
    show⟨_,on6.D,(z,false),ht2,Fq_ (by rw[kx_ on6.len,kl];lia),λH7 o7 D7=>?_⟩;have on7:=on6.more (λm=>zn (d1_.mp m)) o7 D7 (ys:=[(z,true)]) D6 pd.symm pl Sp;clear on on0 on1 on5 on6 D5 D6 D7 o0 o5 o7 S0 S6 ht2 nt1 nt2 hp0;nofun;intro p2 np2 H8 S8 D8 o8;obtain⟨pd2,pl2,Sp2⟩:=on7.not np2;have on8:=on7.mono S8;show⟨d_,λt3 nt3=>?_⟩;have S9:=Fo_.new nt3 (o:=HO.tup [V.str z,V.bl true]);have ht3:=aa_ (H:=H8) (a:=t3) (o:=HO.tup [V.str z,V.bl true]);generalize upd H8 t3 (HO.tup [V.str z,V.bl true])=H9 at*;have on9:=on8.mono S9;show⟨_,on9.D,(z,true),ht3,Fq_ (by rw[kx_ on9.len,Al_,kl];simp;lia),λH10 o10 D10=>?_⟩;have on10:=on9.more (λm=>?_) o10 D10 (ys:=[]) (D8.mono S9) pd2.symm pl2 Sp2
    .have e1:Vl.take (i+1)=Vl.take i++[z]:=by rw[Bc_,hz];rfl
     have e2:HA_ (Vl.take (i+1))=HA_ (Vl.take i)++[(z,false)]++[(z,true)]:=by rw[e1];unfold HA_;rw[DC_,A9_];rfl
     show hk _ _ ⟨_,S,_,rfl,sS,e2▸on10.ext λk hk=>?_⟩;obtain⟨q,b⟩:=k;unfold L1;rw[e1];cases b with
     |true=>simp
     |false =>
      by_cases e:q=z
      .subst e;simp
      .simp[e]
    .rcases Aq_.mp m with m|m
     .show zn (d1_.mp m)
     .show nomatch(A5_ (Ae_.mp m)).2
   .rintro σ H5 ⟨e5,S,ls,rfl,sS,on⟩;rw[Ab_,BD_]at on;nofun;have SH5:Fo_ H H5:=S1.trans (sS2.trans (sS4.trans (sS.trans on.sS)));have hW5:=on.sS _ _ (sS _ _ (sS4 _ _ (sS2 _ _ hW)));have hs5:=SH5 _ _ hs;have hg5:=SH5 _ _ hg;have HdL:∀y∈d::ls,H y=none:=λy hy=>(S1.trans (sS2.trans (sS4.trans sS))).free ((Ar_.mp hy).elim (λe=>e▸on.fd) (on.fl y));clear hW2 hs2 hg2 S4 hV hV4 dV on2 on4 sS2 S2 D2 o2 hW nW;show⟨v,N,rfl,Rep.mono SH5 _ hv,ok,λdd S' ls' H6 sS' de ndd=>⟨dd,rfl,_,de.dict,λob=>?_⟩⟩;have S57:Fo_ H5 (upd H6 dd (HO.frz ob (HO.dK (Gl_ (FW_ N) ls')))):=(sS'.trans de.sH).upd ndd;have hd7:=aa_ (H:=H6) (a:=dd) (o:=HO.frz ob (HO.dK (Gl_ (FW_ N) ls')));have sS7:Fo_ S' (upd H6 dd (HO.frz ob (HO.dK (Gl_ (FW_ N) ls')))):=de.sH.upd de.fd;have hl7:∀(i:Nat)(l:Addr)(kv:Str×List (End Str)),ls'[i]?=some l->(FW_ N)[i]?=some kv->∃vs,upd H6 dd (HO.frz ob (HO.dK (Gl_ (FW_ N) ls'))) l=some (.lst vs)/\FM_ S' vs (kv.2.map dE):=λi l kv e1 e2=>by obtain⟨vs,g1,g2⟩:=de.lst i l kv e1 e2;show⟨vs,(ae_ (λe=>de.dn (by rw[<-e];show Ag_ e1))).trans g1,g2⟩
    generalize upd H6 dd (HO.frz ob (HO.dK (Gl_ (FW_ N) ls')))=H7 at*;have len:=kM_ de.len;clear de;obtain⟨on7,_⟩:=on.grow S57;have tT:∀a u,H7 a=some u->(∀φ,u≠.ext φ)->hw (d::ls) H7 a=some u:=λa u e hu=>(Jl_ (on7.off e hu)).trans e;have hdT:=tT _ _ hd7 (λφ=>HO.noConfusion);have hWT:=tT _ _ (S57 _ _ hW5) (λφ=>HO.noConfusion);have hsT:=tT _ _ (S57 _ _ hs5) (λφ=>HO.noConfusion);have hgT:=tT _ _ (S57 _ _ hg5) (λφ=>HO.noConfusion)
    have op0:Op Vl st gl (tied ((FW_ N).take 0)) (L1 Vl):=⟨λx hx=>by unfold L1;rw[if_pos ⟨rfl,hx⟩],λx=>by unfold L1;simp,λx y hx=>by
     constructor
     .intro z;unfold L1 at z;simp at z
     .rintro⟨_,_,_,_,_,⟨kv,hkv,_⟩⟩;simp at hkv⟩
    have inV:∀x,(x∈st++wi↔x∈Vl/\x∉gl)/\(x∈wi++gl↔x∈Vl/\x∉st):=λx=>by
     subst hVl;have n1:=AG_.mp nd;have n2:=AG_.mp n1.1;constructor
     .constructor
      .show λh=>⟨Ax_ _ h,λz=>n1.2.2 x h x z rfl⟩
      .show λh=>(Aq_.mp h.1).resolve_right h.2
     .constructor
      .intro h
       rcases Aq_.mp h with h|h
       .show⟨Ax_ _ (AD_ _ h),λz=>n2.2.2 x z x h rfl⟩
       .show⟨AD_ _ h,λz=>n1.2.2 x (Ax_ _ z) x h rfl⟩
      .rintro⟨h,h'⟩
       rcases Aq_.mp h with h|h
       .show Ax_ _ ((Aq_.mp h).resolve_left h')
       .show AD_ _ h
    show p0_ (λi σ Hx=>∃(e6 e7 e8:Option V)(S:Hp)(L:Tb->List Tb),σ=[some v,some (V.ref s),some (V.ref g),some (V.ref Wd),some (V.ref d),e5,e6,e7,e8]/\Fo_ (hw (d::ls) H7) S/\On P w S Hx d (HA_ Vl) ls L/\Op Vl st gl (tied ((FW_ N).take i)) L) ⟨none,none,none,hw (d::ls) H7,_,rfl,Fo_.refl _,on7,op0⟩ ?_ ?_ ?_
    .rintro i σ Hx hi ⟨e6,e7,e8,S2,L,rfl,sT,onx,op⟩;show onx.sS _ _ (sT _ _ hdT)
    .rintro i key x σ Hx hx kk kb hk hb G hG ⟨e6,e7,e8,S2,L,rfl,sT,onx,op⟩;show hG ?_;obtain⟨kv,l,h1,h2,rfl,rfl⟩:=pt_ hx;obtain⟨vs,hl,rvs⟩:=hl7 i l kv h2 h1;obtain⟨ea,eb,e2⟩:=iB_ ok (Ag_ h1);rw[e2]at rvs;obtain⟨va,vb,rfl,hva,hvb⟩:=nS_ rvs;have hlx:=onx.sS _ _ (sT _ _ (tT _ _ hl (λφ=>HO.noConfusion)));have hvax:=onx.sS _ _ (sT _ _ (tT _ _ (sS7 _ _ hva) (λφ=>HO.noConfusion)));have hvbx:=onx.sS _ _ (sT _ _ (tT _ _ (sS7 _ _ hvb) (λφ=>HO.noConfusion)));nofun;show⟨_,hlx,_,Gc_,va,rfl,_,hvax,_,Gc_,_,hlx,_,GE_,vb,rfl,_,hvbx,_,Gc_,d_,λt1 n1=>?_⟩;have S5:=Fo_.new n1 (o:=HO.tup [V.str ea.1,V.str eb.1]);have ht1:=aa_ (H:=Hx) (a:=t1) (o:=HO.tup [V.str ea.1,V.str eb.1]);generalize upd Hx t1 (HO.tup [V.str ea.1,V.str eb.1])=Ha at*;show⟨_,S5 _ _ hlx,_,GE_,vb,rfl,_,S5 _ _ hvbx,_,Gc_,_,S5 _ _ hlx,_,Gc_,va,rfl,_,S5 _ _ hvax,_,Gc_,d_,λt2 n2=>⟨d_,λtt nt=>?_⟩⟩;have S6:=Fo_.new n2 (o:=HO.tup [V.str eb.1,V.str ea.1]);have ht2:=aa_ (H:=Ha) (a:=t2) (o:=HO.tup [V.str eb.1,V.str ea.1]);generalize upd Ha t2 (HO.tup [V.str eb.1,V.str ea.1])=Hb at*;have S8:=Fo_.new nt (o:=HO.tup [V.ref t1,V.ref t2]);have htt:=aa_ (H:=Hb) (a:=tt) (o:=HO.tup [V.ref t1,V.ref t2]);generalize upd Hb tt (HO.tup [V.ref t1,V.ref t2])=Hc at*;have Sxc:=S5.trans (S6.trans S8);obtain⟨onc,sTc⟩:=onx.grow Sxc;have tc:∀a u,Hc a=some u->(∀φ,u≠.ext φ)->hw (d::ls) Hc a=some u:=λa u e hu=>(Jl_ (onc.off e hu)).trans e;have ht1c:=tc _ _ ((S6.trans S8) _ _ ht1) (λφ=>HO.noConfusion);have ht2c:=tc _ _ (S8 _ _ ht2) (λφ=>HO.noConfusion);have httc:=tc _ _ htt (λφ=>HO.noConfusion);have sTT:=sT.trans sTc;clear S5 S6 S8 ht1 ht2 n1 n2 nt Sxc hlx hvax hvbx onx tc sT sTc;have etk:(FW_ N).take (i+1)=(FW_ N).take i++[kv]:=by rw[Bc_,h1];rfl
     show⟨⟨_,SqT.of htt⟩,pj_ (xs:=[V.ref t1,V.ref t2]) (λj σ Hy=>∃(e7 e8:Option V)(S:Hp)(L:Tb->List Tb),σ=[some v,some (V.ref s),some (V.ref g),some (V.ref Wd),some (V.ref d),e5,some (V.ref l),e7,e8]/\Fo_ (hw (d::ls) Hc) S/\On P w S Hy d (HA_ Vl) ls L/\Op Vl st gl (λx y=>(tied ((FW_ N).take i) x y\/(0<j/\x=ea.1/\y=eb.1))\/(1<j/\x=eb.1/\y=ea.1)) L) ⟨e7,e8,_,L,rfl,Fo_.refl _,onc,op.imp λx y=>s_⟩ ?_ ?_ ?_⟩
     .rintro j σ Hy hj ⟨e7,e8,S,L,rfl,sc,ony,op⟩;show SqT.of (ony.sS _ _ (sc _ _ httc))
     .rintro j x σ Hy hx kk1 kb1 hk1 hb1 G1 hG1 ⟨e7,e8,S,L,rfl,sc,ony,op⟩;show hG1 ?_
      obtain⟨a,b,t,rfl,ht,hop⟩:∃(a b:Str)(t:Addr),x=.ref t/\hw (d::ls) Hc t=some (.tup [.str a,.str b])/\∀L',Op Vl st gl (λx y=>((tied ((FW_ N).take i) x y\/(0<j/\x=ea.1/\y=eb.1))\/(1<j/\x=eb.1/\y=ea.1))\/(x=a/\y=b)) L'->Op Vl st gl (λx y=>(tied ((FW_ N).take i) x y\/(0<j+1/\x=ea.1/\y=eb.1))\/(1<j+1/\x=eb.1/\y=ea.1)) L':=by
       match j,hx with
       |0,hx=>cases hx;show⟨_,_,_,rfl,ht1c,λL' o=>o.imp λx y=>s_⟩
       |1,hx=>cases hx;show⟨_,_,_,rfl,ht2c,λL' o=>o.imp λx y=>s_⟩
       |j+2,hx=>show nomatch hx
      have ht':=ony.sS _ _ (sc _ _ ht);nofun;show⟨_,SqT.of ht',rfl,_,_,rfl,_,_,rfl,rfl,?_⟩;nofun;have hsy:=ony.sS _ _ (sc _ _ (sTT _ _ hsT));have hWy:=ony.sS _ _ (sc _ _ (sTT _ _ hWT));have hgy:=ony.sS _ _ (sc _ _ (sTT _ _ hgT));show ite2 (λhne=>?_) (λheq=>?_)
      .show⟨st.map V.str,hsy,wi.map V.str,hWy,AS_ (Fq_ (by rw[Ab_,Ab_];lia)),λq1 nq1=>?_⟩;rw[<-Av_];show⟨_,.inl (.inl (.inl aa_)),rfl,bF_ _,?_⟩;rw[dA_];have Sq1:=Fo_.new nq1 (o:=HO.lst ((st++wi).map V.str));generalize upd Hy q1 (HO.lst ((st++wi).map V.str))=Hd at*;have ond:=ony.mono Sq1;by_cases ha:a∈st++wi
       .rw[if_pos (As_ ha)];show⟨wi.map V.str,Sq1 _ _ hWy,gl.map V.str,Sq1 _ _ hgy,AS_ (Fq_ (by rw[Ab_,Ab_];lia)),λq2 nq2=>?_⟩;rw[<-Av_];show⟨_,.inl (.inl (.inl aa_)),rfl,bF_ _,?_⟩;rw[dA_];have Sq2:=Fo_.new nq2 (o:=HO.lst ((wi++gl).map V.str));generalize upd Hd q2 (HO.lst ((wi++gl).map V.str))=He at*;have one:=ond.mono Sq2;by_cases hb:b∈wi++gl
        .rw[if_pos (As_ hb)];have aV:=(inV a).1.mp ha;have bV:=(inV b).2.mp hb;show⟨d_,λq3 nq3=>?_⟩;have Sq3:=Fo_.new nq3 (o:=HO.tup [V.str a,V.bl true]);have hq3:=aa_ (H:=He) (a:=q3) (o:=HO.tup [V.str a,V.bl true]);generalize upd He q3 (HO.tup [V.str a,V.bl true])=Hf at*;have onf:=one.mono Sq3;obtain⟨i0,l0,k1,k2,kv0,_,lin⟩:=onf.look (d1_.mpr aV.1:(a,true)∈HA_ Vl);show⟨_,onf.D,(a,true),hq3,.ref l0,kv0,d_,λq4 nq4=>?_⟩;have Sq4:=Fo_.new nq4 (o:=HO.tup [V.str b,V.bl false]);have hq4:=aa_ (H:=Hf) (a:=q4) (o:=HO.tup [V.str b,V.bl false]);generalize upd Hf q4 (HO.tup [V.str b,V.bl false])=Hg at*;have ong:=onf.mono Sq4;have kdb:=ong.at_ i0 _ l0 k1 k2;show⟨l0,rfl,_,kdb,(b,false),hq4,?_,λHh oh Dh=>?_⟩
         .have:=ar_ (l:=L (a,true)) (m:=Vl.map λx=>(x,false)) (op.nd a) λy hy=>by obtain⟨z1,_,_,_,z5,_⟩:=(op.t a y aV.1).mp hy;show Ao_.mpr ⟨y.1,z5,Bl_ rfl z1.symm⟩
          rw[Ab_]at this;show Fq_ ?_;unfold inB;rw[Ab_];lia
         .rw[mK_]at Dh;have onh:=ong.row k1 k2 (ys:=if(b,false)∈L (a,true)then L (a,true)else L (a,true)++[(b,false)]) oh (by split at Dh <;> rename_i m <;> simp only[m,if_true,BS_] <;> show Dh);show hk1 _ _ ⟨_,_,S,_,rfl,sc,onh,hop _ (op.yes ⟨hne,aV.2,bV.2,bV.1⟩)⟩
        .rw[if_neg (by simpa using hb)];show hk1 _ _ ⟨_,_,S,_,rfl,sc,one,hop _ (op.no (.inl λz=>hb ((inV b).2.mpr ⟨z.2.2.2,z.2.2.1⟩)))⟩
       .rw[if_neg (by simpa using ha)]
        show hk1 _ _ ⟨_,_,S,_,rfl,sc,ond,hop _ (op.no (by
         by_cases h1:a∈Vl
         .show .inl λz=>ha ((inV a).1.mpr ⟨h1,z.2.1⟩)
         .show .inr h1))⟩
      .show hk1 _ _ ⟨_,_,S,_,rfl,sc,ony,hop _ (op.no (.inl λz=>z.1 (by simpa using heq)))⟩
     .rintro σ Hy ⟨e7,e8,S,L,rfl,sc,ony,op⟩;show hk _ _ ⟨_,_,_,S,L,rfl,sTT.trans sc,ony,op.imp λx y=>?_⟩;rw[etk];unfold tied;constructor
      .rintro((⟨kv',hkv,z⟩|⟨_,h1,h2⟩)|⟨_,h1,h2⟩)
       .show⟨kv',Ax_ _ hkv,z⟩
       .show⟨kv,s_,ea,eb,e2,.inl ⟨h1.symm,h2.symm⟩⟩
       .show⟨kv,s_,ea,eb,e2,.inr ⟨h1.symm,h2.symm⟩⟩
      .rintro⟨kv',hkv,a,b,e3,z⟩
       rcases Aq_.mp hkv with hkv|hkv
       .show .inl (.inl ⟨kv',hkv,a,b,e3,z⟩)
       .rw[Ae_.mp hkv,e2]at e3;cases e3
        rcases z with⟨z1,z2⟩|⟨z1,z2⟩
        .show .inl (.inr ⟨by change 0<2;decide,z1.symm,z2.symm⟩)
        .show .inr ⟨by change 1<2;decide,z1.symm,z2.symm⟩
    .rintro σ Hx ⟨e6,e7,e8,S2,L,rfl,sT,onx,op⟩;nofun;rw[len,BD_]at op;show k d (HA_ Vl) ls L Hx (onx.base ((kw_ (SH5.trans S57) λy hy=>HdL y hy).trans sT)) (λx=>d1_) op
def IG_(H:Hp)(v:V):Option Tb->Prop
 |none=>v=.non
 |some p=>∃b,v=.ref b/\Gx_ H b p
structure Cf(P:Program)(w:World)(H:Hp)(c:Addr)(kvs:List (Tb×V))(C:List (Tb×Option Tb)):Prop where
 D:DB P w H c kvs
 len:kvs.length=C.length
 at_:∀(i:Nat) k o,C[i]?=some (k,o)->∃v,kvs[i]?=some (k,v)/\IG_ H v o
theorem IG_.keep{o:Option Tb}(h:IG_ H v o)(s:∀b ys,H b=some (.tup ys)->H' b=some (.tup ys)):IG_ H' v o:=by
 cases o with
 |none=>show h
 |some p=>obtain⟨b,e,k⟩:=h;show⟨b,e,s _ _ k⟩
variable{kvs:List (Tb×V)}{C:List (Tb×Option Tb)}
theorem Cf.keep{c:Addr}(f:Cf P w H c kvs C)(h:H' c=H c)(s:∀b ys,H b=some (.tup ys)->H' b=some (.tup ys)):Cf P w H' c kvs C:=⟨f.D.keep h s,f.len,λi k o e=>let⟨v,a,b⟩:=f.at_ i k o e;⟨v,a,b.keep s⟩⟩
theorem Cf.mono{c:Addr}(f:Cf P w H c kvs C)(s:Fo_ H H'):Cf P w H' c kvs C:=⟨f.D.mono s,f.len,λi k o e=>let⟨v,a,b⟩:=f.at_ i k o e;⟨v,a,b.keep λ_ _ z=>s _ _ z⟩⟩
theorem Cf.keys{c:Addr}(f:Cf P w H c kvs C):kvs.map (·.1)=C.map (·.1):=by
 apply CM_
 .rw[Ab_,Ab_,f.len]
 .intro i h1 h2;rw[Ab_]at h2;obtain⟨v,e,_⟩:=f.at_ i C[i].1 C[i].2 (Aa_ h2);rw[Cc_,Cc_];rw[Aa_ (by rw[f.len];show h2)]at e;rw[AB_ e]
theorem hB_{k:Tb}:(FZ_ kvs k).isSome=decide (k∈kvs.map (·.1)):=by
 rw[<-cC_];by_cases h:k∈kvs.map (·.1)
 .rw[As_ h];obtain⟨x,hx,e⟩:=Ao_.mp h;show List.any_eq_true.mpr ⟨x,hx,As_ e⟩
 .rw[At_ h];show List.any_eq_false.mpr λx hx z=>h (Ao_.mpr ⟨x,hx,AJ_ z⟩)
theorem Cf.has{c:Addr}(f:Cf P w H c kvs C)(k:Tb):(FZ_ kvs k).isSome=decide (k∈C.map (·.1)):=by rw[hB_,f.keys]
def GZ_(H:Hp)(l:Addr)(W:List Tb):Prop:=∃bs:List Addr,H l=some (.lst (bs.map V.ref))/\bs.length=W.length/\∀(i:Nat) b k,bs[i]?=some b->W[i]?=some k->Gx_ H b k
def dSt(x:Str):Dt:=.tup [.tup [.str x,.bl false],.non]
theorem pu_:bootBuiltins "dict"=some (.type "dict"):=r_
def kv0(st:List Str):List (Tb×V):=st.map λx=>((x,false),V.non)
theorem mU_{p:Addr}(h:Rep H (.ref p) (.lst (st.map dSt))):JB_ H p (kv0 st):=by
 obtain⟨_,ys,e0,hp,hys⟩:=h;cases e0;have yl:ys.length=st.length:=by rw[hys.length,Ab_]
 show⟨ys,hp,by rw[yl];unfold kv0;rw[Ab_],λi q hq=>?_⟩
 have hi:i<st.length:=by
  have:=(Ai_.mp hq).1;unfold kv0 at this
  rwa[Ab_]at this
 unfold kv0 at hq;rw[Af_,Aa_ hi]at hq;cases hq;obtain⟨dd,hdd,hrep⟩:=hys.of_get (i:=i) (x:=ys[i]) (Aa_ o_);rw[Af_,Aa_ hi]at hdd;rw[<-AB_ hdd]at hrep;obtain⟨a,_,e,ha,x1,_,rfl,⟨b,_,rfl,hb,y1,_,rfl,h1,y2,_,rfl,h2,rfl⟩,x2,_,rfl,h3,rfl⟩:=hrep;cases h1;cases h2;cases h3;show⟨a,b,by rw[Aa_ o_,e],ha,hb⟩
theorem j0_:∀(kvs D:List (Tb×V)),((D++kvs).map (·.1)).Nodup->GY_ D kvs=D++kvs
 |[],D,_=>by rw[BL_];rfl
 |kv::kvs,D,h=>by
  have hn:FZ_ D kv.1=none:=by
   cases e:FZ_ D kv.1 with
   |none=>rfl
   |some v =>
    have h1:kv.1∈D.map (·.1):=by have:=hB_ (kvs:=D) (k:=kv.1);rw[e]at this;show AJ_ this.symm
    rw[Av_,AG_]at h;show absurd rfl (h.2.2 _ h1 kv.1 s_)
  change GY_ (Gd_ D kv.1 kv.2) kvs=_;rw[eN_ _ hn,j0_ kvs (D++[(kv.1,kv.2)]) (by rw[A9_];show h),A9_];rfl
def Me_(P:Program)(w:World)(S:Hp)(s d c l:Addr)(st:List Str)(ks:List Tb)(ls:List Addr)(L:Tb->List Tb)(m:Nat)(σ:L2.St)(H':Hp):Prop:=∃(e4 e5:Option V)(kvs:List (Tb×V))(C:List (Tb×Option Tb))(W:List Tb),σ=[some (V.ref s),some (V.ref d),some (V.ref c),some (V.ref l),e4,e5]/\On P w S H' d ks ls L/\Cf P w H' c kvs C/\GZ_ H' l W/\Bf L st C W/\(∀x∈C.map (·.1),x∈ks)/\m+2*C.length=2*ks.length+W.length/\W.length<=C.length
theorem GZ_.keep{W:List Tb}(h:GZ_ H l W)(hl:H' l=H l)(s:∀b ys,H b=some (.tup ys)->H' b=some (.tup ys)):GZ_ H' l W:=let⟨bs,a,b,c⟩:=h;⟨bs,hl.trans a,b,λi b k h1 h2=>s _ _ (c i b k h1 h2)⟩
theorem Cf.new{c b:Addr}{y x:Tb}(f:Cf P w H c kvs C)(s:∀b ys,H b=some (.tup ys)->H' b=some (.tup ys))(hy:y∉C.map (·.1))(D:DB P w H' c (Gd_ kvs y (.ref b)))(hb:Gx_ H' b x):Cf P w H' c (kvs++[(y,.ref b)]) (C++[(y,some x)]):=by
 have e:FZ_ kvs y=none:=by have:=f.has y;rw[At_ hy]at this;show Dz_.mp (by rw[this];decide)
 rw[eN_ _ e]at D;show⟨D,by simp[f.len],λi k o h=>?_⟩;by_cases lt:i<C.length
 .rw[Aw_ lt]at h;obtain⟨v,a,b⟩:=f.at_ i k o h;show⟨v,by rw[Aw_ (by rw[f.len];show lt)];show a,b.keep s⟩
 .rw[Az_ o_]at h;have z:i=C.length:=by have:=(Ai_.mp h).1;simp at this;lia
  rw[z,Cf_]at h;cases h;show⟨.ref b,by rw[z,<-f.len];simp,b,rfl,hb⟩
abbrev Fy_:Stmt:=stN 7
theorem bt_:ZL ["starts","onward","came_from","waiting","here","there"] ["starts","onward"] (Fp_ Fy_):=zL
theorem eY_:LK Fy_ "dict" .globalImplicit:=r_
theorem fj_:LK Fy_ "len" .globalImplicit:=r_
theorem eZ_:LK Fy_ "list" .globalImplicit:=r_
def H9_(P:Program)(w:World):Sp:=λvs H Q _=>∃(S:Hp)(s d:Addr)(st:List Str)(ks:List Tb)(ls:List Addr)(L:Tb->List Tb),vs=[.ref s,.ref d]/\On P w S H d ks ls L/\S s=some (.lst (st.map V.str))/\st.Nodup/\st.length<=6/\(∀x∈st,(x,false)∈ks)/\(∀x y,x∈ks->y∈L x->y∈ks)/\(∀x,(L x).length<=60)/\ks.length<=60 /\
 ∀c kvs C H',On P w S H' d ks ls L->H c=none->Cf P w H' c kvs C->Bf L st C []->(∀x∈C.map (·.1),x∈ks)->Q (.ref c) H'
theorem hC_(T:Txt K mg)(F:Fn0 K mg "reached_from" Fy_):Cal P w K mg base "reached_from" ["starts","onward"] 1 (H9_ P w):=by
  show aU_ F bt_.1 λf cdv A outer s0 H vs Q E hr h=>?_;obtain⟨S,s,d,st,ks,ls,L,rfl,on,hs,nd,s6,stk,clk,l60,k60,k⟩:=h;refine'⟨_,?D,?R⟩
  case D =>
   refine' ai_ (zas 2 bt_ (bQ_ (lF_ (P:=P) (w:=w) rfl rfl hr.units rfl) eY_ T.n_dict pu_ (pa_c ?a ab_))) (ai_ (zas 3 bt_ (bQ_ (lD_ (P:=P) (w:=w) rfl rfl rfl) eZ_ T.n_list cs_ (pa_c (zv 2 bt_) ab_))) ?b)
   case' a=>refine' cG_ (N':=["start"]) (ix:=[none]) rfl rfl (bL_ ?c) (ax_ (K:=K) rfl (zv 0 bt_)) (λ_ _ _=>?d) (λ_ _ _=>?e) (λ_ _ _=>(aF_ (pa_c (aF_ (pa_c (pv1 0 rfl rfl) (pa_c F7_ ab_))) (pa_c ?f ab_))))
   case c=>show(by change G5_ (Fp_ Fy_) ["starts","onward","came_from","waiting","here","there"] _ _ _=true;decide +kernel)
   case d=>show ah_ (i:=0) (by change List.Nodup (["start"]:List Str);decide +kernel) rfl rfl
   case e=>show dk_
   case f=>show pK_
   case' b=>refine' ad_ (dH_ AC_ (aq_ J5_ (ak_ al_ fj_ T.n_len aH_ (pa_c (zv 3 bt_) ab_)) ac_ (FJ_ _)) ?g) (af_ (az_ (zv 2 bt_)))
   case' g=>refine' ai_ (zas 4 bt_ (l6_ AF_ Dj_ Dk_ ob_ (zv 3 bt_))) (af_ (aO_ AC_ rfl ((iH_ (P:=P) (w:=w) rfl rfl) (f2_ (P:=P) (w:=w) rfl rfl (un2 hr.units) (zv 1 bt_) (zv 4 bt_))) ?h (af_ ?i)))
   case h=>show zh 5 bt_
   case' i=>refine' F4_ (ft_ (jz_ (P:=P) (w:=w) rfl rfl (un2 hr.units) (zv 5 bt_) (zv 2 bt_))) (ai_ (hr_ (P:=P) (w:=w) rfl rfl (un2 hr.units) (zv 2 bt_) (zv 5 bt_) (zv 4 bt_) rfl) (af_ (aK_ (Gn_ AF_ AV_ AW_ aQ_ (zv 3 bt_) (pa_c (zv 5 bt_) ab_))))) aI_
  case R =>
   nofun;have hs0:=on.sS _ _ hs;show⟨⟨_,.inl (.inl hs0)⟩,?_⟩;show cA_ (n:=st.length) (B:=λ_=>none) (Pσ:=λσ=>∃e,σ=[e]) (ds:=st.map dSt) (λb o e=>nomatch e) ⟨_,rfl⟩ s_ o_ (λi H' hi s'=>⟨_,.str (st.getD i Str.empty),.inl (.inl (s' _ _ hs0)),aM_ hi⟩) (λH' s'=>⟨_,.inl (.inl (s' _ _ hs0)),s_⟩) ?_ ?_
   .rintro D i x dt σ' H2 H2' hD hDo hs2 hi hdi ⟨rfl,hy⟩ ⟨e,rfl⟩ R kR;have hx:=hy _ (.inl (.inl (hs2 _ _ hs0)));rw[aM_ hi]at hx;cases hx;have hd2:dt=dSt (st.getD i Str.empty):=by rw[Af_,Aa_ hi]at hdi;rw[Ad_,Aa_ hi];show(AB_ hdi).symm
    obtain⟨oD,hDo⟩:=hDo;nofun;show⟨d_,λq1 n1=>⟨d_,λq2 n2=>kR _ _ _ ⟨_,rfl⟩ ((Fo_.new n1).trans (Fo_.new n2)) ?_⟩⟩;have q1D:q1≠D:=(ag_ hDo n1).symm;have q2D:q2≠D:=(ag_ ((Fo_.new n1) _ _ hDo) n2).symm;rw[hd2];show⟨q2,_,rfl,by rw[bo_ q2D rfl];show aa_,_,_,rfl,⟨q1,_,rfl,by rw[bo_ q1D rfl];show(Fo_.new n2) _ _ aa_,_,_,rfl,rfl,_,_,rfl,rfl,rfl⟩,_,_,rfl,rfl,rfl⟩
   .intro D H2 hD S2 rep2;have pb:=mU_ (Rep.mono cI_ _ rep2);have knd:((([]:List (Tb×V))++kv0 st).map (·.1)).Nodup:=by rw[List.nil_append];unfold kv0;rw[Bv_];unfold List.Nodup;rw[Bn_];show CD_ (λne z=>ne (A5_ z).1) nd
    show⟨D,rfl,kv0 st,pb,by unfold kv0;rw[Ab_];lia,λc nc H3 S3 o3 D3=>?_⟩;rw[j0_ _ _ knd,List.nil_append]at D3;have on3:=(on.mono S2).mono S3;have Hc:H c=none:=S2.free nc;have cf3:Cf P w H3 c (kv0 st) (st.map λs=>((s,false),none)):=⟨D3,by unfold kv0;rw[Ab_,Ab_],λi k o e=>by rw[Af_]at e;obtain⟨x,hx,e⟩:=AR_.mp e;cases e;show⟨.non,by unfold kv0;rw[Af_,hx];rfl,rfl⟩⟩;have bf:=Bf.start (R:=L) nd;nofun;show⟨_,cf3.D,by unfold kv0;rw[Ab_];lia,λl bs nl bl bk=>?_⟩;have S4:=Fo_.new nl (o:=HO.lst (bs.map V.ref));have hl4:=aa_ (H:=H3) (a:=l) (o:=HO.lst (bs.map V.ref));obtain⟨φc,ec⟩:=cf3.D.some;have cl:c≠l:=λe=>by rw[<-e,ec]at nl;cases nl
    have Hl:H l=none:=(S2.trans S3).free nl;have ka4:GZ_ (upd H3 l (HO.lst (bs.map V.ref))) l (st.map λs=>(s,false)):=⟨bs,hl4,by rw[bl];unfold kv0;rw[Ab_,Ab_],λi b k hb hk=>by rw[Af_]at hk;obtain⟨x,hx,rfl⟩:=AR_.mp hk;show S4 _ _ (bk i _ .non b (by unfold kv0;rw[Af_,hx];rfl) hb)⟩;generalize upd H3 l (HO.lst (bs.map V.ref))=H4 at*;have on4:=on3.mono S4;have cf4:=cf3.mono S4;obtain⟨dc,cls,Sc⟩:=on.not Hc;obtain⟨dl,lls,Sl⟩:=on.not Hl;clear ec S2 S3 S4 on3 cf3 bk bl nc nl o3 D3 pb rep2 hD;nofun;show gW_ (Me_ P w S s d c l st ks ls L) (2*ks.length-st.length) ⟨none,none,_,_,_,rfl,on4,cf4,ka4,bf,?_,?_⟩ ?_
    .intro x hx;rw[Bv_]at hx;obtain⟨y,hy,rfl⟩:=Ao_.mp hx;show stk y hy
    .have:=ar_ (l:=st.map λs=>(((s,false):Tb))) (m:=ks) (by
      unfold List.Nodup;rw[Bn_];show CD_ (λne z=>ne (A5_ z).1) nd) λx hx=>by
      obtain⟨y,hy,rfl⟩:=Ao_.mp hx;show stk y hy
     rw[Ab_]at this;rw[Ab_,Ab_];show⟨o_,Aj_ _⟩
    .rintro m σ H' kb hb G hG ⟨e4,e5,kvs,C,W,rfl,on',cf,ka,bf,hC,hm⟩;show hG ?_;nofun;obtain⟨bs,hl,bl,bk⟩:=ka;show⟨_,.inl hl,?_⟩;rw[Ab_];show ite2 (λh0=>?_) (λh0=>?_)
     .show⟨λσ' H'=>∃m',m'<m/\Me_ P w S s d c l st ks ls L m' σ' H',λσ' H' h=>h,?_⟩;obtain⟨bs0,b,rfl⟩:∃bs0 b,bs=bs0++[b]:=⟨bs.dropLast,bs.getLast (λe=>by rw[e]at h0;simp at h0),(Bp_ _).symm⟩;obtain⟨W0,x,rfl⟩:∃W0 x,W=W0++[x]:=⟨W.dropLast,W.getLast (λe=>by rw[e]at bl;simp at bl),(Bp_ _).symm⟩;have bl0:bs0.length=W0.length:=by simpa using bl
      have hbx:Gx_ H' b x:=bk bs0.length b x s_ (by rw[bl0];simp);have bk0:∀(i:Nat) b k,bs0[i]?=some b->W0[i]?=some k->Gx_ H' b k:=λi b' k' h1 h2=>bk i b' k' (by rw[Aw_ (Ai_.mp h1).1];show h1) (by rw[Aw_ (Ai_.mp h2).1];show h2);have bi:=bf.pop;have xk:x∈ks:=hC x (bf.wc x s_);nofun;show⟨.inl ⟨_,.inl (.inl hl)⟩,_,hl,.ref b,s_,?_⟩;have tl:∀p o,p≠l->H' p=some o->upd H' l (HO.lst ((bs0++[b]).map V.ref).dropLast) p=some o:=λp o h e=>(ae_ h).trans e;have tt:∀p xs,H' p=some (.tup xs)->upd H' l (HO.lst ((bs0++[b]).map V.ref).dropLast) p=some (.tup xs):=λp xs e=>tl p _ (λz=>by rw[z,hl]at e;cases e) e;have on1:=on'.other' (H':=upd H' l (HO.lst ((bs0++[b]).map V.ref).dropLast)) (p:=l) (λxs e=>by rw[hl]at e;cases e) (λc hc=>ae_ hc) dl lls Sl;have cf1:=cf.keep (H':=upd H' l (HO.lst ((bs0++[b]).map V.ref).dropLast)) (ae_ cl) tt;have ka1:GZ_ (upd H' l (HO.lst ((bs0++[b]).map V.ref).dropLast)) l W0:=⟨bs0,by rw[aa_,Av_];simp,bl0,λi b k h1 h2=>tt _ _ (bk0 i b k h1 h2)⟩;have hbx1:Gx_ (upd H' l (HO.lst ((bs0++[b]).map V.ref).dropLast)) b x:=tt _ _ hbx;generalize upd H' l (HO.lst ((bs0++[b]).map V.ref).dropLast)=H1 at*;clear tl tt on' cf hl bl bk bk0 hbx bl0 bf;obtain⟨i0,lx,k1,k2,kv0,dbx,lin⟩:=on1.look xk;nofun;show⟨_,on1.D,x,hbx1,.ref lx,kv0,lx,rfl,_,dbx,λob xs H2 o2 pb=>?_⟩;have tt:∀p ys,H1 p=some (.tup ys)->H2 p=some (.tup ys):=λp ys e=>(o2 p λz=>by obtain⟨φ,e2⟩:=dbx.some;rw[z,e2]at e;cases e).trans e;have lxl:lx≠l:=λe=>lls (e▸lin);have lxc:lx≠c:=λe=>cls (e▸lin)
      have on2:=(on1.row k1 k2 (ys:=L x) o2 ⟨_,pb.db⟩).ext (L':=L) λk _=>by
       by_cases e:k=x
       .rw[if_pos e,e]
       .rw[if_neg e]
      have cf2:=cf1.keep (o2 c lxc.symm) tt;have ka2:=ka1.keep (o2 l lxl.symm) tt;have hb2:Gx_ H2 b x:=tt _ _ hbx1;have hlt:2*ks.length+W0.length<m+2*C.length/\W0.length<=C.length:=by rw[Al_,AP_]at hm;show⟨o_,o_⟩
      clear hm on1 cf1 ka1 hbx1 kv0 dbx o2 tt k1 k2;show oq_ (kvs:=inB (L x)) (λi σ Hx=>∃(e5:Option V)(kvs:List (Tb×V))(C:List (Tb×Option Tb))(W:List Tb),σ=[some (V.ref s),some (V.ref d),some (V.ref c),some (V.ref l),some (V.ref b),e5]/\On P w S Hx d ks ls L/\G4_ P w Hx lx ob xs (inB (L x))/\Cf P w Hx c kvs C/\GZ_ Hx l W/\Bi L st C W x i/\(∀x∈C.map (·.1),x∈ks)/\Gx_ Hx b x/\2*ks.length+W.length<m+2*C.length/\W.length<=C.length) ⟨e5,kvs,C,W0,rfl,on2,pb,cf2,ka2,bi,hC,hb2,hlt⟩ ?_ ?_ ?_
      .rintro i σ Hx hi ⟨e5,kvs,C,W,rfl,on,pb,cf,ka,bi,hC,hbk,hlt⟩;show pb
      .rintro i y vy bt σ Hx hy kbt kk1 kb1 hk1 hb1 G1 hG1 ⟨e5,kvs,C,W,rfl,on,pb,cf,ka,bi,hC,hbk,hlt⟩;show hG1 ?_;have hy':(L x)[i]?=some y:=by unfold inB at hy;rw[Af_]at hy;obtain⟨z,hz,e⟩:=AR_.mp hy;cases e;show hz
       nofun;show⟨_,cf.D,y,kbt,?_⟩;rw[cf.has y];by_cases hy2:y∈C.map (·.1)
       .rw[As_ hy2,if_neg d_];show hk1 _ _ ⟨_,kvs,C,W,rfl,on,pb,cf,ka,bi.old hy' hy2,hC,hbk,hlt⟩
       .rw[At_ hy2,if_pos rfl]
        have c60:C.length<=ks.length:=by
         have:=ar_ (l:=C.map (·.1)) (m:=ks) bi.rc.nd hC
         rwa[Ab_]at this
        obtain⟨bs,hl,bl,bk⟩:=ka;nofun;show⟨_,cf.D,y,kbt,Fq_ (by rw[cf.len];lia),λH3 o3 D3=>?_⟩;obtain⟨φc,ec⟩:=cf.D.some;have tt:∀p ys,Hx p=some (.tup ys)->H3 p=some (.tup ys):=λp ys e=>(o3 p λz=>by rw[z,ec]at e;cases e).trans e;have cf3:=cf.new tt hy2 D3 (tt _ _ hbk);have on3:=on.other ec o3 dc cls Sc;have pb3:=pb.keep (o3 lx lxc) tt;have hl3:=(o3 l cl.symm).trans hl;have W60:=hlt.2;nofun;show⟨.inl ⟨_,.inl (.inl hl3)⟩,_,hl3,Fq_ (by rw[Ab_];lia),?_⟩;have tt4:∀p ys,H3 p=some (.tup ys)->upd H3 l (HO.lst (bs.map V.ref++[V.ref bt])) p=some (.tup ys):=λp ys e=>(ae_ λz=>by rw[z,hl3]at e;cases e).trans e;show hk1 _ _ ⟨_,_,_,W++[y],rfl,on3.other' (p:=l) (λxs e=>by rw[hl3]at e;cases e) (λc hc=>ae_ hc) dl lls Sl,pb3.keep (ae_ lxl) tt4,cf3.keep (ae_ cl) tt4,⟨bs++[bt],by rw[aa_,Av_];rfl,by simp[bl],λi b' k' h1 h2=>?_⟩,bi.new hy' hy2,λz hz=>?_,tt4 _ _ (tt _ _ hbk),by rw[Al_,Al_,AP_,AP_];have:=hlt.1;show⟨o_,o_⟩⟩
        .by_cases lt:i<bs.length
         .rw[Aw_ lt]at h1;rw[Aw_ o_]at h2;show tt4 _ _ (tt _ _ (bk i b' k' h1 h2))
         .rw[Az_ o_]at h1;rw[Az_ o_]at h2;rw[Ae_.mp (Ag_ h1),Ae_.mp (Ag_ h2)];show tt4 _ _ (tt _ _ kbt)
        .rw[Av_]at hz
         rcases Aq_.mp hz with hz|hz
         .show hC z hz
         .rw[Ae_.mp hz];show clk x y xk (Ag_ hy')
      .rintro σ Hx ⟨e5,kvs,C,W,rfl,on,pb,cf,ka,bi,hC,hbk,hlt⟩;have il:(inB (L x)).length=(L x).length:=by unfold inB;rw[Ab_]
       rw[il]at bi;have cle:=ar_ (l:=C.map (·.1)) (m:=ks) bi.rc.nd hC;rw[Ab_]at cle;have:=hlt.1;show⟨2*ks.length+W.length-2*C.length,o_,_,e5,kvs,C,W,rfl,on,cf,ka,bi.done,hC,o_,hlt.2⟩
     .have:bs.length=0:=by simpa using h0
      have w0:W=[]:=Bo_ o_;subst w0;show hb _ _ ?_;nofun;show k c kvs C H' on' Hc cf bf hC
theorem gZ_:∀{A:List Str},(HA_ A).length=2*A.length
 |[]=>rfl
 |a::A=>by change((a,false)::(a,true)::HA_ A).length=_;rw[AM_,AM_,gZ_,AM_];lia
theorem mV_{k:Tb}{v:V}:∀{kvs:List (Tb×V)}{i:Nat},(kvs.map (·.1)).Nodup->kvs[i]?=some (k,v)->FZ_ kvs k=some v
 |[],_,_,h=>nomatch h
 |p::kvs,0,_,h=>by cases h;show aW_ rfl
 |p::kvs,i+1,nd,h=>by rw[AZ_,AU_]at nd;rw[aN_ λz:p.1=k=>nd.1 (z▸Ao_.mpr ⟨(k,v),Ag_ (l:=kvs) h,rfl⟩)];show mV_ (kvs:=kvs) nd.2 h
theorem Cf.val{c:Addr}(f:Cf P w H c kvs C)(nd:(C.map (·.1)).Nodup){k:Tb}{o:Option Tb}(h:C[i]?=some (k,o)):∃v,FZ_ kvs k=some v/\IG_ H v o:=by obtain⟨v,a,b⟩:=f.at_ i k o h;show⟨v,mV_ (by rw[f.keys];show nd) a,b⟩
def LW_(P:Program)(w:World)(S:Hp)(d c:Addr)(g:Str)(ks:List Tb)(ls:List Addr)(L R0:Tb->List Tb)(kvs:List (Tb×V))(C:List (Tb×Option Tb))(ex:Tb->Int)(m:Nat)(σ:L2.St)(H':Hp):Prop:=∃(e4:Option V)(bt:Addr)(x:Tb)(L':Tb->List Tb),σ=[some (V.ref d),some (V.ref c),some (V.str g),some (V.ref bt),e4]/\On P w S H' d ks ls L'/\Cf P w H' c kvs C/\Gx_ H' bt x/\Lay R0 L L' ex C (g,true) x m
abbrev FF_:Stmt:=stN 8
theorem bj_:ZL ["onward","came_from","goal","there","here"] ["onward","came_from","goal"] (Fp_ FF_):=zL
def JN_(P:Program)(w:World):Sp:=λvs H Q _=>∃(S:Hp)(d c:Addr)(g:Str)(ks:List Tb)(ls:List Addr)(L R0:Tb->List Tb)(Vl st gl:List Str)(kvs:List (Tb×V))(C:List (Tb×Option Tb))(ex:Tb->Int),vs=[.ref d,.ref c,.str g]/\On P w S H d ks ls L/\Cf P w H c kvs C/\c∉d::ls/\N0 Vl st gl R0/\Fx R0 L ex/\Rc L st C/\(∀x∈C.map (·.1),x∈ks)/\(g,true)∈C.map (·.1)/\(∀x,x∈ks↔x.1∈Vl)/\Vl.length<=28 /\
 ∀L' s H',s∈st->On P w S H' d ks ls L'->Fx R0 L' (λz=>ex z+(if z=(s,false)then 1 else 0)-(if z=(g,true)then 1 else 0))->L (s,false)≠[]->Q .non H'
theorem fk_(T:Txt K mg)(F:Fn0 K mg "lay_one_way_more" FF_):Cal P w K mg base "lay_one_way_more" ["onward","came_from","goal"] 1 (JN_ P w):=by
  show aU_ F bj_.1 λf cdv A outer s0 H vs Q E hr h=>?_;obtain⟨S,d,c,g,ks,ls,L,R0,Vl,st,gl,kvs,C,ex,rfl,on,cf,cn,n0,fx,rc,hC,hg,hks,v28,k⟩:=h;refine'⟨_,?D,?R⟩
  case D =>
   refine' ai_ (zas 3 bj_ (aF_ (pa_c (zv 2 bj_) (pa_c F7_ ab_)))) ?a
   case' a=>refine' af_ (dH_ AC_ (ft_ (oG_ (f2_ (P:=P) (w:=w) rfl rfl (un2 hr.units) (zv 1 bj_) (zv 3 bj_)))) ?b)
   case' b=>refine' ai_ (zas 4 bj_ (f2_ (P:=P) (w:=w) rfl rfl (un2 hr.units) (zv 1 bj_) (zv 3 bj_))) (ai_ (aK_ (o8_ (P:=P) (w:=w) rfl rfl hr.units (f2_ (P:=P) (w:=w) rfl rfl (un2 hr.units) (zv 0 bj_) (zv 4 bj_)) (pa_c (zv 3 bj_) ab_))) ?c)
   case' c=>refine' ai_ (hr_ (P:=P) (w:=w) rfl rfl (un2 hr.units) (f2_ (P:=P) (w:=w) rfl rfl (un2 hr.units) (zv 0 bj_) (zv 3 bj_)) (zv 4 bj_) F7_ rfl) (af_ (zas 3 bj_ (zv 4 bj_)))
  case R =>
   nofun;show⟨d_,λt0 nt0=>?_⟩;have S0:=Fo_.new nt0 (o:=HO.tup [V.str g,V.bl true]);have ht0:=aa_ (H:=H) (a:=t0) (o:=HO.tup [V.str g,V.bl true]);generalize upd H t0 (HO.tup [V.str g,V.bl true])=H0 at*;have on0:=on.mono S0;have cf0:=cf.mono S0;obtain⟨cg,hcg,ecg⟩:=Ao_.mp hg;obtain⟨k0,hk0,ek0⟩:=Ap_.mp hcg;have lay0:Lay R0 L L ex C (g,true) (g,true) k0:=⟨fx.ext λz=>o_,⟨cg.2,by rw[Aa_ hk0,ek0,<-ecg]⟩,λ_ _ _ _=>rfl,.inl rfl⟩;nofun;show gW_ (LW_ P w S d c g ks ls L R0 kvs C ex) k0 ⟨none,t0,(g,true),L,rfl,on0,cf0,ht0,lay0⟩ ?_;rintro m σ H' kb hb G hG ⟨e4,bt,x,L',rfl,on',cf',hbt,lay⟩;show hG ?_;obtain⟨q,hq⟩:=lay.at_;obtain⟨v,vv,fv⟩:=cf'.val rc.nd hq;nofun;show⟨_,cf'.D,x,hbt,v,vv,?_⟩;cases q with
   |none =>
    rw[if_neg (λz=>z fv)];obtain⟨s,hs,rfl⟩:=rc.no x (Ag_ hq);show hb _ _ ?_;show k L' s H' hs on' lay.fx (lay.ne.resolve_left λe=>nomatch(A5_ e).2)
   |some p =>
    obtain⟨bp,rfl,hbp⟩:=fv;rw[if_pos (λz=>nomatch z)];show⟨λσ' H'=>∃m',m'<m/\LW_ P w S d c g ks ls L R0 kvs C ex m' σ' H',λσ' H' h=>h,?_⟩;obtain⟨m1,m2,j,jm,lay2⟩:=lay.step n0 rc hq;obtain⟨j0,qp,_,hj0,_⟩:=rc.par _ _ _ hq;have pks:p∈ks:=hC p (Ao_.mpr ⟨_,Ag_ hj0,rfl⟩);have xks:x∈ks:=hC x (Ao_.mpr ⟨_,Ag_ hq,rfl⟩);have px:p≠x:=λe=>lay.fx.ne n0 m1 e;nofun;show⟨_,cf'.D,x,hbt,.ref bp,vv,?_⟩;obtain⟨i1,l1,a1,a2,av,adb,ain⟩:=on'.look pks;nofun;show⟨_,on'.D,p,hbp,.ref l1,av,⟨l1,rfl,_,adb⟩,l1,rfl,_,adb,x,hbt,.bl true,by rw[iM_,if_pos m1],λH1 o1 D1=>?_⟩;rw[nJ_]at D1;obtain⟨φ1,e1⟩:=adb.some;have tt1:∀b ys,H' b=some (.tup ys)->H1 b=some (.tup ys):=λb ys e=>(o1 b λz=>by rw[z,e1]at e;cases e).trans e;have on1:=on'.row a1 a2 o1 D1;have cf1:=cf'.keep (o1 c λe=>cn (e▸Am_ _ ain)) tt1;have hbt1:Gx_ H1 bt x:=tt1 _ _ hbt;have hbp1:Gx_ H1 bp p:=tt1 _ _ hbp;obtain⟨i2,l2,b1,b2,bv,bdb,bin⟩:=on1.look xks;rw[if_neg px.symm]at bdb
    have lx:(L' x).length<=60:=by
     show AH_ (ar_ (lay.fx.nd x) (m:=HA_ Vl) λy hy=>?_) (by rw[gZ_];lia);show d1_.mpr ?_;obtain⟨xv,xb⟩:=x;obtain⟨yv,yb⟩:=y
     rcases lay.fx.sub _ _ hy with h1|h1
     .cases xb with
      |false=>have:=(n0.f _ _).mp h1;rw[this.2];show this.1
      |true=>show(n0.t _ _ h1).2.2.2.2.2
     .cases yb with
      |false=>show((n0.f _ _).mp h1).1
      |true=>show(n0.t _ _ h1).2.2.2.2.1
    clear on' cf' hbt hbp D1 adb av vv lay;nofun;show⟨_,on1.D,x,hbt1,.ref l2,bv,l2,rfl,_,bdb,p,hbp1,(by rw[show(inB (L' x)).length=(L' x).length from Ab_ ..,BG_];lia),λH2 o2 D2=>?_⟩;rw[mK_,if_neg m2]at D2;obtain⟨φ2,e2⟩:=bdb.some;have tt2:∀b ys,H1 b=some (.tup ys)->H2 b=some (.tup ys):=λb ys e=>(o2 b λz=>by rw[z,e2]at e;cases e).trans e;have on2:=(on1.row b1 b2 o2 D2).ext (L':=flip1 L' p x) λz _=>rfl;have cf2:=cf1.keep (o2 c λe=>cn (e▸Am_ _ bin)) tt2;have hbp2:Gx_ H2 bp p:=tt2 _ _ hbp1;nofun;show⟨j,jm,_,bp,p,flip1 L' p x,rfl,on2,cf2,hbp2,lay2⟩
theorem qd_{ks:List Tb}(o:On P w S H d ks ls L)(h:∀c,c≠d->H' c=H c)(g:DB P w H' d (kvB ks ls)):On P w S H' d ks ls L:=by obtain⟨φ,e⟩:=o.D.some;have tk:∀b xs,H b=some (.tup xs)->H' b=some (.tup xs):=λb xs q=>(h b λz=>by rw[z,e]at q;cases q).trans q;show⟨λa u q=>(h a λz=>by rw[z,o.fd]at q;cases q).trans (o.sS a u q),g,o.len,o.kn,o.nd,o.dn,λi k l h1 h2=>(o.at_ i k l h1 h2).keep (h l λz=>o.dn (z▸Ag_ h2)) tk,o.fd,o.fl⟩
structure JG_(L:Tb->List Tb)(fol:List (L2.Key×V))(pr:Tb->Tb->Prop)(n:Nat):Prop where
 z:fol.length<=n
 fa:∀u x,FZ_ fol (.inr u)=some x->∃v,x=.str v/\Fol L u v
 fb:∀u v,pr (v,false) (u,true)->Fol L u v->(FZ_ fol (.inr u)).isSome=true
theorem JG_.imp{fol:List (L2.Key×V)}{pr pr':Tb->Tb->Prop}{n n':Nat}(f:JG_ L fol pr n)(h:∀u v,Fol L u v->pr' (v,false) (u,true)->pr (v,false) (u,true))(hn:n<=n'):JG_ L fol pr' n':=⟨AH_ f.z hn,f.fa,λu v p q=>f.fb u v (h u v q p) q⟩
theorem JG_.put{fol:List (L2.Key×V)}{pr pr':Tb->Tb->Prop}{n n':Nat}(f:JG_ L fol pr n){v:Str}(q:Fol L u v)(h:∀u' v',pr' (v',false) (u',true)->pr (v',false) (u',true)\/u'=u)(hn:n+1<=n'):JG_ L (Gd_ fol (.inr u) (.str v)) pr' n':=by
 show⟨?_,λu' x e=>?_,λu' v' p q'=>?_⟩
 .have:=bf_ fol (.inr u) (.str v);have:=f.z;lia
 .rw[fx_]at e;by_cases c:(Sum.inr u':L2.Key)=.inr u
  .rw[if_pos c]at e;cases e;cases c;show⟨v,rfl,q⟩
  .rw[if_neg c]at e;show f.fa u' x e
 .rw[fx_];by_cases c:(Sum.inr u':L2.Key)=.inr u
  .rw[if_pos c];rfl
  .rw[if_neg c];show f.fb u' v' ((h u' v' p).resolve_right λz=>c (by rw[z])) q'
structure Il_(H:Hp)(was:List Addr)(ws:List (List Str)):Prop where
 len:was.length=ws.length
 at_:∀(i:Nat) a x,was[i]?=some a->ws[i]?=some x->H a=some (.lst (x.map V.str))
variable{ws:List (List Str)}
theorem Il_.keep{was:List Addr}(a:Il_ H was ws)(h:∀b∈was,H' b=H b):Il_ H' was ws:=⟨a.len,λi b x h1 h2=>(h b (Ag_ h1)).trans (a.at_ i b x h1 h2)⟩
theorem Il_.more{was:List Addr}(a:Il_ H was ws){b:Addr}{x:List Str}(h:H b=some (.lst (x.map V.str))):Il_ H (was++[b]) (ws++[x]):=by
 show⟨by rw[Al_,Al_,a.len];rfl,λi c y h1 h2=>?_⟩;by_cases lt:i<was.length
 .rw[Aw_ lt]at h1;rw[Aw_ (by rw[<-a.len];show lt)]at h2;show a.at_ i c y h1 h2
 .rw[Az_ o_]at h1;rw[Az_ (by rw[<-a.len];lia)]at h2;rw[Ae_.mp (Ag_ h1),Ae_.mp (Ag_ h2)];show h
theorem oz_{w:List Str}{s:Str}(h:w[0]?=some s):∃x,w[w.length-1]?=some x:=by have:=(Ai_.mp h).1;show⟨_,Aa_ o_⟩
theorem lh_{w:List Str}(h:w[w.length-1]?=some x):atI (w.map V.str) (-1)=some (.str x):=by have l:=(Ai_.mp h).1;obtain⟨w0,b,rfl⟩:∃w0 b,w=w0++[b]:=⟨w.dropLast,w.getLast (λe=>by rw[e]at l;simp at l),(Bp_ _).symm⟩;rw[Al_,AP_,Nat.add_sub_cancel,Az_ (Aj_ _),Cf_]at h;cases h;rw[Av_];show nc_ _ _
abbrev FL_:Stmt:=stN 9
theorem bc_:ZL ["starts","onward","follower","here","steps","there","ways","start","way"] ["starts","onward"] (Fp_ FL_):=zL
def IE_(P:Program)(w:World):Sp:=λvs H Q _=>∃(S:Hp)(s d:Addr)(V0 st gl U D:List Str)(R0 L:Tb->List Tb)(ks:List Tb)(ls:List Addr),vs=[.ref s,.ref d]/\On P w S H d ks ls L/\S s=some (.lst (st.map V.str))/\Fs V0 st gl R0 L U D/\(∀x∈st,x∈U)/\V0.length<=28/\st.length<=6/\(∀x,x∈ks↔x.1∈V0)/\ks.length<=56/\(∀x,(L x).length<=60) /\
 ∀r was ws H',Fo_ S H'->H' r=some (.lst (was.map V.ref))->Il_ H' was ws->S r=none->(∀a∈was,S a=none/\a≠r)->ws.length=st.length->(∀(i:Nat) s x,st[i]?=some s->ws[i]?=some x->Wz L st gl s x)->Q (.ref r) H'
theorem j1_(T:Txt K mg)(F:Fn0 K mg "ways_laid" FL_):Cal P w K mg base "ways_laid" ["starts","onward"] 1 (IE_ P w):=by
  show aU_ F bc_.1 λf cdv A outer s0 H vs Q E hr h=>?_;obtain⟨S,s,d,V0,st,gl,U,D,R0,L,ks,ls,rfl,on,hs,fs,sU,v28,s6,hks,k56,l60,k⟩:=h;have sU':∀x∈st,x∈st:=λ_ h=>h;refine'⟨_,?D,?R⟩
  case D =>
   refine' ad_ ?a (ad_ ?b (ad_ (zas 6 bc_ (bn_ ab_)) (ad_ ?c (af_ (az_ (zv 6 bc_))))))
   case a=>show zas 2 bc_ eO_
   case' b=>refine' aO_ AC_ rfl (mz_ (P:=P) (w:=w) rfl rfl (zv 1 bc_)) (bp_ (K:=K) (n:=2) rfl rfl (au_ ?d (au_ ?e bm_))) (af_ (aO_ AC_ rfl ((iH_ (P:=P) (w:=w) rfl rfl) (zv 4 bc_)) ?f ?g))
   case d=>show zh 3 bc_
   case e=>show zh 4 bc_
   case f=>show zh 5 bc_
   case' g=>refine' af_ (F4_ (PW.pt ?h) (af_ (fZ_ (un1 hr.units) (zv 2 bc_) (Fv_ ao_ (zv 5 bc_) ac_) (Fv_ ao_ (zv 3 bc_) ac_) rfl)) aI_)
   case' h=>refine' eg_ (eh_ (d7_ (Fv_ ao_ (zv 3 bc_) ac_))) (dG_ (aq_ Iq_ (Fv_ ao_ (zv 5 bc_) ac_) (Fv_ ao_ (zv 3 bc_) ac_) (FJ_ _)))
   case' c=>refine' aO_ AC_ rfl (ax_ (K:=K) rfl (zv 0 bc_)) ?i (ad_ (zas 8 bc_ (bn_ (pa_c (zv 7 bc_) ab_))) ?j)
   case i=>show zh 7 bc_
   case' j=>refine' ad_ (dH_ AC_ (ft_ (oe_ (un1 hr.units) (Fv_ an_ (zv 8 bc_) (Ir_ hW_ ac_)) (zv 2 bc_))) ?k) ?l
   case' k=>refine' af_ (aK_ (Gn_ AF_ AV_ AW_ aQ_ (zv 8 bc_) (pa_c (dd_ (un1 hr.units) (zv 2 bc_) (Fv_ an_ (zv 8 bc_) (Ir_ hW_ ac_))) ab_)))
   case' l=>refine' af_ (aK_ (Gn_ AF_ AV_ AW_ aQ_ (zv 6 bc_) (pa_c (zv 8 bc_) ab_)))
  case R =>
   nofun;intro p np;have S0:=Fo_.new np (o:=HO.dK []);have hp0:=aa_ (H:=H) (a:=p) (o:=HO.dK []);obtain⟨dp,pls,Sp⟩:=on.not np;generalize upd H p (HO.dK [])=H0 at*;have on0:=on.mono S0;show⟨_,on0.D,λob xs H1 o1 pb=>?_⟩;have on1:=qd_ on0 o1 ⟨_,pb.db⟩;have hp1:=(o1 p dp.symm).trans hp0;show p3_ (kvs:=kvB ks ls) (λi σ Hx=>∃(e3 e4 e5:Option V)(fol:List (L2.Key×V)),σ=[some (V.ref s),some (V.ref d),some (V.ref p),e3,e4,e5,none,none,none]/\On P w S Hx d ks ls L/\G4_ P w Hx d ob xs (kvB ks ls)/\Hx p=some (.dK fol)/\JG_ L fol (λa _=>a∈ks.take i) (60*i)) ⟨none,none,none,[],rfl,on1,pb,hp1,⟨s_,λu x e=>(nomatch e),λu v m=>by simp at m⟩⟩ ?_ ?_ ?_
   .rintro i σ Hx hi ⟨e3,e4,e5,fol,rfl,on,pb,hp,fk⟩;show pb
   .rintro i y vy t q σ Hx hy nt hq kk kb hk hb G hG ⟨e3,e4,e5,fol,rfl,on,pb,hp,fk⟩;show hG ?_;obtain⟨l,hy1,hy2,rfl⟩:=pk_ hy;have St:=Fo_.new nt (o:=HO.tup [V.ref q,V.ref l]);have ht:=aa_ (H:=Hx) (a:=t) (o:=HO.tup [V.ref q,V.ref l]);have hq1:Gx_ (upd Hx t (HO.tup [V.ref q,V.ref l])) q y:=St _ _ hq;have hp1:=St _ _ hp;have on1:=on.mono St;have pb1:=pb.keep (ae_ λe=>by rw[<-e,pb.at_]at nt;cases nt) λb ys e=>St _ _ e;generalize upd Hx t (HO.tup [V.ref q,V.ref l])=H1 at*;clear on hq hp pb St;have yk:y∈ks:=Ag_ hy1;have ll:l∈ls:=Ag_ hy2;have il:i<ks.length:=(Ai_.mp hy1).1;nofun;show⟨_,SqT.of ht,rfl,_,_,rfl,_,_,rfl,rfl,l,rfl,_,on1.at_ i y l hy1 hy2,λob2 xs2 H2 o2 pb2=>?_⟩;obtain⟨φl,el⟩:=on1.keys ll;have tt:∀b ys,H1 b=some (.tup ys)->H2 b=some (.tup ys):=λb ys e=>(o2 b λz=>by rw[z,el]at e;cases e).trans e
    have on2:=(on1.row hy1 hy2 (ys:=L y) o2 ⟨_,pb2.db⟩).ext (L':=L) λk _=>by
     by_cases e:k=y
     .rw[if_pos e,e]
     .rw[if_neg e]
    have pbd:=pb1.keep (o2 d λz=>on1.dn (z▸ll)) tt;have hp2:=(o2 p λz=>pls (z▸ll)).trans hp1;have hq2:Gx_ H2 q y:=tt _ _ hq1;clear on1 pb1 hp1 hq1 tt o2 ht;show oq_ (kvs:=inB (L y)) (λj σ Hx=>∃(e5:Option V)(fol:List (L2.Key×V)),σ=[some (V.ref s),some (V.ref d),some (V.ref p),some (V.ref q),some (V.ref l),e5,none,none,none]/\On P w S Hx d ks ls L/\G4_ P w Hx d ob xs (kvB ks ls)/\G4_ P w Hx l ob2 xs2 (inB (L y))/\Gx_ Hx q y/\Hx p=some (.dK fol)/\JG_ L fol (λa b=>a∈ks.take i\/(a=y/\b∈(L y).take j)) (60*i+j)) ⟨e5,fol,rfl,on2,pbd,pb2,hq2,hp2,fk.imp (λu v _ z=>z.resolve_right λz2=>by simp at z2) (Aj_ _)⟩ ?_ ?_ ?_
    .rintro j σ Hx hj ⟨e5,fol,rfl,on,pb,pb2,hq,hp,fk⟩;show pb2
    .rintro j z vz b σ Hx hz hbt kk1 kb1 hk1 hb1 G1 hG1 ⟨e5,fol,rfl,on,pb,pb2,hq,hp,fk⟩;show hG1 ?_;have hz':(L y)[j]?=some z:=by unfold inB at hz;rw[Af_]at hz;obtain⟨z',hz',e⟩:=AR_.mp hz;cases e;show hz'
     have jl:=(Ai_.mp hz').1;have zl:=Ag_ hz';have tk:∀{x},x∈(L y).take (j+1)->x∈(L y).take j\/x=z:=λh=>iL_ hz' h;nofun;obtain⟨yv,yb⟩:=y;obtain⟨zU,zb⟩:=z;have S2:∀fol':List (L2.Key×V),On P w S (upd Hx p (HO.dK fol')) d ks ls L/\G4_ P w (upd Hx p (HO.dK fol')) d ob xs (kvB ks ls)/\G4_ P w (upd Hx p (HO.dK fol')) l ob2 xs2 (inB (L (yv,yb)))/\Gx_ (upd Hx p (HO.dK fol')) q (yv,yb):=λfol'=>by have tt:∀b ys,Hx b=some (.tup ys)->upd Hx p (HO.dK fol') b=some (.tup ys):=λb ys e=>(ae_ λz=>by rw[z,hp]at e;cases e).trans e;show⟨on.other' (p:=p) (λys e=>by rw[hp]at e;cases e) (λc hc=>ae_ hc) dp pls Sp,pb.keep (ae_ dp) tt,pb2.keep (ae_ λe=>pls (e▸ll)) tt,tt _ _ hq⟩
     show⟨_,hq,_,rfl,yb,rfl,?_⟩;cases yb with
     |true =>
      rw[if_neg d_];show hk1 _ _ ⟨_,fol,rfl,on,pb,pb2,hq,hp,fk.imp (λu v _ h=>h.imp id λh=>Bool.noConfusion (show false=true from congrArg Prod.snd h.1)) o_⟩
     |false =>
      rw[if_pos rfl];show⟨_,hbt,_,rfl,_,hq,_,rfl,rfl,?_⟩;by_cases e:zU=yv
      .subst e;rw[if_neg (λz=>z rfl)];show hk1 _ _ ⟨_,fol,rfl,on,pb,pb2,hq,hp,fk.imp (λu v qf h=>h.imp id λh=>⟨h.1,(tk h.2).resolve_right λz=>qf.2 ((A5_ z).1.trans (A5_ h.1).1.symm)⟩) o_⟩
      .rw[if_pos (λz=>e (V.str.inj z))]
       have zt:zb=true:=by
        rcases fs.fx.sub _ _ zl with h1|h1
        .show absurd (A5_ ((fs.n.f _ _).mp h1).2).1 e
        .cases zb with
         |true=>rfl
         |false=>show nomatch(A5_ ((fs.n.f _ _).mp h1).2).2
       subst zt;have qf:Fol L zU yv:=⟨zl,e⟩;have jz:j<=60:=AH_ (AS_ jl) (l60 _);have fz:=fk.z;show⟨_,hq,_,rfl,_,hbt,_,rfl,_,Iv_.k (k:=.inr zU) hp (by rw[BG_];lia),?_⟩;obtain⟨a1,a2,a3,a4⟩:=S2 (Gd_ fol (.inr zU) (.str yv))
       show hk1 _ _ ⟨_,_,rfl,a1,a2,a3,a4,aa_,fk.put qf (λu' v' h=>by
        rcases h with h|h
        .show .inl (.inl h)
        .rcases tk h.2 with h2|h2
         .show .inl (.inr ⟨h.1,h2⟩)
         .show .inr (A5_ h2).1) o_⟩
    .rintro σ Hx ⟨e5,fol,rfl,on,pb,pb2,hq,hp,fk⟩;show hk _ _ ⟨_,_,e5,fol,rfl,on,pb,hp,fk.imp (λu v qf hm=>?_) (by have:=l60 y;rw[show(inB (L y)).length=(L y).length from Ab_ ..];lia)⟩
     rcases iL_ hy1 hm with h1|h1
     .show .inl h1
     .show .inr ⟨h1,?_⟩;rw[show(inB (L y)).length=(L y).length from Ab_ ..,BD_,<-h1];show qf.1
   .rintro σ Hx ⟨e3,e4,e5,fol,rfl,on,pb,hp,fk⟩;have sS:=on.sS;rw[kx_ on.len]at fk
    have fb:∀u v,Fol L u v->FZ_ fol (.inr u)=some (.str v):=λu v q=>by
     have h1:=fk.fb u v (by rw[BD_];show(hks _).mpr (fs.fol_st q).2.2.2) q;obtain⟨x,hx⟩:=Cp_.mp h1;obtain⟨v',rfl,q'⟩:=fk.fa u x hx;rw[hx,fs.fol_one q q']
    have fa:=fk.fa;have fz:fol.length<=4000:=AH_ fk.z o_;clear fk on pb;nofun;show⟨AE_ _,λr nr=>?_⟩;have Sr:=sS.free nr;have S1:=Fo_.new nr (o:=HO.lst []);have hr1:=aa_ (H:=Hx) (a:=r) (o:=HO.lst []);have hp1:=S1 _ _ hp;have sS1:=sS.trans S1;generalize upd Hx r (HO.lst [])=H1 at*;have rp:r≠p:=λe=>by rw[<-e,hr1]at hp1;cases hp1
    clear S1 nr hp sS;show⟨⟨_,.inl (.inl (sS1 _ _ hs))⟩,bE_ (xs:=st.map V.str) (λi σ Hx=>∃(e7 e8:Option V)(was:List Addr)(ws:List (List Str)),σ=[some (V.ref s),some (V.ref d),some (V.ref p),e3,e4,e5,some (V.ref r),e7,e8]/\Fo_ S Hx/\Hx p=some (.dK fol)/\Hx r=some (.lst (was.map V.ref))/\Il_ Hx was ws/\(∀a∈was,S a=none/\a≠r/\a≠p)/\ws.length=i/\(∀(j:Nat) s x,j<i->st[j]?=some s->ws[j]?=some x->Wz L st gl s x)) ⟨none,none,[],[],rfl,sS1,hp1,hr1,⟨rfl,λi a x e=>(by simp at e)⟩,λ_ h=>(nomatch h),rfl,λj s x h=>absurd h (Dt_ _)⟩ ?_ ?_ ?_⟩
    .rintro i σ Hx hi ⟨e7,e8,was,ws,rfl,sS,hp,hr,wa,fr,wl,wz⟩;show .inl (.inl (sS _ _ hs))
    .rintro i x σ Hx hx kk kb hk hb G hG ⟨e7,e8,was,ws,rfl,sS,hp,hr,wa,fr,wl,wz⟩;show hG ?_;rw[Af_]at hx;obtain⟨s0,hs0,rfl⟩:=AR_.mp hx;have ist:=(Ai_.mp hs0).1;have sst:=Ag_ hs0;nofun;show⟨d_,λa na=>?_⟩;have Sa:=sS.free na;have S1:=Fo_.new na (o:=HO.lst [V.str s0]);have ha:upd Hx a (HO.lst [V.str s0]) a=some (.lst ([s0].map V.str)):=aa_;have hp1:=S1 _ _ hp;have hr1:=S1 _ _ hr;have ap:a≠p:=λe=>by rw[e,hp]at na;cases na
     have ar:a≠r:=λe=>by rw[e,hr]at na;cases na
     have aw:a∉was:=λm=>by obtain⟨j,hj,e⟩:=Ap_.mp m;have:=wa.at_ j a (ws[j]'(by rw[<-wa.len];show hj)) (by rw[Aa_ hj,e]) (Aa_ _);rw[na]at this;cases this
     have wa1:Il_ (upd Hx a (HO.lst [V.str s0])) was ws:=wa.keep λb hb=>ae_ λe=>aw (e▸hb);have sS1:=sS.trans S1;generalize upd Hx a (HO.lst [V.str s0])=H1 at*;clear S1 na hp hr wa sS;show gW_ (λm σ H'=>∃wy:List Str,σ=[some (V.ref s),some (V.ref d),some (V.ref p),e3,e4,e5,some (V.ref r),some (V.str s0),some (V.ref a)]/\Fo_ S H'/\H' p=some (.dK fol)/\H' r=some (.lst (was.map V.ref))/\Il_ H' was ws/\H' a=some (.lst (wy.map V.str))/\Wy L s0 wy/\m+wy.length=V0.length+1) V0.length ⟨[s0],rfl,sS1,hp1,hr1,wa1,ha,Wy.one s0,rfl⟩ ?_;rintro m σ H2 kb2 hb2 G2 hG2 ⟨wy,rfl,sS,hp,hr,wa,ha,y,hm⟩;show hG2 ?_;have wn:=ar_ y.nd (y.in_ fs (sU' s0 sst));obtain⟨x,hx⟩:=oz_ y.hd;have al:=lh_ hx;have dg:=GQ_.k (k:=.inr x) hp;nofun;show⟨_,ha,_,al,_,dg,?_⟩;have rl:=wa.len;by_cases so:(FZ_ fol (.inr x)).isSome=true
     .obtain⟨xv,hxv⟩:=Cp_.mp so;obtain⟨v,rfl,qf⟩:=fa x xv hxv;rw[if_pos so];rw[hxv]at dg;have wl28:wy.length<=28:=o_
      show⟨_,λ_ _ h=>h,.inl ⟨_,.inl (.inl ha)⟩,_,ha,_,al,_,dg,_,ha,Fq_ (by rw[Ab_];lia),?_⟩;show⟨m-1,o_,rfl,?_,(ae_ ap.symm).trans hp,(ae_ ar.symm).trans hr,wa.keep λb hb=>ae_ λe=>aw (e▸hb),wy++[v],by rw[aa_,Av_];rfl,y.more fs sst hx qf,by rw[Al_,AP_];lia⟩;show λb u e=>(ae_ λz=>by rw[z,Sa]at e;cases e).trans (sS _ _ e)
     .rw[if_neg so];show hb2 _ _ ?_;have wz0:=y.done fs (sU s0 sst) hx λv q=>so (by rw[fb _ _ q];rfl);nofun;show⟨.inl ⟨_,.inl (.inl hr)⟩,_,hr,Fq_ (by rw[Ab_];lia),?_⟩;show hk _ _ ⟨_,_,was++[a],ws++[wy],rfl,λb u e=>(ae_ λz=>by rw[z,Sr]at e;cases e).trans (sS _ _ e),(ae_ rp.symm).trans hp,by rw[aa_,Av_];rfl,(wa.keep λb hb=>ae_ (fr b hb).2.1).more ((ae_ ar).trans ha),λb hb=>?_,by rw[Al_,wl];rfl,λj s1 x1 hj h1 h2=>?_⟩
      .rcases Aq_.mp hb with hb|hb
       .show fr b hb
       .rw[Ae_.mp hb];show⟨Sa,ar,ap⟩
      .by_cases lt:j<i
       .rw[Aw_ o_]at h2;show wz j s1 x1 lt h1 h2
       .have e:j=i:=o_
        subst e;rw[hs0]at h1;cases h1;rw[Az_ o_]at h2;rw[Ae_.mp (Ag_ h2)];show wz0
    .rintro σ Hx ⟨e7,e8,was,ws,rfl,sS,hp,hr,wa,fr,wl,wz⟩;rw[Ab_]at wl wz;show k r was ws Hx sS hr wa Sr (λa ha=>⟨(fr a ha).1,(fr a ha).2.1⟩) wl λi s x h1 h2=>wz i s x (Ai_.mp h1).1 h1 h2
def rst(V:List Str)(L:Tb->List Tb):Tb->List Tb:=λz=>if z.1∈V then L z else[]
theorem Op.n0{V:List Str}(o:Op V st gl pr L)(sV:∀s∈st,s∈V)(sg:∀s∈st,s∉gl):N0 V st gl (rst V L):=by
 show⟨λx=>?_,λv y=>?_,λu y h=>?_,sV,sg⟩
 .unfold rst;split
  .rename_i m;obtain⟨v,b⟩:=x;cases b with
   |false=>rw[o.f v m];simp
   |true=>show o.nd v
  .show A6_
 .unfold rst;by_cases m:v∈V
  .rw[if_pos m,o.f v m,Ae_];show⟨λe=>⟨m,e⟩,λe=>e.2⟩
  .rw[if_neg m];show⟨λe=>(nomatch e),λe=>absurd e.1 m⟩
 .unfold rst at h;by_cases m:u∈V
  .rw[if_pos m]at h;obtain⟨a,b,c,d,e,_⟩:=(o.t u y m).mp h;show⟨a,λz=>b z.symm,c,d,m,e⟩
  .rw[if_neg m]at h;cases h
theorem Op.tie{V:List Str}(o:Op V st gl pr L){v:Str}(h:(v,false)∈rst V L (u,true)):pr u v:=by
 unfold rst at h;by_cases m:u∈V
 .rw[if_pos m]at h;show((o.t u _ m).mp h).2.2.2.2.2
 .rw[if_neg m]at h;cases h
structure Iz_(N:Net Str)(st gl cut:List Str):Prop where
 lt:cut.length<st.length
 nd:cut.Nodup
 srt:cut.Pairwise sLe
 on:∀z∈cut,z∈st++Fz_ N++gl
 sep:∃T:Str->Prop,(∀s∈st,s∉cut->T s)/\(∀u,T u->u∈st++Fz_ N++gl/\u∉gl)/\∀u v,T u->tied (FW_ N) u v->u≠v->v∈Fz_ N++gl->v∉cut->T v
structure Kl_(N:Net Str)(st gl:List Str)(ws:List (List Str)):Prop where
 len:ws.length=st.length
 hd:∀(i:Nat) s x,st[i]?=some s->ws[i]?=some x->x[0]?=some s
 two:∀x∈ws,2<=x.length
 last:∀x∈ws,∀z,x[x.length-1]?=some z->z∈gl
 mid:∀x∈ws,∀(i:Nat) z,i+2<x.length->x[i+1]?=some z->z∈Fz_ N
 hop:∀x∈ws,∀(i:Nat) a b,x[i]?=some a->x[i+1]?=some b->tied (FW_ N) a b/\a≠b
 nd:∀x∈ws,x.Nodup
 ap:∀(i j:Nat) x y,i≠j->ws[i]?=some x->ws[j]?=some y->∀z∈x,z∉y
 on:∀x∈ws,∀z∈x,z∈st++Fz_ N++gl
theorem Lx_{U D:List Str}{L0:Tb->List Tb}(o:Op (st++Fz_ N++gl) st gl (tied (FW_ N)) L0)(f:Fs (st++Fz_ N++gl) st gl (rst (st++Fz_ N++gl) L0) L U D)(nd:st.Nodup)(hl:ws.length=st.length)(wz:∀(i:Nat) s x,st[i]?=some s->ws[i]?=some x->Wz L st gl s x):Kl_ N st gl ws:=by
 have one:∀x∈ws,∃(i:Nat)(s:Str),st[i]?=some s/\ws[i]?=some x/\s∈st/\Wz L st gl s x:=λx hx=>by
  obtain⟨i,hi,e⟩:=Ap_.mp hx;have e1:st[i]?=some (st[i]'o_):=Aa_ _;have e2:ws[i]?=some x:=by rw[Aa_ hi,e]
  show⟨i,_,e1,e2,A2_ _,wz i _ x e1 e2⟩
 show⟨hl,λi s x h1 h2=>(wz i s x h1 h2).hd,λx hx=>?_,λx hx=>?_,λx hx i z hi hz=>?_,λx hx i a b ha hb=>?_,λx hx=>?_,λi j x y ne hx hy z zx zy=>?_,λx hx=>?_⟩
 .obtain⟨_,_,_,_,_,q⟩:=one x hx;show q.two
 .obtain⟨_,_,_,_,_,q⟩:=one x hx;show q.last
 .obtain⟨_,_,_,_,hs,q⟩:=one x hx;have h1:=q.mid i z o_ hz;have h2:=q.toWy.in_ f hs z (Ag_ hz)
  rcases Aq_.mp h2 with h2|h2
  .show(Aq_.mp h2).resolve_left h1.1
  .show absurd h2 (h1.2 hi)
 .obtain⟨_,_,_,_,_,q⟩:=one x hx;have h1:=q.hop i a b ha hb;show⟨o.tie (f.fol h1),h1.2⟩
 .obtain⟨_,_,_,_,_,q⟩:=one x hx;show q.nd
 .have li:=(Ai_.mp hx).1;have lj:=(Ai_.mp hy).1;have e1:st[i]?=some (st[i]'o_):=Aa_ _;have e2:st[j]?=some (st[j]'o_):=Aa_ _;obtain⟨a,ha,ea⟩:=Ap_.mp zx;obtain⟨b,hb,eb⟩:=Ap_.mp zy;show nK_ f (wz i _ x e1 hx).toWy (wz j _ y e2 hy).toWy (A2_ _) (A2_ _) (λe=>ne ?_) a b z (by rw[Aa_ ha,ea]) (by rw[Aa_ hb,eb]);show(A4_ (i:=i) (j:=j) o_ nd).mp (by rw[e1,e2,e])
 .obtain⟨_,_,_,_,hs,q⟩:=one x hx;show q.toWy.in_ f hs
theorem qe_{U D:List Str}{L0:Tb->List Tb}(o:Op (st++Fz_ N++gl) st gl (tied (FW_ N)) L0)(f:Fs (st++Fz_ N++gl) st gl (rst (st++Fz_ N++gl) L0) L U D)(nd:(st++Fz_ N++gl).Nodup)(b:Bf L st C [])(hC:∀x∈C.map (·.1),x.1∈st++Fz_ N++gl)(no:∀g∈gl,(g,true)∉C.map (·.1))(hU:U.length<st.length){cut:List Str}(cn:cut.Nodup)(srt:cut.Pairwise sLe)(mem:∀z,z∈cut↔(z,false)∈C.map (·.1)/\(z,true)∉C.map (·.1)):Iz_ N st gl cut:=by
 have cl:∀c∈C,∀y∈L c.1,y∈C.map (·.1):=λc hc=>b.cl c hc (λh=>nomatch h);show⟨BB_ (f.cut_len (K:=C.map (·.1)) b.rc.nd (λx hx y hy=>?_) cn λz hz=>?_) hU,cn,srt,λz hz=>hC _ ((mem z).mp hz).1,λu=>u∈st++Fz_ N++gl/\(u,true)∈C.map (·.1),λs hs hc=>⟨?_,?_⟩,λu hu=>⟨hu.1,λz=>no u z hu.2⟩,λu v hu ht ne hv hc=>⟨?_,?_⟩⟩
 .obtain⟨c,hc,rfl⟩:=Ao_.mp hx;show cl c hc y hy
 .show⟨hC _ ((mem z).mp hz).1,(mem z).mp hz⟩
 .show Ax_ _ (Ax_ _ hs)
 .show Bz_ λz=>hc ((mem s).mpr ⟨Ao_.mpr ⟨_,b.rc.rt s hs,rfl⟩,z⟩)
 .rcases Aq_.mp hv with h|h
  .show Ax_ _ (AD_ _ h)
  .show AD_ _ h
 .have ug:u∉gl:=λz=>no u z hu.2
  have vV:v∈st++Fz_ N++gl:=by
   rcases Aq_.mp hv with h|h
   .show Ax_ _ (AD_ _ h)
   .show AD_ _ h
  have vs:v∉st:=λz=>by rw[A9_,AG_]at nd;show nd.2.2 v z v hv rfl
  have h0:(v,false)∈rst (st++Fz_ N++gl) L0 (u,true):=by unfold rst;rw[if_pos hu.1];show(o.t u _ hu.1).mpr ⟨rfl,ne,ug,vs,vV,ht⟩
  have h1:=f.cut_on b.rc cl hu.2 h0;show Bz_ λz=>hc ((mem v).mpr ⟨h1,z⟩)
theorem nT_{P:List Int}(h:∀x∈P,0<=x/\x<(N.posts.length:Int)){j:Nat}{x:Int}(hx:P[j]?=some x):atI (N.posts.map V.str) x=some (.str (N.posts.getD x.toNat Str.empty)):=by
 have:=h x (Ag_ hx);obtain⟨n,rfl⟩:=Cv_ this.1;have nl:n<N.posts.length:=o_
 show g3_ (j:=n) ?_;rw[Af_,Aa_ nl];simp[nl]
def Gb_(N:Net Str)(P:List Int):List Str:=P.map λx=>N.posts.getD x.toNat Str.empty
variable{A:List Int}
theorem fR_{B:List Int}(ru:GM_ N.posts.length A B)(ok:Gm_ N):A.length+B.length<=6/\(∀x∈A,0<=x/\x<(N.posts.length:Int))/\∀x∈B,0<=x/\x<(N.posts.length:Int):=by
 show⟨?_,λx hx=>ru.lt x (Ax_ _ hx),λx hx=>ru.lt x (AD_ _ hx)⟩;have:=ar_ (m:=(List.range N.posts.length).map Int.ofNat) ru.nd λx hx=>by have:=ru.lt x hx;obtain⟨n,rfl⟩:=Cv_ this.1;show Ao_.mpr ⟨n,AX_.mpr o_,rfl⟩
 rw[Al_,Ab_,Br_]at this;have:=ok.pl;lia
theorem eU_(hA:∀x∈A,0<=x/\x<(N.posts.length:Int)):∀s∈Gb_ N A,s∈N.posts:=λs hs=>by
 obtain⟨x,hx,rfl⟩:=Ao_.mp hs;have:=hA x hx;have l:x.toNat<N.posts.length:=o_
 rw[Ad_,Aa_ l];show A2_ _
theorem LD_(hA:∀x∈A,0<=x/\x<(N.posts.length:Int))(nd:A.Nodup)(po:GB_ N):(Gb_ N A).Nodup:=by
 unfold Gb_ List.Nodup;rw[Bn_];show Bw_ (λ{a b} ha hb ne z=>ne ?_) nd;have h1:=hA a ha;have h2:=hA b hb;have l1:a.toNat<N.posts.length:=o_
 have l2:b.toNat<N.posts.length:=o_
 rw[Ad_,Aa_ l1,Ad_,Aa_ l2]at z;have:=(A4_ (i:=a.toNat) (j:=b.toNat) l1 po.pnd).mp (by rw[Aa_ l1,Aa_ l2];show congrArg some z);lia
theorem qf_{B:List Int}(ru:GM_ N.posts.length A B)(ok:Gm_ N)(po:GB_ N):(Gb_ N A++Fz_ N++Gb_ N B).Nodup/\(Gb_ N A++Fz_ N++Gb_ N B).length<=28:=by
 obtain⟨A6,hA,hB⟩:=fR_ ru ok;have nAB:(Gb_ N (A++B)).Nodup:=LD_ (λx hx=>(Aq_.mp hx).elim (hA x) (hB x)) ru.nd po;have eAB:Gb_ N (A++B)=Gb_ N A++Gb_ N B:=by unfold Gb_;rw[Av_]
 rw[eAB]at nAB;have wn:(Fz_ N).Nodup:=ok.nd.filter _;have wp:∀z∈Fz_ N,z∉N.posts:=λz hz=>AJ_ (AI_.mp hz).2;obtain⟨n1,n2,n3⟩:=AG_.mp nAB;constructor
 .show AG_.mpr ⟨AG_.mpr ⟨n1,wn,λa ha b hb e=>wp b hb (e▸eU_ hA a ha)⟩,n2,λa ha b hb e=>?_⟩
  rcases Aq_.mp ha with ha|ha
  .show n3 a ha b hb e
  .show wp a ha (e▸eU_ hB b hb)
 .have:(Fz_ N).length<=N.rows.length:=AH_ (Bj_ _ _) (by rw[Ab_];show Aj_ _);have:=ok.few;rw[Al_,Al_];unfold Gb_;rw[Ab_,Ab_];lia
theorem K4_{V0 U D:List Str}{R0:Tb->List Tb}(fs:Fs V0 st gl R0 L U D){x y:Tb}(h:y∈L x):y.1∈V0:=by
 obtain⟨xv,xb⟩:=x;obtain⟨yv,yb⟩:=y
 rcases fs.fx.sub _ _ h with h1|h1
 .cases xb with
  |false=>have:=(fs.n.f _ _).mp h1;rw[this.2];show this.1
  |true=>show(fs.n.t _ _ h1).2.2.2.2.2
 .cases yb with
  |false=>show((fs.n.f _ _).mp h1).1
  |true=>show(fs.n.t _ _ h1).2.2.2.2.1
theorem KY_{V0 U D:List Str}{R0:Tb->List Tb}(fs:Fs V0 st gl R0 L U D)(v28:V0.length<=28)(x:Tb):(L x).length<=60:=by show AH_ (ar_ (fs.fx.nd x) (m:=HA_ V0) λy hy=>d1_.mpr (K4_ fs hy)) ?_;rw[gZ_];lia
theorem eV_{p pn p0 p1 p2:Addr}{Q:VK}(hn:H pn=some (.tup [.ref p0,.ref p1,.ref p2]))(h0:H p0=some (.lst (N.posts.map V.str)))(hp:H p=some (.lst (A.map V.int)))(hA:∀x∈A,0<=x/\x<(N.posts.length:Int))(hl:A.length<=100)(k:∀D H',Fo_ H H'->H D=none->H' D=some (.lst ((Gb_ N A).map V.str))->Q (.ref D) H'):
  Id_ (Itl K p) (Hm_ 0) KM_ (tOp J2_ (tOp JV_ (Ki_ 1) (tC (V.int 0))) (Ki_ 0)) [none,some (V.ref pn)] H Q:=by
 show cA_ (n:=A.length) (B:=λ_=>none) (Pσ:=λσ=>∃e,σ=[e,some (V.ref pn)]) (ds:=(Gb_ N A).map dS) (λb o e=>nomatch e) ⟨_,rfl⟩ (by unfold Gb_;simp) o_ (λi H' hi s'=>⟨_,.int (A.getD i 0),.inl (.inl (s' _ _ hp)),by rw[Af_,Aa_ hi];simp[hi]⟩) (λH' s'=>⟨_,.inl (.inl (s' _ _ hp)),s_⟩) ?_ ?_
 .rintro D i x dt σ' H2 H2' hD hDo hs2 hi hdi ⟨rfl,hy⟩ ⟨e,rfl⟩ R kR;have hx:=hy _ (.inl (.inl (hs2 _ _ hp)));have hx':A[i]?=some (A.getD i 0):=by rw[Aa_ hi];simp[hi]
  rw[Af_,hx']at hx;cases hx;have hd2:dt=dS (N.posts.getD (A.getD i 0).toNat Str.empty):=by unfold Gb_ at hdi;rw[Af_,Af_,hx']at hdi;show(AB_ hdi).symm
  nofun;show⟨_,hs2 _ _ hn,_,Gc_,p0,rfl,_,hs2 _ _ h0,_,nT_ hA hx',kR _ _ _ ⟨_,rfl⟩ (Fo_.refl _) (by rw[hd2];rfl)⟩
 .intro D H2 hD s2 rep2;obtain⟨_,us,e0,hu',hus⟩:=id rep2;cases e0;rw[dX_ hus]at hu';show k D H2 s2 hD (aY_ hu').2
abbrev Ft_:Stmt:=stN 10
theorem aT_:ZM ["net","P","Q","starts","goals","onward","start","came_from","ends","stuck"] ["net","P","Q"] (Fp_ Ft_):=zM
theorem bl_:LK Ft_ "starts" .local:=r_
theorem ct_:LK Ft_ "goals" .local:=r_
theorem bG_:LK Ft_ "onward" .local:=r_
theorem gK_:LK Ft_ "start" .local:=r_
theorem cu_:LK Ft_ "came_from" .cell:=r_
theorem cv_:LK Ft_ "ends" .local:=r_
theorem eb_:LK Ft_ "stuck" .local:=r_
theorem b9_:LK Ft_ "lay_one_way_more" .globalImplicit:=r_
theorem fS_:LK Ft_ "len" .globalImplicit:=r_
theorem cV_:LK Ft_ "reached_from" .globalImplicit:=r_
theorem eD_:LK Ft_ "sorted" .globalImplicit:=r_
theorem di_:LK Ft_ "steps_open" .globalImplicit:=r_
theorem dB_:LK Ft_ "ways_laid" .globalImplicit:=r_
def Hz_:Sp:=λvs H Q _=>∃(v:V)(N:Net Str)(p q:Addr)(A B:List Int),vs=[v,.ref p,.ref q]/\Rep H v (G7_ N)/\Gm_ N/\GB_ N/\H p=some (.lst (A.map V.int))/\H q=some (.lst (B.map V.int))/\GM_ N.posts.length A B /\
 (∀r c cut H',Fo_ H H'->H' r=some (.tup [.str (Str.ofString "cut"),.ref c])->H' c=some (.lst (cut.map V.str))->H r=none->H c=none->Iz_ N (Gb_ N A) (Gb_ N B) cut->Q (.ref r) H') /\
 ∀r c was ws H',Fo_ H H'->H' r=some (.tup [.str (Str.ofString "ways"),.ref c])->H' c=some (.lst (was.map V.ref))->Il_ H' was ws->H r=none->H c=none->(∀a∈was,H a=none/\a≠c)->Kl_ N (Gb_ N A) (Gb_ N B) ws->Q (.ref r) H'
theorem hR_(T:Txt K mg)(F:Fn0 K mg "ways_or_cut" Ft_) (HK_:Cal P w K mg base "steps_open" ["net","starts","goals"] 3 (IT_ P w)) (Ha_:Cal P w K mg base "reached_from" ["starts","onward"] 1 (H9_ P w)) (GI_:Cal P w K mg base "lay_one_way_more" ["onward","came_from","goal"] 1 (JN_ P w)) (HX_:Cal P w K mg base "ways_laid" ["starts","onward"] 1 (IE_ P w)):Cal P w K mg base "ways_or_cut" ["net","P","Q"] 4 Hz_:=by
  show aU_ F aT_.1 λf cdv A0 outer s0 H vs Q E hr h=>?_;obtain⟨v,N,p,q,A,B,rfl,hv,ok,po,hp,hq,ru,k1,k2⟩:=h;obtain⟨pn,p0,p1,p2,rs,ws,rfl,hn,h0,h1,r1,h2,r2⟩:=b5_ hv;refine'⟨_,?D,?R⟩
  case D =>
   refine' ai_ (dL_ (i:=3) (N':=["number","net"]) (ix:=[none,some 0]) rfl rfl aT_.nd rfl bl_ rfl (bL_ ?a) (ax_ (K:=K) rfl (zw 1 aT_)) (λ_ _ _=>?b) (λ_ _ _=>?c) (λ_ _ _=>(Fv_ an_ (Fv_ ao_ (pvc 1 rfl rfl) ac_) (pv1 0 rfl rfl)))) ?d
   case a=>show(by change G5_ (Fp_ Ft_) ["net","P","Q","starts","goals","onward","start","came_from","ends","stuck"] _ _ _=true;decide +kernel)
   case b=>show ah_ (i:=0) (by change List.Nodup (["number","net"]:List Str);decide +kernel) rfl rfl
   case c=>show dk_
   case' d=>refine' ai_ (dL_ (i:=4) (N':=["number","net"]) (ix:=[none,some 0]) rfl rfl aT_.nd rfl ct_ rfl (bL_ ?e) (ax_ (K:=K) rfl (zw 2 aT_)) (λ_ _ _=>?f) (λ_ _ _=>?g) (λ_ _ _=>(Fv_ an_ (Fv_ ao_ (pvc 1 rfl rfl) ac_) (pv1 0 rfl rfl)))) ?h
   case e=>show(by change G5_ (Fp_ Ft_) ["net","P","Q","starts","goals","onward","start","came_from","ends","stuck"] _ _ _=true;decide +kernel)
   case f=>show ah_ (i:=0) (by change List.Nodup (["number","net"]:List Str);decide +kernel) rfl rfl
   case g=>show dk_
   case' h=>refine' ai_ (aj_ (i:=5) aT_.nd rfl bG_ (am_ HK_ (hr.mono d_) di_ (pa_c (zw 0 aT_) (pa_c (zw 3 aT_) (pa_c (zw 4 aT_) ab_))))) ?i
   case' i=>refine' ad_ (aO_ AC_ rfl (ax_ (K:=K) rfl (zw 3 aT_)) ?j (ai_ (ek_ (i:=7) aT_.nd rfl cu_ rfl (am_ Ha_ (hr.mono d_) cV_ (pa_c (zw 3 aT_) (pa_c (zw 5 aT_) ab_))) rfl) ?k)) ?l
   case j=>show ah_ (i:=6) aT_.nd rfl gK_
   case' k=>refine' ai_ (dL_ (i:=8) (N':=["goal","came_from"]) (ix:=[none,some 7]) rfl rfl aT_.nd rfl cv_ rfl (bL_ ?m) (ax_ (K:=K) rfl (zw 4 aT_)) (λ_ _ _=>?n) (λ_ _ _=>(g9_ (ft_ (p2_ (P:=P) (w:=w) rfl rfl (un2 hr.units) (aF_ (pa_c (pv1 0 rfl rfl) (pa_c F7_ ab_))) (pvc 1 rfl rfl))))) (λ_ _ _=>(pv1 0 rfl rfl))) ?o
   case m=>show(by change G5_ (Fp_ Ft_) ["net","P","Q","starts","goals","onward","start","came_from","ends","stuck"] _ _ _=true;decide +kernel)
   case n=>show ah_ (i:=0) (by change List.Nodup (["goal","came_from"]:List Str);decide +kernel) rfl rfl
   case' o=>refine' ad_ ?p (af_ (aK_ (am_ GI_ (hr.mono d_) b9_ (pa_c (zw 5 aT_) (pa_c (zw 7 aT_) (pa_c (Fv_ an_ (zw 8 aT_) ac_) ab_))))))
   case' p=>refine' F4_ (aq_ GP_ (ak_ al_ fS_ T.n_len aH_ (pa_c (zw 8 aT_) ab_)) ac_ (FJ_ _)) (ai_ (dL_ (i:=9) (N':=["place","came_from"]) (ix:=[none,some 7]) rfl rfl aT_.nd rfl eb_ rfl (bL_ ?q) ((iH_ (P:=P) (w:=w) rfl rfl) (zw 7 aT_)) (λ_ _ _=>?r) (λ_ _ _=>?s) (λ_ _ _=>(Fv_ ao_ (pv1 0 rfl rfl) ac_))) ?t) aI_
   case q=>show(by change G5_ (Fp_ Ft_) ["net","P","Q","starts","goals","onward","start","came_from","ends","stuck"] _ _ _=true;decide +kernel)
   case r=>show ah_ (i:=0) (by change List.Nodup (["place","came_from"]:List Str);decide +kernel) rfl rfl
   case' s=>refine' g9_ (PW.pt (eg_ (eh_ (d7_ (Fv_ ao_ (pv1 0 rfl rfl) ac_))) ?u))
   case' u=>refine' dG_ (ft_ (jz_ (P:=P) (w:=w) rfl rfl (un2 hr.units) (aF_ (pa_c (Fv_ ao_ (pv1 0 rfl rfl) ac_) (pa_c F7_ ab_))) (pvc 1 rfl rfl)))
   case' t=>refine' af_ (az_ (aF_ (pa_c fs_ (pa_c (ak_ h6_ eD_ T.n_sorted ej_ (pa_c (zw 9 aT_) ab_)) ab_))))
   case' l=>refine' af_ (az_ (aF_ (pa_c fs_ (pa_c (am_ HX_ (hr.mono d_) dB_ (pa_c (zw 3 aT_) (pa_c (zw 5 aT_) ab_))) ab_))))
  case R =>
   nofun;obtain⟨A6,hA,hB⟩:=fR_ ru ok;show⟨⟨_,.inl (.inl hp)⟩,eV_ hn h0 hp hA o_ λs Ha Sa ns hs=>?_⟩;nofun;show⟨⟨_,.inl (.inl (Sa _ _ hq))⟩,eV_ (Sa _ _ hn) (Sa _ _ h0) (Sa _ _ hq) hB o_ λg Hb Sb ng hg=>?_⟩;have hs':=Sb _ _ hs;have ls6:(Gb_ N A).length<=6/\(Gb_ N B).length<=6:=by unfold Gb_;rw[Ab_,Ab_];lia
   have Sab:=Sa.trans Sb;have VN:=qf_ ru ok po;have len0:0<(Gb_ N A).length:=by unfold Gb_;rw[Ab_];show ru.pos
   obtain⟨VN,V28⟩:=VN;clear ru hA hB A6 po;generalize Gb_ N A=st at*;generalize Gb_ N B=gl at*;have nst:st.Nodup:=(AG_.mp (AG_.mp VN).1).1;have sgl:∀x∈st,x∉gl:=λx hx hg=>(AG_.mp VN).2.2 x (Ax_ _ hx) x hg rfl;nofun;show⟨_,N,s,g,st,gl,rfl,Rep.mono Sab _ hv,ok,hs',hg,VN,ls6.1,ls6.2,λd ks ls L0 H0 on0 hks op=>?_⟩;have n0:=op.n0 (λx hx=>Ax_ _ (Ax_ _ hx)) sgl;have fs0:=Fs.start n0;have k56:ks.length<=56:=by have:=ar_ on0.kn (m:=HA_ (st++Fz_ N++gl)) λx hx=>d1_.mpr ((hks x).mp hx);rw[gZ_]at this;lia
   have on0':On P w Hb H0 d ks ls (rst (st++Fz_ N++gl) L0):=on0.ext λx hx=>by unfold rst;rw[if_pos ((hks x).mp hx)]
   nofun;show⟨⟨_,.inl (.inl (on0.sS _ _ hs'))⟩,?_⟩;show bE_ (xs:=st.map V.str) (λi σ Hx=>∃(e6 e7 e8 e9:Option V)(L:Tb->List Tb)(U D:List Str),σ=[some (V.ref pn),some (V.ref p),some (V.ref q),some (V.ref s),some (V.ref g),some (V.ref d),e6,e7,e8,e9]/\On P w Hb Hx d ks ls L/\Fs (st++Fz_ N++gl) st gl (rst (st++Fz_ N++gl) L0) L U D/\U.length=i) ⟨none,none,none,none,_,[],[],rfl,on0',fs0,rfl⟩ ?_ ?_ ?_
   .rintro i σ Hx hi ⟨e6,e7,e8,e9,L,U,D,rfl,on,fs,ul⟩;show .inl (.inl (on.sS _ _ hs'))
   .rintro i x σ Hx hx kk kb hk hb G hG ⟨e6,e7,e8,e9,L,U,D,rfl,on,fs,ul⟩;show hG ?_;rw[Af_]at hx;obtain⟨sx,hsx,rfl⟩:=AR_.mp hx;have ist:=(Ai_.mp hsx).1;nofun;show⟨Hb,s,d,st,ks,ls,L,rfl,on,hs',nst,ls6.1,λx hx=>(hks _).mpr (Ax_ _ (Ax_ _ hx)),λx y _ hy=>(hks _).mpr (K4_ fs hy),KY_ fs V28,o_,λc kvs C H1 on1 nc cf bf hC=>?_⟩;have cn:=on.not nc;clear on;nofun;show⟨⟨_,.inl (.inl (on1.sS _ _ hg))⟩,?_⟩;have hg1:=on1.sS _ _ hg;show cK_ (n:=gl.length) (B:=λ_=>none) (Pσ:=λσ=>∃e,σ=[e,some (.ref c)]) (bs:=λi=>decide ((gl.getD i Str.empty,true)∈C.map (·.1))) (val:=λi=>dS (gl.getD i Str.empty)) (λb o e=>by cases e) ⟨_,rfl⟩ o_ (λj H2 hj s2=>⟨_,.str (gl.getD j Str.empty),.inl (.inl (s2 _ _ hg1)),aM_ hj⟩) (λH2 s2=>⟨_,.inl (.inl (s2 _ _ hg1)),s_⟩) ?_ ?_
    .rintro D1 i y σ' H3 H3' hD hDo hs3 hi ⟨rfl,hy⟩ ⟨e2,rfl⟩ Y R kY kR;have hx2:=hy _ (.inl (.inl (hs3 _ _ hg1)));rw[aM_ hi]at hx2;cases hx2;nofun;show⟨d_,λq1 n1=>?_⟩;have S1:=Fo_.new n1 (o:=HO.tup [V.str (gl.getD i Str.empty),V.bl true]);show⟨_,(cf.mono (hs3.trans S1)).D,(gl.getD i Str.empty,true),aa_,?_⟩;rw[cf.has];by_cases hc:(gl.getD i Str.empty,true)∈C.map (·.1)
     .rw[if_pos (As_ hc)];show kY (As_ hc) _ _ _ ⟨_,rfl⟩ S1 rfl
     .rw[if_neg (by rw[At_ hc];decide)];show kR (At_ hc) _ _ ⟨_,rfl⟩ S1
    intro e1 H2 ne1 S2 rep2;rw[b7_ Str.empty (λz=>decide ((z,true)∈C.map (·.1))) dS gl]at rep2;obtain⟨_,us,e0,hu',hus⟩:=id rep2;cases e0;rw[dX_ hus]at hu';have he1:=(aY_ hu').2;clear rep2 hu' hus;have on2:=on1.mono S2;have cf2:=cf.mono S2;obtain⟨es,hes⟩:∃es,es=gl.filter λz=>decide ((z,true)∈C.map (·.1)):=⟨_,rfl⟩;rw[<-hes]at he1;clear on1 cf S2 hg1;nofun;show⟨_,.inl he1,?_⟩;rw[Ab_];show ite2 (λhz=>?_) (λhz=>?_)
    .have e0:es=[]:=Bo_ o_
     have no:∀z∈gl,(z,true)∉C.map (·.1):=λz hz hm=>by
      have:z∈es:=by rw[hes];show AI_.mpr ⟨hz,As_ hm⟩
      rw[e0]at this;cases this
     nofun;show⟨_,cf2.D,λob xs H3 o3 pb=>?_⟩;obtain⟨φc,ec⟩:=cf2.D.some;have on3:=on2.other ec o3 cn.1 cn.2.1 cn.2.2;have cf3:Cf P w H3 c kvs C:=⟨⟨_,pb.db⟩,cf2.len,λj k o e=>let⟨v,a,b⟩:=cf2.at_ j k o e;⟨v,a,b.keep λb' ys e=>(o3 b' λz=>by rw[z,ec]at e;cases e).trans e⟩⟩;have sb3:=on3.sS;obtain⟨ky,hky⟩:∃ky,ky=C.map (·.1):=⟨_,rfl⟩;have kyl:ky.length=kvs.length:=by rw[hky,Ab_,cf2.len]
     have kyn:ky.Nodup:=by rw[hky];show bf.rc.nd
     have k56':ky.length<=56:=AH_ (by rw[hky];show ar_ bf.rc.nd hC) k56;have kyk:kvs.map (·.1)=ky:=by rw[hky];show cf3.keys
     clear on2 cf2 o3 ec;show cK_ (n:=ky.length) (B:=λ_=>none) (Pσ:=λσ=>∃e,σ=[e,some (.ref c)]) (bs:=λi=>decide ((ky.getD i (Str.empty,true)).2=false/\((ky.getD i (Str.empty,true)).1,true)∉ky)) (val:=λi=>dS (ky.getD i (Str.empty,true)).1) (λb o e=>by cases e) ⟨_,rfl⟩ o_ (λj H4 hj s4=>⟨pb.keep ((s4 _ _ pb.at_).trans pb.at_.symm) λb ys e=>s4 _ _ e,o_⟩) (λH4 s4=>⟨pb.keep ((s4 _ _ pb.at_).trans pb.at_.symm) λb ys e=>s4 _ _ e,o_⟩) ?_ ?_
     .rintro D1 i y σ' H4 H4' hD hDo hs4 hi ⟨rfl,k0,v0,b0,hk0,rfl,kb0⟩ ⟨e2,rfl⟩ Y R kY kR
      have hkd:ky.getD i (Str.empty,true)=k0:=by
       have:ky[i]?=some k0:=by rw[<-kyk,Af_,hk0];rfl
       rw[Ad_,this];rfl
      rw[hkd]at kY kR;nofun;obtain⟨kz,kb⟩:=k0;show⟨_,kb0,_,rfl,kb,rfl,?_⟩;cases kb with
      |true =>
       rw[if_neg d_];show kR (At_ λz=>nomatch z.1) _ _ ⟨_,rfl⟩ (Fo_.refl _)
      |false =>
       rw[if_pos rfl];show⟨_,kb0,_,rfl,d_,λq1 n1=>?_⟩;have S1:=Fo_.new n1 (o:=HO.tup [V.str kz,V.bl true]);show⟨_,(cf3.mono (hs4.trans S1)).D,(kz,true),aa_,?_⟩;rw[cf3.has,<-hky];by_cases hc:(kz,true)∈ky
       .rw[if_neg (by rw[As_ hc];decide)];show kR (At_ λz=>z.2 hc) _ _ ⟨_,rfl⟩ S1
       .rw[if_pos (At_ hc)];show⟨_,S1 _ _ kb0,_,rfl,kY (As_ ⟨rfl,hc⟩) _ _ _ ⟨_,rfl⟩ S1 rfl⟩
     intro D1 H4 nD1 S4 rep4;rw[b7_ (Str.empty,true) (λk=>decide (k.2=false/\(k.1,true)∉ky)) (λk=>dS k.1) ky]at rep4;obtain⟨zs,hzs⟩:∃zs,zs=(ky.filter λk=>decide (k.2=false/\(k.1,true)∉ky)).map (·.1):=⟨_,rfl⟩;rw[show(ky.filter λk=>decide (k.2=false/\(k.1,true)∉ky)).map (λk=>dS k.1)=zs.map dS by rw[hzs,Bv_];rfl]at rep4;obtain⟨_,us,e0',hu',hus⟩:=id rep4;cases e0';rw[dX_ hus]at hu';have hD1:=(aY_ hu').2;have zl:zs.length<=56:=by rw[hzs,Ab_];show AH_ (Bj_ _ _) k56'
     have zn:zs.Nodup:=by rw[hzs];unfold List.Nodup;rw[Bn_];show Bw_ (λ{a b} ha hb ne z=>ne (Bl_ z ?_)) (kyn.filter _);rw[(AJ_ (AI_.mp ha).2).1,(AJ_ (AI_.mp hb).2).1]
     have zm:∀z,z∈zs↔(z,false)∈ky/\(z,true)∉ky:=λz=>by
      rw[hzs,Ao_];constructor
      .rintro⟨⟨a,b⟩,hm,rfl⟩;obtain⟨h1,h2⟩:=AI_.mp hm;obtain⟨h2,h3⟩:=AJ_ h2
       dsimp only at h2
       subst h2;show⟨h1,h3⟩
      .show λh=>⟨(z,false),AI_.mpr ⟨h.1,As_ ⟨rfl,h.2⟩⟩,rfl⟩
     clear rep4 hu' hus;have sb4:=sb3.trans S4;nofun;show⟨D1,zs,rfl,hD1,o_,λl cut nl pm srt=>⟨d_,λr nr=>?_⟩⟩;have S5:=Fo_.new nl (o:=HO.lst (cut.map V.str));have S6:=Fo_.new nr (o:=HO.tup [V.str (Str.ofString "cut"),V.ref l]);have sb5:=Sab.trans (sb4.trans S5);show k1 r l cut _ (sb5.trans S6) aa_ (S6 _ _ aa_) (sb5.free nr) ((Sab.trans sb4).free nl) (qe_ op fs VN bf (λx hx=>(hks x).mp (hC x hx)) no o_ (pm.nodup_iff.mpr zn) srt λz=>by rw[pm.mem_iff,zm,hky])
    .obtain⟨g0,es',e0⟩:∃g0 es',es=g0::es':=List.exists_cons_of_ne_nil λe=>hz (by rw[e];rfl)
     have hg0:g0∈gl/\(g0,true)∈C.map (·.1):=by
      have:g0∈es:=by rw[e0];show An_
      rw[hes]at this;show⟨(AI_.mp this).1,AJ_ (AI_.mp this).2⟩
     show⟨_,he1,_,by rw[e0];show Gc_,Hb,d,c,g0,ks,ls,L,_,_,st,gl,kvs,C,_,rfl,on2,cf2,λm=>?_,fs.n,fs.fx,bf.rc,hC,hg0.2,hks,V28,λL' s' H4 hs4 on4 fx4 hne=>?_⟩
     .rcases Ar_.mp m with m|m
      .show cn.1 m.symm
      .show cn.2.1 m
     .obtain⟨pr,hpr⟩:∃pr,(g0,true)∈L pr:=by
       obtain⟨cc,hcc,ec⟩:=Ao_.mp hg0.2;obtain⟨k0,o⟩:=cc
       dsimp only at ec
       subst ec;obtain⟨j,hj,ej⟩:=Ap_.mp hcc;cases o with
       |none =>
        obtain⟨_,_,e⟩:=bf.rc.no _ hcc;cases e
       |some pr =>obtain⟨_,_,_,_,q⟩:=bf.rc.par j _ pr (by rw[Aa_ hj,ej]);show⟨pr,q⟩
      show hk _ _ ⟨_,_,_,_,L',s'::U,g0::D,rfl,on4,fs.more hs4 hg0.1 hpr hne fx4,by rw[AM_,ul]⟩
   .rintro σ Hx ⟨e6,e7,e8,e9,L,U,D,rfl,on,fs,ul⟩;rw[Ab_]at ul;nofun;show⟨Hb,s,d,_,st,gl,U,D,_,L,ks,ls,rfl,on,hs',fs,?_,V28,ls6.1,hks,k56,KY_ fs V28,λr was ws H1 s1 hr wa Sr fr wl wz=>?_⟩
    .show λx hx=>Bz_ λz=>by have:=ar_ (AU_.mpr ⟨z,fs.un⟩) (m:=st) λy hy=>(Ar_.mp hy).elim (λe=>e▸hx) (fs.us y);rw[AM_]at this;lia
    nofun;show⟨d_,λr2 nr2=>?_⟩;have S2:=Fo_.new nr2 (o:=HO.tup [V.str (Str.ofString "ways"),V.ref r]);show k2 r2 r was ws _ ((Sab.trans s1).trans S2) aa_ (S2 _ _ hr) (wa.keep λb hb=>ae_ λe=>?_) ((Sab.trans s1).free nr2) (Sab.free Sr) (λa ha=>⟨Sab.free (fr a ha).1,(fr a ha).2⟩) (Lx_ op fs nst wl wz);obtain⟨j,hj,e2⟩:=Ap_.mp hb;have:=wa.at_ j b (ws[j]'(by rw[<-wa.len];show hj)) (by rw[Aa_ hj,e2]) (Aa_ _);rw[e,nr2]at this;cases this
def p1(kv:Str×List (End Str)):Str:=(kv.2.head?.map (·.1)).getD Str.empty
def p2(kv:Str×List (End Str)):Str:=(kv.2[1]?.map (·.1)).getD Str.empty
theorem kN_:x∈(FW_ N).map (·.1)↔x∈N.all:=by
 have sp:=cE_ _ (occ N.rows) rfl;have e:(occ N.rows).map (·.1)=N.all:=hn_ N.rows;rw[<-e];constructor
 .intro h;obtain⟨kv,h1,rfl⟩:=Ao_.mp h;obtain⟨y,h2,h3⟩:=sp.2.2.2 kv h1;show Ao_.mpr ⟨y,h2,h3⟩
 .intro h;obtain⟨y,h1,rfl⟩:=Ao_.mp h;obtain⟨kv,h2,h3⟩:=sp.2.2.1 y h1;show Ao_.mpr ⟨kv,h2,h3⟩
theorem j2_{ws:List V}{wo:List (Str×(Int×Int))}{x:V}(h:FM_ H ws (wo.map dWo))(e:ws[i]?=some x):∃r q u,wo[i]?=some r/\x=.ref q/\H q=some (.tup [.str r.1,.ref u])/\H u=some (.tup [.int r.2.1,.int r.2.2]):=by
 obtain⟨d,hd,hr⟩:=h.of_get e;rw[Af_]at hd;cases z:wo[i]? with
 |none=>rw[z]at hd;cases hd
 |some r =>rw[z]at hd;cases hd;obtain⟨a,_,ea,ha,x1,_,e1,hx1,x2,_,e2,hx2,e3⟩:=hr;subst e3 e2 e1;cases hx1;obtain⟨u,rfl,hu⟩:=lc_ hx2;show⟨r,a,u,rfl,ea,ha,hu⟩
abbrev GC_:Stmt:=stN 29
theorem mW_:ZL ["_law_net"] ["_law_net"] (Fp_ GC_):=zL
theorem iS_:LK GC_ "len" .globalImplicit:=r_
def smal(r:Str×(Int×Int)):Str×(Int×Int):=(r.1,nf (1+r.2.1%5) (1+r.2.2%3))
def Ib_:Sp:=λvs H Q _=>∃(v:V)(N:Net Str),vs=[v]/\Rep H v (G7_ N)/\Gm_ N/\WOk N/\∀v' (N':Net Str) H',Fo_ H H'->Rep H' v' (G7_ N')->Gm_ N'->WOk N'->N'.rows=N.rows->N'.posts=N.posts->Q v' H'
theorem mX_(T:Txt K mg)(F:Fn0 K mg "_law_small" GC_) (I0_:Cal P w K mg base "_law_low" ["_law_top","_law_bottom"] 1 IQ_):Cal P w K mg base "_law_small" ["_law_net"] 2 Ib_:=by
  show aU_ F mW_.1 λf cdv A outer s H vs Q E hr h=>?_;obtain⟨v,N,rfl,hv,ok,wo,k⟩:=h;obtain⟨pn,p0,p1,p2,rs,ws,rfl,hn,h0,h1,r1,h2,r2⟩:=b5_ hv;have wl:ws.length=N.worths.length:=by rw[r2.length,Ab_]
  have w15:=ok.wl;refine'⟨_,?D,?R⟩
  case D =>
   refine' ad_ (F4_ (aq_ HI_ (ak_ al_ iS_ T.n_len aH_ (pa_c (Fv_ ao_ (zv 0 mW_) ac_) ab_)) ac_ (FJ_ _)) (af_ (az_ (zv 0 mW_))) aI_) ?a
   case' a=>refine' af_ (az_ (aF_ (pa_c (Fv_ ao_ (zv 0 mW_) ac_) (pa_c (Fv_ ao_ (zv 0 mW_) ac_) ?b))))
   case' b=>refine' pa_c (cG_ (N':=["_law_wire","_law_worth"]) (ix:=[none,none]) rfl rfl (bL_ ?c) (ax_ (K:=K) rfl (Fv_ ao_ (zv 0 mW_) ac_)) (λ_ _ _=>(bp_ (K:=K) (n:=2) rfl rfl (au_ ?d (au_ ?e bm_)))) (λ_ _ _=>?f) (λ_ _ _=>?g)) ab_
   case c=>show(by change G5_ (Fp_ GC_) ["_law_net"] _ _ _=true;decide +kernel)
   case d=>show ah_ (i:=0) (by change List.Nodup (["_law_wire","_law_worth"]:List Str);decide +kernel) rfl rfl
   case e=>show ah_ (i:=1) (by change List.Nodup (["_law_wire","_law_worth"]:List Str);decide +kernel) rfl rfl
   case f=>show dk_
   case' g=>refine' aF_ (pa_c (pv1 0 rfl rfl) (pa_c (am_ I0_ (hr.mono d_) rfl ?h) ab_))
   case' h=>refine' pa_c (Fs_ aS_ ac_ (Fs_ aJ_ (Fv_ ao_ (pv1 1 rfl rfl) ac_) ac_)) (pa_c (Fs_ aS_ ac_ (Fs_ aJ_ (Fv_ ao_ (pv1 1 rfl rfl) ac_) ac_)) ab_)
  case R =>
   nofun;show⟨_,hn,_,Ip_,p2,rfl,ws,.inl h2,ite2 (λ_=>k _ N H (Fo_.refl _) hv ok wo rfl rfl) (λ_=>?_)⟩;show⟨_,hn,_,Gc_,_,hn,_,GE_,_,hn,_,Ip_,p2,rfl,⟨_,.inl (.inl h2)⟩,?_⟩;show cA_ (n:=N.worths.length) (B:=λ_=>none) (Pσ:=λσ=>∃e e',σ=[e,e']) (ds:=(N.worths.map smal).map dWo) (λb o e=>by cases e) ⟨_,_,rfl⟩ s_ o_ (λi H' hi s'=>⟨ws,ws[i]'o_,.inl (.inl (s' _ _ h2)),Aa_ _⟩) (λH' s'=>⟨ws,.inl (.inl (s' _ _ h2)),o_⟩) ?_ ?_
   .rintro D i x d σ' H2 H2' hD hDo hs2 hi hdi ⟨rfl,hy⟩ ⟨e,e',rfl⟩ R kR;have hx:=hy _ (.inl (.inl (hs2 _ _ h2)));obtain⟨r,q,u,hr1,rfl,hq,hu⟩:=j2_ r2 hx;have hd:d=dWo (smal r):=by rw[Af_,Af_,hr1]at hdi;show(AB_ hdi).symm
    have m3:=AY_ r.2.2 (show(3:Int)≠0 by decide);have m4:=AQ_ r.2.2 (show(0:Int)<3 by decide);have hu2:=hs2 _ _ hu;obtain⟨oD,hDo⟩:=hDo;nofun;show⟨_,SqT.of (hs2 _ _ hq),rfl,_,_,rfl,_,_,rfl,rfl,u,rfl,_,hu2,_,Gc_,_,rfl,d_,u,rfl,_,hu2,_,GE_,_,rfl,d_,_,_,rfl,o_,CA_ (b:=1000) o_ d_,λz H3 s3 rep3=>⟨d_,λt nt=>kR _ _ _ ⟨_,_,rfl⟩ (s3.trans (Fo_.new nt)) ?_⟩⟩;obtain⟨_,e9,hz⟩:=lc_ rep3;cases e9;obtain⟨z1,z2⟩:=aY_ hz;have zD:z≠D:=(ag_ hDo z1).symm;have tD:t≠D:=(ag_ (s3 _ _ hDo) nt).symm;rw[hd];show⟨t,_,rfl,by rw[bo_ tD rfl];show aa_,_,_,rfl,rfl,_,_,rfl,⟨z,_,rfl,by rw[bo_ zD rfl];show(Fo_.new nt) _ _ z2,_,_,rfl,rfl,_,_,rfl,rfl,rfl⟩,rfl⟩
   .intro D H2 hD s2 rep2;show⟨d_,λpe ne=>?_⟩;have S4:=Fo_.new ne (o:=HO.tup [V.ref p0,V.ref p1,V.ref D]);have s4:=s2.trans S4;have e1:(N.worths.map smal).map (·.1)=N.worths.map (·.1):=by rw[Bv_];rfl
    show k _ ⟨N.posts,N.rows,N.worths.map smal⟩ _ s4 ⟨pe,_,rfl,aa_,_,_,rfl,⟨p0,_,rfl,s4 _ _ h0,bz_ _⟩,_,_,rfl,⟨p1,rs,rfl,s4 _ _ h1,FM_.mono s4 _ r1⟩,_,_,rfl,Rep.mono (cI_.trans S4) _ rep2,rfl⟩ ⟨ok.nd,ok.two,ok.few,ok.tot,ok.pl,by change(N.worths.map smal).length<=15;rw[Ab_];show w15⟩ ⟨by change((N.worths.map smal).map (·.1)).Nodup;rw[e1];show wo.nd,λx=>?_,λx hx=>?_⟩ rfl rfl
    .change x∈(N.worths.map smal).map (·.1)↔x∈N.all;rw[e1];show wo.mem x
    .obtain⟨r,hr,rfl⟩:=Ao_.mp hx;have m1:=AY_ r.2.1 (show(5:Int)≠0 by decide);have m2:=AQ_ r.2.1 (show(0:Int)<5 by decide);have m3:=AY_ r.2.2 (show(3:Int)≠0 by decide);have m4:=AQ_ r.2.2 (show(0:Int)<3 by decide);show K1_ o_ o_ o_ o_
def Hn_(N:Net Str)(x:Str):Str×List (End Str):=((FW_ N).find? λkv=>decide (kv.1=x)).getD (x,[])
def GU_(N:Net Str):List (Str×Str×(Int×Int)):=N.worths.map λr=>(Rim49.p1 (Hn_ N r.1),Rim49.p2 (Hn_ N r.1),r.2)
def dTi(t:Str×Str×(Int×Int)):Dt:=.tup [.str t.1,.str t.2.1,dF t.2.2]
theorem iT_{kv:Str×List (End Str)}(h:kv∈FW_ N):Hn_ N kv.1=kv:=by
 unfold Hn_;cases e:(FW_ N).find? λq=>decide (q.1=kv.1)with
 |none =>
  have:=List.find?_eq_none.mp e kv h;simp at this
 |some q =>have h1:=CS_ e;have h2:q.1=kv.1:=AJ_ (by simpa using Eu_ e);change q=kv;obtain⟨i,hi,ei⟩:=Ap_.mp h1;obtain⟨j,hj,ej⟩:=Ap_.mp h;have z:=(D4_ (h₀:=by rw[Ab_];show hi) (h₁:=by rw[Ab_];show hj) (ms_ N)).mp (by rw[Cc_,Cc_,ei,ej];show h2);subst z;rw[<-ei,<-ej]
def dP(e:End Str):Dt:=.str e.1
theorem mY_{S:Hp}:∀{vs:List V}{es:List (End Str)},FM_ S vs (es.map dP)->vs=es.map λe=>V.str e.1
 |_,[],h=>h
 |_,e::es,⟨x,l,e1,hx,hl⟩=>by subst e1;cases hx;rw[mY_ hl];rfl
abbrev Gq_:Stmt:=stN 30
theorem fT_:ZM ["_law_net","_law_ties_here","_law_point","_law_wires","_law_wire"] ["_law_net"] (Fp_ Gq_):=zM
theorem ic_:LK Gq_ "_law_ties_here" .cell:=r_
theorem id_:LK Gq_ "_law_point" .local:=r_
theorem ie_:LK Gq_ "_law_wires" .local:=r_
theorem if_:LK Gq_ "_law_wire" .local:=r_
def IK_:Sp:=λvs H Q _=>∃(v:V)(N:Net Str),vs=[v]/\Rep H v (G7_ N)/\Gm_ N/\WOk N/\∀D H',Fo_ H H'->H D=none->Rep H' (.ref D) (.lst ((GU_ N).map dTi))->Q (.ref D) H'
theorem nU_(T:Txt K mg)(F:Fn0 K mg "_law_ties" Gq_):Cal P w K mg base "_law_ties" ["_law_net"] 1 IK_:=by
  show aU_ F fT_.1 λf cdv A outer s H vs Q E hr h=>?_;obtain⟨v,N,rfl,hv,ok,wo,k⟩:=h;refine'⟨_,?D,?R⟩
  case D =>
   refine' ad_ (ek_ (i:=1) fT_.nd rfl ic_ rfl eO_ rfl) ?a
   case' a=>refine' ad_ (aO_ AC_ rfl (ax_ (K:=K) rfl (Fv_ ao_ (zw 0 fT_) ac_)) (bp_ (K:=K) (n:=2) rfl rfl (au_ ?b (au_ ?c bm_))) ?d) ?e
   case b=>show ah_ (i:=2) fT_.nd rfl id_
   case c=>show ah_ (i:=3) fT_.nd rfl ie_
   case' d=>refine' af_ (aO_ AC_ rfl (ax_ (K:=K) rfl (zw 3 fT_)) ?f ?g)
   case f=>show ah_ (i:=4) fT_.nd rfl if_
   case' g=>refine' af_ (aK_ (Gn_ AF_ AV_ AW_ aQ_ (Gn_ B3_ CI_ DJ_ fz_ (zw 1 fT_) (pa_c (zw 4 fT_) (pa_c (bn_ ab_) ab_))) (pa_c (zw 2 fT_) ab_)))
   case' e=>refine' af_ (az_ (cG_ (N':=["_law_wire","_law_worth","_law_ties_here"]) (ix:=[none,none,some 1]) rfl rfl (bL_ ?h) (ax_ (K:=K) rfl (Fv_ ao_ (zw 0 fT_) ac_)) (λ_ _ _=>(bp_ (K:=K) (n:=2) rfl rfl (au_ ?i (au_ ?j bm_)))) (λ_ _ _=>?k) (λ_ _ _=>?l)))
   case h=>show(by change G5_ (Fp_ Gq_) ["_law_net","_law_ties_here","_law_point","_law_wires","_law_wire"] _ _ _=true;decide +kernel)
   case i=>show ah_ (i:=0) (by change List.Nodup (["_law_wire","_law_worth","_law_ties_here"]:List Str);decide +kernel) rfl rfl
   case j=>show ah_ (i:=1) (by change List.Nodup (["_law_wire","_law_worth","_law_ties_here"]:List Str);decide +kernel) rfl rfl
   case k=>show dk_
   case' l=>refine' aF_ (pa_c (Fv_ an_ (dd_ (un1 hr.units) (pvc 2 rfl rfl) (pv1 0 rfl rfl)) ac_) (pa_c (Fv_ an_ (dd_ (un1 hr.units) (pvc 2 rfl rfl) (pv1 0 rfl rfl)) ac_) (pa_c (pv1 1 rfl rfl) ab_)))
  case R =>
   nofun;obtain⟨pn,p0,p1,p2,rs,ws,rfl,hn,h0,h1,r1,h2,r2⟩:=b5_ hv;have rl:rs.length=N.rows.length:=by rw[r1.length,Ab_]
   intro d nd;have Sd:Fo_ H (upd H d (HO.dK [])):=Fo_.new nd;show⟨pn,rfl,_,Sd _ _ hn,_,GE_,p1,rfl,⟨_,.inl (.inl (Sd _ _ h1))⟩,?_⟩;have D0:DE dP H (upd H d (HO.dK [])) d [] (FY_ (occ (N.rows.take 0))):=⟨Sd,aa_,rfl,A6_,λz=>(by cases z),λi l kv z=>(by cases z),nd,λl z=>(by cases z)⟩;show bE_ (xs:=rs) (λi σ H'=>∃(e2 e3 e4:Option V)(S:Hp)(ls:List Addr),σ=[some (.ref pn),some (.ref d),e2,e3,e4]/\Fo_ H S/\DE dP S H' d ls (FY_ (occ (N.rows.take i)))) ⟨none,none,none,H,[],rfl,Fo_.refl _,D0⟩ ?_ ?_ ?_
   .rintro i σ H' hi ⟨e2,e3,e4,S,ls,rfl,sS,de⟩;show .inl (.inl (de.sH _ _ (sS _ _ h1)))
   .rintro i x σ H' hx kk kb hk hbk G hG ⟨e2,e3,e4,S,ls,rfl,sS,de⟩;obtain⟨r,q,l,hr1,rfl,hq,hl⟩:=fO_ r1 hx;have s1:=sS.trans de.sH;rw[gY_ hr1]at hk;have occle:∀j,∃m,(occ (N.rows.take i)++(FX_ r.1 0 r.2).take j)++m=occ N.rows:=λj=>by show⟨(FX_ r.1 0 r.2).drop j++occ (N.rows.drop (i+1)),?_⟩;rw[A9_,<-A9_ (List.take j _),Bk_,<-A9_,<-gY_ hr1];unfold occ;rw[<-Be_,<-Av_,Bk_]
    nofun;show⟨_,SqT.of (s1 _ _ hq),rfl,_,_,rfl,_,_,rfl,rfl,l,rfl,⟨_,.inl (.inl (s1 _ _ hl))⟩,?_⟩;show bE_ (xs:=r.2.map V.str) (λj σ H'=>∃(e4:Option V)(S:Hp)(ls:List Addr),σ=[some (.ref pn),some (.ref d),some (.str r.1),some (.ref l),e4]/\Fo_ H S/\DE dP S H' d ls (FY_ (occ (N.rows.take i)++(FX_ r.1 0 r.2).take j))) ⟨e4,S,ls,rfl,sS,by rw[List.take_zero,BL_];show de⟩ ?_ ?_ ?_
    .rintro j σ H2 hj ⟨e4,S,ls,rfl,sS,de⟩;show .inl (.inl ((sS.trans de.sH) _ _ hl))
    .rintro j x σ H2 hx kk2 kb2 hk2 hbk2 G2 hG2 ⟨e4,S,ls,rfl,sS,de⟩;rw[Af_]at hx
     obtain⟨wr,hw,rfl⟩:∃wr,r.2[j]?=some wr/\x=.str wr:=by
      cases e:r.2[j]? with
      |none=>rw[e]at hx;cases hx
      |some wr=>rw[e]at hx;cases hx;show⟨wr,rfl,rfl⟩
     have tk:(FX_ r.1 0 r.2).take (j+1)=(FX_ r.1 0 r.2).take j++[(wr,(r.1,j))]:=by rw[Bc_,ga_,hw];simp
     obtain⟨m,hm⟩:=occle j;have few:=lg_ ok _ _ hm;have short:=h9_ ok _ _ hm;rw[tk,<-A9_,eQ_]at hk2;generalize FY_ (occ (N.rows.take i)++(FX_ r.1 0 r.2).take j)=acc at*;nofun;show⟨.inr (.inr (.inl (.inl ⟨_,de.dict⟩))),AE_ _,λq nq=>?_⟩;have qd:q≠d:=(ag_ de.dict nq).symm;have ql:q∉ls:=λz=>by obtain⟨i0,hi0,ei⟩:=Ap_.mp z;obtain⟨vs,z2,_⟩:=de.lst i0 q (acc[i0]'(by rw[<-de.len];show hi0)) (by rw[Aa_ hi0,ei]) (Aa_ _);rw[nq]at z2;cases z2
     have Sq:S q=none:=de.sH.free nq;have de3:=de.mono (Fo_.new nq (o:=HO.lst []));have hq4:=aa_ (H:=H2) (a:=q) (o:=HO.lst []);generalize upd H2 q (HO.lst [])=H4 at*;show⟨_,.inr wr,rfl,de3.dict,by rw[kM_ de3.len];lia,λv2 hv2=>?_,λhnone=>?_⟩
     .have hex:∃kv∈acc,kv.1=wr:=by
       by_cases hc:∃kv∈acc,kv.1=wr
       .show hc
       .rw[gX_ (λkv hkv z=>hc ⟨kv,hkv,z⟩)]at hv2;cases hv2
      obtain⟨i0,es,g1,g2,g3⟩:=dq_ (e:=(r.1,j)) hex;obtain⟨lw,l1,l2⟩:=eT_ de3.len g1 g2;rw[l2]at hv2;cases hv2;obtain⟨vs,hvs,hrep⟩:=de3.lst i0 lw _ l1 g1;have vle:vs.length<=30:=by rw[hrep.length,Ab_];show short _ (Ag_ g1)
      show⟨.inl ⟨_,.inl (.inl hvs)⟩,lw,rfl,vs,hvs,Fq_ o_,?_⟩;rw[g3]at hk2;show hk2 _ _ ⟨_,S,ls,rfl,sS,de3.old g1 l1 hvs hrep (e:=(r.1,j)) rfl⟩
     .have hno:∀kv∈acc,kv.1≠wr:=λkv hkv z=>by obtain⟨i0,es,g1,g2,g3⟩:=dq_ (e:=(r.1,j)) ⟨kv,hkv,z⟩;obtain⟨lw,l1,l2⟩:=eT_ de3.len g1 g2;rw[l2]at hnone;cases hnone
      have hqd:upd H4 d (HO.dK (Gd_ (Gl_ acc ls) (Sum.inr wr) (V.ref q))) q=some (.lst []):=by rw[ae_ qd];show hq4
      rw[hm_ hno]at hk2;show⟨.inl ⟨_,.inl (.inl hqd)⟩,[],hqd,Fq_ d_,hk2 _ _ ⟨_,S,ls++[q],rfl,sS,de3.new (e:=(r.1,j)) (q:=q) hno hq4 qd ql Sq rfl⟩⟩
    .rintro σ H2 ⟨e4,S,ls,rfl,sS,de⟩;rw[A0_ (l:=FX_ r.1 0 r.2) (by rw[h8_,Ab_];show Aj_ _)]at de;show hk _ _ ⟨_,_,_,S,ls,rfl,sS,de⟩
   .rintro σ H' ⟨e2,e3,e4,S,ls,rfl,sS,de⟩;rw[A0_ o_]at de;have deN:DE dP S H' d ls (FW_ N):=de;nofun;have sH:=sS.trans de.sH;have wl:ws.length=N.worths.length:=by rw[r2.length,Ab_]
    have w15:=ok.wl;have h2':=sH _ _ h2;show⟨_,sH _ _ hn,_,Ip_,p2,rfl,⟨_,.inl (.inl h2')⟩,?_⟩;show cA_ (n:=N.worths.length) (B:=λ_=>none) (Pσ:=λσ=>∃e e',σ=[e,e',some (.ref d)]) (ds:=(GU_ N).map dTi) (λb o e=>by cases e) ⟨_,_,rfl⟩ (by unfold GU_;simp) o_ (λi H' hi s'=>⟨ws,ws[i]'o_,.inl (.inl (s' _ _ h2')),Aa_ _⟩) (λH' s'=>⟨ws,.inl (.inl (s' _ _ h2')),o_⟩) ?_ ?_
    .rintro D i x dd σ' H2 H2' hD hDo hs2 hi hdi ⟨rfl,hy⟩ ⟨e,e',rfl⟩ R kR;have hx:=hy _ (.inl (.inl (hs2 _ _ h2')));obtain⟨r,q,u,hr1,rfl,hq,hu⟩:=j2_ r2 hx;have hd:dd=dTi (Rim49.p1 (Hn_ N r.1),Rim49.p2 (Hn_ N r.1),r.2):=by rw[Af_]at hdi;unfold GU_ at hdi;rw[Af_,hr1]at hdi;show(AB_ hdi).symm
     obtain⟨oD,hDo⟩:=hDo;have rin:r.1∈(FW_ N).map (·.1):=kN_.mpr ((wo.mem r.1).mp (Ao_.mpr ⟨r,Ag_ hr1,rfl⟩));obtain⟨kv,kv1,kv2⟩:=Ao_.mp rin;obtain⟨j,hj,ej⟩:=Ap_.mp kv1;obtain⟨ea,eb,e2⟩:=iB_ ok kv1;have aj:(FW_ N)[j]?=some (r.1,kv.2):=by rw[Aa_ hj,ej,<-kv2]
     obtain⟨lw,l1,l2⟩:=eT_ deN.len aj (λj' kv' hj' e' z=>by have hj2:=(Ai_.mp e').1;have z1:=(D4_ (h₀:=by rw[Ab_];show hj2) (h₁:=by rw[Ab_];show hj) (ms_ N)).mp (by rw[Cc_,Cc_,ej,(Ai_.mp e').2,kv2];show z);lia);obtain⟨vs,hvs,hrep⟩:=deN.lst j lw _ l1 aj;rw[show(r.1,kv.2).2=[ea,eb]from e2]at hrep;have evs:=mY_ hrep;rw[evs]at hvs;have dg:=GQ_.k (k:=.inr r.1) (hs2 _ _ deN.dict);rw[l2]at dg;have hvs2:=hs2 _ _ hvs;have eo:Hn_ N r.1=kv:=by rw[<-kv2];show iT_ kv1
     have hu2:=hs2 _ _ (sH _ _ hu);nofun;show⟨_,SqT.of (hs2 _ _ (sH _ _ hq)),rfl,_,_,rfl,_,_,rfl,rfl,_,dg,lw,rfl,_,hvs2,_,Gc_,_,dg,lw,rfl,_,hvs2,_,GE_,d_,λt nt=>kR _ _ _ ⟨_,_,rfl⟩ (Fo_.new nt) ?_⟩;have tD:t≠D:=(ag_ hDo nt).symm;have uD:u≠D:=λc=>by have z:=sH _ _ hu;rw[c,hD]at z;cases z
     rw[hd,eo];unfold Rim49.p1 Rim49.p2;rw[e2];show⟨t,_,rfl,by rw[bo_ tD rfl];show aa_,_,_,rfl,rfl,_,_,rfl,rfl,_,_,rfl,⟨u,_,rfl,by rw[bo_ uD rfl];show(Fo_.new nt) _ _ hu2,_,_,rfl,rfl,_,_,rfl,rfl,rfl⟩,rfl⟩
    .intro D H2 hD s2 rep2;show k D H2 (sH.trans s2) (sH.free hD) (Rep.mono cI_ _ rep2)
def kvN(ks:List Str)(ls:List Addr):List (L2.Key×V):=List.zipWith (λk l=>(Sum.inr k,V.ref l)) ks ls
variable{ks:List Str}
theorem pv_(h:ls.length=ks.length):(kvN ks ls).length=ks.length:=by unfold kvN;rw[DE_];lia
theorem mZ_:∀{ks:List Str}{ls:List Addr}{i:Nat}{k:Str}{l:Addr},ks.Nodup->ks[i]?=some k->ls[i]?=some l->FZ_ (kvN ks ls) (.inr k)=some (.ref l)
 |[],_,_,_,_,_,h,_=>by simp at h
 |_::_,[],_,_,_,_,_,h=>by simp at h
 |a::ks,b::ls,0,k,l,_,h1,h2=>by
  cases h1;cases h2;show aW_ rfl
 |a::ks,b::ls,i+1,k,l,nd,h1,h2=>by have n:=AU_.mp nd;change FZ_ ((Sum.inr a,V.ref b)::kvN ks ls) _=_;rw[aN_ λz:(Sum.inr a:L2.Key)=Sum.inr k=>n.1 (by cases z;show Ag_ (l:=ks) h1)];show mZ_ n.2 h1 h2
theorem li_:∀{ks:List Str}{ls:List Addr}{k:Str},k∉ks->FZ_ (kvN ks ls) (.inr k)=none
 |[],_,_,_=>rfl
 |_::_,[],_,_=>rfl
 |a::ks,b::ls,k,h=>by change FZ_ ((Sum.inr a,V.ref b)::kvN ks ls) _=_;rw[aN_ λz:(Sum.inr a:L2.Key)=Sum.inr k=>h (by cases z;show An_)];show li_ λm=>h (Am_ _ m)
structure NrA(S H:Hp)(d:Addr)(ks:List Str)(ls:List Addr)(L:Str->List Str):Prop where
 sS:Fo_ S H
 D:H d=some (.dK (kvN ks ls))
 len:ls.length=ks.length
 kn:ks.Nodup
 nd:ls.Nodup
 dn:d∉ls
 at_:∀(i:Nat) k l,ks[i]?=some k->ls[i]?=some l->H l=some (.lst ((L k).map V.str))
 fd:S d=none
 fl:∀l∈ls,S l=none
theorem NrA.look{L:Str->List Str}(o:NrA S H d ks ls L){k:Str}(h:k∈ks):∃(i:Nat)(l:Addr),ks[i]?=some k/\ls[i]?=some l/\FZ_ (kvN ks ls) (.inr k)=some (.ref l)/\H l=some (.lst ((L k).map V.str))/\l∈ls:=by
 obtain⟨i,hi,e⟩:=Ap_.mp h;have e1:ks[i]?=some k:=by rw[Aa_ hi,e]
 have e2:ls[i]?=some (ls[i]'(by rw[o.len];show hi)):=Aa_ _;show⟨i,_,e1,e2,mZ_ o.kn e1 e2,o.at_ i k _ e1 e2,A2_ _⟩
theorem NrA.mono{L:Str->List Str}(o:NrA S H d ks ls L)(s:Fo_ H H'):NrA S H' d ks ls L:=⟨o.sS.trans s,s _ _ o.D,o.len,o.kn,o.nd,o.dn,λi k l h1 h2=>s _ _ (o.at_ i k l h1 h2),o.fd,o.fl⟩
theorem NrA.ext{L L':Str->List Str}(o:NrA S H d ks ls L)(h:∀k∈ks,L k=L' k):NrA S H d ks ls L':=⟨o.sS,o.D,o.len,o.kn,o.nd,o.dn,λi k l h1 h2=>by rw[<-h k (Ag_ h1)];show o.at_ i k l h1 h2,o.fd,o.fl⟩
theorem NrA.row{L:Str->List Str}(o:NrA S H d ks ls L){k:Str}{ys:List Str}(h1:ks[i]?=some k)(h2:ls[i]?=some l):NrA S (upd H l (.lst (ys.map V.str))) d ks ls (λz=>if z=k then ys else L z):=by
 have ll:=Ag_ h2;show⟨λb u e=>(ae_ λz=>by rw[z,o.fl l ll]at e;cases e).trans (o.sS b u e),(ae_ λz:d=l=>o.dn (z▸ll)).trans o.D,o.len,o.kn,o.nd,o.dn,λj k' l' g1 g2=>?_,o.fd,o.fl⟩;by_cases e:j=i
 .subst e;rw[h1]at g1;rw[h2]at g2;cases g1;cases g2;rw[if_pos rfl,aa_]
 .have kne:k'≠k:=λz=>e ((A4_ (i:=j) (j:=i) (Ai_.mp g1).1 o.kn).mp (by rw[g1,h1,z]));have lne:l'≠l:=λz=>e ((A4_ (i:=j) (j:=i) (Ai_.mp g2).1 o.nd).mp (by rw[g2,h2,z]));rw[if_neg kne,ae_ lne];show o.at_ j k' l' g1 g2
theorem NrA.more{L:Str->List Str}(o:NrA S H d ks ls L){k:Str}(hk:k∉ks)(hq:H q=none)(hL:L k=[]):NrA S (upd (upd H q (.lst [])) d (.dK (Gd_ (kvN ks ls) (.inr k) (.ref q)))) d (ks++[k]) (ls++[q]) L:=by
 have qd:q≠d:=λe=>by rw[e,o.D]at hq;cases hq
 have ql:q∉ls:=λm=>by obtain⟨i,hi,e⟩:=Ap_.mp m;have:=o.at_ i (ks[i]'(by rw[<-o.len];show hi)) q (Aa_ _) (by rw[Aa_ hi,e]);rw[hq]at this;cases this
 have Sq:S q=none:=o.sS.free hq;show⟨λb u e=>(ae_ λz=>by rw[z,o.fd]at e;cases e).trans ((ae_ λz=>by rw[z,Sq]at e;cases e).trans (o.sS b u e)),?_,by rw[Al_,Al_,o.len];rfl,AG_.mpr ⟨o.kn,s_,λa ha b hb e=>hk (by rw[Ae_.mp hb]at e;show e▸ha)⟩,AG_.mpr ⟨o.nd,s_,λa ha b hb e=>ql (by rw[Ae_.mp hb]at e;show e▸ha)⟩,λm=>?_,λi k' l' h1 h2=>?_,o.fd,λl m=>?_⟩
 .rw[aa_,eN_ _ (li_ hk)];unfold kvN;rw[DF_ o.len.symm];rfl
 .rcases Aq_.mp m with m|m
  .show o.dn m
  .show qd (Ae_.mp m).symm
 .by_cases lt:i<ks.length
  .rw[Aw_ lt]at h1;rw[Aw_ (by rw[o.len];show lt)]at h2;have lm:=Ag_ h2;rw[ae_ (λz:l'=d=>o.dn (z▸lm)),ae_ (λz:l'=q=>ql (z▸lm))];show o.at_ i k' l' h1 h2
  .rw[Az_ o_]at h1;rw[Az_ (by rw[o.len];lia)]at h2;rw[Ae_.mp (Ag_ h1),Ae_.mp (Ag_ h2),ae_ qd,aa_,hL];rfl
 .rcases Aq_.mp m with m|m
  .show o.fl l m
  .rw[Ae_.mp m];show Sq
structure NrL(ts:List (Str×Str×(Int×Int)))(L:Str->List Str):Prop where
 len:∀u,(L u).length<=2*ts.length
 mem:∀u v,v∈L u↔∃t∈ts,(t.1=u/\t.2.1=v)\/(t.2.1=u/\t.1=v)
def J0_(L:Str->List Str)(u v:Str)(z:Str):List Str:=if z=u then L u++[v]else L z
theorem NrL.more{ts:List (Str×Str×(Int×Int))}{L:Str->List Str}(n:NrL ts L)(t:Str×Str×(Int×Int)):NrL (ts++[t]) (J0_ (J0_ L t.1 t.2.1) t.2.1 t.1):=by
 have pl:∀(L:Str->List Str) u v z,(J0_ L u v z).length<=(L z).length+1:=λL u v z=>by
  unfold J0_;split
  .rename_i e;rw[e,Al_];show Aj_ _
  .lia
 have pm:∀(L:Str->List Str) u v z x,x∈J0_ L u v z↔x∈L z\/(u=z/\v=x):=λL u v z x=>by
  unfold J0_;split
  .rename_i e;subst e;rw[Aq_,Ae_];show⟨λh=>h.imp id λh=>⟨rfl,h.symm⟩,λh=>h.imp id λh=>h.2.symm⟩
  .rename_i e;show⟨.inl,λh=>h.resolve_right λz=>e z.1.symm⟩
 show⟨λu=>?_,λu v=>?_⟩
 .have h1:=pl (J0_ L t.1 t.2.1) t.2.1 t.1 u;have h2:=pl L t.1 t.2.1 u;have h3:=n.len u;rw[Al_,AP_];lia
 .rw[pm,pm,n.mem];constructor
  .rintro((⟨t',h,e⟩|h)|h)
   .show⟨t',Ax_ _ h,e⟩
   .show⟨t,s_,.inl h⟩
   .show⟨t,s_,.inr h⟩
  .rintro⟨t',h,e⟩
   rcases Aq_.mp h with h|h
   .show .inl (.inl ⟨t',h,e⟩)
   .rw[Ae_.mp h]at e;show e.elim (λe=>.inl (.inr e)) .inr
theorem m0_(ok:Gm_ N)(wo:WOk N){v:Str}:(∃t∈GU_ N,(t.1=u/\t.2.1=v)\/(t.2.1=u/\t.1=v))↔tied (FW_ N) u v:=by
 constructor
 .rintro⟨t,ht,e⟩;obtain⟨r,hr,rfl⟩:=Ao_.mp ht;obtain⟨kv,kv1,kv2⟩:=Ao_.mp (kN_.mpr ((wo.mem r.1).mp (Ao_.mpr ⟨r,hr,rfl⟩)));obtain⟨ea,eb,e2⟩:=iB_ ok kv1;have eo:Hn_ N r.1=kv:=by rw[<-kv2];show iT_ kv1
  have e3:Rim49.p1 kv=ea.1:=by unfold Rim49.p1;rw[e2];rfl
  have e4:Rim49.p2 kv=eb.1:=by unfold Rim49.p2;rw[e2];rfl
  rw[eo]at e
  dsimp only at e
  rw[e3,e4]at e;show⟨kv,kv1,ea,eb,e2,e⟩
 .rintro⟨kv,kv1,ea,eb,e2,e⟩;have hin:=(wo.mem kv.1).mpr (kN_.mp (Ao_.mpr ⟨kv,kv1,rfl⟩));obtain⟨r,hr,er⟩:=Ao_.mp hin;have eo:Hn_ N r.1=kv:=by rw[er];show iT_ kv1
  have e3:Rim49.p1 kv=ea.1:=by unfold Rim49.p1;rw[e2];rfl
  have e4:Rim49.p2 kv=eb.1:=by unfold Rim49.p2;rw[e2];rfl
  show⟨_,Ao_.mpr ⟨r,hr,rfl⟩,?_⟩
  dsimp only
  rw[eo,e3,e4];show e
def nm(N:Net Str):List Str:=N.rows.map (·.1)
theorem oA_{kv:Str×List (End Str)}(h:kv∈FW_ N){a:End Str}(ha:a∈kv.2):a.1∈nm N:=by have h1:=ok_ h ha;obtain⟨l,hl,hm⟩:=Cb_.mp h1;obtain⟨r,hr,rfl⟩:=Ao_.mp hl;have:=(f0_ hm).1;rw[show a.1=r.1 from this];show Ao_.mpr ⟨r,hr,rfl⟩
theorem kO_{v:Str}(h:tied (FW_ N) u v):u∈nm N/\v∈nm N:=by
 obtain⟨kv,kv1,a,b,e2,e⟩:=h;have h1:=oA_ kv1 (a:=a) (by rw[e2];show An_);have h2:=oA_ kv1 (a:=b) (by rw[e2];simp)
 rcases e with⟨rfl,rfl⟩|⟨rfl,rfl⟩
 .show⟨h1,h2⟩
 .show⟨h2,h1⟩
theorem nV_{v:Str}(h:tied (FW_ N) u v)(ne:u≠v):Jb_ N u v:=by
 have row:∀{kv:Str×List (End Str)}{a:End Str},kv∈FW_ N->a∈kv.2->∃r∈N.rows,r.1=a.1/\kv.1∈r.2:=λ{kv a} h1 h2=>by obtain⟨l,hl,hm⟩:=Cb_.mp (ok_ h1 h2);obtain⟨r,hr,rfl⟩:=Ao_.mp hl;show⟨r,hr,(f0_ hm).1.symm,?_⟩;have:=(Ao_ (f:=(·.1))).mpr ⟨_,hm,rfl⟩;rw[eR_]at this;show this
 obtain⟨kv,kv1,a,b,e2,e⟩:=h;obtain⟨r,hr,er,rw_⟩:=row kv1 (a:=a) (by rw[e2];show An_);obtain⟨r',hr',er',rw'⟩:=row kv1 (a:=b) (by rw[e2];simp)
 rcases e with⟨rfl,rfl⟩|⟨rfl,rfl⟩
 .show⟨ne,r,hr,r',hr',er,er',kv.1,rw_,rw'⟩
 .show⟨ne,r',hr',r,hr,er',er,kv.1,rw',rw_⟩
theorem qg_{ts:List V}{tl:List (Str×Str×(Int×Int))}{x:V}(h:FM_ H ts (tl.map dTi))(e:ts[i]?=some x):∃t q u,tl[i]?=some t/\x=.ref q/\H q=some (.tup [.str t.1,.str t.2.1,.ref u]):=by
 obtain⟨d,hd,hr⟩:=h.of_get e;rw[Af_]at hd;cases z:tl[i]? with
 |none=>rw[z]at hd;cases hd
 |some r =>rw[z]at hd;cases hd;obtain⟨a,_,ea,ha,x1,_,e1,hx1,x2,_,e2,hx2,x3,_,e3,hx3,e4⟩:=hr;subst e4 e3 e2 e1;cases hx1;cases hx2;obtain⟨u,rfl,hu⟩:=lc_ hx3;show⟨r,a,u,rfl,ea,ha⟩
abbrev Gg_:Stmt:=stN 31
theorem d2_:ZL ["_law_net","_law_near_here","_law_point","_law_wires","_law_one","_law_other","_law_worth"] ["_law_net"] (Fp_ Gg_):=zL
theorem hS_:LK Gg_ "_law_ties" .globalImplicit:=r_
def IC_:Sp:=λvs H Q _=>∃(v:V)(N:Net Str),vs=[v]/\Rep H v (G7_ N)/\Gm_ N/\WOk N/\∀d ls L H',NrA H H' d (nm N) ls L->(∀u v,v∈L u↔tied (FW_ N) u v)->(∀u,(L u).length<=30)->Q (.ref d) H'
theorem nW_(T:Txt K mg)(F:Fn0 K mg "_law_near" Gg_) (Kb_:Cal P w K mg base "_law_ties" ["_law_net"] 1 IK_):Cal P w K mg base "_law_near" ["_law_net"] 2 IC_:=by
  show aU_ F d2_.1 λf cdv A outer s H vs Q E hr h=>?_;obtain⟨v,N,rfl,hv,ok,wo,k⟩:=h;obtain⟨pn,p0,p1,p2,rs,ws,rfl,hn,h0,h1,r1,h2,r2⟩:=b5_ hv;have rl:rs.length=N.rows.length:=by rw[r1.length,Ab_]
  have few:=ok.few;have nl:(nm N).length=N.rows.length:=by unfold nm;rw[Ab_]
  have knd:(nm N).Nodup:=ok.nd;refine'⟨_,?D,?R⟩
  case D =>
   refine' ad_ ?a (ad_ ?b (ad_ ?c (af_ (az_ (zv 1 d2_)))))
   case a=>show zas 1 d2_ eO_
   case' b=>refine' aO_ AC_ rfl (ax_ (K:=K) rfl (Fv_ ao_ (zv 0 d2_) ac_)) (bp_ (K:=K) (n:=2) rfl rfl (au_ ?d (au_ ?e bm_))) ?f
   case d=>show zh 2 d2_
   case e=>show zh 3 d2_
   case' f=>refine' af_ (fZ_ (un1 hr.units) (zv 1 d2_) (zv 2 d2_) (bn_ ab_) rfl)
   case' c=>refine' aO_ AC_ rfl (ax_ (K:=K) rfl (am_ Kb_ (hr.mono d_) hS_ (pa_c (zv 0 d2_) ab_))) (bp_ (K:=K) (n:=3) rfl rfl (au_ ?g (au_ ?h (au_ ?i bm_)))) ?j
   case g=>show zh 4 d2_
   case h=>show zh 5 d2_
   case i=>show zh 6 d2_
   case' j=>refine' ad_ (aK_ (Gn_ AF_ AV_ AW_ aQ_ (dd_ (un1 hr.units) (zv 1 d2_) (zv 4 d2_)) (pa_c (zv 5 d2_) ab_))) ?k
   case' k=>refine' af_ (aK_ (Gn_ AF_ AV_ AW_ aQ_ (dd_ (un1 hr.units) (zv 1 d2_) (zv 5 d2_)) (pa_c (zv 4 d2_) ab_)))
  case R =>
   nofun;intro d nd;have Sd:Fo_ H (upd H d (HO.dK [])):=Fo_.new nd;show⟨_,Sd _ _ hn,_,GE_,p1,rfl,⟨_,.inl (.inl (Sd _ _ h1))⟩,?_⟩;show bE_ (xs:=rs) (λi σ H'=>∃(e2 e3:Option V)(ls:List Addr),σ=[some (.ref pn),some (.ref d),e2,e3,none,none,none]/\NrA H H' d ((nm N).take i) ls (λ_=>[])) ⟨none,none,[],rfl,Sd,by rw[aa_];rfl,s_,s_,A6_,(λz=>nomatch z),λi k l e=>(by simp at e),nd,λl e=>nomatch e⟩ ?_ ?_ ?_
   .rintro i σ H' hi ⟨e2,e3,ls,rfl,nr⟩;show .inl (.inl (nr.sS _ _ h1))
   .rintro i x σ H' hx kk kb hk hb G hG ⟨e2,e3,ls,rfl,nr⟩;show hG ?_;obtain⟨r,q,l,hr1,rfl,hq,hl⟩:=fO_ r1 hx;have ir:i<N.rows.length:=(Ai_.mp hr1).1;have en:(nm N)[i]?=some r.1:=by unfold nm;rw[Af_,hr1];rfl
    have tk:(nm N).take (i+1)=(nm N).take i++[r.1]:=by rw[Bc_,en];rfl
    have rn:r.1∉(nm N).take i:=λm=>by obtain⟨j,hj,e⟩:=Ap_.mp m;rw[AT_]at hj;rw[CE_]at e;have:=(A4_ (i:=j) (j:=i) o_ knd).mp (by rw[en,Aa_ o_];show congrArg some e);lia
    nofun;have s1:=nr.sS;show⟨_,SqT.of (s1 _ _ hq),rfl,_,_,rfl,_,_,rfl,rfl,AE_ _,λq nq=>?_⟩;have qd:d≠q:=λe=>by rw[<-e,nr.D]at nq;cases nq
    have nr2:=nr.more rn nq rfl;rw[<-tk]at nr2;have kl:(kvN ((nm N).take i) ls).length<=16:=by rw[pv_ nr.len,AT_];lia
    show⟨_,Iv_.k (k:=.inr r.1) ((ae_ qd).trans nr.D) (by rw[BG_];lia),hk _ _ ⟨_,_,_,rfl,nr2⟩⟩
   .rintro σ H' ⟨e2,e3,ls,rfl,nr⟩;rw[A0_ (by unfold nm;rw[Ab_];lia)]at nr;nofun;show⟨_,N,rfl,Rep.mono nr.sS _ hv,ok,wo,λD H2 S2 nD rep2=>?_⟩;have nr2:=nr.mono S2;obtain⟨_,ts,e0,hD,hts⟩:=rep2;cases e0;have tl:ts.length=(GU_ N).length:=by rw[hts.length,Ab_]
    have t15:(GU_ N).length<=15:=by unfold GU_;rw[Ab_];show ok.wl
    have DN:D∉d::ls:=λm=>by
     rcases Ar_.mp m with e|m
     .rw[e,nr.D]at nD;cases nD
     .obtain⟨j,hj,e⟩:=Ap_.mp m;have:=nr.at_ j ((nm N)[j]'(by rw[<-nr.len];show hj)) D (Aa_ _) (by rw[Aa_ hj,e]);rw[nD]at this;cases this
    show⟨D,rfl,⟨_,.inl (.inl hD)⟩,?_⟩;show bE_ (xs:=ts) (λi σ Hx=>∃(e4 e5 e6:Option V)(L:Str->List Str),σ=[some (.ref pn),some (.ref d),e2,e3,e4,e5,e6]/\NrA H Hx d (nm N) ls L/\Hx D=some (.lst ts)/\(∀b ys,H2 b=some (.tup ys)->Hx b=some (.tup ys))/\NrL ((GU_ N).take i) L) ⟨none,none,none,_,rfl,nr2,hD,λ_ _ e=>e,λu=>AE_ _,λu v=>s_⟩ ?_ ?_ ?_
    .rintro i σ Hx hi ⟨e4,e5,e6,L,rfl,nr,hD,tt,nl⟩;show .inl (.inl hD)
    .rintro i x σ Hx hx kk kb hk hb G hG ⟨e4,e5,e6,L,rfl,nr,hD,tt,nrl⟩;show hG ?_;obtain⟨t,q,u,ht,rfl,hq⟩:=qg_ hts hx;have tn:=kO_ ((m0_ ok wo).mp ⟨t,Ag_ ht,.inl ⟨rfl,rfl⟩⟩);have tk:(GU_ N).take (i+1)=(GU_ N).take i++[t]:=by rw[Bc_,ht];rfl
     have it:i<(GU_ N).length:=(Ai_.mp ht).1;rw[tk]at hk;have nrl2:=nrl.more t;obtain⟨i1,l1,a1,b1,v1,h1,m1⟩:=nr.look tn.1;have len1:(L t.1).length<=30:=by have:=nrl.len t.1;rw[AT_]at this;lia
     nofun;show⟨_,SqT.of (tt _ _ hq),rfl,_,_,rfl,_,_,rfl,_,_,rfl,rfl,.ref l1,v1▸GQ_.k (k:=.inr t.1) nr.D,.inl ⟨_,.inl (.inl h1)⟩,l1,rfl,_,h1,Fq_ (by rw[Ab_];lia),?_⟩;have em:(L t.1).map V.str++[V.str t.2.1]=(L t.1++[t.2.1]).map V.str:=by rw[Av_];rfl
     rw[em];have nr1:=nr.row (ys:=L t.1++[t.2.1]) a1 b1;have hD1:upd Hx l1 (HO.lst ((L t.1++[t.2.1]).map V.str)) D=some (.lst ts):=(ae_ λe:D=l1=>DN (e▸Am_ _ m1)).trans hD;have tt1:∀b ys,H2 b=some (.tup ys)->upd Hx l1 (HO.lst ((L t.1++[t.2.1]).map V.str)) b=some (.tup ys):=λb ys e=>(ae_ λz:b=l1=>by have:=tt _ _ e;rw[z,h1]at this;cases this).trans (tt _ _ e);generalize upd Hx l1 (HO.lst ((L t.1++[t.2.1]).map V.str))=H3 at*;obtain⟨i2,l2,a2,b2,v2,h2,m2⟩:=nr1.look tn.2
     have len2:(if t.2.1=t.1 then L t.1++[t.2.1]else L t.2.1).length<=31:=by
      split
      .rw[Al_,AP_];lia
      .have:=nrl.len t.2.1;rw[AT_]at this;lia
     show⟨.ref l2,v2▸GQ_.k (k:=.inr t.2.1) nr1.D,.inl ⟨_,.inl (.inl h2)⟩,l2,rfl,_,h2,Fq_ (by rw[Ab_];lia),?_⟩;have em2:(if t.2.1=t.1 then L t.1++[t.2.1]else L t.2.1).map V.str++[V.str t.1]=((if t.2.1=t.1 then L t.1++[t.2.1]else L t.2.1)++[t.1]).map V.str:=by rw[Av_];rfl
     rw[em2];show hk _ _ ⟨_,_,_,_,rfl,nr1.row (ys:=(if t.2.1=t.1 then L t.1++[t.2.1]else L t.2.1)++[t.1]) a2 b2,(ae_ λe:D=l2=>DN (e▸Am_ _ m2)).trans hD1,λb ys e=>(ae_ λz:b=l2=>by have:=tt1 _ _ e;rw[z,h2]at this;cases this).trans (tt1 _ _ e),?_⟩;show nrl2
    .rintro σ Hx ⟨e4,e5,e6,L,rfl,nr,hD,tt,nrl⟩;rw[A0_ o_]at nrl;nofun;show k d ls L Hx nr (λu v=>(nrl.mem u v).trans (m0_ ok wo)) λu=>AH_ (nrl.len u) o_
theorem byL5(h:∀a b c d e,p [a,b,c,d,e]):∀us:List Value,us.length=5->p us:=byLc λa=>byL4 (h a)
theorem lj_(l:List Dt):deq (.lst l) (.lst [])=some (decide (l.length=0)):=by
 cases l with
 |nil=>rfl
 |cons a l=>simp[deq,deqs]
theorem lk_(l:List Str):dep (.lst (l.map Dt.str))<=60:=AH_ (BO_ (ey_ (f:=Dt.str) (n:=1) (λr=>by simp[dep]) _)) d_
def G8_(sd:List Str):List (L2.Key×V):=sd.map λk=>(.inr k,.bl true)
theorem ll_{sd:List Str}{k:Str}:(FZ_ (G8_ sd) (.inr k)).isSome=decide (k∈sd):=by
 induction sd with
 |nil=>rfl
 |cons a sd ih =>
  change(FZ_ ((Sum.inr a,V.bl true)::G8_ sd) (.inr k)).isSome=_;by_cases e:a=k
  .subst e;rw[aW_ rfl];simp
  .rw[aN_ λz:(Sum.inr a:L2.Key)=Sum.inr k=>e (by cases z;rfl),ih];show Ek_.mpr ⟨λh=>Am_ _ h,λh=>(Ar_.mp h).resolve_left λz=>e z.symm⟩
theorem nX_{sd:List Str}{k:Str}(h:k∉sd):Gd_ (G8_ sd) (.inr k) (.bl true)=G8_ (sd++[k]):=by rw[eN_ _ (Dz_.mp λz=>h (AJ_ (ll_▸z)))];unfold G8_;rw[Av_];rfl
theorem chk{c:Prop}[Decidable c]{α:Type}{A C:α->Prop}{B R S:Prop}{d:α->Bool}(x:α)(a:A x)(b:B)(cc:C x)(nd:c->d x=true)(s:S):if c then(∃x,A x/\B/\C x/\if d x=false then R else S)else S:=by
 split
 .rename_i h;show⟨x,a,b,cc,by rw[nd h,if_neg d_];show s⟩
 .show s
def Md_(H:Hp)(pn d s g c e l:Addr)(N:Net Str)(Tt:Str->Prop)(m:Nat)(σ:L2.St)(H':Hp):Prop:=∃(e7 e8:Option V)(sd W:List Str),σ=[some (V.ref pn),some (V.ref d),some (V.ref s),some (V.ref g),some (V.ref c),some (V.ref e),some (V.ref l),e7,e8]/\Fo_ H H'/\H' e=some (.dK (G8_ sd))/\H' l=some (.lst (W.map V.str))/\sd.Nodup/\(∀x∈sd,x∈nm N)/\(∀x∈W,Tt x/\x∈nm N)/\m+2*sd.length=2*(nm N).length+W.length/\W.length<=6+sd.length
abbrev FR_:Stmt:=stN 32
theorem dD_:ZM ["_law_net","_law_near_here","_law_sources","_law_targets","_law_cut","_law_seen","_law_waiting","_law_point","_law_there"] ["_law_net","_law_near_here","_law_sources","_law_targets","_law_cut"] (Fp_ FR_):=zM
theorem eE_:LK FR_ "_law_seen" .local:=r_
theorem c9_:LK FR_ "_law_waiting" .local:=r_
theorem gC_:LK FR_ "_law_point" .local:=r_
theorem bd_:LK FR_ "_law_there" .local:=r_
structure Hd(K:PySem.W.Frag)(H:Hp)(v:V)(N:Net Str)(d:Addr)(ls:List Addr)(L:Str->List Str)(s g:Addr)(st gl:List Str):Prop where
 net:Rep H v (G7_ N)
 ok:Gm_ N
 nr:∃S,NrA S H d (nm N) ls L
 near:∀u v,v∈L u↔tied (FW_ N) u v
 few:∀u,(L u).length<=30
 hs:H s=some (.lst (st.map V.str))
 hg:H g=some (.lst (gl.map V.str))
 s6:st.length<=6
 g6:gl.length<=6
 sn:∀x∈st,x∈nm N
 gn:∀x∈gl,x∈nm N
def JS_(K:PySem.W.Frag):Sp:=λvs H Q _=>∃(v:V)(N:Net Str)(d s g c:Addr)(ls:List Addr)(L:Str->List Str)(st gl cut:List Str),vs=[v,.ref d,.ref s,.ref g,.ref c]/\Hd K H v N d ls L s g st gl/\H c=some (.lst (cut.map V.str))/\Iz_ N st gl cut/\∀H',Fo_ H H'->Q (.bl true) H'
theorem lN_(T:Txt K mg)(F:Fn0 K mg "_law_is_cut" FR_):Cal P w K mg base "_law_is_cut" ["_law_net","_law_near_here","_law_sources","_law_targets","_law_cut"] 1 (JS_ K):=by
  show aU_ F dD_.1 λf cdv A outer s0 H vs Q E hr h=>?_;obtain⟨v,N,d,s,g,c,ls,L,st,gl,cut,rfl,hd,hc,co,k⟩:=h;obtain⟨hv,ok,⟨Sn,nr⟩,near,few,hs,hg,s6,g6,sn,gn⟩:=hd;obtain⟨pn,p0,p1,p2,rs,ws,rfl,hn,h0,h1,r1,h2,r2⟩:=b5_ hv;have cl:cut.length<=6:=AH_ (AS_ co.lt) s6;obtain⟨Tt,t1,t2,t3⟩:=co.sep;refine'⟨_,?D,?R⟩
  case D =>
   refine' ai_ ?a (ai_ (dL_ (i:=6) (N':=["_law_post","_law_cut"]) (ix:=[none,some 4]) rfl rfl dD_.nd rfl c9_ rfl (bL_ ?b) (ax_ (K:=K) rfl (zw 2 dD_)) (λ_ _ _=>?c) (λ_ _ _=>(g9_ (aq_ (cT_ (K:=K) rfl) (pv1 0 rfl rfl) (pvc 1 rfl rfl) (by with_unfolding_all rfl)))) (λ_ _ _=>(pv1 0 rfl rfl))) ?d)
   case a=>show aj_ (i:=5) dD_.nd rfl eE_ eO_
   case b=>show(by change G5_ (Fp_ FR_) ["_law_net","_law_near_here","_law_sources","_law_targets","_law_cut","_law_seen","_law_waiting","_law_point","_law_there"] _ _ _=true;decide +kernel)
   case c=>show ah_ (i:=0) (by change List.Nodup (["_law_post","_law_cut"]:List Str);decide +kernel) rfl rfl
   case' d=>refine' ad_ (dH_ AC_ (aq_ (hY_ (hr.units)) (zw 6 dD_) (bn_ ab_) (FJ_ _)) ?e) (af_ (az_ F7_))
   case' e=>refine' ai_ (aj_ (i:=7) dD_.nd rfl gC_ (l6_ AF_ Dj_ Dk_ ob_ (zw 6 dD_))) (af_ (aO_ AC_ rfl (ax_ (K:=K) rfl (dd_ (un1 hr.units) (zw 1 dD_) (zw 7 dD_))) ?f (ad_ ?g ?h)))
   case f=>show ah_ (i:=8) dD_.nd rfl bd_
   case' g=>refine' F4_ (PW.pt (eg_ (aq_ (ia_ (K:=K) rfl) (zw 8 dD_) (zw 3 dD_) (by with_unfolding_all rfl)) (dG_ (aq_ (cT_ (K:=K) rfl) (zw 8 dD_) (zw 4 dD_) (by with_unfolding_all rfl))))) (af_ (az_ F7_)) aI_
   case' h=>refine' af_ (F4_ ?i (ai_ (fZ_ (un1 hr.units) (zw 5 dD_) (zw 8 dD_) F7_ rfl) (af_ (aK_ (Gn_ AF_ AV_ AW_ aQ_ (zw 6 dD_) (pa_c (zw 8 dD_) ab_))))) aI_)
   case' i=>refine' PW.pt (eg_ (aq_ (cT_ (K:=K) rfl) (zw 8 dD_) (Fv_ ao_ (zw 0 dD_) ac_) (by with_unfolding_all rfl)) (eg_ (aq_ (cT_ (K:=K) rfl) (zw 8 dD_) (zw 4 dD_) (by with_unfolding_all rfl)) (dG_ (ft_ (hc_ (un1 hr.units) (zw 8 dD_) (zw 5 dD_))))))
  case R =>
   nofun;intro e np;have He:H e=none:=np;have S0:=Fo_.new np (o:=HO.dK []);have he0:=aa_ (H:=H) (a:=e) (o:=HO.dK []);generalize upd H e (HO.dK [])=H0 at*;nofun;show⟨⟨_,.inl (.inl (S0 _ _ hs))⟩,?_⟩;show cK_ (n:=st.length) (B:=λ_=>none) (Pσ:=λσ=>∃e,σ=[e,some (.ref c)]) (bs:=λi=>decide (st.getD i Str.empty∉cut)) (val:=λi=>dS (st.getD i Str.empty)) (λb o e=>by cases e) ⟨_,rfl⟩ o_ (λj H2 hj s2=>⟨_,.str (st.getD j Str.empty),.inl (.inl (s2 _ _ (S0 _ _ hs))),aM_ hj⟩) (λH2 s2=>⟨_,.inl (.inl (s2 _ _ (S0 _ _ hs))),s_⟩) ?_ ?_
   .rintro D1 i y σ' H3 H3' hD hDo hs3 hi ⟨rfl,hy⟩ ⟨e2,rfl⟩ Y R kY kR;have hx2:=hy _ (.inl (.inl (hs3 _ _ (S0 _ _ hs))));rw[aM_ hi]at hx2;cases hx2;nofun;show⟨_,.inl (.inl (.inl (hs3 _ _ (S0 _ _ hc)))),rfl,bF_ _,?_⟩;rw[dA_];by_cases hc:st.getD i Str.empty∈cut
    .rw[if_neg (by rw[As_ hc];decide)];show kR (At_ λz=>z hc) _ _ ⟨_,rfl⟩ (Fo_.refl _)
    .rw[if_pos (At_ hc)];show kY (As_ hc) _ _ _ ⟨_,rfl⟩ (Fo_.refl _) rfl
   intro l H2 nl S2 rep2;rw[b7_ Str.empty (λz=>decide (z∉cut)) dS st]at rep2;obtain⟨_,us,e0,hu',hus⟩:=id rep2;cases e0;rw[dX_ hus]at hu';have hl2:=(aY_ hu').2;have he2:=S2 _ _ he0;have S12:=S0.trans S2;have Hl:H l=none:=S0.free nl;have le:l≠e:=λz=>by rw[z,he0]at nl;cases nl
   have nml:(nm N).length<=16:=by unfold nm;rw[Ab_];show ok.few
   obtain⟨W0,hW0⟩:∃W0,W0=st.filter λz=>decide (z∉cut):=⟨_,rfl⟩;rw[<-hW0]at hl2;have W0t:∀x∈W0,Tt x/\x∈nm N:=λx hx=>by rw[hW0]at hx;obtain⟨h1,h2⟩:=AI_.mp hx;show⟨t1 x h1 (AJ_ h2),sn x h1⟩
   have W06:W0.length<=6:=by rw[hW0];show AH_ (Bj_ _ _) s6
   clear hW0 rep2 hu' hus t1 nl S2 np he0 S0;nofun;show gW_ (Md_ H pn d s g c e l N Tt) (2*(nm N).length+W0.length) ⟨none,none,[],W0,rfl,S12,he2,hl2,A6_,λ_ h=>(nomatch h),W0t,rfl,W06⟩ ?_;rintro m σ H3 kb hb G hG ⟨e7,e8,sd,W,rfl,S,he,hl,sdn,sdm,wt,hm,wl⟩;show hG ?_;have sl:sd.length<=16:=AH_ (ar_ sdn sdm) nml;nofun;show⟨AE_ _,λq nq=>?_⟩;have S1:=Fo_.new nq (o:=HO.lst []);have hq4:=aa_ (H:=H3) (a:=q) (o:=HO.lst []);have hl4:=S1 _ _ hl;have he4:=S1 _ _ he;have S4:=S.trans S1;generalize upd H3 q (HO.lst [])=H4 at*;show⟨.lst (W.map Dt.str),⟨l,_,rfl,hl4,bz_ W⟩,.lst [],⟨q,[],rfl,hq4,rfl⟩,_,lj_ _,lk_ _,?_⟩;rw[Ab_];clear S1 hq4 nq S hl he;by_cases w0:W.length=0
   .rw[As_ w0,if_neg d_];show hb _ _ ?_;show k H4 S4
   .rw[At_ w0,if_pos rfl];obtain⟨W1,u,rfl⟩:∃W1 u,W=W1++[u]:=⟨W.dropLast,W.getLast (λe=>w0 (by rw[e];rfl)),(Bp_ _).symm⟩;show⟨λσ' H'=>∃m',m'<m/\Md_ H pn d s g c e l N Tt m' σ' H',λσ' H' h=>h,?_⟩;have tu:=wt u s_;have em:((W1++[u]).map V.str).dropLast=W1.map V.str:=by rw[Av_];simp
    nofun;show⟨.inl ⟨_,.inl (.inl hl4)⟩,_,hl4,.str u,s_,?_⟩;rw[em];have S5:Fo_ H (upd H4 l (HO.lst (W1.map V.str))):=λb o eb=>(ae_ λz=>by rw[z,Hl]at eb;cases eb).trans (S4 _ _ eb);have he5:upd H4 l (HO.lst (W1.map V.str)) e=some (.dK (G8_ sd)):=(ae_ le.symm).trans he4;have hl5:upd H4 l (HO.lst (W1.map V.str)) l=some (.lst (W1.map V.str)):=aa_;generalize upd H4 l (HO.lst (W1.map V.str))=H5 at*;rw[Al_,AP_]at hm wl;have wt1:∀x∈W1,Tt x/\x∈nm N:=λx hx=>wt x (Ax_ _ hx);have nr5:=nr;obtain⟨iu,lu,a1,b1,vu,hlu,mlu⟩:=nr.look tu.2;have fu:=few u;clear wt em w0 S4 he4 hl4;nofun;show⟨_,vu▸GQ_.k (k:=.inr u) (S5 _ _ nr.D),lu,rfl,⟨_,.inl (.inl (S5 _ _ hlu))⟩,?_⟩;show bE_ (xs:=(L u).map V.str) (λi σ Hx=>∃(e8:Option V)(sd W:List Str),σ=[some (V.ref pn),some (V.ref d),some (V.ref s),some (V.ref g),some (V.ref c),some (V.ref e),some (V.ref l),some (V.str u),e8]/\Fo_ H Hx/\Hx e=some (.dK (G8_ sd))/\Hx l=some (.lst (W.map V.str))/\sd.Nodup/\(∀x∈sd,x∈nm N)/\(∀x∈W,Tt x/\x∈nm N)/\(2*(nm N).length+W.length<m+2*sd.length)/\W.length<=6+sd.length) ⟨_,sd,W1,rfl,S5,he5,hl5,sdn,sdm,wt1,o_,o_⟩ ?_ ?_ ?_
    .rintro i σ Hx hi ⟨e8,sd,W,rfl,S,he,hl,sdn,sdm,wt,hm,wl⟩;show .inl (.inl (S _ _ hlu))
    .rintro i x σ Hx hx kk1 kb1 hk1 hb1 G1 hG1 ⟨e8,sd,W,rfl,S,he,hl,sdn,sdm,wt,hm,wl⟩;show hG1 ?_;rw[Af_]at hx;obtain⟨z,hz,rfl⟩:=AR_.mp hx;have tz:=(near u z).mp (Ag_ hz);have hg':=S _ _ hg;have hc':=S _ _ hc
     have tk1:z∈gl->z∉cut->False:=λh1 h2=>by
      by_cases e:u=z
      .show(t2 u tu.1).2 (e▸h1)
      .show(t2 z (t3 u z tu.1 tz e (AD_ _ h1) h2)).2 h1
     have sl:sd.length<=16:=AH_ (ar_ sdn sdm) nml;nofun;show⟨_,.inl (.inl (.inl hg')),rfl,bF_ _,?_⟩;rw[dA_];have back:kk1 [some (V.ref pn),some (V.ref d),some (V.ref s),some (V.ref g),some (V.ref c),some (V.ref e),some (V.ref l),some (V.str u),some (V.str z)] Hx:=hk1 _ _ ⟨_,sd,W,rfl,S,he,hl,sdn,sdm,wt,hm,wl⟩;show chk _ (.inl (.inl (.inl hc'))) rfl (bF_ _) (λh1=>?_) ?_
     .rw[dA_];show As_ (Bz_ λh2=>tk1 (AJ_ h1) h2)
     show⟨_,S _ _ hn,_,Gc_,p0,rfl,_,.inl (.inl (.inl (S _ _ h0))),rfl,bF_ _,?_⟩;rw[dA_];by_cases zp:z∈N.posts
     .rw[if_neg (by rw[As_ zp];decide)];show back
     rw[if_pos (At_ zp)];show⟨_,.inl (.inl (.inl hc')),rfl,bF_ _,?_⟩;rw[dA_];by_cases zc:z∈cut
     .rw[if_neg (by rw[As_ zc];decide)];show back
     rw[if_pos (At_ zc)];show⟨_,GQ_.k (k:=.inr z) he,?_⟩;rw[ll_];by_cases zs:z∈sd
     .rw[if_neg (by rw[As_ zs];decide)];show back
     rw[if_pos (At_ zs)];have zn:z∈nm N:=(kO_ tz).2
     have tzz:Tt z:=by
      by_cases e:u=z
      .show e▸tu.1
      .show t3 u z tu.1 tz e (Ax_ _ (AI_.mpr ⟨zn,As_ zp⟩)) zc
     clear back;nofun;show⟨_,Iv_.k (k:=.inr z) he (by unfold G8_;rw[Ab_,BG_];lia),?_⟩;have hl2:upd Hx e (HO.dK (Gd_ (G8_ sd) (Sum.inr z) (V.bl true))) l=some (.lst (W.map V.str)):=(ae_ le).trans hl;nofun;show⟨.inl ⟨_,.inl (.inl hl2)⟩,_,hl2,Fq_ (by rw[Ab_];lia),?_⟩;show hk1 _ _ ⟨_,sd++[z],W++[z],rfl,λb o eb=>(ae_ λw=>by rw[w,Hl]at eb;cases eb).trans ((ae_ λw=>by rw[w,He]at eb;cases eb).trans (S _ _ eb)),(ae_ le.symm).trans (by rw[aa_,nX_ zs]),by rw[aa_,Av_];rfl,AG_.mpr ⟨sdn,s_,λa ha b hb e=>zs (by rw[Ae_.mp hb]at e;show e▸ha)⟩,λx hx=>?_,λx hx=>?_,by rw[Al_,Al_,AP_];lia,by rw[Al_,Al_,AP_];lia⟩
     .rcases Aq_.mp hx with h|h
      .show sdm x h
      .rw[Ae_.mp h];show zn
     .rcases Aq_.mp hx with h|h
      .show wt x h
      .rw[Ae_.mp h];show⟨tzz,zn⟩
    .rintro σ Hx ⟨e8,sd,W,rfl,S,he,hl,sdn,sdm,wt,hm,wl⟩;have sl:sd.length<=(nm N).length:=ar_ sdn sdm;show⟨2*(nm N).length+W.length-2*sd.length,o_,_,_,sd,W,rfl,S,he,hl,sdn,sdm,wt,o_,wl⟩
theorem oB_:bootBuiltins "set"=some (.type "set"):=r_
theorem m1_{l:List Str}{t:Str}:inT l (.inr t)=true↔t∈l:=by simp[inT]
theorem J7_:∀(n:Nat)(l:List Str),l.length=n->(dc l=n↔l.Nodup)
 |0,l,h=>by
  rw[Bo_ h];show⟨λ_=>A6_,λ_=>rfl⟩
 |n+1,l,h=>by
  obtain⟨m,x,rfl⟩:∃m x,l=m++[x]:=⟨l.dropLast,l.getLast (λe=>by rw[e]at h;cases h),(Bp_ _).symm⟩;have hm:m.length=n:=by simpa using h
  have ih:=J7_ n m hm;have le:=K2_ m;rw[mF_,AG_];by_cases c:x∈m
  .rw[if_pos (m1_.mpr c)];show⟨λz=>o_,λz=>absurd rfl (z.2.2 x c x An_)⟩
  .rw[if_neg (λz=>c (m1_.mp z))];show⟨λz=>⟨ih.mp o_,s_,λa ha b hb e=>c (by rw[<-Ae_.mp hb,<-e];show ha)⟩,λz=>by have:=ih.mpr z.1;lia⟩
theorem m2_:∀{ws:List (List Str)},(∀x∈ws,x.Nodup)->(∀(i j:Nat) x y,i≠j->ws[i]?=some x->ws[j]?=some y->∀z∈x,z∉y)->ws.flatten.Nodup
 |[],_,_=>A6_
 |x::ws,h1,h2=>by rw[A8_];show AG_.mpr ⟨h1 x An_,m2_ (λy hy=>h1 y (Am_ _ hy)) λi j a b ne ha hb=>h2 (i+1) (j+1) a b (λe=>ne o_) ha hb,λa ha b hb e=>?_⟩;obtain⟨y,hy,hm⟩:=Cb_.mp hb;obtain⟨j,hj,ej⟩:=Ap_.mp hy;show h2 0 (j+1) x y o_ rfl (by change ws[j]?=_;rw[Aa_ hj,ej]) a ha (e▸hm)
theorem J6_{α:Type}{xs:List α}{v:α}(h:xs[i]?=some v):atI xs (0+(i:Int))=some v:=by rw[CH_];show g3_ h
theorem qh_{x:List Str}(h:2<=x.length):Hf_ (x.map V.str) (some 1) (some (-1))=((x.drop 1).take (x.length-2)).map V.str:=by
 unfold Hf_;have e1:HT.sIx (x.map V.str).length 0 (some 1)=1:=by rw[show(some (1:Int))=some ((1:Nat):Int)from rfl,HT.sIx_nat,Ab_];lia
 have e2:HT.sIx (x.map V.str).length (x.map V.str).length (some (-1))=x.length-1:=by rw[Ab_];unfold HT.sIx;simp;lia
 rw[e1,e2,Cw_,Dc_];rfl
abbrev FB_:Stmt:=stN 33
theorem bN_:ZM ["_law_net","_law_near_here","_law_sources","_law_targets","_law_ways","_law_met","_law_k","_law_way","_law_at"] ["_law_net","_law_near_here","_law_sources","_law_targets","_law_ways"] (Fp_ FB_):=zM
theorem bB_:LK FB_ "_law_met" .local:=r_
theorem ci_:LK FB_ "_law_k" .local:=r_
theorem aE_:LK FB_ "_law_way" .local:=r_
theorem cj_:LK FB_ "_law_at" .local:=r_
theorem bX_:LK FB_ "isinstance" .globalImplicit:=r_
theorem aP_:LK FB_ "len" .globalImplicit:=r_
theorem dE_:LK FB_ "list" .globalImplicit:=r_
theorem da_:LK FB_ "range" .globalImplicit:=r_
theorem gL_:LK FB_ "set" .globalImplicit:=r_
def KN_(K:PySem.W.Frag):Sp:=λvs H Q _=>∃(v:V)(N:Net Str)(d s g c:Addr)(ls:List Addr)(L:Str->List Str)(st gl:List Str)(was:List Addr)(ws:List (List Str)),vs=[v,.ref d,.ref s,.ref g,.ref c]/\Hd K H v N d ls L s g st gl/\H c=some (.lst (was.map V.ref))/\Il_ H was ws/\Kl_ N st gl ws/\(∀(i:Nat) x,ws[i]?=some x->x[x.length-1]?=gl[i]?)/\(∀z∈st++Fz_ N++gl,z∈nm N)/\∀H',Fo_ H H'->Q (.bl true) H'
theorem j7_(T:Txt K mg)(F:Fn0 K mg "_law_are_ways" FB_):Cal P w K mg base "_law_are_ways" ["_law_net","_law_near_here","_law_sources","_law_targets","_law_ways"] 1 (KN_ K):=by
  show aU_ F bN_.1 λf cdv A outer s0 H vs Q E hr h=>?_;obtain⟨v,N,d,s,g,c,ls,L,st,gl,was,ws,rfl,hd,hc,wa,wo,we,vn,k⟩:=h;obtain⟨hv,ok,⟨Sn,nr⟩,near,few,hs,hg,s6,g6,sn,gn⟩:=hd;obtain⟨pn,p0,p1,p2,rs,wr,rfl,hn,h0,h1,r1,h2,r2⟩:=b5_ hv;have wl:=wa.len;have wl2:=wo.len;refine'⟨_,?D,?R⟩
  case D =>
   refine' ad_ (F4_ ?a (af_ (az_ F7_)) aI_) (ai_ (aj_ (i:=5) bN_.nd rfl bB_ (bn_ ab_)) ?b)
   case' a=>refine' PW.pt (GV_ (eh_ (d7_ (ak_ gO_ bX_ T.n_isinstance bP_ (pa_c (zw 4 bN_) (pa_c ?c ab_))))) ?d)
   case c=>show je_ dE_ T.n_list cs_
   case' d=>refine' g1_ (aq_ Iq_ (ak_ al_ aP_ T.n_len aH_ (pa_c (zw 4 bN_) ab_)) (ak_ al_ aP_ T.n_len aH_ (pa_c (zw 2 bN_) ab_)) (FJ_ _))
   case' b=>refine' ad_ (aO_ AC_ rfl (a5_ da_ T.n_range (pa_c (ak_ al_ aP_ T.n_len aH_ (pa_c (zw 4 bN_) ab_)) ab_)) ?e ?f) (af_ ?g)
   case e=>show ah_ (i:=6) bN_.nd rfl ci_
   case' f=>refine' ai_ (aj_ (i:=7) bN_.nd rfl aE_ (Fv_ an_ (zw 4 bN_) (zw 6 bN_))) (ad_ (F4_ ?h (af_ (az_ F7_)) aI_) ?i)
   case' h=>refine' PW.pt (GV_ (eh_ (d7_ (ak_ gO_ bX_ T.n_isinstance bP_ (pa_c (zw 7 bN_) (pa_c ?j ab_))))) ?k)
   case j=>show je_ dE_ T.n_list cs_
   case' k=>refine' GV_ (aq_ HI_ (ak_ al_ aP_ T.n_len aH_ (pa_c (zw 7 bN_) ab_)) ac_ (FJ_ _)) (GV_ (aq_ Iq_ (Fv_ an_ (zw 7 bN_) ac_) (Fv_ an_ (zw 2 bN_) (zw 6 bN_)) (FJ_ _)) ?l)
   case' l=>refine' g1_ (aq_ Iq_ (Fv_ an_ (zw 7 bN_) (Ir_ hW_ ac_)) (Fv_ an_ (zw 3 bN_) (zw 6 bN_)) (FJ_ _))
   case' i=>refine' ad_ (F4_ ?m (af_ (az_ F7_)) aI_) (ad_ ?n (af_ (aj_ (i:=5) bN_.nd rfl bB_ (Fs_ ei_ (zw 5 bN_) (zw 7 bN_)))))
   case' m=>refine' aq_ (hY_ (hr.units)) (cG_ (N':=["_law_point","_law_net"]) (ix:=[none,some 0]) rfl rfl (bL_ ?o) ?p (λ_ _ _=>?q) (λ_ _ _=>(g9_ (aq_ (ia_ (K:=K) rfl) (pv1 0 rfl rfl) (Fv_ ao_ (pvc 1 rfl rfl) ac_) (by with_unfolding_all rfl)))) (λ_ _ _=>(pv1 0 rfl rfl))) (bn_ ab_) (FJ_ _)
   case o=>show(by change G5_ (Fp_ FB_) ["_law_net","_law_near_here","_law_sources","_law_targets","_law_ways","_law_met","_law_k","_law_way","_law_at"] _ _ _=true;decide +kernel)
   case' p=>refine' ax_ (K:=K) rfl (ca_ c4_ (zw 7 bN_) (b0_ ac_) (b0_ (Ir_ hW_ ac_)))
   case q=>show ah_ (i:=0) (by change List.Nodup (["_law_point","_law_net"]:List Str);decide +kernel) rfl rfl
   case' n=>refine' aO_ AC_ rfl (g2_ da_ T.n_range (pa_c ac_ (pa_c (ak_ al_ aP_ T.n_len aH_ (pa_c (zw 7 bN_) ab_)) ab_))) ?r ?s
   case r=>show ah_ (i:=8) bN_.nd rfl cj_
   case' s=>refine' af_ (F4_ (PW.pt (GV_ (ft_ (hc_ (un1 hr.units) (Fv_ an_ (zw 7 bN_) (zw 8 bN_)) (zw 1 bN_))) ?t)) (af_ (az_ F7_)) aI_)
   case' t=>refine' g1_ (aq_ (cT_ (K:=K) rfl) (Fv_ an_ (zw 7 bN_) (zw 8 bN_)) (dd_ (un1 hr.units) (zw 1 bN_) (Fv_ an_ (zw 7 bN_) (Fs_ lX_ (zw 8 bN_) ac_))) (by with_unfolding_all rfl))
   case' g=>refine' az_ (il_ GP_ (ak_ jJ_ aP_ T.n_len aH_ (pa_c (bQ_ (jK_ rfl) gL_ T.n_set oB_ (pa_c (zw 5 bN_) ab_)) ab_)) (ak_ al_ aP_ T.n_len aH_ (pa_c (zw 5 bN_) ab_)) (FJ_ _))
  case R =>
   nofun;show⟨_,by simp[Hl_,hc];rfl,?_⟩;rw[if_neg d_];show⟨_,.inl hc,_,.inl hs,?_⟩;rw[Ab_,Ab_,if_neg (λz=>z o_)];nofun;show⟨AE_ _,λq nq=>?_⟩;have S0:=Fo_.new nq (o:=HO.lst []);have hq0:=aa_ (H:=H) (a:=q) (o:=HO.lst []);generalize upd H q (HO.lst [])=H0 at*;nofun;show⟨_,.inl (S0 _ _ hc),?_⟩;rw[Ab_];show⟨o_,o_,?_⟩;rw[AK_];have fn:=m2_ wo.nd wo.ap;have fl:ws.flatten.length<=16:=AH_ (ar_ fn (m:=nm N) λz hz=>by obtain⟨x,hx,hm⟩:=Cb_.mp hz;show vn z (wo.on x hx z hm)) (by unfold nm;rw[Ab_];show ok.few);show fB_ (λi σ Hx=>∃(m:Addr)(e6 e7 e8:Option V),σ=[some (V.ref pn),some (V.ref d),some (V.ref s),some (V.ref g),some (V.ref c),some (V.ref m),e6,e7,e8]/\Fo_ H Hx/\Hx m=some (.lst (((ws.take i).flatten).map V.str))) ⟨q,none,none,none,rfl,S0,hq0⟩ ?_ ?_
   .rintro i σ Hx hi kk kb hk hb G hG ⟨m,e6,e7,e8,rfl,S,hm⟩;show hG ?_;have ha:was[i]?=some was[i]:=Aa_ hi;have hw:ws[i]?=some (ws[i]'o_):=Aa_ _;have hs0:st[i]?=some (st[i]'o_):=Aa_ _;generalize was[i]=a at ha;generalize ws[i]'o_=x at hw;generalize st[i]'o_=sx at hs0;have xin:=Ag_ hw;have hx:=wa.at_ i a x ha hw;have x2:=wo.two x xin;have x16:x.length<=16:=AH_ (ar_ (wo.nd x xin) (m:=nm N) λz hz=>vn z (wo.on x xin z hz)) (by unfold nm;rw[Ab_];show ok.few);have hgl:=we i x hw;obtain⟨lx,hlx⟩:=oz_ (wo.hd i sx x hs0 hw);rw[hlx]at hgl;have tk:(ws.take (i+1)).flatten=(ws.take i).flatten++x:=by rw[Bc_,hw,Be_];simp
    rw[tk]at hk;nofun;show⟨_,S _ _ hc,_,J6_ (by rw[Af_,ha];rfl),?_⟩;have hxS:=S _ _ hx;nofun;show⟨_,by simp[Hl_,hxS];rfl,?_⟩;rw[if_neg d_];show⟨_,.inl hxS,?_⟩;rw[Ab_,if_neg o_];show⟨_,hxS,.str sx,g3_ (j:=0) (by rw[Af_,wo.hd i sx x hs0 hw];rfl),_,S _ _ hs,.str sx,J6_ (by rw[Af_,hs0];rfl),rfl,?_⟩;rw[if_neg (λz=>z rfl)];show⟨_,hxS,.str lx,lh_ hlx,_,S _ _ hg,.str lx,J6_ (by rw[Af_,<-hgl];rfl),rfl,?_⟩;rw[if_neg (λz=>z rfl)];show⟨_,hxS,λt nt=>?_⟩;have S1:=Fo_.new nt (o:=HO.lst (Hf_ (x.map V.str) (some 1) (some (-1))));have ht1:=aa_ (H:=Hx) (a:=t) (o:=HO.lst (Hf_ (x.map V.str) (some 1) (some (-1))));rw[qh_ x2]at S1 ht1⊢;obtain⟨mid,hmid⟩:∃mid,mid=(x.drop 1).take (x.length-2):=⟨_,rfl⟩;rw[<-hmid]at S1 ht1⊢;have m16:mid.length<=16:=by rw[hmid,AT_,B6_];lia
    have mno:∀z∈mid,z∉N.posts:=λz hz=>by rw[hmid]at hz;obtain⟨j,hj,e⟩:=Ap_.mp hz;rw[AT_,B6_]at hj;rw[CE_,List.getElem_drop]at e;have:=wo.mid x xin j z o_ (by rw[Aa_ o_,<-e];simp[Ej_]);show AJ_ (AI_.mp this).2
    generalize upd Hx t (HO.lst (mid.map V.str))=H1 at*;have S2:=S.trans S1;have hx1:=S1 _ _ hxS;have hm1:=S1 _ _ hm;show⟨⟨_,.inl (.inl ht1)⟩,?_⟩;show cK_ (n:=mid.length) (B:=λ_=>none) (Pσ:=λσ=>∃e,σ=[e,some (.ref pn)]) (bs:=λi=>decide (mid.getD i Str.empty∈N.posts)) (val:=λi=>dS (mid.getD i Str.empty)) (λb o e=>by cases e) ⟨_,rfl⟩ o_ (λj H2 hj s2=>⟨_,.str (mid.getD j Str.empty),.inl (.inl (s2 _ _ ht1)),aM_ hj⟩) (λH2 s2=>⟨_,.inl (.inl (s2 _ _ ht1)),s_⟩) ?_ ?_
    .rintro D1 j y σ' H3 H3' hD hDo hs3 hj ⟨rfl,hy⟩ ⟨e2,rfl⟩ Y R kY kR;have hx2:=hy _ (.inl (.inl (hs3 _ _ ht1)));rw[aM_ hj]at hx2;cases hx2;have s13:=S2.trans hs3;nofun;show⟨_,s13 _ _ hn,_,Gc_,p0,rfl,_,.inl (.inl (.inl (s13 _ _ h0))),rfl,bF_ _,?_⟩;rw[dA_];by_cases hc:mid.getD j Str.empty∈N.posts
     .rw[if_pos (As_ hc)];show kY (As_ hc) _ _ _ ⟨_,rfl⟩ (Fo_.refl _) rfl
     .rw[if_neg (by rw[At_ hc];decide)];show kR (At_ hc) _ _ ⟨_,rfl⟩ (Fo_.refl _)
    intro D1 H3 nD1 S3 rep3;rw[b7_ Str.empty (λz=>decide (z∈N.posts)) dS mid,EE_.mpr (λz hz q=>mno z hz (AJ_ q))]at rep3;show⟨AE_ _,λt2 nt2=>?_⟩;have S4:=Fo_.new nt2 (o:=HO.lst []);have ht2:=aa_ (H:=H3) (a:=t2) (o:=HO.lst []);have rep4:=Rep.mono (cI_.trans S4) _ rep3;have hx4:=S4 _ _ (S3 _ _ hx1);have hm4:=S4 _ _ (S3 _ _ hm1);have S5:=(S2.trans S3).trans S4;generalize upd H3 t2 (HO.lst [])=H4 at*;show⟨D1,rfl,.lst [],rep4,.lst [],⟨t2,[],rfl,ht2,rfl⟩,_,lj_ _,d_,?_⟩;rw[As_ (show([]:List Dt).length=0 from rfl),if_neg d_];show⟨_,.inl hx4,o_,o_,o_,by rw[Ab_];lia,?_⟩;rw[Ab_];have en:((x.length:Int)-1).toNat=x.length-1:=o_
    rw[en];clear rep4 rep3 ht2 nt2 S4 S3 S1 hx1 hm1 ht1 nD1 hxS hm nt S S2;show fB_ (λj σ Hy=>∃(e8:Option V),σ=[some (V.ref pn),some (V.ref d),some (V.ref s),some (V.ref g),some (V.ref c),some (V.ref m),some (V.int (0+i)),some (V.ref a),e8]/\Hy=H4) ⟨_,rfl,rfl⟩ ?_ ?_
    .rintro j σ Hy hj kk1 kb1 hk1 hb1 G1 hG1 ⟨e8,rfl,rfl⟩;show hG1 ?_;have hu:x[j]?=some (x[j]'o_):=Aa_ _;have hv:x[j+1]?=some (x[j+1]'o_):=Aa_ _;generalize x[j]'o_=u at hu;generalize x[j+1]'o_=v at hv;have hop:=(wo.hop x xin j u v hu hv).1;have tn:=kO_ hop;have vl:v∈L u:=(near u v).mpr hop;have a1:atI (x.map V.str) (1+(j:Int))=some (.str v):=by rw[show(1+(j:Int))=((j+1:Nat):Int) by lia];show g3_ (by rw[Af_,hv];rfl)
     have a0:atI (x.map V.str) (1+(j:Int)-1)=some (.str u):=by rw[show(1+(j:Int)-1)=((j:Nat):Int) by lia];show g3_ (by rw[Af_,hu];rfl)
     obtain⟨iv,lv,_,_,vv,_,_⟩:=nr.look tn.2;obtain⟨iu,lu,_,_,vu,hlu,_⟩:=nr.look tn.1;nofun;show⟨_,hx4,_,a1,_,vv▸GQ_.k (k:=.inr v) (S5 _ _ nr.D),?_⟩;rw[if_neg (show ¬ (some (V.ref lv)).isSome=false from by simp)];show⟨_,hx4,_,a1,_,hx4,_,a0,_,vu▸GQ_.k (k:=.inr u) (S5 _ _ nr.D),lu,rfl,_,.inl (.inl (.inl (S5 _ _ hlu))),rfl,bF_ _,?_⟩;rw[dA_,if_neg (by rw[As_ vl];decide)];show hk1 _ _ ⟨_,rfl,rfl⟩
    .rintro σ Hy ⟨e8,rfl,rfl⟩;nofun;have tl:(ws.take i).flatten.length<=16:=by have e1:=Bk_ i ws;have e2:=congrArg (λl=>(List.flatten l).length) e1;simp only[Be_,Al_]at e2;lia
     show⟨_,hm4,_,hx4,AS_ (Fq_ (by rw[Ab_,Ab_];lia)),λp np=>?_⟩;show hk _ _ ⟨p,_,_,_,rfl,S5.trans (Fo_.new np),by rw[aa_,Av_]⟩
   .rintro σ Hx ⟨m,e6,e7,e8,rfl,S,hm⟩;rw[A0_ o_]at hm;nofun;show⟨ws.flatten,hm,o_,λa na=>?_⟩;have sa:=Fo_.new na (o:=SzO a (dc ws.flatten));have ha:=aa_ (H:=Hx) (a:=a) (o:=SzO a (dc ws.flatten));generalize upd Hx a (SzO a (dc ws.flatten))=H1 at*;have ed:dc ws.flatten=ws.flatten.length:=(J7_ _ _ rfl).mpr fn;show⟨a,_,rfl,ha,?_⟩;show⟨_,.inl (sa _ _ hm),rfl,?_⟩;rw[ed,Ab_,As_ rfl];show k H1 (S.trans sa)
abbrev F3_:Stmt:=stN 34
theorem lm_:ZL ["_law_net","_law_near_here","_law_sources","_law_targets","_law_cut","_law_point"] ["_law_net","_law_near_here","_law_sources","_law_targets","_law_cut"] (Fp_ F3_):=zL
theorem gM_:LK F3_ "_law_is_cut" .globalImplicit:=r_
theorem fl_:LK F3_ "isinstance" .globalImplicit:=r_
theorem db_:LK F3_ "len" .globalImplicit:=r_
theorem iU_:LK F3_ "list" .globalImplicit:=r_
theorem j8_:LK F3_ "set" .globalImplicit:=r_
theorem hD_:LK F3_ "sorted" .globalImplicit:=r_
def II_(K:PySem.W.Frag):Sp:=λvs H Q _=>∃(v:V)(N:Net Str)(d s g c:Addr)(ls:List Addr)(L:Str->List Str)(st gl cut:List Str),vs=[v,.ref d,.ref s,.ref g,.ref c]/\Hd K H v N d ls L s g st gl/\H c=some (.lst (cut.map V.str))/\Iz_ N st gl cut/\(∀z∈st++Fz_ N++gl,z∈nm N)/\∀H',Fo_ H H'->Q (.bl true) H'
theorem nY_(T:Txt K mg)(F:Fn0 K mg "_law_cuts" F3_) (I2_:Cal P w K mg base "_law_is_cut" ["_law_net","_law_near_here","_law_sources","_law_targets","_law_cut"] 1 (JS_ K)):Cal P w K mg base "_law_cuts" ["_law_net","_law_near_here","_law_sources","_law_targets","_law_cut"] 2 (II_ K):=by
  show aU_ F lm_.1 λf cdv A outer s0 H vs Q E hr h=>?_;obtain⟨v,N,d,s,g,c,ls,L,st,gl,cut,rfl,hd,hc,co,vn,k⟩:=h;obtain⟨hv,ok,⟨Sn,nr⟩,near,few,hs,hg,s6,g6,sn,gn⟩:=id hd;obtain⟨pn,p0,p1,p2,rs,wr,rfl,hn,h0,h1,r1,h2,r2⟩:=b5_ hv;refine'⟨_,?D,?R⟩
  case D =>
   refine' ad_ (F4_ ?a (af_ (az_ F7_)) aI_) (ad_ (aO_ AC_ rfl (ax_ (K:=K) rfl (zv 4 lm_)) ?b ?c) ?d)
   case' a=>refine' PW.pt (GV_ ?e (GV_ (aq_ (hY_ (hr.units)) (zv 4 lm_) (ak_ h6_ hD_ T.n_sorted ej_ (pa_c (zv 4 lm_) ab_)) (FJ_ _)) ?f))
   case' e=>refine' eh_ (d7_ (ak_ gO_ fl_ T.n_isinstance bP_ (pa_c (zv 4 lm_) (pa_c ?g ab_))))
   case g=>show je_ iU_ T.n_list cs_
   case' f=>refine' GV_ (aq_ KT_ (ak_ al_ db_ T.n_len aH_ (pa_c (zv 4 lm_) ab_)) (ak_ al_ db_ T.n_len aH_ (pa_c (zv 2 lm_) ab_)) (FJ_ _)) ?h
   case' h=>refine' g1_ (aq_ HI_ (ak_ jJ_ db_ T.n_len aH_ (pa_c (bQ_ (jK_ rfl) j8_ T.n_set oB_ (pa_c (zv 4 lm_) ab_)) ab_)) (ak_ al_ db_ T.n_len aH_ (pa_c (zv 4 lm_) ab_)) (FJ_ _))
   case b=>show zh 5 lm_
   case' c=>refine' af_ (F4_ (PW.pt (GV_ (ft_ (hc_ (un1 hr.units) (zv 5 lm_) (zv 1 lm_))) ?i)) (af_ (az_ F7_)) aI_)
   case' i=>refine' g1_ (PW.pt (eg_ (aq_ (ia_ (K:=K) rfl) (zv 5 lm_) (Fv_ ao_ (zv 0 lm_) ac_) (by with_unfolding_all rfl)) (dG_ (aq_ (cT_ (K:=K) rfl) (zv 5 lm_) (Fs_ ei_ (zv 2 lm_) (zv 3 lm_)) (by with_unfolding_all rfl)))))
   case' d=>refine' af_ (az_ (am_ I2_ (hr.mono d_) gM_ (pa_c (zv 0 lm_) (pa_c (zv 1 lm_) (pa_c (zv 2 lm_) (pa_c (zv 3 lm_) (pa_c (zv 4 lm_) ab_)))))))
  case R =>
   nofun;show⟨_,by simp[Hl_,hc];rfl,?_⟩;rw[if_neg d_];have cl:cut.length<=6:=AH_ (AS_ co.lt) s6;show⟨c,cut,rfl,hc,o_,λl zs nl pm srt=>?_⟩;have ez:zs=cut:=jw_ (λ_ _=>sLe.antisymm) pm srt co.srt;subst ez;have S1:=Fo_.new nl (o:=HO.lst (zs.map V.str));have hl1:=aa_ (H:=H) (a:=l) (o:=HO.lst (zs.map V.str));generalize upd H l (HO.lst (zs.map V.str))=H1 at*;show⟨l,rfl,.lst (zs.map Dt.str),⟨c,_,rfl,S1 _ _ hc,bz_ zs⟩,.lst (zs.map Dt.str),⟨l,_,rfl,hl1,bz_ zs⟩,_,iQ_ _,lk_ _,?_⟩;rw[if_neg d_];show⟨_,.inl (S1 _ _ hc),_,.inl (S1 _ _ hs),?_⟩;have lt:=co.lt;rw[Ab_,Ab_,if_neg o_];show⟨_,S1 _ _ hc,o_,λa na=>?_⟩;have S2:=Fo_.new na (o:=SzO a (dc zs));have ha:=aa_ (H:=H1) (a:=a) (o:=SzO a (dc zs));generalize upd H1 a (SzO a (dc zs))=H2 at*;have ed:dc zs=zs.length:=(J7_ _ _ rfl).mpr co.nd;show⟨a,_,rfl,ha,?_⟩;have S12:=S1.trans S2;show⟨_,.inl (S12 _ _ hc),_,rfl,?_⟩;rw[ed,Ab_,if_neg o_];show⟨⟨_,.inl (.inl (S12 _ _ hc))⟩,?_⟩;clear S1 S2 ha hl1 nl na;show bE_ (xs:=zs.map V.str) (λi σ Hx=>∃e5,σ=[some (V.ref pn),some (V.ref d),some (V.ref s),some (V.ref g),some (V.ref c),e5]/\Fo_ H Hx) ⟨none,rfl,S12⟩ ?_ ?_ ?_
   .rintro i σ Hx hi ⟨e5,rfl,S⟩;show .inl (.inl (S _ _ hc))
   .rintro i x σ Hx hx kk kb hk hb G hG ⟨e5,rfl,S⟩;show hG ?_;rw[Af_]at hx;obtain⟨z,hz,rfl⟩:=AR_.mp hx;have zon:=co.on z (Ag_ hz);obtain⟨iz,lz,_,_,vz,_,_⟩:=nr.look (vn z zon);nofun;show⟨_,vz▸GQ_.k (k:=.inr z) (S _ _ nr.D),?_⟩;rw[if_neg (show ¬ (some (V.ref lz)).isSome=false from by simp)];show⟨_,S _ _ hn,_,Gc_,p0,rfl,_,.inl (.inl (.inl (S _ _ h0))),rfl,bF_ _,?_⟩;rw[dA_];by_cases zp:z∈N.posts
    .have zsg:z∈st++gl:=by
      rcases Aq_.mp zon with h|h
      .show Ax_ _ ((Aq_.mp h).resolve_right λw=>AJ_ (AI_.mp w).2 zp)
      .show AD_ _ h
     rw[if_pos (As_ zp)];show⟨_,S _ _ hs,_,S _ _ hg,AS_ (Fq_ (by rw[Ab_,Ab_];lia)),λp np=>?_⟩;rw[<-Av_];have S3:=Fo_.new np (o:=HO.lst ((st++gl).map V.str));show⟨_,.inl (.inl (.inl aa_)),rfl,bF_ _,?_⟩;rw[dA_,if_neg (by rw[As_ zsg];decide)];show hk _ _ ⟨_,rfl,S.trans S3⟩
    .rw[if_neg (by rw[At_ zp];decide)];show hk _ _ ⟨_,rfl,S⟩
   .rintro σ Hx ⟨e5,rfl,S⟩;nofun;show⟨_,N,d,s,g,c,ls,L,st,gl,zs,rfl,⟨Rep.mono S _ hv,ok,⟨Sn,nr.mono S⟩,near,few,S _ _ hs,S _ _ hg,s6,g6,sn,gn⟩,S _ _ hc,co,λH' S'=>k H' (S.trans S')⟩
theorem pw_{B:List Int}(nc:Ncn N)(ru:GM_ N.posts.length A B)(wo:Kl_ N (Gb_ N A) (Gb_ N B) ws):∀(i:Nat) x,ws[i]?=some x->x[x.length-1]?=(Gb_ N B)[i]?:=by
 have al:ws.length=A.length:=by rw[wo.len];unfold Gb_;rw[Ab_]
 have pst:∀a:Int,a∈A++B->N.posts[a.toNat]?=some (N.posts.getD a.toNat Str.empty):=λa ha=>by
  have:=ru.lt a ha;have l:a.toNat<N.posts.length:=o_
  rw[Ad_,Aa_ l];rfl
 have ex:∀i:Nat,∃b:Int,∀x:List Str,ws[i]?=some x->b∈B/\x[x.length-1]?=some (N.posts.getD b.toNat Str.empty):=λi=>by
  cases e:ws[i]? with
  |none=>show⟨0,λx h=>(nomatch h)⟩
  |some x =>have xin:=Ag_ e;have x2:=wo.two x xin;have hl:x[x.length-1]?=some (x[x.length-1]'o_):=Aa_ _;obtain⟨b,hb,e2⟩:=Ao_.mp (wo.last x xin _ hl);show⟨b,λy h=>by cases h;show⟨hb,by rw[hl,<-e2]⟩⟩
 obtain⟨f,hf⟩:∃f:Nat->Int,∀(i:Nat)(x:List Str),ws[i]?=some x->f i∈B/\x[x.length-1]?=some (N.posts.getD (f i).toNat Str.empty):=⟨λi=>Classical.choose (ex i),λi=>Classical.choose_spec (ex i)⟩;have get:∀i:Nat,i<A.length->∃(x:List Str)(a:Int),ws[i]?=some x/\A[i]?=some a/\A.getD i 0=a/\x[0]?=some (N.posts.getD a.toNat Str.empty)/\x∈ws/\a∈A:=λi hi=>by have h1:ws[i]?=some (ws[i]'o_):=Aa_ _;have h2:A[i]?=some A[i]:=Aa_ hi;show⟨_,_,h1,h2,by rw[Ad_,h2];rfl,wo.hd i _ _ (by unfold Gb_;rw[Af_,h2];rfl) h1,A2_ _,A2_ _⟩
 have lastne:∀(i j:Nat)(x y:List Str),i≠j->ws[i]?=some x->ws[j]?=some y->f i≠f j:=λi j x y ne hx hy e=>by have h1:=(hf i x hx).2;have h2:=(hf j y hy).2;rw[e]at h1;show wo.ap i j x y ne hx hy _ (Ag_ h1) (Ag_ h2)
 have same:(List.range A.length).map f=B:=by
  show ru.same s_ (λb hb=>?_) ?_ λi j hi hj ne=>?_
  .obtain⟨i,hi,rfl⟩:=Ao_.mp hb;obtain⟨x,a,hx,_⟩:=get i (AX_.mp hi);show(hf i x hx).1
  .unfold List.Nodup;rw[Bn_];show Bw_ (λ{a b} ha hb ne e=>?_) Ed_;obtain⟨x,_,hx,_⟩:=get a (AX_.mp ha);obtain⟨y,_,hy,_⟩:=get b (AX_.mp hb);show lastne a b x y ne hx hy e
  .obtain⟨x,a,hx,ha,ea,x0,xin,ain⟩:=get i hi;obtain⟨y,c,hy,hc,ec,y0,yin,cin⟩:=get j hj;have gi:((List.range A.length).map f).getD i 0=f i:=by simp[hi]
   have gj:((List.range A.length).map f).getD j 0=f j:=by simp[hj]
   rw[gi,gj,ea,ec];have fi:=hf i x hx;have fj:=hf j y hy;have hops:∀z∈ws,HP_ (Jb_ N) z:=λz hz=>ky_.mpr λk u v hu hv=>nV_ (wo.hop z hz k u v hu hv).1 (wo.hop z hz k u v hu hv).2;have hxo:=hops x xin;have hyo:=hops y yin;have apart:=wo.ap i j x y ne hx hy;cases x with
   |nil=>cases x0
   |cons x1 xl =>
    cases y with
    |nil=>cases y0
    |cons y1 yl =>
     cases x0;cases y0;have last:∀(u:Str)(l:List Str) v,(u::l)[(u::l).length-1]?=some v->(u::l).getLast (A7_ u l)=v:=λu l v h=>by rw[List.getLast_eq_getElem];rw[Aa_ s_]at h;show AB_ h
     have:=nc _ xl _ yl a.toNat (f i).toNat c.toNat (f j).toNat hxo hyo apart (pst a (Ax_ _ ain)) (by rw[last _ _ _ fi.2];show pst _ (AD_ _ fi.1)) (pst c (Ax_ _ cin)) (by rw[last _ _ _ fj.2];show pst _ (AD_ _ fj.1));have l1:=ru.lt a (Ax_ _ ain);have l2:=ru.lt c (Ax_ _ cin);have l3:=ru.lt _ (AD_ _ fi.1);have l4:=ru.lt _ (AD_ _ fj.1);unfold xI;have dn:∀s t:Int,0<=s->0<=t->decide (s<=t)=decide (s.toNat<=t.toNat):=λs t hs ht=>Ek_.mpr ⟨λh=>o_,λh=>o_⟩;rw[dn _ _ l1.1 l2.1,dn _ _ l3.1 l2.1,dn _ _ l1.1 l4.1,dn _ _ l3.1 l4.1,this];simp
 intro i x hx;have li:i<A.length:=by rw[<-al];show(Ai_.mp hx).1
 rw[(hf i x hx).2];unfold Gb_;rw[Af_,<-same,Af_,Ct_ li];rfl
theorem eF_{H:Hp}:∀ns:List Int,FM_ H (ns.map V.int) (ns.map Dt.int)
 |[]=>rfl
 |n::ns=>⟨_,_,rfl,rfl,eF_ ns⟩
theorem lO_(N:Net Str)(A B:List Int):dep (.tup [G7_ N,.lst (A.map Dt.int),.lst (B.map Dt.int)])<=60:=by have h1:=ps_ N;have h2:=ey_ (f:=Dt.int) (n:=1) (λr=>by simp[dep]) A;have h3:=ey_ (f:=Dt.int) (n:=1) (λr=>by simp[dep]) B;simp only[dep,deps];lia
def LT_(N:Net Str)(A B:List Int)(H:Hp)(c:Addr)(tag:Str):Prop:=(tag=Str.ofString "cut" /\ ∃cut,H c=some (.lst (cut.map V.str))/\Iz_ N (Gb_ N A) (Gb_ N B) cut)\/(tag=Str.ofString "ways" /\ ∃was ws,H c=some (.lst (was.map V.ref))/\Il_ H was ws/\Kl_ N (Gb_ N A) (Gb_ N B) ws)
theorem qi_{p:Addr}{B:List Int}{Q:VK}{E:XK}(hv:Rep H v (G7_ N))(ok:Gm_ N)(po:GB_ N)(hp:H p=some (.lst (A.map V.int)))(hq:H q=some (.lst (B.map V.int)))(ru:GM_ N.posts.length A B)(k:∀r c tag H',Fo_ H H'->H' r=some (.tup [.str tag,.ref c])->H r=none->LT_ N A B H' c tag->Q (.ref r) H'):Hz_ [v,.ref p,.ref q] H Q E :=
 ⟨v,N,p,q,A,B,rfl,hv,ok,po,hp,hq,ru,λr c cut H' s h1 h2 h3 _ h5=>k r c _ H' s h1 h3 (.inl ⟨rfl,cut,h2,h5⟩),λr c was ws H' s h1 h2 h3 h4 _ _ h7=>k r c _ H' s h1 h4 (.inr ⟨rfl,was,ws,h2,h3,h7⟩)⟩
abbrev FK_:Stmt:=stN 35
theorem eG_:ZM ["_law_net","_law_near_here","_law_kp","_law_kq","_law_handed","_law_told","_law_sources","_law_targets"] ["_law_net","_law_near_here","_law_kp","_law_kq"] (Fp_ FK_):=zM
theorem cX_:LK FK_ "_law_handed" .local:=r_
theorem bu_:LK FK_ "_law_told" .local:=r_
theorem fo_:LK FK_ "_law_sources" .local:=r_
theorem fp_:LK FK_ "_law_targets" .local:=r_
theorem fq_:LK FK_ "_law_are_ways" .globalImplicit:=r_
theorem hF_:LK FK_ "_law_copy" .globalImplicit:=r_
theorem hG_:LK FK_ "_law_cuts" .globalImplicit:=r_
theorem e0_:LK FK_ "isinstance" .globalImplicit:=r_
theorem iV_:LK FK_ "len" .globalImplicit:=r_
theorem e7_:LK FK_ "list" .globalImplicit:=r_
theorem hH_:LK FK_ "tuple" .globalImplicit:=r_
theorem eH_:LK FK_ "ways_or_cut" .globalImplicit:=r_
def Hp_(K:PySem.W.Frag):Sp:=λvs H Q _=>∃(v:V)(N:Net Str)(d p q:Addr)(ls:List Addr)(L:Str->List Str)(A B:List Int),vs=[v,.ref d,.ref p,.ref q]/\Rep H v (G7_ N)/\Gm_ N/\GB_ N/\Ncn N/\(∃S,NrA S H d (nm N) ls L)/\(∀u v,v∈L u↔tied (FW_ N) u v)/\(∀u,(L u).length<=30)/\H p=some (.lst (A.map V.int))/\H q=some (.lst (B.map V.int))/\GM_ N.posts.length A B/\∀H',Fo_ H H'->Q (.bl true) H'
theorem m3_(T:Txt K mg)(F:Fn0 K mg "_law_right" FK_) (HY_:Cal P w K mg base "_law_copy" ["_law_net"] 1 HT_) (Gs_:Cal P w K mg base "ways_or_cut" ["net","P","Q"] 4 Hz_) (HZ_:Cal P w K mg base "_law_are_ways" ["_law_net","_law_near_here","_law_sources","_law_targets","_law_ways"] 1 (KN_ K)) (Kc_:Cal P w K mg base "_law_cuts" ["_law_net","_law_near_here","_law_sources","_law_targets","_law_cut"] 2 (II_ K)):Cal P w K mg base "_law_right" ["_law_net","_law_near_here","_law_kp","_law_kq"] 5 (Hp_ K):=by
  show aU_ F eG_.1 λf cdv A0 outer s0 H vs Q E hr h=>?_;obtain⟨v,N,d,p,q,ls,L,A,B,rfl,hv,ok,po,nc,⟨Sn,nr⟩,near,few,hp,hq,ru,k⟩:=h;refine'⟨_,?D,?R⟩
  case D =>
   refine' ai_ (aj_ (i:=4) eG_.nd rfl cX_ (aF_ (pa_c (am_ HY_ (hr.mono d_) hF_ (pa_c (zw 0 eG_) ab_)) ?a))) ?b
   case' a=>refine' pa_c (bQ_ dm_ e7_ T.n_list cs_ (pa_c (zw 2 eG_) ab_)) (pa_c (bQ_ dm_ e7_ T.n_list cs_ (pa_c (zw 3 eG_) ab_)) ab_)
   case' b=>refine' ai_ ?c (ai_ (dL_ (i:=6) (N':=["_law_k","_law_net"]) (ix:=[none,some 0]) rfl rfl eG_.nd rfl fo_ rfl (bL_ ?d) (ax_ (K:=K) rfl (zw 2 eG_)) (λ_ _ _=>?e) (λ_ _ _=>?f) (λ_ _ _=>(Fv_ an_ (Fv_ ao_ (pvc 1 rfl rfl) ac_) (pv1 0 rfl rfl)))) ?g)
   case' c=>refine' aj_ (i:=5) eG_.nd rfl bu_ (am_ Gs_ (hr.mono d_) eH_ (pa_c (Fv_ ao_ (zw 4 eG_) ac_) (pa_c (Fv_ ao_ (zw 4 eG_) ac_) (pa_c (Fv_ ao_ (zw 4 eG_) ac_) ab_))))
   case d=>show(by change G5_ (Fp_ FK_) ["_law_net","_law_near_here","_law_kp","_law_kq","_law_handed","_law_told","_law_sources","_law_targets"] _ _ _=true;decide +kernel)
   case e=>show ah_ (i:=0) (by change List.Nodup (["_law_k","_law_net"]:List Str);decide +kernel) rfl rfl
   case f=>show dk_
   case' g=>refine' ai_ (dL_ (i:=7) (N':=["_law_k","_law_net"]) (ix:=[none,some 0]) rfl rfl eG_.nd rfl fp_ rfl (bL_ ?h) (ax_ (K:=K) rfl (zw 3 eG_)) (λ_ _ _=>?i) (λ_ _ _=>?j) (λ_ _ _=>(Fv_ an_ (Fv_ ao_ (pvc 1 rfl rfl) ac_) (pv1 0 rfl rfl)))) ?k
   case h=>show(by change G5_ (Fp_ FK_) ["_law_net","_law_near_here","_law_kp","_law_kq","_law_handed","_law_told","_law_sources","_law_targets"] _ _ _=true;decide +kernel)
   case i=>show ah_ (i:=0) (by change List.Nodup (["_law_k","_law_net"]:List Str);decide +kernel) rfl rfl
   case j=>show dk_
   case' k=>refine' ad_ (F4_ ?l (af_ (az_ F7_)) aI_) ?m
   case' l=>refine' PW.pt (GV_ ?n (GV_ (aq_ Iq_ (ak_ al_ iV_ T.n_len aH_ (pa_c (zw 5 eG_) ab_)) ac_ (FJ_ _)) ?o))
   case' n=>refine' eh_ (d7_ (ak_ (nI_ rfl) e0_ T.n_isinstance bP_ (pa_c (zw 5 eG_) (pa_c ?p ab_))))
   case p=>show je_ hH_ T.n_tuple nh_
   case' o=>refine' g1_ (aq_ (hY_ (hr.units)) (zw 4 eG_) (aF_ (pa_c (zw 0 eG_) (pa_c (zw 2 eG_) (pa_c (zw 3 eG_) ab_)))) (FJ_ _))
   case' m=>refine' ad_ (F4_ ?q (af_ (az_ F7_)) aI_) (ad_ (F4_ ?r (af_ (az_ F7_)) aI_) ?s)
   case' q=>refine' PW.pt (eg_ (aq_ GP_ (Fv_ ao_ (zw 5 eG_) ac_) fs_ (FJ_ _)) (dG_ (eh_ ?t)))
   case' t=>refine' d7_ (am_ HZ_ (hr.mono d_) fq_ (pa_c (zw 0 eG_) (pa_c (zw 1 eG_) (pa_c (zw 6 eG_) (pa_c (zw 7 eG_) (pa_c (Fv_ ao_ (zw 5 eG_) ac_) ab_))))))
   case' r=>refine' PW.pt (eg_ (aq_ GP_ (Fv_ ao_ (zw 5 eG_) ac_) fs_ (FJ_ _)) (dG_ (eh_ ?u)))
   case' u=>refine' d7_ (am_ Kc_ (hr.mono d_) hG_ (pa_c (zw 0 eG_) (pa_c (zw 1 eG_) (pa_c (zw 6 eG_) (pa_c (zw 7 eG_) (pa_c (Fv_ ao_ (zw 5 eG_) ac_) ab_))))))
   case' s=>refine' af_ (az_ (il_ (ia_ (K:=K) rfl) (Fv_ ao_ (zw 5 eG_) ac_) (aF_ (pa_c fs_ (pa_c fs_ ab_))) (by with_unfolding_all rfl)))
  case R =>
   nofun;show⟨v,N,rfl,hv,ok,λv2 H1 S1 hv1=>?_⟩;show⟨_,.inl (S1 _ _ hp),λl nl=>?_⟩;have S2:=Fo_.new nl (o:=HO.lst (A.map V.int));have hl2:=aa_ (H:=H1) (a:=l) (o:=HO.lst (A.map V.int));generalize upd H1 l (HO.lst (A.map V.int))=H2 at*;show⟨_,.inl (S2 _ _ (S1 _ _ hq)),λl2 nl2=>⟨d_,?_⟩⟩;have S3:=Fo_.new nl2 (o:=HO.lst (B.map V.int));have hl3:=aa_ (H:=H2) (a:=l2) (o:=HO.lst (B.map V.int));generalize upd H2 l2 (HO.lst (B.map V.int))=H3 at*;intro t nt;have S4:=Fo_.new nt (o:=HO.tup [v2,V.ref l,V.ref l2]);have ht4:=aa_ (H:=H3) (a:=t) (o:=HO.tup [v2,V.ref l,V.ref l2]);generalize upd H3 t (HO.tup [v2,V.ref l,V.ref l2])=H4 at*;have hv4:=Rep.mono ((S2.trans S3).trans S4) _ hv1;have ha4:=S4 _ _ (S3 _ _ hl2);have hb4:=S4 _ _ hl3;have SH:=((S1.trans S2).trans S3).trans S4;clear S1 S2 S3 S4 hv1 hl2 hl3 nl nl2 nt;nofun;show⟨_,ht4,_,Gc_,_,ht4,_,GE_,_,ht4,_,Ip_,qi_ hv4 ok po ha4 hb4 ru λr c tag H5 S5 hr nr5 told=>?_⟩;have SH5:=SH.trans S5;have hv5:=Rep.mono SH5 _ hv;have hv25:=Rep.mono S5 _ hv4;have ht5:=S5 _ _ ht4;have ha5:=S5 _ _ ha4;have hb5:=S5 _ _ hb4;clear S5 hv4 ht4 ha4 hb4 nr5 SH;obtain⟨pn,p0,p1,p2,rs,wr,rfl,hn,h0,h1,r1,h2,r2⟩:=b5_ hv;obtain⟨A6,hA,hB⟩:=fR_ ru ok;nofun;show⟨⟨_,.inl (.inl (SH5 _ _ hp))⟩,eV_ (SH5 _ _ hn) (SH5 _ _ h0) (SH5 _ _ hp) hA o_ λs Ha Sa ns hs=>?_⟩;nofun;show⟨⟨_,.inl (.inl (Sa _ _ (SH5 _ _ hq)))⟩,eV_ (Sa _ _ (SH5 _ _ hn)) (Sa _ _ (SH5 _ _ h0)) (Sa _ _ (SH5 _ _ hq)) hB o_ λg Hb Sb ng hg=>?_⟩;have SHb:=(SH5.trans Sa).trans Sb;have S5b:=Sa.trans Sb;have hsb:=Sb _ _ hs;have hd:Hd K Hb (.ref pn) N d ls L s g (Gb_ N A) (Gb_ N B):=⟨Rep.mono SHb _ hv,ok,⟨Sn,nr.mono SHb⟩,near,few,hsb,hg,by unfold Gb_;rw[Ab_];lia,by unfold Gb_;rw[Ab_];lia,λx hx=>po.pin x (eU_ hA x hx),λx hx=>po.pin x (eU_ hB x hx)⟩
   have vn:∀z∈Gb_ N A++Fz_ N++Gb_ N B,z∈nm N:=λz hz=>by
    rcases Aq_.mp hz with h|h
    .rcases Aq_.mp h with h|h
     .show po.pin z (eU_ hA z h)
     .show(AI_.mp h).1
    .show po.pin z (eU_ hB z h)
   have told2:LT_ N A B Hb c tag:=by
    rcases told with⟨e,cut,h1,h2⟩|⟨e,was,ws,h1,h2,h3⟩
    .show .inl ⟨e,cut,S5b _ _ h1,h2⟩
    .show .inr ⟨e,was,ws,S5b _ _ h1,⟨h2.len,λi a x g1 g2=>S5b _ _ (h2.at_ i a x g1 g2)⟩,h3⟩
   have hrb:=S5b _ _ hr;have ht4:=S5b _ _ ht5;have ha4:=S5b _ _ ha5;have hb4:=S5b _ _ hb5;have hv4:=Rep.mono S5b _ hv25;clear told hr Sa Sb hv25 ht5 ha5 hb5 hv5;nofun;show⟨_,SqT.of hrb,_,.inr hrb,?_⟩;rw[if_neg (λz=>z rfl)];show⟨d_,λt2 nt2=>?_⟩;have S6:=Fo_.new nt2 (o:=HO.tup [V.ref pn,V.ref p,V.ref q]);have ht6:=aa_ (H:=Hb) (a:=t2) (o:=HO.tup [V.ref pn,V.ref p,V.ref q]);generalize upd Hb t2 (HO.tup [V.ref pn,V.ref p,V.ref q])=H6 at*;have SH6:=SHb.trans S6;have hr6:=S6 _ _ hrb;have hd6:Hd K H6 (.ref pn) N d ls L s g (Gb_ N A) (Gb_ N B):=⟨Rep.mono SH6 _ hv,ok,⟨Sn,nr.mono SH6⟩,near,few,S6 _ _ hsb,S6 _ _ hg,hd.s6,hd.g6,hd.sn,hd.gn⟩;show⟨.tup [G7_ N,.lst (A.map Dt.int),.lst (B.map Dt.int)],⟨t,_,rfl,S6 _ _ ht4,_,_,rfl,Rep.mono S6 _ hv4,_,_,rfl,⟨l,_,rfl,S6 _ _ ha4,eF_ A⟩,_,_,rfl,⟨l2,_,rfl,S6 _ _ hb4,eF_ B⟩,rfl⟩,.tup [G7_ N,.lst (A.map Dt.int),.lst (B.map Dt.int)],⟨t2,_,rfl,ht6,_,_,rfl,Rep.mono SH6 _ hv,_,_,rfl,⟨p,_,rfl,SH6 _ _ hp,eF_ A⟩,_,_,rfl,⟨q,_,rfl,SH6 _ _ hq,eF_ B⟩,rfl⟩,_,iQ_ _,?_,?_⟩
   .show lO_ N A B
   rw[if_neg d_];show⟨_,hr6,_,Gc_,rfl,?_⟩
   rcases told2 with⟨rfl,cut,h1,co⟩|⟨rfl,was,ws,h1,wa,wo⟩
   .rw[if_neg d_];show⟨_,hr6,_,Gc_,rfl,?_⟩;rw[if_pos rfl];show⟨_,hr6,_,GE_,_,N,d,s,g,c,ls,L,Gb_ N A,Gb_ N B,cut,rfl,hd6,S6 _ _ h1,co,vn,λH7 S7=>⟨_,rfl,?_⟩⟩;rw[if_neg d_];show⟨_,S7 _ _ hr6,_,Gc_,d_,λt3 n3=>?_⟩;show⟨_,.inr (SqT.of aa_),rfl,rfl,?_⟩;rw[show inV (V.str (Str.ofString "cut")) [V.str (Str.ofString "ways"),V.str (Str.ofString "cut")]=true by rfl'];have S8:=Fo_.new n3 (o:=HO.tup [V.str (Str.ofString "ways"),V.str (Str.ofString "cut")]);show k _ ((SH6.trans S7).trans S8)
   .rw[if_pos rfl];show⟨_,hr6,_,GE_,_,N,d,s,g,c,ls,L,Gb_ N A,Gb_ N B,was,ws,rfl,hd6,S6 _ _ h1,⟨wa.len,λi a x g1 g2=>S6 _ _ (wa.at_ i a x g1 g2)⟩,wo,pw_ nc ru wo,vn,λH7 S7=>⟨_,rfl,?_⟩⟩;rw[if_neg d_];show⟨_,S7 _ _ hr6,_,Gc_,rfl,?_⟩;rw[if_neg d_];show⟨_,S7 _ _ hr6,_,Gc_,d_,λt3 n3=>?_⟩;show⟨_,.inr (SqT.of aa_),rfl,rfl,?_⟩;rw[show inV (V.str (Str.ofString "ways")) [V.str (Str.ofString "ways"),V.str (Str.ofString "cut")]=true by rfl'];have S8:=Fo_.new n3 (o:=HO.tup [V.str (Str.ofString "ways"),V.str (Str.ofString "cut")]);show k _ ((SH6.trans S7).trans S8)
def Gz_(count:Nat)(ls:List (List Int))(x:Int):List (List Int):=ls++(ls.filter λc=>decide (c.length<count)).map λc=>c++[x]
def GL_(xs:List Int)(count:Nat):List (List Int):=(xs.foldl (Gz_ count) [[]]).filter λc=>decide (c.length=count)
theorem ln_{H:Hp}:∀{us:List V}{ns:List Int},FM_ H us (ns.map Dt.int)->us=ns.map V.int
 |us,[],h=>h
 |us,n::ns,⟨x,r,e,hx,hr⟩=>by
  cases hx;rw[e,ln_ hr];rfl
theorem hI_{H:Hp}:∀(ns:List Int),FM_ H (ns.map V.int) (ns.map Dt.int)
 |[]=>rfl
 |n::ns=>⟨_,_,rfl,rfl,hI_ ns⟩
theorem kP_{r:List Int}(h:Rep H v (dIs r)):∃p,v=.ref p/\H p=some (.lst (r.map V.int)):=by obtain⟨p,xs,e,hp,hxs⟩:=h;rw[ln_ hxs]at hp;show⟨p,e,hp⟩
theorem cF_{p:Addr}{r:List Int}(h:H p=some (.lst (r.map V.int))):Rep H (.ref p) (dIs r):=⟨p,_,rfl,h,hI_ r⟩
theorem m4_{xs:List V}{ls:List (List Int)}{x:V}(h:FM_ H xs (ls.map dIs))(e:xs[i]?=some x):∃q,x=.ref q/\H q=some (.lst ((ls.getD i []).map V.int))/\i<ls.length:=by
 obtain⟨d,hd,hr⟩:=h.of_get e;have hi:i<ls.length:=by have:=(Ai_.mp e).1;have:=h.length;rw[Ab_]at this;lia
 rw[Af_,Aa_ hi]at hd;rw[<-AB_ hd]at hr;obtain⟨q,e1,e2⟩:=kP_ hr;show⟨q,e1,by rw[Ad_,Aa_ hi];show e2,hi⟩
theorem fU_{n:Nat}(h:n<=100000):n<=sizeLine:=by have:sizeLine=16777216:=BG_;lia
abbrev FN_:Stmt:=stN 12
theorem bY_:ZM ["numbers","count","lists","number"] ["numbers","count"] (Fp_ FN_):=zM
theorem ba_:LK FN_ "lists" .local:=r_
theorem gj_:LK FN_ "number" .cell:=r_
def IL_:Sp:=λvs H Q _=>∃(v:V)(ns:List Int)(count:Nat),vs=[v,.int count]/\Rep H v (dIs ns)/\ns.length<=6/\∀D H',Fo_ H H'->H D=none->Rep H' (.ref D) (.lst ((GL_ ns count).map dIs))->Q (.ref D) H'
theorem hJ_(T:Txt K mg)(F:Fn0 K mg "rising_lists" FN_):Cal P w K mg base "rising_lists" ["numbers","count"] 1 IL_:=by
  show aU_ F bY_.1 λf cdv A outer s H vs Q E hr h=>?_;obtain⟨v,ns,count,rfl,hv,h6,k⟩:=h;obtain⟨p,rfl,hp⟩:=kP_ hv;refine'⟨_,?D,?R⟩
  case D =>
   refine' ad_ (aj_ (i:=2) bY_.nd rfl ba_ (bn_ (pa_c (bn_ ab_) ab_))) (ad_ (aO_ AC_ rfl (ax_ (K:=K) rfl (zw 0 bY_)) ?a ?b) ?c)
   case a=>show kX_ (i:=3) bY_.nd rfl gj_ rfl
   case' b=>refine' af_ (aj_ (i:=2) bY_.nd rfl ba_ (Fs_ ei_ (zw 2 bY_) (cG_ (N':=["chosen","count","number"]) (ix:=[none,some 1,some 3]) rfl rfl (bL_ ?d) (ax_ (K:=K) rfl (zw 2 bY_)) (λ_ _ _=>?e) (λ_ _ _=>?f) (λ_ _ _=>(Fs_ ei_ (pv1 0 rfl rfl) (bn_ (pa_c (pvc 2 rfl rfl) ab_)))))))
   case d=>show(by change G5_ (Fp_ FN_) ["numbers","count","lists","number"] _ _ _=true;decide +kernel)
   case e=>show ah_ (i:=0) (by change List.Nodup (["chosen","count","number"]:List Str);decide +kernel) rfl rfl
   case' f=>refine' g9_ (aq_ HI_ (ak_ al_ rfl T.n_len aH_ (pa_c (pv1 0 rfl rfl) ab_)) (pvc 1 rfl rfl) (FJ_ _))
   case' c=>refine' af_ (az_ (cG_ (N':=["chosen","count"]) (ix:=[none,some 1]) rfl rfl (bL_ ?g) (ax_ (K:=K) rfl (zw 2 bY_)) (λ_ _ _=>?h) (λ_ _ _=>(g9_ (aq_ GP_ (ak_ al_ rfl T.n_len aH_ (pa_c (pv1 0 rfl rfl) ab_)) (pvc 1 rfl rfl) (FJ_ _)))) (λ_ _ _=>(pv1 0 rfl rfl))))
   case g=>show(by change G5_ (Fp_ FN_) ["numbers","count","lists","number"] _ _ _=true;decide +kernel)
   case h=>show ah_ (i:=0) (by change List.Nodup (["chosen","count"]:List Str);decide +kernel) rfl rfl
  case R =>
   nofun;show⟨d_,λa na=>⟨d_,λb nb=>?_⟩⟩;have S0:Fo_ H (upd (upd H a (HO.lst [])) b (HO.lst [V.ref a])):=(Fo_.new na).trans (Fo_.new nb);have R0:Rep (upd (upd H a (HO.lst [])) b (HO.lst [V.ref a])) (.ref b) (.lst ([[]].map dIs)):=⟨b,_,rfl,aa_,_,_,rfl,⟨a,[],rfl,(Fo_.new nb) _ _ aa_,rfl⟩,rfl⟩;generalize upd (upd H a (HO.lst [])) b (HO.lst [V.ref a])=H0 at*;show⟨⟨_,.inl (.inl (S0 _ _ hp))⟩,?_⟩;show ip_ (xs:=ns.map V.int) (λi σ H'=>∃(l:Addr)(e:Option V),σ=[some (.ref p),some (.int count),some (.ref l),e]/\Fo_ H H'/\Rep H' (.ref l) (.lst (((ns.take i).foldl (Gz_ count) [[]]).map dIs))/\((ns.take i).foldl (Gz_ count) [[]]).length<=2 ^ i/\∀c∈(ns.take i).foldl (Gz_ count) [[]],c.length<=i) ⟨b,none,rfl,S0,R0,s_,s_⟩ ?_ ?_ ?_
   .rintro i σ H' hi ⟨l,e,rfl,s1,_⟩;show .inl (.inl (s1 _ _ hp))
   .rintro i x σ H' hx ⟨l,e,rfl,s1,rep,hl,hc⟩;have hi:i<ns.length:=by have:=(Ai_.mp hx).1;simpa using this
    rw[Af_,Aa_ hi]at hx;cases hx;have eN:(ns.take (i+1)).foldl (Gz_ count) [[]]=Gz_ count ((ns.take i).foldl (Gz_ count) [[]]) ns[i]:=by rw[Bc_,Aa_ hi,List.foldl_append];rfl
    rw[eN]
    have pw:2 ^ i<=64:=by
     calc 2 ^ i<=2 ^ 6:=E2_ d_ o_
      _=64:=d_
    generalize(ns.take i).foldl (Gz_ count) [[]]=ls at*;generalize ns[i]=n at*;obtain⟨_,xs,e0,hl0,hxs⟩:=id rep;cases e0;have hxl:xs.length=ls.length:=by rw[hxs.length,Ab_]
    nofun;show⟨⟨_,.inl (.inl hl0)⟩,?_⟩;show cK_ (n:=ls.length) (B:=λ_=>none) (Pσ:=λσ=>∃e,σ=[e,some (.int count),some (.int n)]) (bs:=λi=>decide ((ls.getD i []).length<count)) (val:=λi=>dIs (ls.getD i []++[n])) (λb o e=>by cases e) ⟨_,rfl⟩ o_ (λj H2 hj s2=>⟨xs,xs[j]'o_,.inl (.inl (s2 _ _ hl0)),by rw[Aa_ o_]⟩) (λH2 s2=>⟨xs,.inl (.inl (s2 _ _ hl0)),o_⟩) ?_ ?_
    .rintro D j y σ' H2 H2' hD ⟨od,hDo⟩ hs2 hj ⟨rfl,hy⟩ ⟨e2,rfl⟩ Y R kY kR;have hx2:=hy xs (.inl (.inl (hs2 _ _ hl0)));obtain⟨q,rfl,hq,_⟩:=m4_ hxs hx2;have hq2:=hs2 _ _ hq;have cl:(ls.getD j []).length<=6:=by have:=hc (ls.getD j []) (by rw[Ad_,Aa_ hj];show A2_ _);lia
     nofun;show⟨_,.inl hq2,?_⟩;rw[Ab_];show ite2 (λhlt=>?_) (λhlt=>?_)
     .show⟨d_,λp1 n1=>⟨_,(Fo_.new n1) _ _ hq2,fU_ (by rw[Ab_];change(ls.getD j []).length+1<=100000;lia),λp2 n2=>kY (As_ o_) _ _ _ ⟨_,rfl⟩ ((Fo_.new n1).trans (Fo_.new n2)) (cF_ ?_)⟩⟩;have p2D:p2≠D:=(ag_ ((Fo_.new n1 (o:=HO.lst [V.int n])) _ _ hDo) n2).symm;rw[bo_ p2D rfl,aa_,Av_];rfl
     .show kR (At_ o_) _ _ ⟨_,rfl⟩ (Fo_.refl _)
    .intro D H2 hD s2 rep2;have fr:=b7_ [] (λc:List Int=>decide (c.length<count)) (λc=>dIs (c++[n])) ls;rw[fr]at rep2;obtain⟨_,ys,e3,hD2,hys⟩:=id rep2;cases e3;have yl:ys.length<=ls.length:=by rw[hys.length,Ab_];show Bj_ _ _
     show⟨D,rfl,xs,s2 _ _ hl0,ys,hD2,fU_ o_,λp5 n5=>⟨(s1.trans s2).trans (Fo_.new n5),⟨p5,_,rfl,aa_,?_⟩,?_,λc hcc=>?_⟩⟩
     .unfold Gz_;rw[Av_,Bv_];show FM_.append (FM_.mono (s2.trans (Fo_.new n5)) _ hxs) (FM_.mono (Fo_.new n5) _ hys)
     .unfold Gz_;rw[Al_,Ab_,Nat.pow_succ];have:=Bj_ (λc:List Int=>decide (c.length<count)) ls;lia
     .rcases Aq_.mp hcc with h|h
      .have:=hc c h;lia
      .obtain⟨c',hc',rfl⟩:=Ao_.mp h;have:=hc c' (AI_.mp hc').1;simp;lia
   .rintro σ H' ⟨l,e,rfl,s1,rep,hl,hc⟩;have tk:ns.take (ns.map V.int).length=ns:=A0_ s_;rw[tk]at rep hl hc
    have pw:2 ^ (ns.map V.int).length<=64:=by
     rw[Ab_]
     calc 2 ^ ns.length<=2 ^ 6:=E2_ d_ o_
      _=64:=d_
    have kk:=k;unfold GL_ at kk;generalize ns.foldl (Gz_ count) [[]]=ls at*;obtain⟨_,xs,e0,hl0,hxs⟩:=id rep;cases e0;have hxl:xs.length=ls.length:=by rw[hxs.length,Ab_]
    nofun;show⟨⟨_,.inl (.inl hl0)⟩,?_⟩;show cK_ (n:=ls.length) (B:=λ_=>none) (Pσ:=λσ=>∃e,σ=[e,some (.int count)]) (bs:=λi=>decide ((ls.getD i []).length=count)) (val:=λi=>dIs (ls.getD i [])) (λb o e=>by cases e) ⟨_,rfl⟩ o_ (λj H2 hj s2=>⟨xs,xs[j]'o_,.inl (.inl (s2 _ _ hl0)),by rw[Aa_ o_]⟩) (λH2 s2=>⟨xs,.inl (.inl (s2 _ _ hl0)),o_⟩) ?_ ?_
    .rintro D j y σ' H2 H2' hD ⟨od,hDo⟩ hs2 hj ⟨rfl,hy⟩ ⟨e2,rfl⟩ Y R kY kR;have hx2:=hy xs (.inl (.inl (hs2 _ _ hl0)));obtain⟨q,rfl,hq,_⟩:=m4_ hxs hx2;have hq2:=hs2 _ _ hq;nofun;show⟨_,.inl hq2,?_⟩;rw[Ab_];show ite2 (λhlt=>?_) (λhlt=>?_)
     .show kY (As_ o_) _ _ _ ⟨_,rfl⟩ (Fo_.refl _) (cF_ (by rw[bo_ (ag_ hq hD) rfl];show hq2))
     .show kR (At_ o_) _ _ ⟨_,rfl⟩ (Fo_.refl _)
    .intro D H2 hD s2 rep2;have fr:=b7_ [] (λc:List Int=>decide (c.length=count)) dIs ls;rw[fr]at rep2;show kk D H2 (s1.trans s2) (s1.free hD) rep2
def F6_(xs:List Int)(t:Nat):List Int:=xs.drop ((xs.length-t)%xs.length)++xs.take ((xs.length-t)%xs.length)
def Gi_(xs:List Int)(t:Nat):List Int×List Int:=((F6_ xs t).take (xs.length/2),((F6_ xs t).drop (xs.length/2)).reverse)
def Gj_(xs:List Int):List (List Int×List Int):=(List.range (xs.length/2)).map (Gi_ xs)
abbrev Fr_:Stmt:=stN 13
theorem aA_:ZL ["numbers","count","runs","turn","start","around"] ["numbers"] (Fp_ Fr_):=zL
theorem aR_:LK Fr_ "len" .globalImplicit:=r_
theorem cw_:LK Fr_ "list" .globalImplicit:=r_
theorem cr_:LK Fr_ "range" .globalImplicit:=r_
theorem bZ_:LK Fr_ "reversed" .globalImplicit:=r_
def H4_:Sp:=λvs H Q _=>∃(v:V)(ns:List Int),vs=[v]/\Rep H v (dIs ns)/\1<=ns.length/\ns.length<=6/\∀D H',Fo_ H H'->Rep (Hj_ H H') (.ref D) (.lst ((Gj_ ns).map dPr))->Q (.ref D) H'
theorem nZ_(T:Txt K mg)(F:Fn0 K mg "runs_with_least_ahead" Fr_):Cal P w K mg base "runs_with_least_ahead" ["numbers"] 1 H4_:=by
  show aU_ F aA_.1 λf cdv A outer s H vs Q E hr h=>?_;obtain⟨v,ns,rfl,hv,h1,h6,k⟩:=h;obtain⟨p,rfl,hp⟩:=kP_ hv;refine'⟨_,?D,?R⟩
  case D =>
   refine' ad_ (zas 1 aA_ (Fs_ aw_ (ak_ al_ aR_ T.n_len aH_ (pa_c (zv 0 aA_) ab_)) ac_)) (ad_ (zas 2 aA_ (bn_ ab_)) ?a)
   case' a=>refine' ad_ (aO_ AC_ rfl (a5_ cr_ T.n_range (pa_c (zv 1 aA_) ab_)) ?b ?c) (af_ (az_ (zv 2 aA_)))
   case b=>show zh 3 aA_
   case' c=>refine' ad_ ?d (ad_ ?e (af_ (aK_ (Gn_ AF_ AV_ AW_ aQ_ (zv 2 aA_) (pa_c (aF_ ?f) ab_)))))
   case' d=>refine' zas 4 aA_ (Fs_ aJ_ (Fs_ lX_ (ak_ al_ aR_ T.n_len aH_ (pa_c (zv 0 aA_) ab_)) (zv 3 aA_)) (ak_ al_ aR_ T.n_len aH_ (pa_c (zv 0 aA_) ab_)))
   case' e=>refine' zas 5 aA_ (Fs_ ei_ (ca_ c4_ (zv 0 aA_) (b0_ (zv 4 aA_)) ?g) (ca_ c4_ (zv 0 aA_) ?h (b0_ (zv 4 aA_))))
   case g=>show dI_
   case h=>show dI_
   case' f=>refine' pa_c (ca_ c4_ (zv 5 aA_) ?i (b0_ (zv 1 aA_))) (pa_c (hk_ rfl cw_ T.n_list bZ_ T.n_reversed (pa_c (ca_ c4_ (zv 5 aA_) (b0_ (zv 1 aA_)) ?j) ab_)) ab_)
   case i=>show dI_
   case j=>show dI_
  case R =>
   nofun;show⟨_,.inl hp,d_,r_,d_,λl nl=>?_⟩;rw[Ab_];show⟨o_,o_,?_⟩;rw[show Int.toNat ((ns.length:Nat)/2:Int)=ns.length/2 by lia];have Sl:Fo_ H (upd H l (HO.lst [])):=Fo_.new nl;have pl:p≠l:=ag_ hp nl;show cb_ (λi σ H'=>∃(e1 e2 e3:Option V)(ys:List V),σ=[some (.ref p),some (.int ((ns.length/2:Nat):Int)),some (.ref l),e1,e2,e3]/\(∀b o,H b=some o->H' b=some o)/\H' l=some (.lst ys)/\FM_ (G6_ H l H') ys (((List.range i).map (Gi_ ns)).map dPr)) ⟨none,none,none,[],rfl,Sl,aa_,rfl⟩ ?_ ?_
   .rintro i σ H' hi ⟨e1,e2,e3,ys,rfl,s1,hl1,reps⟩;have hi':i<ns.length/2:=hi;have hp1:=s1 _ _ hp;have eS:((ns.length:Nat):Int)-(0+((i:Nat):Int))=((ns.length-i:Nat):Int):=o_
    have eT:(((ns.length-i:Nat):Nat):Int)%((ns.length:Nat):Int)=(((ns.length-i)%ns.length:Nat):Int):=o_
    have sl:(ns.length-i)%ns.length<ns.length:=BN_ _ o_;have eA:ns.drop ((ns.length-i)%ns.length)++ns.take ((ns.length-i)%ns.length)=F6_ ns i:=rfl;have c1:Hf_ (ns.map V.int) (some (((ns.length-i)%ns.length:Nat):Int)) none=(ns.drop ((ns.length-i)%ns.length)).map V.int:=by rw[iu_ _ _ (by simp;lia),Dc_]
    have c2:Hf_ (ns.map V.int) none (some (((ns.length-i)%ns.length:Nat):Int))=(ns.take ((ns.length-i)%ns.length)).map V.int:=by rw[kY_ _ _ (by simp;lia),Cw_]
    nofun;show⟨_,.inl hp1,_,.inl hp1,by rw[Ab_];lia,_,hp1,λp5 n5=>⟨_,(Fo_.new n5) _ _ hp1,λp6 n6=>?_⟩⟩;simp only[Ab_,eS,eT,c1]at n6⊢;rw[c2];have al:(F6_ ns i).length=ns.length:=by rw[<-eA];simp;lia
    have S6:Fo_ H' (upd (upd H' p5 (HO.lst ((ns.drop ((ns.length-i)%ns.length)).map V.int))) p6 (HO.lst ((ns.take ((ns.length-i)%ns.length)).map V.int))):=(Fo_.new n5).trans (Fo_.new n6);have h5:=(Fo_.new n6 (o:=HO.lst ((ns.take ((ns.length-i)%ns.length)).map V.int))) _ _ (aa_ (H:=H') (a:=p5) (o:=HO.lst ((ns.drop ((ns.length-i)%ns.length)).map V.int)));generalize upd (upd H' p5 (HO.lst ((ns.drop ((ns.length-i)%ns.length)).map V.int))) p6 (HO.lst ((ns.take ((ns.length-i)%ns.length)).map V.int))=H6 at*;show⟨_,h5,fU_ (by simp;lia),λp7 n7=>?_⟩;rw[<-Av_,eA];have S7:Fo_ H' (upd H6 p7 (HO.lst ((F6_ ns i).map V.int))):=S6.trans (Fo_.new n7);have h7:=aa_ (H:=H6) (a:=p7) (o:=HO.lst ((F6_ ns i).map V.int));generalize upd H6 p7 (HO.lst ((F6_ ns i).map V.int))=H7 at*;clear n5 n6 h5 S6 n7 c1 c2 eA;have ec:((ns.length/2:Nat):Int)=((ns.length/2:Nat):Int):=rfl;have c3:Hf_ ((F6_ ns i).map V.int) none (some ((ns.length/2:Nat):Int))=(Gi_ ns i).1.map V.int:=by rw[kY_ _ _ (by simp;lia),<-Cw_];rfl
    have c4:Hf_ ((F6_ ns i).map V.int) (some ((ns.length/2:Nat):Int)) none=((F6_ ns i).drop (ns.length/2)).map V.int:=by rw[iu_ _ _ (by simp;lia),<-Dc_]
    show⟨.inl ⟨_,.inl (.inl (S7 _ _ hl1))⟩,?_⟩;intro p8 n8;rw[c3];show⟨_,(Fo_.new n8) _ _ h7,λp9 n9 p10 n10=>⟨d_,λp11 n11=>?_⟩⟩;rw[c4]at n10 n11⊢;have e10:(((F6_ ns i).drop (ns.length/2)).map V.int).reverse=(Gi_ ns i).2.map V.int:=by rw[<-List.map_reverse];rfl
    rw[e10]at n11⊢;have S8:Fo_ H' (upd H7 p8 (HO.lst ((Gi_ ns i).1.map V.int))):=S7.trans (Fo_.new n8);have f8:H' p8=none:=S7.free n8;have h8:=aa_ (H:=H7) (a:=p8) (o:=HO.lst ((Gi_ ns i).1.map V.int));generalize upd H7 p8 (HO.lst ((Gi_ ns i).1.map V.int))=H8 at*;have S9:Fo_ H' (upd H8 p9 (HO.lst (((F6_ ns i).drop (ns.length/2)).map V.int))):=S8.trans (Fo_.new n9);have h8':=(Fo_.new n9 (o:=HO.lst (((F6_ ns i).drop (ns.length/2)).map V.int))) _ _ h8;generalize upd H8 p9 (HO.lst (((F6_ ns i).drop (ns.length/2)).map V.int))=H9 at*;have f10:H' p10=none:=S9.free n10;have S10:Fo_ H' (upd H9 p10 (HO.lst ((Gi_ ns i).2.map V.int))):=S9.trans (Fo_.new n10);have h10:=aa_ (H:=H9) (a:=p10) (o:=HO.lst ((Gi_ ns i).2.map V.int));have h8'':=(Fo_.new n10 (o:=HO.lst ((Gi_ ns i).2.map V.int))) _ _ h8';generalize upd H9 p10 (HO.lst ((Gi_ ns i).2.map V.int))=H10 at*;have f11:H' p11=none:=S10.free n11;have S11:Fo_ H' (upd H10 p11 (HO.tup [V.ref p8,V.ref p10])):=S10.trans (Fo_.new n11);have h11:=aa_ (H:=H10) (a:=p11) (o:=HO.tup [V.ref p8,V.ref p10]);have h10':=(Fo_.new n11 (o:=HO.tup [V.ref p8,V.ref p10])) _ _ h10;have h8r:=(Fo_.new n11 (o:=HO.tup [V.ref p8,V.ref p10])) _ _ h8'';generalize upd H10 p11 (HO.tup [V.ref p8,V.ref p10])=H11 at*
    have fr:∀{b:Addr},H' b=none->H b=none/\b≠l:=λ{b} hb=>by
     show⟨?_,λe=>by rw[e,hl1]at hb;cases hb⟩;cases e:H b with
     |none=>rfl
     |some o=>rw[s1 b o e]at hb;cases hb
    have yl:ys.length=i:=by rw[reps.length];simp
    show⟨ys,S11 _ _ hl1,Fq_ o_,λb o hb=>?_,?_⟩
    .rw[ae_ (ag_ hb nl)];show S11 _ _ (s1 b o hb)
    .rw[fw_,BV_,Av_,Av_];show FM_.append (FM_.mono (dn_ S11) _ reps) ⟨_,_,rfl,⟨p11,_,rfl,by rw[bo_ (fr f11).2 (fr f11).1];show h11,_,_,rfl,cF_ (by rw[bo_ (fr f8).2 (fr f8).1];show h8r),_,_,rfl,cF_ (by rw[bo_ (fr f10).2 (fr f10).1];show h10'),rfl⟩,rfl⟩
   .rintro σ H' ⟨e1,e2,e3,ys,rfl,s1,hl1,reps⟩;nofun;show k l H' s1 ⟨l,ys,rfl,by rw[cH_ nl];show hl1,FM_.mono gP_ _ reps⟩
open PySem.W
def HB_(ds:List (List Int×List Int)):List (List Int×List Int):=if ds.length<2 then ds else match Gv_ (λi j=>pLt (ds.getD i ([],[])) (ds.getD j ([],[]))) ds.length (kas_sort ds.length)with
 |some pm=>pm.toList.map λi=>ds.getD i ([],[])
 |none=>[]
theorem j9_{H:Hp}{ys:List V}{ds:List (List Int×List Int)}(h:FM_ H ys (ds.map dPr)):∀(is:List Nat),(∀i∈is,i<ds.length)->FM_ H (is.map λi=>ys.getD i .non) ((is.map λi=>ds.getD i ([],[])).map dPr)
 |[],_=>rfl
 |i::is,hi=>by
  have h1:=hi i An_;have hl:ys.length=ds.length:=by rw[h.length,Ab_]
  show⟨_,_,rfl,?_,j9_ h is λj hj=>hi j (Am_ _ hj)⟩;obtain⟨d,hd,hr⟩:=h.of_get (i:=i) (x:=ys[i]'o_) (Aa_ o_);rw[Af_,Aa_ h1]at hd;rw[<-AB_ hd]at hr;change Rep H (ys.getD i .non) (dPr (ds.getD i ([],[])));have e1:ds.getD i ([],[])=ds[i]:=by rw[Ad_,Aa_ h1];rfl
  have e2:ys.getD i .non=ys[i]'o_:=by rw[Ad_,Aa_ o_];rfl
  rw[e1,e2];show hr
theorem px_{G H:Hp}(hG:Fo_ G H){p:Addr}{ys:List V}{ds:List (List Int×List Int)}{Q:VK}(hp:H p=some (.lst ys))(h:FM_ G ys (ds.map dPr))(h1:1<=ds.length)(h64:ds.length<64)
  (q:∀l zs,H l=none->FM_ G zs ((HB_ ds).map dPr)->zs.length=ds.length->Q (.ref l) (upd H l (.lst zs))):JH_ [.ref p] H Q\/JA_ [.ref p] H Q:=by
 have hl:ys.length=ds.length:=by rw[h.length,Ab_]
 by_cases h2:ds.length<2
 .obtain⟨y,rfl⟩:∃y,ys=[y]:=C9_.mp o_;show .inl ⟨p,y,rfl,hp,λl nl=>q l [y] nl ?_ (by simpa using hl)⟩;unfold HB_;rw[if_pos h2];show h
 .obtain⟨pm,hr,hpm⟩:=k6_ (lt:=λi j=>pLt (ds.getD i ([],[])) (ds.getD j ([],[]))) (N:=ds.length) o_;have pl:pm.toList.length=ds.length:=by have:=(Bm_.mp hpm).length_eq;simpa using this
  have e:HB_ ds=pm.toList.map λi=>ds.getD i ([],[]):=by unfold HB_;rw[if_neg h2,hr]
  show .inr ⟨p,ys,ds,pm,rfl,hp,FM_.mono hG _ h,o_,h64,hr,by rw[<-Bd_];lia,λl nl=>q l _ nl ?_ (by rw[Ab_];show pl)⟩;rw[e];show j9_ h _ λi hi=>?_;have:=(Bm_.mp hpm).mem_iff.mp hi;show AX_.mp (by simpa using this)
def Iw_(n:Nat):List Int:=(List.range n).map λi:Nat=>(i:Int)
def GX_(n c:Nat):List (List Int×List Int):=((GL_ (Iw_ n) (2*c)).map Gj_).flatten
def I9_(n:Nat):List (List Int×List Int):=((List.range (n/2)).map λc=>HB_ (GX_ n (c+1))).flatten
theorem n0_:∀n,n<7->∀c,c<4->1<=c->c<=n/2->1<=(GX_ n c).length/\(GX_ n c).length<64:=r_
theorem m5_{α:Type}(l:List (List α))(j:Nat):(l.take j).flatten.length<=l.flatten.length:=by
 conv=>rhs;rw[<-Bk_ j l,Be_,Al_]
 lia
abbrev FC_:Stmt:=stN 14
theorem bC_:ZL ["n","runs","count","alike","numbers"] ["n"] (Fp_ FC_):=zL
theorem fr_:LK FC_ "list" .globalImplicit:=r_
theorem cz_:LK FC_ "range" .globalImplicit:=r_
theorem cY_:LK FC_ "rising_lists" .globalImplicit:=r_
theorem bD_:LK FC_ "runs_with_least_ahead" .globalImplicit:=r_
theorem eI_:LK FC_ "sorted" .globalImplicit:=r_
def IN_:Sp:=λvs H Q _=>∃(n:Nat),vs=[.int n]/\1<=n/\n<=6/\∀D H',Fo_ H H'->Rep (Hj_ H H') (.ref D) (.lst ((I9_ n).map dPr))->Q (.ref D) H'
theorem hU_(T:Txt K mg)(F:Fn0 K mg "facing_runs" FC_) (Hb_:Cal P w K mg base "rising_lists" ["numbers","count"] 1 IL_) (Gt_:Cal P w K mg base "runs_with_least_ahead" ["numbers"] 1 H4_):Cal P w K mg base "facing_runs" ["n"] 2 IN_:=by
  show aU_ F bC_.1 λf cdv A outer s H vs Q E hr h=>?_;obtain⟨n,rfl,n1,n6,k⟩:=h;refine'⟨_,?D,?R⟩
  case D =>
   refine' ad_ (zas 1 bC_ (bn_ ab_)) ?a
   case' a=>refine' ad_ (aO_ AC_ rfl ?b ?c (ad_ (zas 3 bC_ (bn_ ab_)) ?d)) (af_ (az_ (zv 1 bC_)))
   case' b=>refine' g2_ cz_ T.n_range (pa_c ac_ (pa_c (Fs_ aS_ (Fs_ aw_ (zv 0 bC_) ac_) ac_) ab_))
   case c=>show zh 2 bC_
   case' d=>refine' ad_ ?e (af_ (aK_ (Gn_ AF_ El_ Em_ jc_ (zv 1 bC_) (pa_c (ak_ (Ga_.or h1_ (lv_ hr.units)) eI_ T.n_sorted ej_ (pa_c (zv 3 bC_) ab_)) ab_))))
   case' e=>refine' aO_ AC_ rfl ?f ?g (af_ (aK_ (Gn_ AF_ El_ Em_ jc_ (zv 3 bC_) (pa_c (am_ Gt_ (hr.mono d_) bD_ (pa_c (zv 4 bC_) ab_)) ab_))))
   case' f=>refine' ax_ (K:=K) rfl (am_ Hb_ (hr.mono d_) cY_ (pa_c (gn_ rfl fr_ T.n_list cz_ T.n_range (pa_c (zv 0 bC_) ab_)) (pa_c (Fs_ i2_ ac_ (zv 2 bC_)) ab_)))
   case g=>show zh 4 bC_
  case R =>
   nofun;show⟨d_,λl nl=>?_⟩;show⟨d_,r_,d_,o_,o_,o_,?_⟩;rw[show Int.toNat ((n:Int)/2+1-1)=n/2 by lia];show cb_ (λi σ H'=>∃(e2 e3 e4:Option V)(zs:List V),σ=[some (.int n),some (.ref l),e2,e3,e4]/\(∀b o,H b=some o->H' b=some o)/\H' l=some (.lst zs)/\FM_ (G6_ H l H') zs (((List.range i).map λc=>HB_ (GX_ n (c+1))).flatten.map dPr)/\zs.length<=100*i) ⟨none,none,none,[],rfl,Fo_.new nl,aa_,rfl,s_⟩ ?_ ?_
   .rintro i σ H' hi ⟨e2,e3,e4,zs,rfl,s1,hl1,reps,zl⟩;have hi':i<n/2:=hi;nofun;show⟨AE_ _,λa na=>⟨n,rfl,o_,λnl2 nn2=>⟨.inl ⟨d_,d_⟩,?_⟩⟩⟩;have eN:GT_ n=(Iw_ n).map V.int:=by unfold GT_ Iw_;rw[Bv_];rfl
    rw[eN];have ha2:=(Fo_.new nn2 (o:=HO.lst ((Iw_ n).map V.int))) _ _ (aa_ (H:=H') (a:=a) (o:=HO.lst []));have hn2:=aa_ (H:=upd H' a (HO.lst [])) (a:=nl2) (o:=HO.lst ((Iw_ n).map V.int));have S12:Fo_ H' (upd (upd H' a (HO.lst [])) nl2 (HO.lst ((Iw_ n).map V.int))):=(Fo_.new na).trans (Fo_.new nn2);generalize upd (upd H' a (HO.lst [])) nl2 (HO.lst ((Iw_ n).map V.int))=H2 at*;rw[show(2:Int)*(1+(i:Nat))=((2*(i+1):Nat):Int) by lia];show⟨.ref nl2,Iw_ n,2*(i+1),rfl,cF_ hn2,by simp[Iw_];lia,λR H3 s3 nR repR=>?_⟩;obtain⟨_,xs,e0,hR,hxs⟩:=id repR;cases e0;have ha3:=s3 _ _ ha2;have Ra:R≠a:=(ag_ ha2 nR).symm;show⟨R,rfl,⟨_,.inl (.inl hR)⟩,?_⟩;obtain⟨ok1,ok2⟩:=n0_ n o_ (i+1) o_ o_ o_;have al:GX_ n (i+1)=((GL_ (Iw_ n) (2*(i+1))).map Gj_).flatten:=rfl;have rl:∀r∈GL_ (Iw_ n) (2*(i+1)),r.length=2*(i+1):=λr hr=>AJ_ (AI_.mp hr).2;generalize GL_ (Iw_ n) (2*(i+1))=rs at*;have hxl:xs.length=rs.length:=by rw[hxs.length,Ab_]
    show ip_ (xs:=xs) (λj σ H''=>∃(e5:Option V)(ws:List V),σ=[some (.int n),some (.ref l),some (.int (1+(i:Nat))),some (.ref a),e5]/\(∀b o,b≠a->H3 b=some o->H'' b=some o)/\H'' a=some (.lst ws)/\FM_ (G6_ H' a H'') ws (((rs.take j).map Gj_).flatten.map dPr)) ⟨_,[],rfl,λ_ _ _ h=>h,ha3,rfl⟩ ?_ ?_ ?_
    .rintro j σ H'' hj ⟨e5,ws,rfl,k3,ha4,reps4⟩;show .inl (.inl (k3 R _ Ra hR))
    .rintro j x σ H'' hx ⟨e5,ws,rfl,k3,ha4,reps4⟩;obtain⟨q,rfl,hq,hj⟩:=m4_ hxs hx;have ejr:rs.getD j []=rs[j]:=by rw[Ad_,Aa_ hj];rfl
     rw[ejr]at hq;have nl4:(rs[j]).length=2*(i+1):=rl _ (A2_ _);have qa:q≠a:=λe=>by rw[e,ha3]at hq;have z:=congrArg List.length (HO.lst.inj (AB_ hq));simp at z;lia
     have k1:Fo_ H' H'':=λb o hb=>k3 b o (ag_ hb na) (s3 _ _ (S12 _ _ hb));nofun;show⟨.inl ⟨_,.inl (.inl ha4)⟩,.ref q,rs[j],rfl,cF_ (k3 q _ qa hq),o_,o_,λD4 H4 s4 rep4=>?_⟩;obtain⟨_,us,e6,hD4,hus⟩:=id rep4;cases e6;obtain⟨nD4,hD4'⟩:=aY_ hD4;have fl:=m5_ (rs.map Gj_) (j+1);have tk:(rs.map Gj_).take (j+1)=(rs.take j).map Gj_++[Gj_ rs[j]]:=by rw[Bc_,Cw_,Af_,Aa_ hj];rfl
     rw[tk,Be_,Al_]at fl;have wl:ws.length=((rs.take j).map Gj_).flatten.length:=by rw[reps4.length,Ab_]
     have ul:us.length=(Gj_ rs[j]).length:=by rw[hus.length,Ab_]
     rw[al]at ok2;have fl2:[Gj_ rs[j]].flatten=Gj_ rs[j]:=s_
     rw[fl2]at fl;have tk2:(rs.take (j+1)).map Gj_=(rs.take j).map Gj_++[Gj_ rs[j]]:=by rw[Bc_,Aa_ hj,Av_];rfl
     have D4a:D4≠a:=(ag_ ha4 nD4).symm;show⟨D4,rfl,ws,s4 _ _ ha4,us,hD4',fU_ o_,λb o hb h=>?_,?_⟩
     .rw[ae_ hb];show s4 _ _ (k3 b o hb h)
     .rw[fw_,tk2,Be_,fl2,Av_];show FM_.append (FM_.mono (dn_ s4) _ reps4) (FM_.mono (oP_ k1 ⟨_,ha4⟩) _ hus)
    .rintro σ H'' ⟨e5,ws,rfl,k3,ha4,reps4⟩;rw[A0_ o_,<-al]at reps4;have k1:Fo_ H' H'':=λb o hb=>k3 b o (ag_ hb na) (s3 _ _ (S12 _ _ hb));nofun;show⟨.inl ⟨_,.inl (.inl (k1 _ _ hl1))⟩,?_⟩;show px_ l9_ ha4 reps4 ok1 ok2 λD5 us n5 hus ul=>?_;have zl2:zs.length+us.length<=100*(i+1):=o_
     show⟨D5,rfl,zs,(Fo_.new n5) _ _ (k1 _ _ hl1),us,aa_,fU_ o_,λb o hb=>?_,?_,by rw[Al_];show zl2⟩
     .rw[ae_ (ag_ hb nl)];show(Fo_.new n5) _ _ (k1 _ _ (s1 b o hb))
     .have f1:[HB_ (GX_ n (i+1))].flatten=HB_ (GX_ n (i+1)):=s_
      rw[fw_,BV_,Av_,Be_,Av_,AZ_,Dq_,f1];show FM_.append (FM_.mono (dn_ (k1.trans (Fo_.new n5))) _ reps) (FM_.mono (λb o h=>?_) _ hus);obtain⟨ba,hb',h2⟩:=it_ h;have bl:b≠l:=(ag_ hl1 hb').symm
      have hb0:H b=none:=by
       cases e:H b with
       |none=>rfl
       |some o'=>rw[s1 b o' e]at hb';cases hb'
      rw[bo_ bl hb0];show(Fo_.new n5) _ _ h2
   .rintro σ H' ⟨e2,e3,e4,zs,rfl,s1,hl1,reps,zl⟩;nofun;show k l H' s1 ⟨l,zs,rfl,by rw[cH_ nl];show hl1,FM_.mono gP_ _ reps⟩
theorem py_:((List.range 7).all λn=>(I9_ n).all λr=>I8_ n r.1 r.2 && I8_ n r.2.reverse r.1.reverse)=true:=r_
structure Tl(H0 H:Hp)(c:Addr)(ys:List V):Prop where
 at_:H c=some (.lst ys)
 fc:H0 c=none
 it:∀y∈ys,(∃z,y=.str z)\/∃a xs,y=.ref a/\H a=some (.lst xs)/\a≠c/\H0 a=none
theorem Tl.put{H0:Hp}{c a:Addr}{ys zs:List V}(t:Tl H0 H c ys)(h:a≠c):Tl H0 (upd H a (.lst zs)) c ys :=
 ⟨(ae_ h.symm).trans t.at_,t.fc,λy hy=>(t.it y hy).imp id λ⟨b,xs,e1,e2,e3,e4⟩=>by
  by_cases e:b=a
  .subst e;show⟨b,zs,e1,aa_,e3,e4⟩
  .show⟨b,xs,e1,(ae_ e).trans e2,e3,e4⟩⟩
theorem pz_{p:Addr}{B:List Int}{Q:VK}{E:XK}(hv:Rep H v (G7_ N))(ok:Gm_ N)(po:GB_ N)(hp:H p=some (.lst (A.map V.int)))(hq:H q=some (.lst (B.map V.int)))(ru:GM_ N.posts.length A B)(k:∀r c tag ys H',Fo_ H H'->H' r=some (.tup [.str tag,.ref c])->Tl H H' c ys->ys.length<=6->Q (.ref r) H'):Hz_ [v,.ref p,.ref q] H Q E:=by
 have A6:=(fR_ ru ok).1;have l6:(Gb_ N A).length<=6:=by unfold Gb_;rw[Ab_];lia
 show⟨v,N,p,q,A,B,rfl,hv,ok,po,hp,hq,ru,λr c cut H' s h1 h2 h3 h4 h5=>k r c _ (cut.map V.str) H' s h1 ⟨h2,h4,λy hy=>?_⟩ ?_,λr c was ws H' s h1 h2 h3 h4 h5 h6 h7=>k r c _ (was.map V.ref) H' s h1 ⟨h2,h5,λy hy=>?_⟩ ?_⟩
 .obtain⟨z,_,rfl⟩:=Ao_.mp hy;show .inl ⟨z,rfl⟩
 .rw[Ab_];have:=h5.lt;lia
 .obtain⟨a,ha,rfl⟩:=Ao_.mp hy;obtain⟨j,hj,e2⟩:=Ap_.mp ha;have:=h3.at_ j a (ws[j]'(by rw[<-h3.len];show hj)) (by rw[Aa_ hj,e2]) (Aa_ _);show .inr ⟨a,_,rfl,this,(h6 a ha).2,(h6 a ha).1⟩
 .rw[Ab_,h3.len,h7.len];show l6
theorem iW_{H:Hp}:∀{us:List V}{ns:List Int},FM_ H us (ns.map Dt.int)->us=ns.map V.int
 |_,[],h=>h
 |_,n::ns,⟨x,l,e1,hx,hl⟩=>by subst e1;cases hx;rw[iW_ hl];rfl
theorem qj_{ts:List V}{tl:List (List Int×List Int)}{x:V}(h:FM_ H ts (tl.map dPr))(e:ts[i]?=some x):∃r t p q,tl[i]?=some r/\x=.ref t/\H t=some (.tup [.ref p,.ref q])/\H p=some (.lst (r.1.map V.int))/\H q=some (.lst (r.2.map V.int)):=by
 obtain⟨d,hd,hr⟩:=h.of_get e;rw[Af_]at hd;cases z:tl[i]? with
 |none=>rw[z]at hd;cases hd
 |some r =>rw[z]at hd;cases hd;obtain⟨a,_,ea,ha,x1,_,e1,⟨p,us,ep,hp,hus⟩,x2,_,e2,⟨q,vs,eq,hq,hvs⟩,e4⟩:=hr;subst e4 e2 e1 ep eq;rw[iW_ hus]at hp;rw[iW_ hvs]at hq;show⟨r,a,p,q,rfl,ea,ha,hp,hq⟩
abbrev Go_:Stmt:=stN 36
theorem hK_:ZL ["_law_script","_law_net","_law_near_here","_law_kp","_law_kq","_law_told","_law_way"] ["_law_script"] (Fp_ Go_):=zL
theorem ka_:LK Go_ "_law_copy" .globalImplicit:=r_
theorem kb_:LK Go_ "_law_near" .globalImplicit:=r_
theorem hV_:LK Go_ "_law_net_by" .globalImplicit:=r_
theorem d5_:LK Go_ "_law_right" .globalImplicit:=r_
theorem iZ_:LK Go_ "_law_small" .globalImplicit:=r_
theorem fX_:LK Go_ "facing_runs" .globalImplicit:=r_
theorem gk_:LK Go_ "isinstance" .globalImplicit:=r_
theorem lP_:LK Go_ "len" .globalImplicit:=r_
theorem kQ_:LK Go_ "list" .globalImplicit:=r_
theorem fY_:LK Go_ "ways_or_cut" .globalImplicit:=r_
def If_(K:PySem.W.Frag):Sp:=λvs H Q _=>∃(a:Addr)(ns:List Int),vs=[.ref a]/\SqL K H a (ns.map V.int)/\∀H',Q (.bl true) H'
theorem qk_{f:Addr}{fd:FuncData}(T:Txt K mg)(F:Fun K "law" "law" Go_ f fd) (I3_:Cal P w K mg base "_law_net_by" ["_law_script","_law_at","_law_most"] 4 (JI_ K)) (Jr_:Cal P w K mg base "_law_small" ["_law_net"] 2 Ib_) (Kd_:Cal P w K mg base "_law_near" ["_law_net"] 2 IC_) (Hq_:Cal P w K mg base "facing_runs" ["n"] 2 IN_) (HY_:Cal P w K mg base "_law_copy" ["_law_net"] 1 HT_) (Gs_:Cal P w K mg base "ways_or_cut" ["net","P","Q"] 4 Hz_) (Hr_:Cal P w K mg base "_law_right" ["_law_net","_law_near_here","_law_kp","_law_kq"] 5 (Hp_ K)):I7_ P w K mg base CX0 6 f fd ["_law_script"] (If_ K):=by
 show F.ok hK_.1 (λvs H Q E h=>by obtain⟨a,ns,rfl,_⟩:=h;rfl) ?_;intro cdv A outer s H vs Q E hr h;obtain⟨a,ns,rfl,hS,k⟩:=h;refine'⟨_,?D,?R⟩
 case D =>
  refine' ai_ (zas 1 hK_ (am_ Jr_ (hr.mono d_) iZ_ (pa_c (am_ I3_ (hr.mono d_) hV_ (pa_c (zv 0 hK_) (pa_c ac_ (pa_c ac_ ab_)))) ab_))) ?a
  case' a=>refine' ai_ (zas 2 hK_ (am_ Kd_ (hr.mono d_) kb_ (pa_c (zv 1 hK_) ab_))) (ad_ ?b (af_ (az_ F7_)))
  case' b=>refine' aO_ AC_ rfl ?c (bp_ (K:=K) (n:=2) rfl rfl (au_ ?d (au_ ?e bm_))) (ad_ (F4_ ?f (af_ (az_ F7_)) aI_) ?g)
  case' c=>refine' ax_ (K:=K) rfl (am_ Hq_ (hr.mono d_) fX_ (pa_c (ak_ al_ lP_ T.n_len aH_ (pa_c (Fv_ ao_ (zv 1 hK_) ac_) ab_)) ab_))
  case d=>show zh 3 hK_
  case e=>show zh 4 hK_
  case' f=>refine' PW.pt (GV_ ?h (g1_ (eh_ (d7_ (am_ Hr_ (hr.mono d_) d5_ ?i)))))
  case' h=>refine' eh_ (d7_ (am_ Hr_ (hr.mono d_) d5_ (pa_c (zv 1 hK_) (pa_c (zv 2 hK_) (pa_c (zv 3 hK_) (pa_c (zv 4 hK_) ab_))))))
  case' i=>refine' pa_c (zv 1 hK_) (pa_c (zv 2 hK_) (pa_c (oi_ (zv 4 hK_) (b0_ (Ir_ hW_ ac_))) (pa_c (oi_ (zv 3 hK_) (b0_ (Ir_ hW_ ac_))) ab_)))
  case' g=>refine' ai_ ?j (ad_ (aO_ AC_ rfl (ax_ (K:=K) rfl (zv 5 hK_)) ?k (af_ ?l)) ?m)
  case' j=>refine' zas 5 hK_ (Fv_ ao_ (am_ Gs_ (hr.mono d_) fY_ (pa_c (am_ HY_ (hr.mono d_) ka_ (pa_c (zv 1 hK_) ab_)) (pa_c (zv 3 hK_) (pa_c (zv 4 hK_) ab_)))) ac_)
  case k=>show zh 6 hK_
  case' l=>refine' F4_ (d7_ (ak_ gO_ gk_ T.n_isinstance bP_ (pa_c (zv 6 hK_) (pa_c ?n ab_)))) (af_ (aK_ (l6_ AF_ PySem.F.slot_list_reverse PySem.F.type_list_reverse lt_ (zv 6 hK_)))) aI_
  case n=>show je_ kQ_ T.n_list cs_
  case' m=>refine' ai_ (aK_ (Gn_ AF_ AV_ AW_ aQ_ (zv 5 hK_) (pa_c fs_ ab_))) (af_ (F4_ ?o (af_ (az_ F7_)) aI_))
  case' o=>refine' eh_ (d7_ (am_ Hr_ (hr.mono d_) d5_ (pa_c (zv 1 hK_) (pa_c (zv 2 hK_) (pa_c (zv 3 hK_) (pa_c (zv 4 hK_) ab_))))))
 case R =>
  nofun;show⟨a,ns,rfl,hS,λv0 N0 H1 s1 rep1 ok0 po0 wo0 nc0=>?_⟩;show⟨v0,N0,rfl,rep1,ok0,wo0,λv N H2 s2 rep2 ok wo er ep=>?_⟩;have po:GB_ N:=⟨by rw[ep];show po0.pnd,by rw[ep,er];show po0.pin,by rw[ep];show po0.p0⟩
  have nc:Ncn N:=λx l y m a b c d h1 h2 h3 h4 h5 h6 h7=>by
   rw[ep]at h4 h5 h6 h7;have ea:Jb_ N=Jb_ N0:=by unfold Jb_;rw[er]
   rw[ea]at h1 h2;show nc0 x l y m a b c d h1 h2 h3 h4 h5 h6 h7
  clear ok0 po0 wo0 nc0 rep1 er ep;nofun;show⟨_,N,rfl,rep2,ok,wo,λd ls L H3 nr near few=>?_⟩;have rep3:=Rep.mono nr.sS _ rep2;obtain⟨pn,p0,p1,p2,rs,ws,rfl,hn,h0,h1,r1,h2,r2⟩:=b5_ rep3;have p6:=ok.pl;have pp0:=po.p0;clear rep2 s1 s2 hS;nofun;show⟨_,hn,_,Gc_,p0,rfl,_,.inl h0,?_⟩;rw[Ab_];show⟨N.posts.length,rfl,o_,o_,λD H4 S4 rep4=>?_⟩;have rok:∀r∈I9_ N.posts.length,GM_ N.posts.length r.1 r.2/\GM_ N.posts.length r.2.reverse r.1.reverse:=λr hr=>by have h:=B9_.mp (B9_.mp py_ N.posts.length (AX_.mpr o_)) r hr;rw[B7_]at h;show⟨ow_ h.1,ow_ h.2⟩
  obtain⟨_,fs,e0,hD,hfs⟩:=Rep.mono cI_ _ rep4;cases e0;have repv:=Rep.mono S4 _ rep3;have nr4:=nr.mono S4;clear rep4 rep3 nr S4 hn h0 h1 r1 h2 r2;generalize I9_ N.posts.length=fc at*;show⟨D,rfl,⟨_,.inl (.inl hD)⟩,?_⟩;show bE_ (xs:=fs) (λi σ Hx=>∃(e3 e4 e5 e6:Option V),σ=[some (.ref a),some (.ref pn),some (.ref d),e3,e4,e5,e6]/\Fo_ H4 Hx) ⟨none,none,none,none,rfl,Fo_.refl _⟩ ?_ ?_ ?_
  .rintro i σ Hx hi ⟨e3,e4,e5,e6,rfl,S⟩;show .inl (.inl (S _ _ hD))
  .rintro i x σ Hx hx kk kb hk hb G hG ⟨e3,e4,e5,e6,rfl,S⟩;show hG ?_;obtain⟨r,t,p,q,hr1,rfl,ht,hp,hq⟩:=qj_ hfs hx;obtain⟨ra,rb⟩:=rok r (Ag_ hr1);have RT:∀(Hy:Hp)(p q:Addr)(A B:List Int)(Q':VK)(E':XK),Fo_ H4 Hy->Hy p=some (.lst (A.map V.int))->Hy q=some (.lst (B.map V.int))->GM_ N.posts.length A B->(∀H',Fo_ Hy H'->Q' (.bl true) H')->Hp_ K [.ref pn,.ref d,.ref p,.ref q] Hy Q' E':=λHy p q A B Q' E' S hp hq ru k=>⟨_,N,d,p,q,ls,L,A,B,rfl,Rep.mono S _ repv,ok,po,nc,⟨_,nr4.mono S⟩,near,few,hp,hq,ru,k⟩;have hpx:=S _ _ hp;have hqx:=S _ _ hq;nofun;show⟨_,SqT.of (S _ _ ht),rfl,_,_,rfl,_,_,rfl,rfl,RT Hx p q r.1 r.2 _ _ S hpx hqx ra λH5 S5=>⟨_,rfl,?_⟩⟩;rw[if_neg d_];show⟨rfl,q,_,rfl,S5 _ _ hqx,λu nu=>?_⟩;have S6:=Fo_.new nu (o:=HO.lst (r.2.map V.int).reverse);have hu:=aa_ (H:=H5) (a:=u) (o:=HO.lst (r.2.map V.int).reverse);generalize upd H5 u (HO.lst (r.2.map V.int).reverse)=H6 at*;show⟨rfl,p,_,rfl,S6 _ _ (S5 _ _ hpx),λu2 nu2=>?_⟩;have S7:=Fo_.new nu2 (o:=HO.lst (r.1.map V.int).reverse);have hu2:=aa_ (H:=H6) (a:=u2) (o:=HO.lst (r.1.map V.int).reverse);generalize upd H6 u2 (HO.lst (r.1.map V.int).reverse)=H7 at*;have S47:=((S.trans S5).trans S6).trans S7;rw[<-List.map_reverse]at hu hu2;show RT H7 u u2 r.2.reverse r.1.reverse _ _ S47 (S7 _ _ hu) hu2 rb λH8 S8=>⟨_,rfl,?_⟩;rw[if_neg d_];have S48:=S47.trans S8;have hp8:=S48 _ _ hp;have hq8:=S48 _ _ hq;clear S5 S6 S7 S8 S47 hu hu2 nu nu2 hpx hqx S;nofun;show⟨_,N,rfl,Rep.mono S48 _ repv,ok,λv9 H9 S9 rep9=>?_⟩;show pz_ rep9 ok po (S9 _ _ hp8) (S9 _ _ hq8) ra λrr c tag ys H10 S10 hrr tl y6=>?_;show⟨rr,rfl,_,hrr,_,GE_,?_⟩;have S410:=(S48.trans S9).trans S10;have tl4:Tl H4 H10 c ys:=⟨tl.at_,(S48.trans S9).free tl.fc,λy hy=>(tl.it y hy).imp id λ⟨a,xs,e1,e2,e3,e4⟩=>⟨a,xs,e1,e2,e3,(S48.trans S9).free e4⟩⟩;clear tl hrr S10 rep9 S9 S48 hp8 hq8;nofun;show⟨⟨_,.inl (.inl tl4.at_)⟩,?_⟩;show bE_ (xs:=ys) (λj σ Hy=>∃e6:Option V,σ=[some (.ref a),some (.ref pn),some (.ref d),some (.ref p),some (.ref q),some (.ref c),e6]/\Fo_ H4 Hy/\Tl H4 Hy c ys) ⟨_,rfl,S410,tl4⟩ ?_ ?_ ?_
   .rintro j σ Hy hj ⟨e6,rfl,S,tl⟩;show .inl (.inl tl.at_)
   .rintro j y σ Hy hy kk1 kb1 hk1 hb1 G1 hG1 ⟨e6,rfl,S,tl⟩;show hG1 ?_
    rcases tl.it y (Ag_ hy)with⟨z,rfl⟩|⟨b,xs,rfl,hb',bc,b0⟩
    .nofun;show⟨_,rfl,?_⟩;rw[if_neg d_];show hk1 _ _ ⟨_,rfl,S,tl⟩
    .nofun;show⟨_,by simp[Hl_,hb'];rfl,?_⟩;rw[if_pos d_];show⟨.inl ⟨_,.inl (.inl hb')⟩,_,hb',?_⟩;show hk1 _ _ ⟨_,rfl,λe o h=>(ae_ λw=>by rw[w,b0]at h;cases h).trans (S _ _ h),tl.put bc⟩
   .rintro σ Hy ⟨e6,rfl,S,tl⟩;nofun;show⟨.inl ⟨_,.inl (.inl tl.at_)⟩,_,tl.at_,Fq_ o_,?_⟩;have S11:Fo_ H4 (upd Hy c (HO.lst (ys++[V.str (Str.ofString "a")]))):=λe o h=>(ae_ λw=>by rw[w,tl.fc]at h;cases h).trans (S _ _ h);generalize upd Hy c (HO.lst (ys++[V.str (Str.ofString "a")]))=H11 at*;nofun;show RT H11 p q r.1 r.2 _ _ S11 (S11 _ _ hp) (S11 _ _ hq) ra λH12 S12=>⟨_,rfl,?_⟩;rw[if_neg d_];show hk _ _ ⟨_,_,_,_,rfl,S11.trans S12⟩
  .rintro σ Hx ⟨e3,e4,e5,e6,rfl,S⟩;nofun;show k Hx
theorem ql_{l:PySem.W.OpenLaw}{fa:Addr}(hfa:mg "law"=some (.ref fa)) (T:Txt K mg)  (Hc_:Fn0 K mg "ends_by_wire" FH_) (H0_:Fn0 K mg "points_of" Gk_) (G3_:Fn0 K mg "points_within" FS_) (HL_:Fn0 K mg "steps_open" FE_) (Hd_:Fn0 K mg "reached_from" Fy_) (GJ_:Fn0 K mg "lay_one_way_more" FF_) (H1_:Fn0 K mg "ways_laid" FL_) (Hs_:Fn0 K mg "ways_or_cut" Ft_) (He_:Fn0 K mg "rising_lists" FN_) (Gu_:Fn0 K mg "runs_with_least_ahead" Fr_) (Ht_:Fn0 K mg "facing_runs" FC_) (It_:Fn0 K mg "_law_cell_at" Ge_) (K6_:Fn0 K mg "_law_big" Gp_) (K7_:Fn0 K mg "_law_low" GR_) (H2_:Fn0 K mg "_law_worth_of" F2_) (Js_:Fn0 K mg "_law_mates" F5_) (Iu_:Fn0 K mg "_law_corners" FT_) (GW_:Fn0 K mg "_law_corner_behind" Fx_) (I4_:Fn0 K mg "_law_region" F1_) (Jt_:Fn0 K mg "_law_grown" FI_) (Ju_:Fn0 K mg "_law_names" FQ_) (Jv_:Fn0 K mg "_law_begun" F9_) (I5_:Fn0 K mg "_law_net_by" Fw_) (Ke_:Fn0 K mg "_law_copy" GO_) (Jw_:Fn0 K mg "_law_small" GC_) (Kf_:Fn0 K mg "_law_ties" Gq_) (Kg_:Fn0 K mg "_law_near" Gg_) (I6_:Fn0 K mg "_law_is_cut" FR_) (H3_:Fn0 K mg "_law_are_ways" FB_) (Kh_:Fn0 K mg "_law_cuts" F3_) (Jx_:Fn0 K mg "_law_right" FK_) (LH_:Fn0 K mg "law" Go_):
  ∃fd:FuncData,(∀(s:Shared)(v:Value),BindsTo s fd ⟨[v],[]⟩ [("_law_script",v)])/\∀base:Heap,K.In base->base.Ns mainGlobals mg->I7_ l.prog w K mg base CX0 6 fa fd ["_law_script"] (If_ K):=by
 obtain⟨f,fd,FL,m⟩:=LH_;have e:=hfa.symm.trans m;cases e;show⟨fd,?_,λbase _ _=>?_⟩
 .obtain⟨oc,od,kV,doc,pm,an,cdv,ct,osl,rfl,lk,hcd⟩:=FL.ex;show λs v=>.of_eq rfl
 .have c1:=jZ_ (P:=l.prog) (w:=w) (base:=base) T H0_ ;have c2:=gG_ T G3_ c1;have c3:=hz_ (P:=l.prog) (w:=w) (base:=base) T Hc_ ;have c4:=iR_ T HL_ c2 c3;have c5:=hC_ (P:=l.prog) (w:=w) (base:=base) T Hd_ ;have c6:=fk_ (P:=l.prog) (w:=w) (base:=base) T GJ_ ;have c7:=j1_ (P:=l.prog) (w:=w) (base:=base) T H1_ ;have c8:=hR_ T Hs_ c4 c5 c6 c7;have c9:=hJ_ (P:=l.prog) (w:=w) (base:=base) T He_ ;have c10:=nZ_ (P:=l.prog) (w:=w) (base:=base) T Gu_ ;have c11:=hU_ T Ht_ c9 c10;have d1:=kC_ (P:=l.prog) (w:=w) (base:=base) T It_ ;have d2:=pl_ T K6_ d1;have d3:=pm_ (P:=l.prog) (w:=w) (base:=base) T K7_ ;have d4:=jT_ T H2_ d3;have d5:=mM_ (P:=l.prog) (w:=w) (base:=base) T Js_ ;have d6:=kF_ (P:=l.prog) (w:=w) (base:=base) T Iu_ ;have d7:=f5_ (P:=l.prog) (w:=w) (base:=base) T GW_ ;have d8:=lJ_ T I4_ d7;have d9:=mN_ T Jt_ d6 d5 d8;have d10:=mQ_ (P:=l.prog) (w:=w) (base:=base) T Ju_ ;have d11:=mS_ (P:=l.prog) (w:=w) (base:=base) T Jv_ ;have d12:=lK_ T I5_ d2 d9 d10 d11 d4;have d13:=nR_ (P:=l.prog) (w:=w) (base:=base) T Ke_ ;have d14:=mX_ T Jw_ d3;have d15:=nU_ (P:=l.prog) (w:=w) (base:=base) T Kf_ ;have d16:=nW_ T Kg_ d15;have d17:=lN_ (P:=l.prog) (w:=w) (base:=base) T I6_ ;have d18:=j7_ (P:=l.prog) (w:=w) (base:=base) T H3_ ;have d19:=nY_ T Kh_ d17;have d20:=m3_ T Jx_ d13 c8 d18 d19;show qk_ T FL d12 d14 d16 c11 d13 c8 d20
theorem walk{l:PySem.W.OpenLaw}{q:Program}{loose:List Str}{XP:(Str->Option Value)->Heap->Prop}{YP:World->Heap->Prop}{d:DefRec}{K:Params->PySem.W.Frag}(hn:l.most=some 63)(hdf:d.params.defaults=[])
  (hY:∀(w:World)(h:Heap),YP w h->(K w.params).In h)
  (F:∀(w:World)(mg:Str->Option Value)(fa:Addr)(h:Heap),(K w.params).In h->h.Ns mainGlobals mg->mg d.name=some (.ref fa) ->
   ∃fd:FuncData,(∀(s:Shared)(u:Value),BindsTo s fd ⟨[u],[]⟩ [("_law_script",u)])/\∀base:Heap,(K w.params).In base->base.Ns mainGlobals mg->I7_ l.prog w (K w.params) mg base CX0 6 fa fd ["_law_script"] (If_ (K w.params))):
  PySem.W.WalkO q loose XP YP l.row.toRowW d [] (λf vs=>PySem.call f vs):=
 L2.oM_ (n:=63) (k:=6) (x := "_law_script") (CX:=λ_=>CX0) (sp:=λw=>If_ (K w.params)) hn d_ hdf ⟨rfl,d_,d_⟩ hY F (λ_ _ a ns hl _ hS=>⟨a,ns,rfl,hS,λ_=>rfl⟩) λ_ _ _ _ _ z=>z
end Rim49
namespace PySem.W.Fast
def tw14274147714028572472:=0
def tw8979251756058369309:=0
def tw10511252531202114668:=0
def tw16790358810928580146:=0
def tw1255417713038015096:=0
def tw13491253065015793561:=0
def tw7752934195455150113:=0
def tw1298379430179272279:=0
def tw16367366678761958186:=0
def tw15950800474342728903:=0
def tw15124883695230645859:=0
def tw8436813239501825907:=0
def tw14024472448377165525:=0
def tw2165623407606081425:=0
def tw3332636317139241390:=0
def tw12986338874543690932:=0
def tw2034793750563053036:=0
def tw4579894926607832689:=0
def tw617604687321120301:=0
def tw17567265022626009337:=0
def tw1298130594510745256:=0
def tw6157679655189529550:=0
def tw209401890035969104:=0
def tw9188705028065808103:=0
def tw11102368883021083085:=0
def tw7490984575940794820:=0
def tw16657953824317804396:=0
def tw6167713460361757445:=0
def tw10555001242155449653:=0
def tw9549059150699690678:=0
def tw10269763992348311310:=0
def tw6943950047786040623:=0
def tw14294391057286911086:=0
def tw9128344827796751803:=0
def tw8087260870456787887:=0
def tw4165705842768208198:=0
def tw2280288890505766228:=0
def tw4048074835991599036:=0
def tw4332192919361524972:=0
def tw1961954042626453341:=0
def tw304167372664138618:=0
def tw2242036853530613673:=0
def tw4662590936028537781:=0
def tw3942737706875998446:=0
def tw18144641747498876909:=0
def tw12824567603058614308:=0
def tw12403464399544642949:=0
def tw13365769111625432953:=0
def tw16482819731883802376:=0
def tw1422261268209014201:=0
def tw16862623069842618752:=0
def tw13523570215851140691:=0
def tw7748129071066104779:=0
def tw4823305311241642080:=0
def tw4957958679755448403:=0
def tw14329314545360602103:=0
def tw3478991040247623886:=0
def tw2564310843656657622:=0
def tw18172551252841205781:=0
def tw11752780839824281803:=0
def tw10580134614155790243:=0
def tw7195079977782832904:=0
def tw1322941322166188420:=0
def tw15800071888212513046:=0
def tw9128942600779233872:=0
def tw7354138918469108737:=0
def tw570912174561810636:=0
def tw3918395471146620421:=0
def tw4535840097674784851:=0
def tw10749008901423695056:=0
def tw3889734316668252298:=0
def tw7538479275307217516:=0
def tw37780806537814810:=0
def tw3513624570351723113:=0
def tw13562357012718532539:=0
def tw2881191253509765131:=0
def tw12222264717168891349:=0
def tw11133785280951091067:=0
def tw7645638890588098324:=0
def tw1991774771436783094:=0
def tw5447934534218725355:=0
def tw18178373993529883308:=0
def tw10803786376509091306:=0
def tw18272412889230222975:=0
def tw6466606291706031548:=0
def tw3473810263187794989:=0
def tw4028165383775117672:=0
def tw18006235881003737868:=0
def tw10867327219056753826:=0
def tw18044783754923695083:=0
def tw12428263698628916108:=0
def tw4010779499761496319:=0
def tw17277490788052986290:=0
def tw550924987926338861:=0
def tw1161343851165950751:=0
def tw3395330945094501646:=0
def tw6620177642764249392:=0
def tw11765936231484490705:=0
def tw15361433789422039263:=0
def tw1694518823408841656:=0
def tw12843489242889861350:=0
def tw16138831976036266077:=0
def tw15729579806665609085:=0
def tw2847328992106124139:=0
def tw3609912564487142240:=0
def tw3329824948321621093:=0
def tw1640419046287495615:=0
def tw4411990968363450262:=0
def tw18349346564565011834:=0
def tw13586059626513901060:=0
def tw15287274661615635688:=0
def tw2121017416892433672:=0
def tw15940858136390052231:=0
def tw7175676872986106890:=0
def tw3259133040553995562:=0
def tw6971581276751439224:=0
def tw12679637294435918618:=0
def tw6975150460903729045:=0
def tw6982759002306141656:=0
def tw5332970463347386584:=0
def tw10749674939678879506:=0
def tw6911079306244779086:=0
def tw16827002785492124400:=0
def tw13945031735290522698:=0
def tw3436584919084791583:=0
def tw1344322247952093831:=0
def tw7379704689014735360:=0
def tw2667838205239403445:=0
def tw5252530026431507805:=0
def tw17213073080430816568:=0
def tw3362665527886280258:=0
def tw8716147355090505134:=0
def tw1340700981184322678:=0
def tw14050758792415362268:=0
def tw2204599485729179056:=0
def tw9559697752155609636:=0
def tw11546725535583051848:=0
def tw18123899581759111508:=0
def tw16317507462768946129:=0
def tw13770415143259917604:=0
def tw7324220001632742072:=0
def tw11926962514253584117:=0
def tw16280766155027444459:=0
def tw12281690552139333605:=0
def tw15212172832950252783:=0
def tw8095008987494135135:=0
def tw10371886071842749571:=0
def tw3329428292427331142:=0
def tw3476358358502900909:=0
def tw7205216002257698659:=0
end PySem.W.Fast
open PySem PySem.W PyProof.Rows
set_option maxRecDepth 100000 in
set_option maxHeartbeats 0 in
theorem PySem.Challenge.cw_rimread_k49_ways_or_a_cut_holds : PySem.Challenge.rw_rimread_k49_ways_or_a_cut.Holds := by
 w_on; o_law; k_head; (case hw=>w_witness2)
 k_fill
 refine Rim49.walk (l:=PySem.Challenge.rw_rimread_k49_ways_or_a_cut) rfl rfl (fun w h Y=>PySem.W.kIn_of Y) ?F
 case F =>
  intro w mg fa h KX G hmg;refine Rim49.ql_  hmg ⟨?n_abs,?n_max,?n_min,?n_dict,?n_len,?n_range,?n_list,?n_isinstance,?n_int,?n_bool,?n_tuple,?n_str,?n_enumerate,?n_sorted,?n_zip,?n_sum,?n_set,?n_reversed⟩ ?f_ends_by_wire ?f_points_of ?f_points_within ?f_steps_open ?f_reached_from ?f_lay_one_way_more ?f_ways_laid ?f_ways_or_cut ?f_rising_lists ?f_runs_with_least_ahead ?f_facing_runs ?f_Lcell_at ?f_Lbig ?f_Llow ?f_Lworth_of ?f_Lmates ?f_Lcorners ?f_Lcorner_behind ?f_Lregion ?f_Lgrown ?f_Lnames ?f_Lbegun ?f_Lnet_by ?f_Lcopy ?f_Lsmall ?f_Lties ?f_Lnear ?f_Lis_cut ?f_Lare_ways ?f_Lcuts ?f_Lright ?f_law
  case n_abs | n_max | n_min | n_dict | n_len | n_range | n_list | n_isinstance | n_int | n_bool | n_tuple | n_str | n_enumerate | n_sorted | n_zip | n_sum | n_set | n_reversed=>refine' PySem.W.mg_none_of KX G ?a; (case a=>k_is)
  case f_ends_by_wire | f_points_of | f_points_within | f_steps_open | f_reached_from | f_lay_one_way_more | f_ways_laid | f_ways_or_cut | f_rising_lists | f_runs_with_least_ahead | f_facing_runs | f_Lcell_at | f_Lbig | f_Llow | f_Lworth_of | f_Lmates | f_Lcorners | f_Lcorner_behind | f_Lregion | f_Lgrown | f_Lnames | f_Lbegun | f_Lnet_by | f_Lcopy | f_Lsmall | f_Lties | f_Lnear | f_Lis_cut | f_Lare_ways | f_Lcuts | f_Lright | f_law=>refine' L2.pS_ KX G ?a ?l ?c ?k; (case a=>k_is); (case l=>k_is); (case c=>k_is); (case k=>k_is)
